import PyProof.Rows.All
import Wide.All
import OpenK.AllK
import Wide.FinOn
import HandS.CallLocal
import HandS.Evl
import HandS.ForMost
import HandS.IsInst
import HandS.Iter
import HandS.More
import HandS.OwnEq
import HandS.Replace
import HandS.SortKw
import HandS.Star
import HandS.Steps
import HandS.StrMore
import HandS.Style
import HandS.Text
import HandS.TupAny
import HandS.TupLe
import HandS.TupLen
import HandS.Walk
import HandS.Wide
import KE.DataMinMax
import KE.GoesEnum
import KE.GoesMore
import KE.GoesZip
import KE.KDictWalk
import KE.SortData
import PySem.Challenge.RW_manysides_k12_whole_values_lie_in_spans
set_option Elab.async false
set_option linter.all false
set_option maxRecDepth 100000
set_option maxHeartbeats 4000000
namespace K2
open PySem L2
def top (i : Nat) : Stmt := PySem.Challenge.pw_manysides_k12_whole_values_lie_in_spans.main.body.getD i (.Pass ⟨0, 0, 0, 0⟩)
abbrev sInit : Stmt := inClass (top 1) 0
abbrev sIsText : Stmt := top 5
abbrev sIsValue : Stmt := top 10
abbrev sLeastOf : Stmt := top 11
abbrev sGreatestOf : Stmt := top 12
abbrev sIsBefore : Stmt := top 13
abbrev sIsBetween : Stmt := top 14
abbrev sShInit : Stmt := inClass (top 16) 0
abbrev sShEq : Stmt := inClass (top 16) 1
abbrev sDimIx : Stmt := top 17
abbrev sAttrIx : Stmt := top 18
abbrev sIndex : Stmt := top 19
abbrev sPartsOf : Stmt := top 25
abbrev sKindOf : Stmt := top 26
abbrev sKindFrom : Stmt := top 27
abbrev sLeafKind : Stmt := top 28
abbrev sKindOver : Stmt := top 29
abbrev sValueOf : Stmt := top 30
abbrev sLooseValue : Stmt := top 31
abbrev sBoth : Stmt := top 32
abbrev sEither : Stmt := top 33
abbrev sChosen : Stmt := top 34
abbrev sStrictValue : Stmt := top 35
abbrev sCompared : Stmt := top 36
abbrev sReckoned : Stmt := top 37
abbrev sSpanOf : Stmt := top 41
abbrev sPaperOf : Stmt := top 42
abbrev sShows : Stmt := top 43
abbrev sIsSpan : Stmt := top 44
abbrev sEncloses : Stmt := top 45
abbrev sHasEnds : Stmt := top 46
abbrev sAllows : Stmt := top 47
abbrev sAreOfOneKind : Stmt := top 48
abbrev sCanPass : Stmt := top 49
abbrev sSpanFrom : Stmt := top 50
abbrev sSpanOfValue : Stmt := top 51
abbrev sStrictSpan : Stmt := top 52
abbrev sWithinBounds : Stmt := top 53
abbrev sNegSpan : Stmt := top 54
abbrev sAbsSpan : Stmt := top 55
abbrev sLengthSpan : Stmt := top 56
abbrev sAddSpan : Stmt := top 57
abbrev sSubSpan : Stmt := top 58
abbrev sMulSpan : Stmt := top 59
abbrev sDivSpan : Stmt := top 60
abbrev sEndsWithoutZero : Stmt := top 61
abbrev sModSpan : Stmt := top 62
abbrev sNotSpan : Stmt := top 63
abbrev sJoinedSpan : Stmt := top 64
abbrev sTruthSpan : Stmt := top 65
abbrev sAreAllEqual : Stmt := top 66
abbrev sShareValues : Stmt := top 67
abbrev sEqSpan : Stmt := top 68
abbrev sNeSpan : Stmt := top 69
abbrev sLtSpan : Stmt := top 70
abbrev sLeSpan : Stmt := top 71
abbrev sGtSpan : Stmt := top 72
abbrev sGeSpan : Stmt := top 73
abbrev sIsMissingSpan : Stmt := top 74
abbrev sAndSpan : Stmt := top 75
abbrev sOrSpan : Stmt := top 76
abbrev sTruthsIn : Stmt := top 77
abbrev sSpanOfResults : Stmt := top 78
abbrev sHolding : Stmt := top 79
abbrev sIfSpan : Stmt := top 80
abbrev sOrElseSpan : Stmt := top 81
abbrev sMarksOf : Stmt := top 85
abbrev sEntryOf : Stmt := top 86
abbrev sKeepsTo : Stmt := top 87
abbrev sFits : Stmt := top 88
abbrev sDraw : Stmt := top 90
abbrev sDraws : Stmt := top 91
abbrev sNext : Stmt := top 92
abbrev sWord : Stmt := top 93
abbrev sNumber : Stmt := top 94
abbrev sThing : Stmt := top 95
abbrev sShape : Stmt := top 96
abbrev sLPlace : Stmt := top 97
abbrev sLValues : Stmt := top 98
abbrev sLCells : Stmt := top 99
abbrev sLeaf : Stmt := top 100
abbrev sFlag : Stmt := top 101
abbrev sExpr : Stmt := top 102
abbrev sLWider : Stmt := top 103
abbrev sLBox : Stmt := top 104
abbrev sLaw : Stmt := top 105
end K2

namespace K2
open PySem L2
/-! heaps -/
theorem same_new {H : Hp} {p : Addr} {o : HO} (h : H p = none) : Same H (upd H p o) := fun b x e => by
  rw [upd_ne (ne_of_none e h)]
  exact e
theorem same_put {H H1 : Hp} {p : Addr} {o : HO} (s : Same H H1) (h : H p = none) : Same H (upd H1 p o) := fun b x e => by
  rw [upd_ne (ne_of_none e h)]
  exact s b x e
section
variable {P : Program} {w : World} {K : PySem.W.Frag} {mg : Str → Option Value} {base : Heap}
def spDraw : Sp := fun vs H Q _ => ∃ (c m b : Int), vs = [.int c, .int m, .int b] ∧ 0 ≤ m ∧ m ≤ 1000 ∧ 0 < b ∧ b < 1073741824 ∧
  ∀ H' p (ns : List Int), Same H H' → H p = none → ns.length = m.toNat → H' p = some (.lst (ns.map V.int)) → Q (.ref p) H'
theorem scDraw : FnScope ["cell", "many", "bound", "numbers", "k", "seed", "mixed"] ["cell", "many", "bound"] (defScope sDraw) := ⟨rfl, rfl, rfl, by decide +kernel, rfl, by decide +kernel, by decide +kernel⟩
theorem ok_draw {f : Addr} {fd : FuncData} (F : Fun K "_law_draw" "_law_draw" sDraw f fd) (mr : mg "range" = none) (mi : mg "int" = none) : FnOk P w K mg base CX0 1 f fd ["cell", "many", "bound"] spDraw := by
  refine F.ok scDraw (fun vs H Q E h => ?_) (fun cdv A outer s H vs Q E hr h => ?_)
  · obtain ⟨c, m, b, rfl, _⟩ := h
    rfl
  · obtain ⟨c, m, b, rfl, hm0, hm1, hb0, hb1, q⟩ := h
    refine ⟨_, pss_cons (ps_set (i := 3) scDraw.nd rfl (.inl rfl) (pe_lst pa_nil))
      (pss_cons (ps_if (pt_cmpR op_ge (pv 0) (pe_op op_pow pe_int pe_int) (nomark _))
        (pss_cons (ps_for PassesOwn.never rfl (pi_range1 (by rfl) mr (pa_cons (pv 1) pa_nil)) (pg_name (i := 4) scDraw.nd rfl (.inl rfl))
          (pss_cons (ps_expr (pe_bm PySem.F.plainAttrs_list PySem.F.slot_list_append PySem.F.type_list_append mt_append (pv 3) (pa_cons (pe_op op_mod (pe_callTy call_int1 (by rfl) mi (by decide +kernel) (pa_cons (pv 0) pa_nil)) (pv 2)) pa_nil)))
          (pss_one (ps_set (i := 0) scDraw.nd rfl (.inl rfl) (pe_op op_fdiv (pv 0) (pv 2))))))
        (pss_one (ps_ret (pv 3)))) pss_nil)
      (pss_cons (ps_set (i := 5) scDraw.nd rfl (.inl rfl) (pe_op op_mod (pe_callTy call_int1 (by rfl) mi (by decide +kernel) (pa_cons (pv 0) pa_nil)) pe_int))
      (pss_cons (ps_for PassesOwn.never rfl (pi_range1 (by rfl) mr (pa_cons (pv 1) pa_nil)) (pg_name (i := 4) scDraw.nd rfl (.inl rfl))
          (pss_cons (ps_set (i := 5) scDraw.nd rfl (.inl rfl) (pe_op op_mod (pe_callTy call_int1 (by rfl) mi (by decide +kernel) (pa_cons (pe_op op_add (pe_op op_add (pe_op op_mul (pv 5) pe_int) pe_int) (pv 4)) pa_nil)) pe_int))
          (pss_cons (ps_set (i := 6) scDraw.nd rfl (.inl rfl) (pe_op op_mod (pe_callTy call_int1 (by rfl) mi (by decide +kernel) (pa_cons (pe_op op_add (pe_op op_mul (pv 5) pe_int) (pe_op op_mul pe_int (pv 4))) pa_nil)) pe_int))
          (pss_one (ps_expr (pe_bm PySem.F.plainAttrs_list PySem.F.slot_list_append PySem.F.type_list_append mt_append (pv 3) (pa_cons (pe_op op_mod (pe_callTy call_int1 (by rfl) mi (by decide +kernel) (pa_cons (pe_op op_fdiv (pv 6) pe_int) pa_nil)) (pv 2)) pa_nil)))))))
      (pss_one (ps_ret (pv 3)))))), ?_⟩
    refine ⟨Nat.zero_le _, fun o no => ?_⟩
    have s1 : Same H (upd H o (.lst [])) := same_new no
    refine ⟨_, rfl, 10, 18, rfl, rfl, ⟨by decide, by decide, by decide⟩, c, _, rfl, rfl, _, rfl, ite2 (fun e => ?_) (fun e => ?_)⟩
    · -- the great cells
      refine ⟨_, rfl, m, rfl, by omega, by omega, for_range (lo := 0) (n := m.toNat) (fun i σ H3 => ∃ (c' : Int) (y4 : Option V), σ = [some (.int c'), some (.int m), some (.int b), some (.ref o), y4, none, none] ∧ Same H H3 ∧ ∃ ns : List Int, ns.length = i ∧ H3 o = some (.lst (ns.map V.int))) ?_ ?_ ?_⟩
      · exact ⟨c, none, rfl, s1, [], rfl, upd_same⟩
      · rintro i σ H3 hi ⟨c', y4, rfl, sm, ns, hn, ho⟩
        refine ⟨_, rfl, .inl ⟨rfl, _, .inl (.inl ho)⟩, _, rfl, .inl ⟨c', rfl, _, rfl, c', b, rfl, rfl, hb0, o, _, _, rfl, rfl, ho, ?_, ?_⟩⟩
        · rw [List.length_map]
          exact small1000 (by omega)
        · refine ⟨_, rfl, _, rfl, c', b, rfl, rfl, ⟨hb0, hb1⟩, c' / b, _, rfl, same_put sm no, ns ++ [c' % b], ?_, ?_⟩
          · rw [List.length_append, hn]
            rfl
          · rw [upd_same, List.map_append]
            rfl
      · rintro σ H3 ⟨c', y4, rfl, sm, ns, hn, ho⟩
        exact ⟨_, rfl, q H3 o ns sm no hn ho⟩
    · -- the others
      refine ⟨_, rfl, .inl ⟨c, rfl, c, 2147483647, rfl, rfl, (by show (0 : Int) < 2147483647; decide), ?_⟩⟩
      refine ⟨_, rfl, m, rfl, by omega, by omega, for_range (lo := 0) (n := m.toNat) (fun i σ H3 => ∃ (sd : Int) (y4 y6 : Option V), σ = [some (.int c), some (.int m), some (.int b), some (.ref o), y4, some (.int sd), y6] ∧ 0 ≤ sd ∧ sd < 2147483647 ∧ Same H H3 ∧ ∃ ns : List Int, ns.length = i ∧ H3 o = some (.lst (ns.map V.int))) ?_ ?_ ?_⟩
      · exact ⟨_, none, none, rfl, Int.emod_nonneg _ (by decide), Int.emod_lt_of_pos _ (by decide), s1, [], rfl, upd_same⟩
      · rintro i σ H3 hi ⟨sd, y4, y6, rfl, h0, h1, sm, ns, hn, ho⟩
        refine ⟨_, rfl, sd, 48271, rfl, rfl, .inl ⟨by omega, by omega⟩, _, _, rfl, rfl, _, rfl, _, _, rfl, rfl, .inl ⟨_, rfl, _, 2147483647, rfl, rfl, (by show (0 : Int) < 2147483647; decide), ?_⟩⟩
        have g0 := Int.emod_nonneg (sd * 48271 + 12345 + (0 + (i : Int))) (by decide : (2147483647 : Int) ≠ 0)
        have g1 := Int.emod_lt_of_pos (sd * 48271 + 12345 + (0 + (i : Int))) (by decide : (0 : Int) < 2147483647)
        refine ⟨_, rfl, (sd * 48271 + 12345 + (0 + (i : Int))) % 2147483647, 69621, rfl, rfl, .inl ⟨by omega, by omega⟩, _, rfl, 977, _, rfl, rfl, .inl ⟨by decide, by decide⟩, _, _, rfl, rfl, .inl ⟨_, rfl, _, 2147483629, rfl, rfl, (by show (0 : Int) < 2147483629; decide), ?_⟩⟩
        refine ⟨_, rfl, .inl ⟨rfl, _, .inl (.inl ho)⟩, _, rfl, _, 3, rfl, rfl, ⟨by decide, by decide⟩, .inl ⟨_, rfl, _, rfl, _, b, rfl, rfl, hb0, o, _, _, rfl, rfl, ho, ?_, ?_⟩⟩
        · rw [List.length_map]
          exact small1000 (by omega)
        · refine ⟨_, _, _, rfl, g0, g1, same_put sm no, ns ++ [(((sd * 48271 + 12345 + (0 + (i : Int))) % 2147483647) * 69621 + 977 * (0 + (i : Int))) % 2147483629 / 3 % b], ?_, ?_⟩
          · rw [List.length_append, hn]
            rfl
          · rw [upd_same, List.map_append]
            rfl
      · rintro σ H3 ⟨sd, y4, y6, rfl, h0, h1, sm, ns, hn, ho⟩
        exact ⟨_, rfl, q H3 o ns sm no hn ho⟩
end
end K2

namespace K2
open PySem L2
/-! the state: a dict of two keys -/
abbrev kN : Key := Sum.inr "numbers"
abbrev kA : Key := Sum.inr "at"
theorem kNA : ¬ kN = kA := by decide +kernel
theorem kAN : ¬ kA = kN := by decide +kernel
def stK (l : Addr) (z : Int) : List (Key × V) := [(kN, .ref l), (kA, .int z)]
theorem stK_N (l : Addr) (z : Int) : valV (stK l z) kN = some (.ref l) := valV_pos rfl
theorem stK_A (l : Addr) (z : Int) : valV (stK l z) kA = some (.int z) := (valV_neg kNA).trans (valV_pos rfl)
theorem stK_put (l : Addr) (z y : Int) : putK (stK l z) kA (.int y) = stK l y := by
  unfold putK stK
  rw [if_pos (by rw [List.any_cons, List.any_cons, decide_eq_true (show kA = kA from rfl), Bool.true_or, Bool.or_true])]
  rw [List.map_cons, List.map_cons, List.map_nil, if_neg kNA, if_pos rfl]
theorem stK_mk (l : Addr) : mergeK [] [(kN, V.ref l), (kA, V.int 0)] = stK l 0 := by
  show putK (putK [] kN (.ref l)) kA (.int 0) = stK l 0
  rw [putK_new (kvs := []) _ rfl]
  rw [putK_new (kvs := [] ++ [(kN, V.ref l)]) _ (valV_neg (p := (kN, V.ref l)) (r := []) kNA)]
  rfl
structure StAt (H : Hp) (d l : Addr) : Prop where
  ex : ∃ (ns : List Int) (z : Int), H d = some (.dK (stK l z)) ∧ H l = some (.lst (ns.map V.int)) ∧ 0 < ns.length ∧ ns.length ≤ 100000
/-- all but the state is as it was, and the state is one again -/
structure Kp (d l : Addr) (H H' : Hp) : Prop where
  keep : ∀ c o, H c = some o → c ≠ d → H' c = some o
  st : StAt H' d l
theorem Kp.trans {d l : Addr} {H H1 H2 : Hp} (a : Kp d l H H1) (b : Kp d l H1 H2) : Kp d l H H2 := ⟨fun c o e n => b.keep c o (a.keep c o e n) n, b.st⟩
theorem StAt.same {d l : Addr} {H H1 : Hp} (s : StAt H d l) (e : Same H H1) : StAt H1 d l := by
  obtain ⟨ns, z, h1, h2, h3⟩ := s.ex
  exact ⟨ns, z, e _ _ h1, e _ _ h2, h3⟩
theorem Kp.same {d l : Addr} {H H1 H2 : Hp} (a : Kp d l H H1) (e : Same H1 H2) : Kp d l H H2 := ⟨fun c o h n => e _ _ (a.keep c o h n), a.st.same e⟩
theorem Kp.new {d l : Addr} {H H1 : Hp} {p : Addr} {o : HO} (a : Kp d l H H1) (h : H1 p = none) : Kp d l H (upd H1 p o) := a.same (same_new h)
theorem Kp.refl {d l : Addr} {H : Hp} (s : StAt H d l) : Kp d l H H := ⟨fun _ _ h _ => h, s⟩
theorem Kp.pre {d l : Addr} {H H1 H2 : Hp} (e : Same H H1) (a : Kp d l H1 H2) : Kp d l H H2 := ⟨fun c o h n => a.keep c o (e _ _ h) n, a.st⟩
/-- what is free is neither the state nor its list -/
theorem StAt.nd {d l : Addr} {H : Hp} (s : StAt H d l) {p : Addr} (h : H p = none) : p ≠ d ∧ p ≠ l := by
  obtain ⟨ns, z, h1, h2, _⟩ := s.ex
  exact ⟨fun e => (by rw [e, h1] at h; cases h), fun e => (by rw [e, h2] at h; cases h)⟩
/-- a store to what was free at first -/
theorem Kp.put {d l : Addr} {H H1 : Hp} {p : Addr} {o : HO} (a : Kp d l H H1) (h : H p = none) (n : p ≠ d ∧ p ≠ l) : Kp d l H (upd H1 p o) := by
  refine ⟨fun c ob e ne => ?_, ?_⟩
  · rw [upd_ne (ne_of_none e h)]
    exact a.keep c ob e ne
  · obtain ⟨ns, z, h1, h2, h3⟩ := a.st.ex
    exact ⟨ns, z, by rw [upd_ne n.1.symm]; exact h1, by rw [upd_ne n.2.symm]; exact h2, h3⟩
/-- what is free is free at first -/
theorem Kp.free {d l : Addr} {H H1 : Hp} (a : Kp d l H H1) {p : Addr} (h : H1 p = none) : H p = none := by
  cases e : H p with
  | none => rfl
  | some o =>
    have := a.keep p o e (a.st.nd h).1
    rw [h] at this
    cases this
section
variable {P : Program} {w : World} {K : PySem.W.Frag} {mg : Str → Option Value} {base : Heap}
def spDraws (K : PySem.W.Frag) : Sp := fun vs H Q _ => ∃ (a : Addr) (cs : List Int), vs = [.ref a] ∧ SqL K H a (cs.map V.int) ∧ cs.length ≤ 1000 ∧ 0 < cs.length ∧
  ∀ H' p l, Same H H' → H p = none → StAt H' p l → Q (.ref p) H'
theorem scDraws : FnScope ["cells", "numbers", "cell"] ["cells"] (defScope sDraws) := ⟨rfl, rfl, rfl, by decide +kernel, rfl, by decide +kernel, by decide +kernel⟩
theorem ok_draws {f fD : Addr} {fd fdD : FuncData} (F : Fun K "_law_draws" "_law_draws" sDraws f fd) (FD : Fun K "_law_draw" "_law_draw" sDraw fD fdD) (bD : Binds K fdD ["cell", "many", "bound"] []) (gD : mg "_law_draw" = some (.ref fD))
    (mr : mg "range" = none) (mi : mg "int" = none) : FnOk P w K mg base CX0 2 f fd ["cells"] (spDraws K) := by
  have GD : FnOk P w K mg base CX0 1 fD fdD ["cell", "many", "bound"] spDraw := ok_draw FD mr mi
  refine F.ok scDraws (fun vs H Q E h => ?_) (fun cdv A outer s H vs Q E hr h => ?_)
  · obtain ⟨a, cs, rfl, _⟩ := h
    rfl
  · obtain ⟨a, cs, rfl, hS, hl, h0, q⟩ := h
    refine ⟨_, pss_cons (ps_set (i := 1) scDraws.nd rfl (.inl rfl) (pe_lst pa_nil))
      (pss_cons (ps_for PassesOwn.never rfl (pi_list (pv 0)) (pg_name (i := 2) scDraws.nd rfl (.inl rfl))
        (pss_one (ps_set (i := 1) scDraws.nd rfl (.inl rfl) (pe_op op_cat (pv 1) (pe_call GD hr (by rfl) gD FD.kp bD .nil pass0 (pa_cons (pv 2) (pa_cons pe_int (pa_cons (pe_op op_shl pe_int pe_int) pa_nil))))))))
      (pss_one (ps_ret (pe_disp (pps_cons pe_str (pv 1) (pps_cons pe_str pe_int pps_nil)) (by rfl) (by rfl) (fun z => by cases z) (by decide))))), ?_⟩
    refine ⟨Nat.zero_le _, fun o no => ?_⟩
    refine ⟨_, rfl, a, rfl, ⟨_, (same_new no).seq hS⟩, for_list (xs := cs.map V.int) (fun i σ H3 => ∃ (l : Addr) (y2 : Option V), σ = [some (.ref a), some (.ref l), y2] ∧ Same H H3 ∧ H l = none ∧ ∃ ns : List Int, ns.length = 40 * i ∧ H3 l = some (.lst (ns.map V.int))) ?_ ?_ ?_ ?_⟩
    · exact ⟨o, none, rfl, same_new no, no, [], rfl, upd_same⟩
    · rintro i σ H3 hi ⟨l, y2, rfl, sm, _⟩
      exact sm.seq hS
    · rintro i x σ H3 hx ⟨l, y2, rfl, sm, nl, ns, hn, hol⟩
      have hi : i < cs.length := by
        have := (List.getElem?_eq_some_iff.mp hx).1
        rwa [List.length_map] at this
      rw [List.getElem?_map, List.getElem?_eq_getElem hi] at hx
      have ex : x = .int cs[i] := (Option.some.inj hx).symm
      subst ex
      refine ⟨_, rfl, _, rfl, 1, 20, rfl, rfl, ⟨by decide, by decide, by decide⟩, cs[i], 40, 1048576, rfl, by decide, by decide, by decide, by decide, fun H4 p ms s4 np hm hp => ?_⟩
      refine ⟨l, p, _, _, rfl, rfl, s4 _ _ hol, hp, ?_, fun r nr => ?_⟩
      · rw [List.length_map, List.length_map, hn, hm]
        exact Nat.le_of_lt (Nat.lt_of_le_of_lt (show 40 * i + (40 : Int).toNat ≤ 100000 by omega) (by decide))
      · have nr3 : H3 r = none := s4.free nr
        refine ⟨r, _, rfl, same_put (sm.trans s4) (sm.free nr3), sm.free nr3, ns ++ ms, ?_, ?_⟩
        · rw [List.length_append, hn, hm]
          show 40 * i + 40 = 40 * (i + 1)
          omega
        · rw [upd_same, List.map_append]
    · rintro σ H3 ⟨l, y2, rfl, sm, nl, ns, hn, hol⟩
      rw [List.length_map] at hn
      intro d nd
      refine ⟨_, rfl, upd_same, [(kN, .ref l), (kA, .int 0)], rfl, (by show 2 ≤ 15; decide), ?_⟩
      have nld : l ≠ d := ne_of_none hol nd
      refine q _ d l ?_ (sm.free nd) ⟨ns, 0, ?_, ?_, by omega, by omega⟩
      · intro b ob e
        have hb : b ≠ d := ne_of_none (sm _ _ e) nd
        rw [upd_ne hb, upd_ne hb]
        exact sm _ _ e
      · rw [upd_same, stK_mk]
      · rw [upd_ne nld, upd_ne nld]
        exact hol
def spNext : Sp := fun vs H Q _ => ∃ (d l : Addr) (b : Int), vs = [.ref d, .int b] ∧ StAt H d l ∧ 0 < b ∧ ∀ H' n, 0 ≤ n → n < b → Kp d l H H' → Q (.int n) H'
theorem scNext : FnScope ["state", "bound", "number"] ["state", "bound"] (defScope sNext) := ⟨rfl, rfl, rfl, by decide +kernel, rfl, by decide +kernel, by decide +kernel⟩
theorem ok_next {f : Addr} {fd : FuncData} (F : Fun K "_law_next" "_law_next" sNext f fd) (mi : mg "int" = none) (ml : mg "len" = none) : FnOk P w K mg base CX0 1 f fd ["state", "bound"] spNext := by
  refine F.ok scNext (fun vs H Q E h => ?_) (fun cdv A outer s H vs Q E hr h => ?_)
  · obtain ⟨d, l, b, rfl, _⟩ := h
    rfl
  · obtain ⟨d, l, b, rfl, S, hb, q⟩ := h
    have hu := hu_of hr
    obtain ⟨ns, z, h1, h2, h3, h4⟩ := id S.ex
    have nld : l ≠ d := ne_of h2 h1 (by intro z; cases z)
    have gN : DGet H d (.str "numbers") (some (.ref l)) := by
      have := DGet.k (k := kN) h1
      rwa [stK_N] at this
    have gA : DGet H d (.str "at") (some (.int z)) := by
      have := DGet.k (k := kA) h1
      rwa [stK_A] at this
    refine ⟨_, pss_cons (ps_set (i := 2) scNext.nd rfl (.inl rfl) (pe_op op_add (pe_ix ix_list (pe_dget hu (pv 0) pe_str (fun _ _ => rfl))
          (pe_op op_mod (pe_callTy call_int1 (by rfl) mi (by decide +kernel) (pa_cons (pe_dget hu (pv 0) pe_str (fun _ _ => rfl)) pa_nil)) (pe_callB call_len_seq (by rfl) ml PySem.boot_len (pa_cons (pe_dget hu (pv 0) pe_str (fun _ _ => rfl)) pa_nil))) (fun _ _ => rfl))
          (pe_op op_fdiv (pe_callTy call_int1 (by rfl) mi (by decide +kernel) (pa_cons (pe_dget hu (pv 0) pe_str (fun _ _ => rfl)) pa_nil)) (pe_callB call_len_seq (by rfl) ml PySem.boot_len (pa_cons (pe_dget hu (pv 0) pe_str (fun _ _ => rfl)) pa_nil)))))
      (pss_cons (ps_dput hu (pv 0) pe_str (pe_op op_add (pe_dget hu (pv 0) pe_str (fun _ _ => rfl)) pe_int) rfl)
      (pss_one (ps_ret (pe_op op_mod (pe_callTy call_int1 (by rfl) mi (by decide +kernel) (pa_cons (pv 2) pa_nil)) (pv 1))))), ?_⟩
    have hlen : ((ns.map V.int).length : Int) = (ns.length : Int) := by rw [List.length_map]
    have m0 : 0 ≤ z % ((ns.map V.int).length : Int) := Int.emod_nonneg _ (by omega)
    have m1 : z % ((ns.map V.int).length : Int) < ((ns.map V.int).length : Int) := Int.emod_lt_of_pos _ (by omega)
    obtain ⟨j, ej⟩ : ∃ j : Nat, z % ((ns.map V.int).length : Int) = (j : Int) := ⟨_, (Int.toNat_of_nonneg m0).symm⟩
    have hj : j < ns.length := by omega
    have gj : (ns.map V.int)[j]? = some (.int ns[j]) := by
      rw [List.getElem?_map, List.getElem?_eq_getElem hj]
      rfl
    refine ⟨_, rfl, d, _, rfl, gN, _, rfl, d, _, rfl, gA, .inl ⟨z, rfl, _, rfl, d, _, rfl, gN, l, _, rfl, .inl (.inl (.inl h2)), _, _, rfl, rfl, (by show (0 : Int) < ((ns.map V.int).length : Int); omega), ?_⟩⟩
    refine ⟨l, _, _, _, rfl, rfl, .inl (.inl h2), at_of ej gj, ?_⟩
    refine ⟨_, rfl, d, _, rfl, gA, .inl ⟨z, rfl, _, rfl, d, _, rfl, gN, l, _, rfl, .inl (.inl (.inl h2)), _, _, rfl, rfl, ⟨(by show (0 : Int) < ((ns.map V.int).length : Int); omega), (by show ((ns.map V.int).length : Int) < 1073741824; omega)⟩, _, _, rfl, rfl, ?_⟩⟩
    refine ⟨_, rfl, d, _, rfl, gA, z, 1, rfl, rfl, _, rfl, d, _, rfl, DPut.k (k := kA) h1 (by show 2 < sizeLine; decide), ?_⟩
    rw [stK_put]
    refine ⟨_, rfl, .inl ⟨_, rfl, _, rfl, _, b, rfl, rfl, hb, ?_⟩⟩
    refine q _ _ (Int.emod_nonneg _ (by omega)) (Int.emod_lt_of_pos _ hb) ⟨fun c o e n => ?_, ns, z + 1, upd_same, ?_, h3, h4⟩
    · rw [upd_ne n]
      exact e
    · rw [upd_ne nld]
      exact h2
end
end K2

namespace K2
open PySem L2
/-! texts of the 95 characters -/
def okc (c : Nat) : Bool := c == 10 || (Nat.ble 32 c && Nat.ble c 126 && !(c == 37))
def Txt95 (z : Str) : Prop := ∀ c ∈ z.cps.toList, okc c = true
abbrev CHS : Str := " !\"#$\n&'()*+,-./0123456789:;<=>?@ABCDEFGHIJKLMNOPQRSTUVWXYZ[\\]^_`abcdefghijklmnopqrstuvwxyz{|}~"
abbrev LATER : Str := "&'()*+,-./0123456789:;<=>?@ABCDEFGHIJKLMNOPQRSTUVWXYZ[\\]^_`abcdefghijklmnopqrstuvwxyz{|}~"
abbrev FIVE : Str := " !\"#$"
theorem okc_lt {c : Nat} (h : okc c = true) : c < 127 := by
  unfold okc at h
  rw [Bool.or_eq_true, Bool.and_eq_true, Bool.and_eq_true, beq_iff_eq, Nat.ble_eq, Nat.ble_eq] at h
  omega
theorem ch_tab : ∀ c, c < 127 → okc c = true → CHS.cps.contains c = true := by decide +kernel
theorem ch_in {c : Nat} (h : okc c = true) : CHS.cps.contains c = true := ch_tab c (okc_lt h) h
theorem takeWhile_all {p : Nat → Bool} : ∀ {l : List Nat}, (∀ c ∈ l, p c = true) → l.takeWhile p = l
  | [], _ => rfl
  | a :: r, h => by
    rw [List.takeWhile_cons, if_pos (h a (List.mem_cons_self ..)), takeWhile_all fun c hc => h c (List.mem_cons_of_mem _ hc)]
theorem strip_ok {z : Str} (h : Txt95 z) : Txt.stripChars z CHS = ("" : Str) := by
  unfold Txt.stripChars
  rw [PyProof.Rows.stripBy_eq]
  have e : stripLo CHS.cps.contains true z = z.length := by
    simp only [stripLo, if_true]
    rw [takeWhile_all fun c hc => ch_in (h c hc)]
    simp [Str.length]
  have l := PyProof.Rows.hi_facts CHS.cps.contains z z.length (Nat.le_refl _)
  have e2 : stripHi CHS.cps.contains true z z.length = z.length := by omega
  rw [e, e2]
  unfold Builtin.Str.strSub
  have e3 : z.cps.extract z.length z.length = #[] := by
    apply Array.eq_empty_of_size_eq_zero
    rw [Array.size_extract]
    have : z.length = z.cps.size := rfl
    omega
  rw [e3]
  decide +kernel
theorem join_mem : ∀ {ys : List Str} {c : Nat}, c ∈ (Str.join ("" : Str) ys).cps.toList → ∃ y ∈ ys, c ∈ y.cps.toList
  | [], c, h => by
    have : c ∈ (Str.empty).cps.toList := h
    simp [Str.empty] at this
  | [x], c, h => ⟨x, List.mem_cons_self .., h⟩
  | x :: y :: r, c, h => by
    have h : c ∈ ((x.cps ++ ("" : Str).cps) ++ (Str.join ("" : Str) (y :: r)).cps).toList := h
    have e0 : ("" : Str).cps = #[] := by decide +kernel
    rw [e0, Array.append_empty, Array.toList_append, List.mem_append] at h
    rcases h with h | h
    · exact ⟨x, List.mem_cons_self .., h⟩
    · obtain ⟨z, hz, hc⟩ := join_mem h
      exact ⟨z, List.mem_cons_of_mem _ hz, hc⟩
theorem join_ok {ys : List Str} (h : ∀ y ∈ ys, Txt95 y) : Txt95 (Txt.join ("" : Str) ys) := fun c hc => by
  have hc : c ∈ (Builtin.Str.glued ("" : Str) ys).cps.toList := hc
  rw [StrLaws.glued_eq_join] at hc
  obtain ⟨y, hy, k⟩ := join_mem hc
  exact h y hy c k
theorem join_len (ys : List Str) : (Txt.join ("" : Str) ys).length ≤ (ys.map (·.length)).sum := by
  have h := StrLaws.join_length_le ("" : Str) ys
  rw [← StrLaws.glued_eq_join] at h
  have e0 : ("" : Str).length = 0 := by decide +kernel
  rw [e0, Nat.mul_zero] at h
  exact h
theorem reps_mem : ∀ {n : Nat} {a b : Array Nat} {c : Nat}, c ∈ ((List.replicate n a).foldl (· ++ ·) b).toList → c ∈ b.toList ∨ c ∈ a.toList
  | 0, a, b, c, h => .inl h
  | n + 1, a, b, c, h => by
    rw [List.replicate_succ, List.foldl_cons] at h
    rcases reps_mem h with h | h
    · rw [Array.toList_append, List.mem_append] at h
      exact h
    · exact .inr h
theorem reps_size : ∀ (n : Nat) (a b : Array Nat), ((List.replicate n a).foldl (· ++ ·) b).size = b.size + n * a.size
  | 0, a, b => by simp
  | n + 1, a, b => by
    rw [List.replicate_succ, List.foldl_cons, reps_size n a (b ++ a), Array.size_append, Nat.succ_mul]
    omega
theorem mul_ok {z : Str} {n : Int} (h : Txt95 z) : Txt95 (Txt.mul z n) := fun c hc => by
  unfold Txt.mul at hc
  split at hc
  · simp [Str.empty] at hc
  · split at hc
    · exact h c hc
    · rcases reps_mem hc with k | k
      · simp at k
      · exact h c k
theorem mul_len {z : Str} {n : Int} : (Txt.mul z n).length ≤ n.toNat * z.length := by
  unfold Txt.mul
  split
  · show (0 : Nat) ≤ _
    omega
  · split
    · have : 1 ≤ n.toNat := by omega
      calc z.length = 1 * z.length := (Nat.one_mul _).symm
        _ ≤ n.toNat * z.length := Nat.mul_le_mul_right _ this
    · show ((List.replicate n.toNat z.cps).foldl (· ++ ·) #[]).size ≤ _
      rw [reps_size]
      show 0 + n.toNat * z.cps.size ≤ n.toNat * z.cps.size
      omega
theorem mul_may {z : Str} {n : Int} (h0 : 0 ≤ n) (h1 : n ≤ 1000) (hz : z.length ≤ 1000) : MulOk z n := by
  refine ⟨?_, fun h2 h3 => ?_, fun h2 h3 => ?_⟩
  · rw [decide_eq_false (by omega), decide_eq_false (by omega)]
    rfl
  · have hn : (0 : Int) < n := by omega
    have h4 : (z.length : Int) * n ≤ 1000 * 1000 := Int.mul_le_mul (by omega) h1 h0 (by decide)
    have h5 : (z.length : Int) ≤ (2 ^ 63 - 1) / n := (Int.le_ediv_iff_mul_le hn).mpr (by omega)
    omega
  · unfold Builtin.Str.tooLong
    have : z.length * n.toNat ≤ 1000 * 1000 := Nat.mul_le_mul hz (by omega)
    have e : sizeLine = 16777216 := by decide
    rw [e]
    apply decide_eq_false
    omega
theorem cat_ok {x y : Str} (hx : Txt95 x) (hy : Txt95 y) : Txt95 (x ++ y) := fun c hc => by
  have hc : c ∈ (x.cps ++ y.cps).toList := hc
  rw [Array.toList_append, List.mem_append] at hc
  rcases hc with h | h
  · exact hx c h
  · exact hy c h
/-! the order of lists of codes -/
theorem lex_at : ∀ {a b : List Nat} {k x y : Nat}, a.take k = b.take k → a[k]? = some x → b[k]? = some y → x ≠ y → (a < b ↔ x < y)
  | [], _, _, _, _, _, h, _, _ => by simp at h
  | _ :: _, [], _, _, _, _, _, h, _ => by simp at h
  | p :: a, q :: b, 0, x, y, _, h1, h2, ne => by
    have e1 : p = x := by simpa using h1
    have e2 : q = y := by simpa using h2
    subst e1 e2
    rw [List.cons_lt_cons_iff]
    constructor
    · rintro (h | ⟨h, _⟩)
      · exact h
      · exact absurd h ne
    · exact .inl
  | p :: a, q :: b, k + 1, x, y, e, h1, h2, ne => by
    rw [List.take_succ_cons, List.take_succ_cons] at e
    injection e with e1 e2
    subst e1
    have ih := lex_at e2 (by simpa using h1) (by simpa using h2) ne
    rw [List.cons_lt_cons_iff, ih]
    constructor
    · rintro (h | ⟨_, h⟩)
      · exact absurd h (Nat.lt_irrefl _)
      · exact h
    · exact fun h => .inr ⟨rfl, h⟩
theorem lex_end : ∀ {a b : List Nat}, a.take (min a.length b.length) = b.take (min a.length b.length) → (a < b ↔ a.length < b.length)
  | [], [], _ => by simp
  | [], q :: b, _ => by simp
  | p :: a, [], _ => by simp
  | p :: a, q :: b, e => by
    rw [List.length_cons, List.length_cons, Nat.succ_min_succ, List.take_succ_cons, List.take_succ_cons] at e
    injection e with e1 e2
    subst e1
    have ih := lex_end e2
    rw [List.cons_lt_cons_iff, ih, List.length_cons, List.length_cons]
    constructor
    · rintro (h | ⟨_, h⟩)
      · exact absurd h (Nat.lt_irrefl _)
      · omega
    · exact fun h => .inr ⟨rfl, by omega⟩
/-! the places of signs -/
theorem five_tab : ∀ c, c < 127 → Nat.ble 32 c = true → Nat.ble c 36 = true → Builtin.Str.occurrences FIVE ⟨#[c]⟩ 0 FIVE.length 1 = [c - 32] := by decide +kernel
theorem later_tab : ∀ c, c < 127 → Nat.ble 38 c = true → Builtin.Str.occurrences LATER ⟨#[c]⟩ 0 LATER.length 1 = [c - 38] := by decide +kernel
theorem five_mem : ∀ c, c < 127 → okc c = true → ¬ c = 10 → (c ∈ FIVE.cps.toList ↔ c < 37) := by decide +kernel
section
variable {X : Cx}
theorem op_mul_str : OpR X (binaryOp .Mult) (fun x y H Q => ∃ z n, x = .str z ∧ y = .int n ∧ MulOk z n ∧ Q (.str (Txt.mul z n)) H) := by
  intro pins s σ H x y v u Q I rx ry h
  obtain ⟨i, j, rfl, rfl, hz, q⟩ := h
  obtain ⟨t, rfl⟩ := rx
  obtain ⟨t', rfl⟩ := ry
  exact SB.mul hz (fun t' tk => ⟨.str (Txt.mul i j), H, I.tok _, ⟨_, rfl⟩, q⟩)
theorem op_lt_bl : OpR X (compareOp .Lt) (fun x y H Q => ∃ i j, x = .bl i ∧ y = .bl j ∧ Q (.bl (decide (PyProof.Rows.b2i i < PyProof.Rows.b2i j))) H) := by
  intro pins s σ H x y v u Q I rx ry h
  obtain ⟨i, j, rfl, rfl, q⟩ := h
  cases (show v = Value.bool i from rx)
  cases (show u = Value.bool j from ry)
  exact PyProof.Rows.lt_bool ⟨.bl _, H, I, rfl, q⟩
end
end K2

namespace K2
open PySem L2
theorem iteB {b : Bool} {A B : Prop} (e : b = true) (h : A) : if b = true then A else B := by
  rw [if_pos e]
  exact h
theorem iteBF {b : Bool} {A B : Prop} (e : b = false) (h : B) : if b = true then A else B := by
  subst e
  exact iteF h
/-! the three kinds -/
inductive Kd where | i | f | t
def kdS : Kd → Str
  | .i => "int" | .f => "flag" | .t => "text"
theorem kd_int : ∀ k : Kd, decide (V.str (kdS k) = V.str "int") = (match k with | .i => true | _ => false)
  | .i => by decide +kernel
  | .f => by decide +kernel
  | .t => by decide +kernel
theorem kd_flag : ∀ k : Kd, decide (V.str (kdS k) = V.str "flag") = (match k with | .f => true | _ => false)
  | .i => by decide +kernel
  | .f => by decide +kernel
  | .t => by decide +kernel
theorem kd_text : ∀ k : Kd, decide (V.str (kdS k) = V.str "text") = (match k with | .t => true | _ => false)
  | .i => by decide +kernel
  | .f => by decide +kernel
  | .t => by decide +kernel
/-! things -/
inductive Thg (K : PySem.W.Frag) (H : Hp) : V → String → Prop where
  | non : Thg K H .non "NoneType"
  | bl (b : Bool) : Thg K H (.bl b) "bool"
  | int (n : Int) : Thg K H (.int n) "int"
  | str (z : Str) (h : Txt95 z) (hl : z.length ≤ 100000) : Thg K H (.str z) "str"
  | lst {a : Addr} {xs : List V} (e : H a = some (.lst xs)) : Thg K H (.ref a) "list"
  | tup {a : Addr} {xs : List V} (e : H a = some (.tup xs)) : Thg K H (.ref a) "tuple"
theorem Thg.ty {K : PySem.W.Frag} {H : Hp} {v : V} {T : String} (h : Thg K H v T) : TyX K H v (.type T) := by
  cases h with
  | non => exact .base .non
  | bl b => exact .base (.bl b)
  | int n => exact .base (.int n)
  | str z _ _ => exact .base (.str z)
  | lst e => exact .base (.lst e)
  | tup e => exact .base (.tup e)
theorem Thg.same {K : PySem.W.Frag} {H H' : Hp} {v : V} {T : String} (h : Thg K H v T) (s : Same H H') : Thg K H' v T := by
  cases h with
  | non => exact .non
  | bl b => exact .bl b
  | int n => exact .int n
  | str z a b => exact .str z a b
  | lst e => exact .lst (s _ _ e)
  | tup e => exact .tup (s _ _ e)
def isI : V → Bool
  | .int _ => true | .bl _ => true | _ => false
def isB : V → Bool
  | .bl _ => true | _ => false
def isS : V → Bool
  | .str _ => true | _ => false
theorem Thg.kI {K : PySem.W.Frag} {H : Hp} {v : V} {T : String} (h : Thg K H v T) : PySem.W.kitOne K (.type T) (.type "int") = some (isI v) := by
  cases h <;> first | exact kit_ty (r := true) (by decide +kernel) | exact kit_ty (r := false) (by decide +kernel)
theorem Thg.kB {K : PySem.W.Frag} {H : Hp} {v : V} {T : String} (h : Thg K H v T) : PySem.W.kitOne K (.type T) (.type "bool") = some (isB v) := by
  cases h <;> first | exact kit_ty (r := true) (by decide +kernel) | exact kit_ty (r := false) (by decide +kernel)
theorem Thg.kS {K : PySem.W.Frag} {H : Hp} {v : V} {T : String} (h : Thg K H v T) : PySem.W.kitOne K (.type T) (.type "str") = some (isS v) := by
  cases h <;> first | exact kit_ty (r := true) (by decide +kernel) | exact kit_ty (r := false) (by decide +kernel)
def isVal : Kd → V → Bool
  | .i, .int n => decide (-(10 ^ 30 : Int) < n) && decide (n < 10 ^ 30)
  | .f, .bl _ => true
  | .t, .str z => decide ((z.length : Int) ≤ 200)
  | _, _ => false
theorem len_line {z : Str} (h : z.length ≤ 100000) : z.length ≤ sizeLine := Nat.le_trans h (by decide)
/-- the names of the top that are still the built-in ones -/
structure Nm (mg : Str → Option Value) : Prop where
  range : mg "range" = none
  int : mg "int" = none
  len : mg "len" = none
  isinstance : mg "isinstance" = none
  bool : mg "bool" = none
  str : mg "str" = none
  min : mg "min" = none
  max : mg "max" = none
  sum : mg "sum" = none
  abs : mg "abs" = none
  enumerate : mg "enumerate" = none
  tuple : mg "tuple" = none
  list : mg "list" = none
  sorted : mg "sorted" = none
  zip : mg "zip" = none
  reversed : mg "reversed" = none
  dict : mg "dict" = none
  ve : mg "ValueError" = none
/-- the constants of texts and kinds -/
structure Ct (mg : Str → Option Value) : Prop where
  ch : ∃ u, mg "CHARACTERS" = some u ∧ RelV (.str CHS) u
  ib : ∃ u, mg "INT_BOUND" = some u ∧ RelV (.int (10 ^ 30)) u
  tb : ∃ u, mg "TEXT_BOUND" = some u ∧ RelV (.int 200) u
def OfK : Kd → V → Prop
  | .i, v => ∃ n, v = .int n
  | .f, v => ∃ b, v = .bl b
  | .t, v => ∃ z, v = .str z ∧ Txt95 z ∧ z.length ≤ 2000
def less : Kd → V → V → Bool
  | .i, .int a, .int b => decide (a < b)
  | .f, .bl a, .bl b => decide (PyProof.Rows.b2i a < PyProof.Rows.b2i b)
  | .t, .str a, .str b => decide (a.cps.toList < b.cps.toList)
  | _, _, _ => false
def OkV (k : Kd) (v : V) : Prop := v = .non ∨ (OfK k v ∧ isVal k v = true)
theorem b2i_eq (p : Bool) : (if p then (1 : Int) else 0) = PyProof.Rows.b2i p := by cases p <;> rfl
theorem OfK.thg {K : PySem.W.Frag} {H : Hp} {k : Kd} {v : V} (h : OfK k v) : ∃ T, Thg K H v T := by
  cases k with
  | i => obtain ⟨n, rfl⟩ := h; exact ⟨_, .int n⟩
  | f => obtain ⟨b, rfl⟩ := h; exact ⟨_, .bl b⟩
  | t => obtain ⟨z, rfl, h1, h2⟩ := h; exact ⟨_, .str z h1 (by omega)⟩
theorem sg_eq {a b : Nat} : decide (V.str ⟨#[a]⟩ = V.str ⟨#[b]⟩) = decide (a = b) := by
  by_cases e : a = b
  · subst e
    rw [decide_eq_true rfl, decide_eq_true rfl]
  · rw [decide_eq_false e, decide_eq_false fun h => ?_]
    injection h with h
    injection h with h
    have := congrArg (fun x : Array Nat => x[0]?) h
    simp at this
    exact e this
theorem nl_eq : ("\n" : Str) = ⟨#[10]⟩ := by decide +kernel
end K2

namespace K2
open PySem L2
section
variable {P : Program} {w : World} {K : PySem.W.Frag} {mg : Str → Option Value} {base : Heap}
/-! ### is_text -/
def spIsText : Sp := fun vs H Q _ => ∃ z : Str, vs = [.str z] ∧ Txt95 z ∧ z.length ≤ 100000 ∧ Q (.bl true) H
theorem scIsText : FnScope ["text"] ["text"] (defScope sIsText) := ⟨rfl, rfl, rfl, by decide +kernel, rfl, by decide +kernel, by decide +kernel⟩
theorem ok_isText {f : Addr} {fd : FuncData} (F : Fun K "is_text" "is_text" sIsText f fd) (N : Nm mg) (N2 : Ct mg) : FnOk P w K mg base CX0 1 f fd ["text"] spIsText := by
  refine F.ok scIsText (fun vs H Q E h => ?_) (fun cdv A outer s H vs Q E hr h => ?_)
  · obtain ⟨z, rfl, _⟩ := h
    rfl
  · obtain ⟨z, rfl, hz, hl, q⟩ := h
    obtain ⟨u, mu, ru⟩ := N2.ch
    refine ⟨_, pss_one (ps_ret (pe_cmpR op_eq (pe_m1 PySem.F.slot_str_strip PySem.F.type_str_strip mt_stripChars (pv 0) (pe_glob (by rfl) mu ru)) pe_str (nomark _))), ?_⟩
    refine ⟨_, rfl, ⟨z, rfl⟩, z, CHS, rfl, rfl, len_line hl, rfl, ?_⟩
    rw [strip_ok hz, decide_eq_true rfl]
    exact q
/-! ### is_value, and the law's own -/
def spVal (K : PySem.W.Frag) : Sp := fun vs H Q _ => ∃ (k : Kd) (v : V) (T : String), vs = [.str (kdS k), v] ∧ Thg K H v T ∧ Q (.bl (isVal k v)) H
theorem scIsValue : FnScope ["kind", "value"] ["kind", "value"] (defScope sIsValue) := ⟨rfl, rfl, rfl, by decide +kernel, rfl, by decide +kernel, by decide +kernel⟩
theorem ok_isValue {f fT : Addr} {fd fdT : FuncData} (F : Fun K "is_value" "is_value" sIsValue f fd) (N : Nm mg) (N2 : Ct mg) (FT : Fun K "is_text" "is_text" sIsText fT fdT) (bT : Binds K fdT ["text"] []) (gT : mg "is_text" = some (.ref fT)) :
    FnOk P w K mg base CX0 2 f fd ["kind", "value"] (spVal K) := by
  have GT : FnOk P w K mg base CX0 1 fT fdT ["text"] spIsText := ok_isText FT N N2
  refine F.ok scIsValue (fun vs H Q E h => ?_) (fun cdv A outer s H vs Q E hr h => ?_)
  · obtain ⟨k, v, T, rfl, _⟩ := h
    rfl
  · obtain ⟨k, v, T, rfl, hv, q⟩ := h
    obtain ⟨ui, mui, rui⟩ := N2.ib
    obtain ⟨ut, mtb, rtb⟩ := N2.tb
    refine ⟨_, pss_cons (ps_if (pt_cmpR op_eq (pv 0) pe_str (nomark _)) (pss_one (ps_ret
        (pe_and (pe_callB call_isi (by rfl) N.isinstance (by decide +kernel) (pa_cons (pv 1) (pa_cons (pe_bltn (v := .ty "int") (by rfl) N.int (by decide +kernel) rfl) pa_nil)))
          (pe_and (pe_not (pe_callB call_isi (by rfl) N.isinstance (by decide +kernel) (pa_cons (pv 1) (pa_cons (pe_bltn (v := .ty "bool") (by rfl) N.bool (by decide +kernel) rfl) pa_nil))))
            (pe_one (pe_chain op_lt op_lt (pe_un un_neg (pe_glob (by rfl) mui rui)) (pv 1) (pe_glob (by rfl) mui rui))))))) pss_nil)
      (pss_cons (ps_if (pt_cmpR op_eq (pv 0) pe_str (nomark _)) (pss_one (ps_ret
        (pe_callB call_isi (by rfl) N.isinstance (by decide +kernel) (pa_cons (pv 1) (pa_cons (pe_bltn (v := .ty "bool") (by rfl) N.bool (by decide +kernel) rfl) pa_nil))))) pss_nil)
      (pss_one (ps_ret (pe_and (pe_cmpR op_eq (pv 0) pe_str (nomark _))
        (pe_and (pe_callB call_isi (by rfl) N.isinstance (by decide +kernel) (pa_cons (pv 1) (pa_cons (pe_bltn (v := .ty "str") (by rfl) N.str (by decide +kernel) rfl) pa_nil)))
          (pe_and (pe_cmpR op_le (pe_callB call_len_str (by rfl) N.len PySem.boot_len (pa_cons (pv 1) pa_nil)) (pe_glob (by rfl) mtb rtb) (nomark _))
            (pe_one (pe_call GT hr (by rfl) gT FT.kp bT .nil pass0 (pa_cons (pv 1) pa_nil))))))))), ?_⟩
    cases k with
    | i =>
      refine ⟨_, rfl, rfl, _, rfl, iteB (kd_int .i) ?_⟩
      refine ⟨_, rfl, v, .ty "int", .type T, .type "int", isI v, rfl, .ty _, hv.ty, hv.kI, _, rfl, ?_⟩
      cases hv with
      | int n =>
        refine iteT ⟨_, rfl, _, .ty "bool", .type "int", .type "bool", false, rfl, .ty _, .base (.int n), kit_ty (by decide +kernel), _, rfl, _, rfl, iteT ?_⟩
        refine ⟨_, rfl, _, rfl, _, n, rfl, rfl, _, rfl, ?_⟩
        by_cases e : -(10 ^ 30 : Int) < n
        · refine iteB (decide_eq_true e) ⟨n, _, rfl, rfl, ?_⟩
          have : isVal .i (.int n) = decide (n < 10 ^ 30) := by
            show (decide (-(10 ^ 30 : Int) < n) && decide (n < 10 ^ 30)) = _
            rw [decide_eq_true e, Bool.true_and]
          rwa [this] at q
        · refine iteBF (decide_eq_false e) ?_
          have : isVal .i (.int n) = false := by
            show (decide (-(10 ^ 30 : Int) < n) && decide (n < 10 ^ 30)) = _
            rw [decide_eq_false e, Bool.false_and]
          rwa [this] at q
      | bl b => exact iteT ⟨_, rfl, _, .ty "bool", .type "bool", .type "bool", true, rfl, .ty _, .base (.bl b), kit_ty (by decide +kernel), _, rfl, _, rfl, iteF q⟩
      | non => exact iteF q
      | str z h hl => exact iteF q
      | lst e => exact iteF q
      | tup e => exact iteF q
    | f =>
      refine ⟨_, rfl, rfl, _, rfl, iteBF (kd_int .f) ?_⟩
      refine ⟨_, rfl, rfl, _, rfl, iteB (kd_flag .f) ?_⟩
      refine ⟨_, rfl, v, .ty "bool", .type T, .type "bool", isB v, rfl, .ty _, hv.ty, hv.kB, ?_⟩
      cases hv <;> exact q
    | t =>
      refine ⟨_, rfl, rfl, _, rfl, iteBF (kd_int .t) ?_⟩
      refine ⟨_, rfl, rfl, _, rfl, iteBF (kd_flag .t) ?_⟩
      refine ⟨_, rfl, rfl, _, rfl, iteB (kd_text .t) ?_⟩
      refine ⟨_, rfl, v, .ty "str", .type T, .type "str", isS v, rfl, .ty _, hv.ty, hv.kS, _, rfl, ?_⟩
      cases hv with
      | str z h hl =>
        refine iteT ⟨_, rfl, z, rfl, len_line hl, _, _, rfl, rfl, _, rfl, ?_⟩
        by_cases e : (z.length : Int) ≤ 200
        · refine iteB (decide_eq_true e) ⟨_, rfl, z, rfl, h, hl, ?_⟩
          have : isVal .t (.str z) = true := decide_eq_true e
          rwa [this] at q
        · refine iteBF (decide_eq_false e) ?_
          have : isVal .t (.str z) = false := decide_eq_false e
          rwa [this] at q
      | int n => exact iteF q
      | bl b => exact iteF q
      | non => exact iteF q
      | lst e => exact iteF q
      | tup e => exact iteF q
end
end K2

namespace K2
open PySem L2
/-! ### drawn things -/
theorem int_at {ms : List Int} {xs : List V} {n : Int} (e : xs = ms.map V.int) (h0 : 0 ≤ n) (h1 : n < ms.length) : ∃ m, atI xs n = some (.int m) := by
  obtain ⟨j, rfl⟩ : ∃ j : Nat, n = (j : Int) := ⟨_, (Int.toNat_of_nonneg h0).symm⟩
  have hj : j < ms.length := by omega
  refine ⟨ms[j], atI_nat ?_⟩
  rw [e, List.getElem?_map, List.getElem?_eq_getElem hj]
  rfl
abbrev SGS : Str := "abXY z09{~.\n"
theorem sgs_ok : ∀ j, j < 12 → okc ((SGS.cps.toList[j]?).getD 0) = true ∧ (SGS.cps.toList[j]?).isSome = true := by decide +kernel
theorem sgs_at {n : Int} (h0 : 0 ≤ n) (h1 : n < 12) : ∃ c, atI SGS.cps.toList n = some c ∧ okc c = true := by
  obtain ⟨j, rfl⟩ : ∃ j : Nat, n = (j : Int) := ⟨_, (Int.toNat_of_nonneg h0).symm⟩
  obtain ⟨h2, h3⟩ := sgs_ok j (by omega)
  obtain ⟨c, hc⟩ := Option.isSome_iff_exists.mp h3
  refine ⟨c, atI_nat hc, ?_⟩
  rw [hc] at h2
  exact h2
theorem one_ok {c : Nat} (h : okc c = true) : Txt95 ⟨#[c]⟩ := fun d hd => by
  have : d = c := by simpa using hd
  rw [this]
  exact h
section
variable {P : Program} {w : World} {K : PySem.W.Frag} {mg : Str → Option Value} {base : Heap}
def spWord : Sp := fun vs H Q _ => ∃ d l : Addr, vs = [.ref d] ∧ StAt H d l ∧ ∀ H' z, Txt95 z → z.length ≤ 10 → Kp d l H H' → Q (.str z) H'
theorem scWord : FnScope ["state", "k"] ["state"] (defScope sWord) := ⟨rfl, rfl, rfl, by decide +kernel, rfl, by decide +kernel, by decide +kernel⟩
theorem sum_ones : ∀ {zs : List Str}, (∀ z ∈ zs, Txt95 z ∧ z.length = 1) → (zs.map (·.length)).sum = zs.length
  | [], _ => rfl
  | z :: r, h => by
    rw [List.map_cons, List.sum_cons, sum_ones fun y hy => h y (List.mem_cons_of_mem _ hy), (h z (List.mem_cons_self ..)).2, List.length_cons]
    omega
theorem ok_word {f fX : Addr} {fd fdX : FuncData} (F : Fun K "_law_word" "_law_word" sWord f fd) (N : Nm mg) (FX : Fun K "_law_next" "_law_next" sNext fX fdX) (bX : Binds K fdX ["state", "bound"] []) (gX : mg "_law_next" = some (.ref fX)) :
    FnOk P w K mg base CX0 2 f fd ["state"] spWord := by
  have GX : FnOk P w K mg base CX0 1 fX fdX ["state", "bound"] spNext := ok_next FX N.int N.len
  refine F.ok scWord (fun vs H Q E h => ?_) (fun cdv A outer s H vs Q E hr h => ?_)
  · obtain ⟨d, l, rfl, _⟩ := h
    rfl
  · obtain ⟨d, l, rfl, S, q⟩ := h
    refine ⟨_, pss_one (ps_ret (pe_join pe_str (pe_lc (own := [("k", 1)]) (g := gName 1) (tt := tYes) rfl scWord.nd
        (pi_range1 (by rfl) N.range (pa_cons (pe_call GX hr (by rfl) gX FX.kp bX .nil pass0 (pa_cons (pv 0) (pa_cons pe_int pa_nil))) pa_nil))
        (blkOk_by (N := ["state", "k"]) (sc := defScope sWord) (by decide +kernel))
        (fun _ _ _ _ _ => pg_name (i := 1) scWord.nd rfl (Or.inl rfl)) (fun _ _ _ _ _ => pts_nil)
        (fun _ _ _ _ _ => pe_ix ix_str pe_str (pe_call GX hr (by rfl) gX FX.kp bX .nil pass0 (pa_cons (pv 0) (pa_cons pe_int pa_nil))) (fun _ _ => rfl))))), ?_⟩
    refine ⟨⟨_, rfl⟩, _, rfl, d, l, 4, rfl, S, by decide, fun H1 n n0 n4 k1 => ?_⟩
    refine ⟨n, rfl, by omega, by omega, fun D nD => ?_⟩
    have nDd := k1.st.nd nD
    have nD0 := k1.free nD
    refine lc_range (lo := 0) (n := n.toNat) (fun i H3 => Kp d l H H3 ∧ ∃ zs : List Str, zs.length = i ∧ (∀ z ∈ zs, Txt95 z ∧ z.length = 1) ∧ H3 D = some (.lst (zs.map V.str))) ?_ ?_ ?_
    · exact ⟨k1.new nD, [], rfl, fun z hz => (List.not_mem_nil hz).elim, upd_same⟩
    · rintro i H3 hi ⟨k3, zs, hl, hz, hD⟩
      refine ⟨rfl, ?_⟩
      dsimp only [tYes]
      rw [if_pos rfl]
      refine ⟨_, rfl, d, l, 12, rfl, k3.st, by decide, fun H4 m m0 m1 k4 => ?_⟩
      obtain ⟨c, ac, oc⟩ := sgs_at m0 m1
      have hD4 := k4.keep _ _ hD nDd.1
      refine ⟨SGS, m, c, rfl, rfl, (by decide +kernel), ac, zs.map V.str, hD4, ?_, ?_⟩
      · rw [List.length_map]
        exact small1000 (by omega)
      · refine ⟨(k3.trans k4).put nD0 nDd, zs ++ [⟨#[c]⟩], ?_, ?_, ?_⟩
        · rw [List.length_append, hl]
          rfl
        · intro z hz'
          rcases List.mem_append.mp hz' with h | h
          · exact hz z h
          · rw [List.mem_singleton.mp h]
            exact ⟨one_ok oc, rfl⟩
        · rw [upd_same, List.map_append]
          rfl
    · rintro H3 ⟨k3, zs, hl, hz, hD⟩
      have hs := sum_ones hz
      refine ⟨("" : Str), D, zs, rfl, rfl, .inl (.inl (.inl hD)), ?_, ?_⟩
      · rw [hs]
        have e0 : ("" : Str).length = 0 := by decide +kernel
        rw [e0]
        omega
      · refine q H3 _ (join_ok fun y hy => (hz y hy).1) ?_ k3
        have := join_len zs
        omega
def NumOk (n : Int) : Prop := -(10 ^ 30) < n ∧ n < 10 ^ 30
theorem num_tab : ∀ m ∈ ([10 ^ (30 : Int).toNat - 1, 1 - 10 ^ (30 : Int).toNat, 10 ^ (15 : Int).toNat, 0 - 10 ^ (15 : Int).toNat, 10 ^ (29 : Int).toNat] : List Int), NumOk m := by unfold NumOk; decide +kernel
theorem num_mul {x y : Int} (x0 : 0 ≤ x) (x1 : x < 1048576) (y0 : 0 ≤ y) (y1 : y < 1048576) : NumOk (x * y - 1 * 2 ^ (39 : Int).toNat) := by
  have h1 : x * y ≤ 1048576 * 1048576 := Int.mul_le_mul (by omega) (by omega) y0 (by decide)
  have h2 : 0 ≤ x * y := Int.mul_nonneg x0 y0
  have e : (1 : Int) * 2 ^ (39 : Int).toNat = 549755813888 := by decide
  rw [e]
  exact ⟨by omega, by omega⟩
theorem int_in {ms : List Int} {xs : List V} {n : Int} (e : xs = ms.map V.int) (h0 : 0 ≤ n) (h1 : n < ms.length) : ∃ m ∈ ms, atI xs n = some (.int m) := by
  obtain ⟨j, rfl⟩ : ∃ j : Nat, n = (j : Int) := ⟨_, (Int.toNat_of_nonneg h0).symm⟩
  have hj : j < ms.length := by omega
  refine ⟨ms[j], List.getElem_mem hj, atI_nat ?_⟩
  rw [e, List.getElem?_map, List.getElem?_eq_getElem hj]
  rfl
def spNumber : Sp := fun vs H Q _ => ∃ d l : Addr, vs = [.ref d] ∧ StAt H d l ∧ ∀ H' n, NumOk n → Kp d l H H' → Q (.int n) H'
theorem scNumber : FnScope ["state", "choice"] ["state"] (defScope sNumber) := ⟨rfl, rfl, rfl, by decide +kernel, rfl, by decide +kernel, by decide +kernel⟩
theorem ok_number {f fX : Addr} {fd fdX : FuncData} (F : Fun K "_law_number" "_law_number" sNumber f fd) (N : Nm mg) (FX : Fun K "_law_next" "_law_next" sNext fX fdX) (bX : Binds K fdX ["state", "bound"] []) (gX : mg "_law_next" = some (.ref fX)) :
    FnOk P w K mg base CX0 2 f fd ["state"] spNumber := by
  have GX : FnOk P w K mg base CX0 1 fX fdX ["state", "bound"] spNext := ok_next FX N.int N.len
  refine F.ok scNumber (fun vs H Q E h => ?_) (fun cdv A outer s H vs Q E hr h => ?_)
  · obtain ⟨d, l, rfl, _⟩ := h
    rfl
  · obtain ⟨d, l, rfl, S, q⟩ := h
    refine ⟨_, pss_cons (ps_set (i := 1) scNumber.nd rfl (.inl rfl) (pe_call GX hr (by rfl) gX FX.kp bX .nil pass0 (pa_cons (pv 0) (pa_cons pe_int pa_nil))))
      (pss_cons (ps_if (pt_cmpR op_eq (pv 1) pe_int (nomark _)) (pss_one (ps_ret (pe_ix ix_list
          (pe_lst (pa_cons (pe_op op_sub (pe_op op_pow pe_int pe_int) pe_int) (pa_cons (pe_op op_sub pe_int (pe_op op_pow pe_int pe_int)) (pa_cons (pe_op op_pow pe_int pe_int) (pa_cons (pe_op op_sub pe_int (pe_op op_pow pe_int pe_int)) (pa_cons (pe_op op_pow pe_int pe_int) pa_nil))))))
          (pe_call GX hr (by rfl) gX FX.kp bX .nil pass0 (pa_cons (pv 0) (pa_cons pe_int pa_nil))) (fun _ _ => rfl)))) pss_nil)
      (pss_cons (ps_if (pt_cmpR op_eq (pv 1) pe_int (nomark _)) (pss_one (ps_ret (pe_op op_sub (pe_op op_mul
          (pe_call GX hr (by rfl) gX FX.kp bX .nil pass0 (pa_cons (pv 0) (pa_cons (pe_op op_shl pe_int pe_int) pa_nil)))
          (pe_call GX hr (by rfl) gX FX.kp bX .nil pass0 (pa_cons (pv 0) (pa_cons (pe_op op_shl pe_int pe_int) pa_nil)))) (pe_op op_shl pe_int pe_int)))) pss_nil)
      (pss_one (ps_ret (pe_op op_sub (pe_call GX hr (by rfl) gX FX.kp bX .nil pass0 (pa_cons (pv 0) (pa_cons pe_int pa_nil))) pe_int))))), ?_⟩
    refine ⟨_, rfl, d, l, 9, rfl, S, by decide, fun H1 n n0 n1 k1 => ?_⟩
    refine ⟨_, rfl, rfl, _, rfl, ite2 (fun _ => ?_) (fun _ => ?_)⟩
    · refine ⟨10, 30, rfl, rfl, ⟨by decide, by decide, by decide⟩, _, 1, rfl, rfl, 10, 30, rfl, rfl, ⟨by decide, by decide, by decide⟩, 1, _, rfl, rfl, 10, 15, rfl, rfl, ⟨by decide, by decide, by decide⟩,
        10, 15, rfl, rfl, ⟨by decide, by decide, by decide⟩, 0, _, rfl, rfl, 10, 29, rfl, rfl, ⟨by decide, by decide, by decide⟩, (by show 5 ≤ sizeLine; decide), fun p np => ?_⟩
      have k2 := k1.new (o := .lst [.int (10 ^ (30 : Int).toNat - 1), .int (1 - 10 ^ (30 : Int).toNat), .int (10 ^ (15 : Int).toNat), .int (0 - 10 ^ (15 : Int).toNat), .int (10 ^ (29 : Int).toNat)]) np
      refine ⟨_, rfl, d, l, 5, rfl, k2.st, by decide, fun H3 m m0 m1 k3 => ?_⟩
      obtain ⟨r, hrm, hr⟩ := int_in (ms := [10 ^ (30 : Int).toNat - 1, 1 - 10 ^ (30 : Int).toNat, 10 ^ (15 : Int).toNat, 0 - 10 ^ (15 : Int).toNat, 10 ^ (29 : Int).toNat]) rfl m0 m1
      exact ⟨p, _, m, _, rfl, rfl, .inl (.inl (k3.keep _ _ upd_same (k1.st.nd np).1)), hr, q H3 r (num_tab r hrm) (k2.trans k3)⟩
    · refine ⟨_, rfl, rfl, _, rfl, ite2 (fun _ => ?_) (fun _ => ?_)⟩
      · refine ⟨_, rfl, 1, 20, rfl, rfl, ⟨by decide, by decide, by decide⟩, d, l, 1048576, rfl, k1.st, by decide, fun H2 x x0 x1 k2 => ?_⟩
        refine ⟨_, rfl, 1, 20, rfl, rfl, ⟨by decide, by decide, by decide⟩, d, l, 1048576, rfl, k2.st, by decide, fun H3 y y0 y1 k3 => ?_⟩
        exact ⟨x, y, rfl, rfl, .inl ⟨by omega, by omega⟩, 1, 39, rfl, rfl, ⟨by decide, by decide, by decide⟩, _, _, rfl, rfl, q H3 _ (num_mul x0 x1 y0 y1) ((k1.trans k2).trans k3)⟩
      · exact ⟨_, rfl, d, l, 13, rfl, k1.st, by decide, fun H2 x x0 x1 k2 => ⟨x, 6, rfl, rfl, q H2 _ ⟨by omega, by omega⟩ (k1.trans k2)⟩⟩
def spThing : Sp := fun vs H Q _ => ∃ (d l : Addr) (k : Kd), vs = [.ref d, .str (kdS k)] ∧ StAt H d l ∧ ∀ H' v, OfK k v → isVal k v = true → Kp d l H H' → Q v H'
theorem scThing : FnScope ["state", "kind"] ["state", "kind"] (defScope sThing) := ⟨rfl, rfl, rfl, by decide +kernel, rfl, by decide +kernel, by decide +kernel⟩
abbrev tilde : Str := "~"
theorem reps_ok : ∀ j, j < 3 → ∃ z, ([("~" : Str), "ab", " "] : List Str)[j]? = some z ∧ Txt95 z ∧ z.length ≤ 2
  | 0, _ => ⟨_, rfl, by unfold Txt95; decide +kernel, by decide +kernel⟩
  | 1, _ => ⟨_, rfl, by unfold Txt95; decide +kernel, by decide +kernel⟩
  | 2, _ => ⟨_, rfl, by unfold Txt95; decide +kernel, by decide +kernel⟩
  | j + 3, h => absurd h (by omega)
theorem str_at {zs : List Str} {xs : List V} {n : Int} (e : xs = zs.map V.str) (h0 : 0 ≤ n) (h1 : n < zs.length) : ∃ j : Nat, n = (j : Int) ∧ j < zs.length ∧ ∀ z, zs[j]? = some z → atI xs n = some (.str z) := by
  obtain ⟨j, rfl⟩ : ∃ j : Nat, n = (j : Int) := ⟨_, (Int.toNat_of_nonneg h0).symm⟩
  refine ⟨j, rfl, by omega, fun z hz => atI_nat ?_⟩
  rw [e, List.getElem?_map, hz]
  rfl
theorem ok_thing {f fX fW fU : Addr} {fd fdX fdW fdU : FuncData} (F : Fun K "_law_thing" "_law_thing" sThing f fd) (N : Nm mg) (FX : Fun K "_law_next" "_law_next" sNext fX fdX) (bX : Binds K fdX ["state", "bound"] []) (gX : mg "_law_next" = some (.ref fX))
    (FW : Fun K "_law_word" "_law_word" sWord fW fdW) (bW : Binds K fdW ["state"] []) (gW : mg "_law_word" = some (.ref fW)) (FU : Fun K "_law_number" "_law_number" sNumber fU fdU) (bU : Binds K fdU ["state"] []) (gU : mg "_law_number" = some (.ref fU)) :
    FnOk P w K mg base CX0 3 f fd ["state", "kind"] spThing := by
  have GX : FnOk P w K mg base CX0 1 fX fdX ["state", "bound"] spNext := ok_next FX N.int N.len
  have GW : FnOk P w K mg base CX0 2 fW fdW ["state"] spWord := ok_word FW N FX bX gX
  have GU : FnOk P w K mg base CX0 2 fU fdU ["state"] spNumber := ok_number FU N FX bX gX
  refine F.ok scThing (fun vs H Q E h => ?_) (fun cdv A outer s H vs Q E hr h => ?_)
  · obtain ⟨d, l, k, rfl, _⟩ := h
    rfl
  · obtain ⟨d, l, k, rfl, S, q⟩ := h
    have hr1 := hr.mono (j := 1) (by decide)
    refine ⟨_, pss_cons (ps_if (pt_cmpR op_eq (pv 1) pe_str (nomark _)) (pss_one (ps_ret (pe_call GU hr (by rfl) gU FU.kp bU .nil pass0 (pa_cons (pv 0) pa_nil)))) pss_nil)
      (pss_cons (ps_if (pt_cmpR op_eq (pv 1) pe_str (nomark _)) (pss_one (ps_ret (pe_cmpR op_eq (pe_call GX hr1 (by rfl) gX FX.kp bX .nil pass0 (pa_cons (pv 0) (pa_cons pe_int pa_nil))) pe_int (nomark _)))) pss_nil)
      (pss_cons (ps_if (pt_cmpR op_eq (pe_call GX hr1 (by rfl) gX FX.kp bX .nil pass0 (pa_cons (pv 0) (pa_cons pe_int pa_nil))) pe_int (nomark _))
        (pss_one (ps_ret (pe_op op_mul_str (pe_ix ix_list (pe_lst (pa_cons pe_str (pa_cons pe_str (pa_cons pe_str pa_nil)))) (pe_call GX hr1 (by rfl) gX FX.kp bX .nil pass0 (pa_cons (pv 0) (pa_cons pe_int pa_nil))) (fun _ _ => rfl))
          (pe_ix ix_list (pe_lst (pa_cons pe_int (pa_cons pe_int (pa_cons pe_int pa_nil)))) (pe_call GX hr1 (by rfl) gX FX.kp bX .nil pass0 (pa_cons (pv 0) (pa_cons pe_int pa_nil))) (fun _ _ => rfl))))) pss_nil)
      (pss_one (ps_ret (pe_call GW hr (by rfl) gW FW.kp bW .nil pass0 (pa_cons (pv 0) pa_nil)))))), ?_⟩
    refine ⟨_, rfl, rfl, _, rfl, ?_⟩
    cases k with
    | i => exact iteB (kd_int .i) ⟨_, rfl, d, l, rfl, S, fun H1 n hn k1 => q H1 _ ⟨n, rfl⟩ (by show (decide _ && decide _) = true; rw [Bool.and_eq_true, decide_eq_true_eq, decide_eq_true_eq]; exact hn) k1⟩
    | f =>
      refine iteBF (kd_int .f) ⟨_, rfl, rfl, _, rfl, iteB (kd_flag .f) ?_⟩
      exact ⟨_, rfl, d, l, 2, rfl, S, by decide, fun H1 n n0 n1 k1 => ⟨rfl, q H1 _ ⟨_, rfl⟩ rfl k1⟩⟩
    | t =>
      refine iteBF (kd_int .t) ⟨_, rfl, rfl, _, rfl, iteBF (kd_flag .t) ?_⟩
      refine ⟨_, rfl, d, l, 12, rfl, S, by decide, fun H1 n n0 n1 k1 => ⟨rfl, _, rfl, ite2 (fun _ => ?_) (fun _ => ?_)⟩⟩
      · refine ⟨(by show 3 ≤ sizeLine; decide), fun p np => ?_⟩
        have k2 := k1.new (o := .lst [.str "~", .str "ab", .str " "]) np
        refine ⟨_, rfl, d, l, 3, rfl, k2.st, by decide, fun H3 m m0 m1 k3 => ?_⟩
        obtain ⟨j, rfl, hj, hat⟩ := str_at (zs := [("~" : Str), "ab", " "]) rfl m0 m1
        obtain ⟨z, hz, oz, lz⟩ := reps_ok j hj
        refine ⟨p, _, _, _, rfl, rfl, .inl (.inl (k3.keep _ _ upd_same (k1.st.nd np).1)), hat z hz, ?_⟩
        refine ⟨(by show 3 ≤ sizeLine; decide), fun p2 np2 => ?_⟩
        have k4 := (k2.trans k3).new (o := .lst [.int 100, .int 99, .int 60]) np2
        refine ⟨_, rfl, d, l, 3, rfl, k4.st, by decide, fun H5 m m0 m1 k5 => ?_⟩
        obtain ⟨j2, rfl⟩ : ∃ j : Nat, m = (j : Int) := ⟨_, (Int.toNat_of_nonneg m0).symm⟩
        obtain ⟨r, hr, r0, r1⟩ : ∃ r : Int, ([.int 100, .int 99, .int 60] : List V)[j2]? = some (.int r) ∧ 0 ≤ r ∧ r ≤ 100 := by
          match j2, m1 with
          | 0, _ => exact ⟨_, rfl, by decide, by decide⟩
          | 1, _ => exact ⟨_, rfl, by decide, by decide⟩
          | 2, _ => exact ⟨_, rfl, by decide, by decide⟩
          | j + 3, h => exact absurd h (by omega)
        refine ⟨p2, _, _, _, rfl, rfl, .inl (.inl (k5.keep _ _ upd_same ((k2.trans k3).st.nd np2).1)), atI_nat hr, ?_⟩
        have h1 := mul_len (z := z) (n := r)
        have h2 : r.toNat * z.length ≤ 100 * 2 := Nat.mul_le_mul (by omega) lz
        refine ⟨z, r, rfl, rfl, mul_may r0 (by omega) (by omega), q H5 _ ⟨_, rfl, mul_ok oz, by omega⟩ (by show decide _ = true; exact decide_eq_true (by omega)) (k4.trans k5)⟩
      · exact ⟨_, rfl, d, l, rfl, k1.st, fun H2 z oz lz k2 => q H2 _ ⟨z, rfl, oz, by omega⟩ (by show decide _ = true; exact decide_eq_true (by omega)) (k1.trans k2)⟩
end
end K2

/-! enumerate over a tuple -/
namespace K2
open PySem PySem.Spec PyProof.Rows L2
section
variable {prog : Program} {w : World} {A : Around} {E : Value → Shared → Prop} {s : Shared}
theorem enew1 {v : Value} {o : Obj} {Hh : Heap → Prop} (B : Begins v o Hh) : Meets (Builtin.«enumerate.__new__» ⟨[.type "enumerate", v], []⟩) (fun _ R s0 => Hh s0.heap ∧
    R (.ok (.ret (.ref (s0.heap.push o).objs.size))) { s0 with heap := (s0.heap.push o).push ⟨.type "enumerate", none, .fields #[.none, .bool false, .ref s0.heap.objs.size, rawInt 0, .none, .none], #[]⟩ }) := .of_wp fun pr w0 A0 R s0 z => by
  obtain ⟨z1, z2⟩ := z
  obtain ⟨hp, g, dd, tk, os⟩ := s0
  have sb := sub_enumerate
  have it1 : ∀ {A' : Around} {E' : Value → Shared → Prop} {Q' : Value → Shared → Prop}, Q' (.ref hp.objs.size) ⟨hp.push o, g, dd, tk, os⟩ → wpAny (model pr w0) A' (pyIter v) Q' E' ⟨hp, g, dd, tk, os⟩ := fun z3 => B.iter pr w0 _ _ ⟨hp, g, dd, tk, os⟩ _ z1 z3
  wp_walk using it1
  refine wpAny_stack_any fun _ => ?_
  refine wpAny_pure ?_
  split
  · rename_i c _ _ _ _ _
    cases (c == Value.type "enumerate") <;> (wp_walk using it1; exact ⟨_, rfl, z2⟩)
  · wp_walk using it1
    exact ⟨_, rfl, z2⟩
theorem ecall1 {v : Value} {o : Obj} {Hh : Heap → Prop} {Q : Value → Shared → Prop} (B : Begins v o Hh) (z1 : Hh s.heap)
    (z : ∀ h2, IsEnum h2 (s.heap.objs.size + 1) s.heap.objs.size 0 .none → h2.get? s.heap.objs.size = some o → (∀ b u, s.heap.get? b = some u → h2.get? b = some u) → Q (.ref (s.heap.objs.size + 1)) { s with heap := h2 }) :
    wpAny (model prog w) A (call (.type "enumerate") [v]) Q E s := by
  have sz : (s.heap.push o).objs.size = s.heap.objs.size + 1 := Heap.size_push ..
  refine callType_new F.called_enumerate (by decide) (F.typeCall_enumerate_1 _) (F.newCall_enumerate_1 _) (fun ob => F.args_object_init_2 ob _) F.entry_enumerate_new (enew1 B) ⟨z1, ?_⟩
  show _ ∧ _
  rw [sz]
  have en : IsEnum ((s.heap.push o).push ⟨.type "enumerate", none, .fields #[.none, .bool false, .ref s.heap.objs.size, rawInt 0, .none, .none], #[]⟩) (s.heap.objs.size + 1) s.heap.objs.size 0 .none := by
    have y := Heap.get?_push_size (s.heap.push o) (o := ⟨.type "enumerate", none, .fields #[.none, .bool false, .ref s.heap.objs.size, rawInt 0, .none, .none], #[]⟩) rfl
    rw [sz] at y
    exact y
  exact ⟨⟨_, en, rfl⟩, z _ en (Heap.get?_push_of_some _ (Heap.get?_push_size _ B.free)) fun b u y => Heap.get?_push_of_some _ (Heap.get?_push_of_some _ y)⟩
end
/-- the tuple at a, each item in a new pair with its number -/
def IteT (K : PySem.W.Frag) (a : Addr) (xs : List V) : It :=
  ⟨fun i H => SqT K H a xs ∧ i < xs.length, fun i H v H' => ∃ T x, v = .ref T ∧ H T = none ∧ H' = upd H T (.tup [.int (i : Nat), x]) ∧ xs[i]? = some x, fun i H => SqT K H a xs ∧ xs.length = i⟩
theorem tu_enumT {P : Program} {w : World} {K : PySem.W.Frag} {elts : List Expr} {kk : Nat} {tpos : Pos} (a e it : Addr) (xs : List V) :
    Turn P w K (.Tuple elts kk tpos) (IteT K a xs) [e, it] e (fun i h => (∃ old, IsEnum h e it ((i : Nat) : Int) old) ∧ h.IsTupleIter it a i ∧ e ≠ it) := by
  have apart : ∀ {h : Heap} {i : Nat} {old : Value} {its : Array Value}, IsEnum h e it (i : Int) old → h.IsTupleIter it a i → h.IsTuple a its → e ≠ a ∧ a ≠ it := by
    rintro h i old its q1 ⟨o, q2, q3, _⟩ ⟨o', q4, q5, _⟩
    refine ⟨fun z => ?_, fun z => ?_⟩
    · rw [← z, q1] at q4
      have y := Option.some.inj q4
      rw [← y] at q5
      exact absurd (Value.type.inj q5) (by decide)
    · rw [z, q2] at q4
      have y := Option.some.inj q4
      rw [← y, q3] at q5
      exact absurd (Value.type.inj q5) (by decide)
  refine ⟨by simp, ?_, ?_, ?_, ?_, ?_⟩
  · rintro i h ⟨⟨old, q1⟩, ⟨o, q2, q3, q4⟩, _⟩ b hb
    rcases List.mem_cons.mp hb with rfl | hb
    · exact ⟨_, q1, fun v z => nomatch z⟩
    · rw [List.mem_singleton.mp hb]
      exact ⟨o, q2, fun v z => by rw [q4] at z; cases z⟩
  · rintro i h h' ⟨⟨old, q1⟩, q2, q3⟩ k
    exact ⟨⟨old, k e (by simp) _ q1⟩, q2.at fun o q => k it (by simp) o q, q3⟩
  · intro X hP hw hK hc i pins s σ H E I hf st hg
    subst hP hw hK
    obtain ⟨⟨old, q1⟩, q2, ne⟩ := st
    obtain ⟨hq, hi⟩ := hg
    obtain ⟨its, rv, p, _⟩ := I.tuple hq
    have pt : s.heap.IsTuple a its.toArray := p
    obtain ⟨na, nt⟩ := apart q1 q2 pt
    have hi2 : i < its.toArray.size := by rw [List.size_toArray, ← rv.length]; exact hi
    obtain ⟨u, hu, ru⟩ := rv.get (List.getElem?_eq_getElem hi)
    have l1 : e < s.heap.objs.size := Heap.lt_size q1
    have l2 : it < s.heap.objs.size := by obtain ⟨_, q, _⟩ := q2; exact Heap.lt_size q
    refine wpAny_pyNext_enum_itemD (Draws.tuple (prog := X.prog) (w := X.w) (A := X.A.in1) (I.ok.hd hc) it a nt its.toArray) q1 ⟨q2, pt⟩ hi2 ne (by simp [ne, na]) fun x h2 tk hPx ho hst hT hsz hk => ?_
    have ex : x = u := by
      have y : its.toArray[i]? = some x := hPx
      rw [List.getElem?_toArray, hu] at y
      exact (Option.some.inj y).symm
    subst ex
    refine ⟨_, rfl, wpAny_letOwnedTupleGo_enum (s := { s with heap := h2, toks := tk + 1 }) ho fun h3 he3 sb => ?_⟩
    have hT3 : h3.get? s.heap.objs.size = some { cls := .type "tuple", data := .seq #[.int i tk, x] } := (sb.2 _ (Nat.ne_of_gt l1)).trans hT
    have sm3 : ∀ b ob, b ∉ [e, it] → s.heap.get? b = some ob → h3.get? b = some ob := fun b ob hb q => by
      have n1 : b ≠ e := fun z => hb (by simp [z])
      have n2 : b ≠ it := fun z => hb (by simp [z])
      exact (sb.2 b n1).trans (hk b ob n1 n2 q)
    have nw : ObjOk X.prog X.w (upd H s.heap.objs.size (.tup [.int (i : Nat), xs[i]])) h3 s.heap.objs.size (.tup [.int (i : Nat), xs[i]]) :=
      ⟨by show 2 ≤ sizeLine; decide, [.int i tk, x], .cons ⟨_, rfl⟩ (.cons ru .nil), _, hT3, rfl, _, rfl⟩
    have I3 := I.turnedNew (t' := tk + 1) (ch := [e, it]) sm3 hf (Nat.le_refl _) nw
    refine ⟨.ref s.heap.objs.size, _, I3, rfl, ⟨_, xs[i], rfl, I.hok.fresh (Nat.le_refl _), rfl, List.getElem?_eq_getElem hi⟩, ⟨⟨x, ?_⟩, hst.1.at fun o q => (sb.2 it ne.symm).trans q, ne⟩, fun b hb => ?_⟩
    · have y : ((i + 1 : Nat) : Int) = (i : Int) + 1 := by omega
      rw [y]
      exact he3
    · have lb : b < s.heap.objs.size := by
        rcases List.mem_cons.mp hb with rfl | hb
        · exact l1
        · rw [List.mem_singleton.mp hb]
          exact l2
      rw [upd_ne (Nat.ne_of_lt lb)]
      exact (hf b hb).1
  · intro X hP hw hK hc i pins s σ H E I hf st hg
    subst hP hw hK
    obtain ⟨⟨old, q1⟩, q2, ne⟩ := st
    obtain ⟨hq, hi⟩ := hg
    obtain ⟨its, rv, p, _⟩ := I.tuple hq
    have pt : s.heap.IsTuple a its.toArray := p
    obtain ⟨na, nt⟩ := apart q1 q2 pt
    obtain ⟨f0, f1, f2, f3, f4, f5⟩ := hf it (by simp)
    have hi2 : i = its.toArray.size := by rw [List.size_toArray, ← rv.length]; exact hi.symm
    subst hi2
    exact wpAny_pyNext_enum_endD (Draws.tuple (prog := X.prog) (w := X.w) (A := X.A.in1) (I.ok.hd hc) it a nt its.toArray) q1 ⟨q2, pt⟩ fun h2 eb => ⟨rfl, I.turned (t' := s.toks) (fun b o hb q => eb b o hb q) f0 f1 f3 f4 f5⟩
  · exact fun A i s Q E st h => let ⟨⟨_, q⟩, _⟩ := st; wpAny_pyIter_enum q h
def iEnumT (K : PySem.W.Frag) (ta : TA) : TI := fun σ H R => ta σ H fun vs H1 => ∃ a xs, vs = [.ref a] ∧ SqT K H1 a xs ∧ R (IteT K a xs) H1
theorem pi_enumT {X : Cx} {e : Expr} {ta : TA} {p pos tpos : Pos} {elts : List Expr} {kk : Nat} (hg : Gl X "enumerate") (hm : X.mg "enumerate" = none) (ha : PA X [e] ta) (hs : starEach [e] X.env = [(false, eval e X.env)] := by rfl) :
    PI X (.Tuple elts kk tpos) (.Call (.Name "enumerate" p) [e] [] pos) (iEnumT X.K ta) := by
  refine ⟨fun pins s σ H R I h => Call_ (ld_blt I hg hm boot_enumerate (PyProof.Rows.callWith_type1 (thn (ha.run pos pins s σ H _ I h) fun us s1 ⟨vs, H1, I1, r1, a, xs, ex, hq, q⟩ => ?_) hs rfl))⟩
  subst ex
  obtain ⟨its, rv, p', _⟩ := I1.tuple hq
  cases r1 with
  | cons r rr =>
    cases rr
    cases r
    refine ecall1 (begins_tuple a its.toArray) p' fun h2 he ht hk => wpAny_pyIter_enum he ?_
    refine ⟨s1.heap.objs.size + 1, [s1.heap.objs.size + 1, s1.heap.objs.size], _, _, H1, rfl, I1.kept (t' := s1.toks) hk, tu_enumT a (s1.heap.objs.size + 1) s1.heap.objs.size xs, ⟨⟨.none, he⟩, ⟨_, ht, rfl, rfl⟩, Nat.succ_ne_self _⟩, fun b hb => ?_, q⟩
    have lb : s1.heap.objs.size ≤ b := by
      rcases List.mem_cons.mp hb with rfl | hb
      · exact Nat.le_succ _
      · rw [List.mem_singleton.mp hb]
        exact Nat.le_refl _
    exact I1.fpOk lb (I1.hok.fresh lb)
theorem walk_enumT {K : PySem.W.Frag} {a : Addr} {xs : List V} : Walk (IteT K a xs) xs.length (fun H => SqT K H a xs) (YPair (fun i => some (.int (i : Nat))) (fun i => xs[i]?)) :=
  ⟨fun i _ hi q => ⟨q, hi⟩, fun _ q => ⟨q, rfl⟩, fun i H v H' _ q ⟨T, x, h1, h2, h3, h4⟩ => ⟨T, .int (i : Nat), x, h1, h2, h3, rfl, h4⟩⟩
end K2

namespace K2
open PySem L2
structure D where
  n : Str
  l : Int
  h : Int
  s : Int
structure T where
  n : Str
  k : Str
def D.v (d : D) : List V := [.str d.n, .int d.l, .int d.h, .int d.s]
def T.v (t : T) : List V := [.str t.n, .str t.k]
def D.p (d : D) : PyData := .tuple [.str d.n, .int d.l, .int d.h, .int d.s]
def T.p (t : T) : PyData := .tuple [.str t.n, .str t.k]
def Rows (H : Hp) (xs : List V) (rs : List (List V)) : Prop := xs.length = rs.length ∧ ∀ (i : Nat) (r : List V), rs[i]? = some r → ∃ a, xs[i]? = some (V.ref a) ∧ H a = some (.tup r)
theorem Rows.same {H H1 : Hp} {xs : List V} {rs : List (List V)} (h : Rows H xs rs) (e : Same H H1) : Rows H1 xs rs := ⟨h.1, fun i r hr => let ⟨a, h1, h2⟩ := h.2 i r hr; ⟨a, h1, e _ _ h2⟩⟩
theorem Rows.keep {H H1 : Hp} {xs : List V} {rs : List (List V)} (h : Rows H xs rs) (e : ∀ a r, H a = some (.tup r) → H1 a = some (.tup r)) : Rows H1 xs rs := ⟨h.1, fun i r hr => let ⟨a, h1, h2⟩ := h.2 i r hr; ⟨a, h1, e _ _ h2⟩⟩
theorem Rows.nil {H : Hp} : Rows H [] [] := ⟨rfl, fun i r h => by simp at h⟩
theorem Rows.push {H : Hp} {xs : List V} {rs : List (List V)} {a : Addr} {r : List V} (h : Rows H xs rs) (e : H a = some (.tup r)) : Rows H (xs ++ [V.ref a]) (rs ++ [r]) := by
  refine ⟨by rw [List.length_append, List.length_append, h.1]; rfl, fun i q hq => ?_⟩
  rcases Nat.lt_trichotomy i rs.length with hi | hi | hi
  · rw [List.getElem?_append_left hi] at hq
    obtain ⟨b, h1, h2⟩ := h.2 i q hq
    exact ⟨b, by rw [List.getElem?_append_left (by rw [h.1]; exact hi)]; exact h1, h2⟩
  · subst hi
    rw [List.getElem?_append_right (Nat.le_refl _), Nat.sub_self] at hq
    have : r = q := Option.some.inj hq
    subst this
    exact ⟨a, by rw [List.getElem?_append_right (Nat.le_of_eq h.1), h.1, Nat.sub_self]; rfl, e⟩
  · rw [List.getElem?_eq_none (by rw [List.length_append, List.length_singleton]; omega)] at hq
    cases hq
theorem Rows.cons {H : Hp} {xs : List V} {rs : List (List V)} {a : Addr} {r : List V} (h : Rows H xs rs) (e : H a = some (.tup r)) : Rows H (V.ref a :: xs) (r :: rs) := by
  refine ⟨by rw [List.length_cons, List.length_cons, h.1], fun i q hq => ?_⟩
  cases i with
  | zero =>
    have : r = q := Option.some.inj hq
    subst this
    exact ⟨a, rfl, e⟩
  | succ i =>
    obtain ⟨b, h1, h2⟩ := h.2 i q hq
    exact ⟨b, h1, h2⟩
theorem Rows.set {H : Hp} {xs : List V} {rs : List (List V)} {a : Addr} {r : List V} (h : Rows H xs rs) (j : Nat) (e : H a = some (.tup r)) : Rows H (xs.set j (V.ref a)) (rs.set j r) := by
  refine ⟨by rw [List.length_set, List.length_set, h.1], fun i q hq => ?_⟩
  rw [List.getElem?_set] at hq
  by_cases hij : j = i
  · subst hij
    rw [if_pos rfl] at hq
    by_cases hj : j < rs.length
    · rw [if_pos hj] at hq
      have : r = q := Option.some.inj hq
      subst this
      exact ⟨a, by rw [List.getElem?_set, if_pos rfl, if_pos (by rw [h.1]; exact hj)], e⟩
    · rw [if_neg hj] at hq
      cases hq
  · rw [if_neg hij] at hq
    obtain ⟨b, h1, h2⟩ := h.2 i q hq
    exact ⟨b, by rw [List.getElem?_set, if_neg hij]; exact h1, h2⟩
def optV : Option Nat → V
  | none => .non
  | some i => .int (i : Int)
/-- the first row of a name -/
def IsIdx (ns : List Str) (n : Str) : Option Nat → Prop
  | none => n ∉ ns
  | some i => ns[i]? = some n ∧ ∀ j < i, ns[j]? ≠ some n
theorem idx_one {ns : List Str} {n : Str} : ∀ {r q : Option Nat}, IsIdx ns n r → IsIdx ns n q → r = q
  | none, none, _, _ => rfl
  | none, some j, h, g => absurd (List.mem_of_getElem? g.1) h
  | some j, none, g, h => absurd (List.mem_of_getElem? g.1) h
  | some i, some j, h, g => by
    rcases Nat.lt_trichotomy i j with e | e | e
    · exact absurd h.1 (g.2 i e)
    · rw [e]
    · exact absurd g.1 (h.2 j e)
structure ShC (K : PySem.W.Frag) (C fI fE : Addr) : Prop where
  mm : Mk K C fI
  cl : Cls K C
  nD : NoAttr K C "dims"
  nA : NoAttr K C "attrs"
  eq : PySem.W.findIn K (.ref C) "__eq__" = some (some (.ref fE))
  ef : PySem.W.isFn K (.ref fE) = true
  n1 : PySem.W.notFirst K C (.ref C) = true
  n2 : PySem.W.notFirst K C (.type "tuple") = true
  ha : PySem.W.findIn K (.ref C) "__class__" = some (some (.builtin "object.__class__"))
  hn : PySem.W.specialIn K (.builtin "object.__class__") "__get__" = some (some (.builtin "getset_descriptor.__get__"))
  htk : PySem.W.takesIn K (.builtin "object.__class__") = some true
  hm : PySem.W.mroIn K C (.type "object") = some true
  k1 : PySem.W.kitOne K (.ref C) (.ref C) = some true
  k2 : PySem.W.kitOne K (.type "tuple") (.ref C) = some false
def ShapeAt (H : Hp) (C a : Addr) (ds : List D) (ts : List T) : Prop := ∃ (dx td ta : Addr) (xs ys : List V), H a = some (.ins C dx [("dims", .ref td), ("attrs", .ref ta)]) ∧ H td = some (.tup xs) ∧ Rows H xs (ds.map D.v) ∧ H ta = some (.tup ys) ∧ Rows H ys (ts.map T.v)
theorem ShapeAt.same {H H1 : Hp} {C a : Addr} {ds : List D} {ts : List T} (h : ShapeAt H C a ds ts) (e : Same H H1) : ShapeAt H1 C a ds ts := by
  obtain ⟨dx, td, ta, xs, ys, h1, h2, h3, h4, h5⟩ := h
  exact ⟨dx, td, ta, xs, ys, e _ _ h1, e _ _ h2, h3.same e, e _ _ h4, h5.same e⟩
section
variable {P : Program} {w : World} {K : PySem.W.Frag} {mg : Str → Option Value} {base : Heap}
/-! ### a shape -/
def spShInit (K : PySem.W.Frag) (C fI fE : Addr) : Sp := fun vs H Q _ => ∃ (x dx : Addr) (u v : V), vs = [.ref x, u, v] ∧ H x = some (.ins C dx []) ∧ Q .non (upd (upd H x (.ins C dx [("dims", u)])) x (.ins C dx [("dims", u), ("attrs", v)]))
theorem scShInit : FnScope ["self", "dims", "attrs"] ["self", "dims", "attrs"] (defScope sShInit) := ⟨rfl, rfl, rfl, by decide +kernel, rfl, by decide +kernel, by decide +kernel⟩
theorem ok_shInit {f C fE : Addr} {fd : FuncData} (F : Fun K "__init__" "Shape.__init__" sShInit f fd) (S : ShC K C f fE) : FnOk P w K mg base CX0 1 f fd ["self", "dims", "attrs"] (spShInit K C f fE) := by
  refine F.ok scShInit (fun vs H Q E h => ?_) (fun cdv A outer s H vs Q E hr h => ?_)
  · obtain ⟨x, dx, u, v, rfl, _⟩ := h
    rfl
  · obtain ⟨x, dx, u, v, rfl, hx, q⟩ := h
    refine ⟨_, pss_cons (ps_fld (pv 0) (pv 1) rfl) (pss_one (ps_fld (pv 0) (pv 2) rfl)), ?_⟩
    refine ⟨_, rfl, _, rfl, x, C, dx, [], rfl, hx, S.cl, S.nD, (by decide), ?_⟩
    exact ⟨_, rfl, _, rfl, x, C, dx, [("dims", u)], rfl, upd_same, S.cl, S.nA, (by show 1 < 1000; decide), q⟩
end
section
variable {P : Program} {w : World} {K : PySem.W.Frag} {mg : Str → Option Value} {base : Heap}
def Heads (rs : List (List V)) (ns : List Str) : Prop := rs.length = ns.length ∧ ∀ (i : Nat) (r : List V), rs[i]? = some r → ∃ m t, ns[i]? = some m ∧ r = .str m :: t
theorem headsD (ds : List D) : Heads (ds.map D.v) (ds.map (·.n)) := by
  refine ⟨by rw [List.length_map, List.length_map], fun i r h => ?_⟩
  rw [List.getElem?_map] at h ⊢
  cases e : ds[i]? with
  | none =>
    rw [e] at h
    cases h
  | some d =>
    rw [e] at h
    have : d.v = r := Option.some.inj h
    subst this
    exact ⟨d.n, _, rfl, rfl⟩
theorem headsT (ds : List T) : Heads (ds.map T.v) (ds.map (·.n)) := by
  refine ⟨by rw [List.length_map, List.length_map], fun i r h => ?_⟩
  rw [List.getElem?_map] at h ⊢
  cases e : ds[i]? with
  | none =>
    rw [e] at h
    cases h
  | some d =>
    rw [e] at h
    have : d.v = r := Option.some.inj h
    subst this
    exact ⟨d.n, _, rfl, rfl⟩
def spIndex : Sp := fun vs H Q _ => ∃ (a : Addr) (n : Str) (xs : List V) (rs : List (List V)) (ns : List Str), vs = [.ref a, .str n] ∧ H a = some (.tup xs) ∧ Rows H xs rs ∧ Heads rs ns ∧ ∀ r, IsIdx ns n r → ∀ H', Same H H' → Q (optV r) H'
theorem scIndex : FnScope ["rows", "name", "index", "row"] ["rows", "name"] (defScope sIndex) := ⟨rfl, rfl, rfl, by decide +kernel, rfl, by decide +kernel, by decide +kernel⟩
theorem str_eq (a b : Str) : decide (V.str a = V.str b) = decide (a = b) := by
  by_cases e : a = b
  · subst e
    rw [decide_eq_true rfl, decide_eq_true rfl]
  · rw [decide_eq_false e, decide_eq_false fun h => e (V.str.inj h)]
theorem row_at {H : Hp} {xs : List V} {rs : List (List V)} {ns : List Str} {i : Nat} (hR : Rows H xs rs) (hN : Heads rs ns) (hi : i < xs.length) : ∃ b m t, xs[i]? = some (V.ref b) ∧ H b = some (.tup (.str m :: t)) ∧ ns[i]? = some m := by
  have h1 : i < rs.length := by rw [← hR.1]; exact hi
  obtain ⟨b, e1, e2⟩ := hR.2 i _ (List.getElem?_eq_getElem h1)
  obtain ⟨m, t, e3, e4⟩ := hN.2 i _ (List.getElem?_eq_getElem h1)
  rw [e4] at e2
  exact ⟨b, m, t, e1, e2, e3⟩
theorem ok_index {f : Addr} {fd : FuncData} (F : Fun K "index_of" "index_of" sIndex f fd) (N : Nm mg) : FnOk P w K mg base CX0 1 f fd ["rows", "name"] spIndex := by
  refine F.ok scIndex (fun vs H Q E h => ?_) (fun cdv A outer s H vs Q E hr h => ?_)
  · obtain ⟨a, n, xs, rs, ns, rfl, _⟩ := h
    rfl
  · obtain ⟨a, n, xs, rs, ns, rfl, ha, hR, hN, q⟩ := h
    refine ⟨_, pss_cons (ps_for PassesOwn.never rfl (pi_enumT (by rfl) N.enumerate (pa_cons (pv 0) pa_nil)) (pg_tup (by rfl) (pgs_cons (pg_name (i := 2) scIndex.nd rfl (.inl rfl)) (pgs_cons (pg_name (i := 3) scIndex.nd rfl (.inl rfl)) pgs_nil)))
        (pss_one (ps_if (pt_cmpR op_eq (pe_ix ix_tup (pv 3) pe_int (fun _ _ => rfl)) (pv 1) (nomark _)) (pss_one (ps_ret (pv 2))) pss_nil)))
      (pss_one (ps_ret pe_non)), ?_⟩
    refine ⟨_, rfl, a, xs, rfl, SqT.of ha, ?_⟩
    refine for_it (walk_enumT (xs := xs)) (fun i σ H3 => ∃ y2 y3, σ = [some (.ref a), some (.str n), y2, y3] ∧ Same H H3 ∧ ∀ j < i, ns[j]? ≠ some n) ⟨_, _, rfl, Same.refl _, fun j h => absurd h (Nat.not_lt_zero _)⟩ (fun i σ H3 hi => ?_) ?_ ?_
    · rintro ⟨y2, y3, rfl, sm, _⟩
      exact SqT.of (sm _ _ ha)
    · rintro i x σ H3 H' hi ⟨y2, y3, rfl, sm, hno⟩ hY
      obtain ⟨b, m, t, e1, e2, e3⟩ := row_at hR hN hi
      obtain ⟨Tp, x1, x2, rfl, nT, rfl, f1, f2⟩ := hY
      obtain rfl : x1 = .int (i : Int) := (Option.some.inj f1).symm
      obtain rfl : x2 = .ref b := Option.some.inj (f2.symm.trans e1)
      have sm' := sm.trans (same_new (o := .tup [V.int (i : Int), V.ref b]) nT)
      refine ⟨Tp, _, rfl, .inl (.inl upd_same), rfl, _, _, rfl, _, _, rfl, rfl, ?_⟩
      refine ⟨_, rfl, b, _, 0, .str m, rfl, rfl, SqT.of (sm' _ _ e2), atI_nat (j := 0) rfl, _, rfl, rfl, _, rfl, ?_⟩
      rw [str_eq]
      by_cases e : m = n
      · subst e
        exact iteB (decide_eq_true rfl) ⟨_, rfl, q (some i) ⟨e3, hno⟩ _ sm'⟩
      · refine iteBF (decide_eq_false e) ⟨_, _, rfl, sm', fun j hj => ?_⟩
        rcases Nat.lt_succ_iff_lt_or_eq.mp hj with h | h
        · exact hno j h
        · subst h
          rw [e3]
          exact fun z => e (Option.some.inj z)
    · rintro σ H3 ⟨y2, y3, rfl, sm, hno⟩
      refine q none (fun hm => ?_) _ sm
      obtain ⟨j, hj⟩ := List.mem_iff_getElem?.mp hm
      have : j < ns.length := (List.getElem?_eq_some_iff.mp hj).1
      exact hno j (by rw [hR.1, hN.1]; exact this) hj
def spDimIx (C : Addr) : Sp := fun vs H Q _ => ∃ (a : Addr) (n : Str) (ds : List D) (ts : List T), vs = [.ref a, .str n] ∧ ShapeAt H C a ds ts ∧ ∀ r, IsIdx (ds.map (·.n)) n r → ∀ H', Same H H' → Q (optV r) H'
theorem scDimIx : FnScope ["shape", "name"] ["shape", "name"] (defScope sDimIx) := ⟨rfl, rfl, rfl, by decide +kernel, rfl, by decide +kernel, by decide +kernel⟩
theorem ok_dimIx {f fI C f1 f2 : Addr} {fd fdI : FuncData} (F : Fun K "dim_index" "dim_index" sDimIx f fd) (N : Nm mg) (S : ShC K C f1 f2) (FI : Fun K "index_of" "index_of" sIndex fI fdI) (bI : Binds K fdI ["rows", "name"] []) (gI : mg "index_of" = some (.ref fI)) :
    FnOk P w K mg base CX0 2 f fd ["shape", "name"] (spDimIx C) := by
  have GI : FnOk P w K mg base CX0 1 fI fdI ["rows", "name"] spIndex := ok_index FI N
  refine F.ok scDimIx (fun vs H Q E h => ?_) (fun cdv A outer s H vs Q E hr h => ?_)
  · obtain ⟨a, n, ds, ts, rfl, _⟩ := h
    rfl
  · obtain ⟨a, n, ds, ts, rfl, ⟨dx, td, ta, xs, ys, h1, h2, h3, h4, h5⟩, q⟩ := h
    refine ⟨_, pss_one (ps_ret (pe_call GI hr (by rfl) gI FI.kp bI .nil pass0 (pa_cons (pe_fld (pv 0) rfl) (pa_cons (pv 1) pa_nil)))), ?_⟩
    exact ⟨_, rfl, a, C, dx, _, .ref td, rfl, h1, S.cl, S.nD, rfl, _, rfl, td, n, xs, _, _, rfl, h2, h3, headsD ds, q⟩
def spAttrIx (C : Addr) : Sp := fun vs H Q _ => ∃ (a : Addr) (n : Str) (ds : List D) (ts : List T), vs = [.ref a, .str n] ∧ ShapeAt H C a ds ts ∧ ∀ r, IsIdx (ts.map (·.n)) n r → ∀ H', Same H H' → Q (optV r) H'
theorem scAttrIx : FnScope ["shape", "name"] ["shape", "name"] (defScope sAttrIx) := ⟨rfl, rfl, rfl, by decide +kernel, rfl, by decide +kernel, by decide +kernel⟩
theorem ok_attrIx {f fI C f1 f2 : Addr} {fd fdI : FuncData} (F : Fun K "attr_index" "attr_index" sAttrIx f fd) (N : Nm mg) (S : ShC K C f1 f2) (FI : Fun K "index_of" "index_of" sIndex fI fdI) (bI : Binds K fdI ["rows", "name"] []) (gI : mg "index_of" = some (.ref fI)) :
    FnOk P w K mg base CX0 2 f fd ["shape", "name"] (spAttrIx C) := by
  have GI : FnOk P w K mg base CX0 1 fI fdI ["rows", "name"] spIndex := ok_index FI N
  refine F.ok scAttrIx (fun vs H Q E h => ?_) (fun cdv A outer s H vs Q E hr h => ?_)
  · obtain ⟨a, n, ds, ts, rfl, _⟩ := h
    rfl
  · obtain ⟨a, n, ds, ts, rfl, ⟨dx, td, ta, xs, ys, h1, h2, h3, h4, h5⟩, q⟩ := h
    refine ⟨_, pss_one (ps_ret (pe_call GI hr (by rfl) gI FI.kp bI .nil pass0 (pa_cons (pe_fld (pv 0) rfl) (pa_cons (pv 1) pa_nil)))), ?_⟩
    exact ⟨_, rfl, a, C, dx, _, .ref ta, rfl, h1, S.cl, S.nA, rfl, _, rfl, ta, n, ys, _, _, rfl, h4, h5, headsT ts, q⟩
end
end K2

namespace K2
open PySem L2
/-! ### expressions -/
inductive Ex where
  | val (k : Str) (v : V)
  | attr (n : Str)
  | dim (n : Str)
  | op (w : Str) (ps : List Ex)
def LV : List Str := ["value", "attr", "dim"]
mutual
def Ex.size : Ex → Nat
  | .op _ ps => 1 + Ex.sizes ps
  | .val _ _ => 1
  | .attr _ => 1
  | .dim _ => 1
def Ex.sizes : List Ex → Nat
  | [] => 0
  | e :: r => e.size + Ex.sizes r
end
mutual
def Ex.dep : Ex → Nat
  | .op _ ps => 1 + Ex.deps ps
  | .val _ _ => 0
  | .attr _ => 0
  | .dim _ => 0
def Ex.deps : List Ex → Nat
  | [] => 0
  | e :: r => max e.dep (Ex.deps r)
end
mutual
inductive ExAt (H : Hp) : V → Ex → Prop
  | val {a : Addr} {k : Str} {v : V} : H a = some (.tup [.str "value", .str k, v]) → ExAt H (.ref a) (.val k v)
  | attr {a : Addr} {n : Str} : H a = some (.tup [.str "attr", .str n]) → ExAt H (.ref a) (.attr n)
  | dim {a : Addr} {n : Str} : H a = some (.tup [.str "dim", .str n]) → ExAt H (.ref a) (.dim n)
  | op {a : Addr} {w : Str} {xs : List V} {ps : List Ex} : H a = some (.tup (.str w :: xs)) → ExAll H xs ps → w ∉ LV → ps ≠ [] → ExAt H (.ref a) (.op w ps)
inductive ExAll (H : Hp) : List V → List Ex → Prop
  | nil : ExAll H [] []
  | cons {x : V} {xs : List V} {e : Ex} {es : List Ex} : ExAt H x e → ExAll H xs es → ExAll H (x :: xs) (e :: es)
end
mutual
theorem ExAt.keep {H H1 : Hp} (k : ∀ a r, H a = some (.tup r) → H1 a = some (.tup r)) : ∀ {e : Ex} {v : V}, ExAt H v e → ExAt H1 v e
  | .val _ _, _, h => by
    cases h with
    | val h => exact .val (k _ _ h)
  | .attr _, _, h => by
    cases h with
    | attr h => exact .attr (k _ _ h)
  | .dim _, _, h => by
    cases h with
    | dim h => exact .dim (k _ _ h)
  | .op _ _, _, h => by
    cases h with
    | op h g nw ne => exact .op (k _ _ h) (ExAll.keep k g) nw ne
theorem ExAll.keep {H H1 : Hp} (k : ∀ a r, H a = some (.tup r) → H1 a = some (.tup r)) : ∀ {es : List Ex} {vs : List V}, ExAll H vs es → ExAll H1 vs es
  | [], _, h => by
    cases h
    exact .nil
  | _ :: _, _, h => by
    cases h with
    | cons h g => exact .cons (ExAt.keep k h) (ExAll.keep k g)
end
theorem ExAt.same {H H1 : Hp} {e : Ex} {v : V} (h : ExAt H v e) (s : Same H H1) : ExAt H1 v e := h.keep fun a r e => s _ _ e
theorem ExAll.same {H H1 : Hp} {e : List Ex} {v : List V} (h : ExAll H v e) (s : Same H H1) : ExAll H1 v e := h.keep fun a r e => s _ _ e
theorem kp_tup {d l : Addr} {H H1 : Hp} (S : StAt H d l) (k : Kp d l H H1) : ∀ a r, H a = some (.tup r) → H1 a = some (.tup r) := fun a r e => k.keep _ _ e fun z => by
  obtain ⟨ns, y, h1, _⟩ := S.ex
  rw [z, h1] at e
  cases e
theorem ExAt.kp {d l : Addr} {H H1 : Hp} {e : Ex} {v : V} (h : ExAt H v e) (S : StAt H d l) (k : Kp d l H H1) : ExAt H1 v e := h.keep (kp_tup S k)
theorem ExAll.kp {d l : Addr} {H H1 : Hp} {e : List Ex} {v : List V} (h : ExAll H v e) (S : StAt H d l) (k : Kp d l H H1) : ExAll H1 v e := h.keep (kp_tup S k)
theorem ExAll.len {H : Hp} : ∀ {es : List Ex} {vs : List V}, ExAll H vs es → vs.length = es.length
  | _, _, .nil => rfl
  | _, _, .cons _ g => by rw [List.length_cons, List.length_cons, ExAll.len g]
theorem ExAll.at {H : Hp} : ∀ {es : List Ex} {vs : List V} {i : Nat} {e : Ex}, ExAll H vs es → es[i]? = some e → ∃ v, vs[i]? = some v ∧ ExAt H v e
  | _, _, _, _, .nil, h => by simp at h
  | _, _, 0, _, .cons h g, q => by
    have := Option.some.inj q
    subst this
    exact ⟨_, rfl, h⟩
  | _, _, i + 1, _, .cons h g, q => ExAll.at (i := i) g q
/-! ### kinds -/
instance : DecidableEq Kd := fun a b => by cases a <;> cases b <;> first | exact isTrue rfl | exact isFalse (fun h => nomatch h)
def kdOf (k : Str) : Option Kd := if k = "int" then some .i else if k = "flag" then some .f else if k = "text" then some .t else none
theorem kdOf_S (k : Kd) : kdOf (kdS k) = some k := by cases k <;> decide +kernel
def kv : Option Kd → V
  | none => .non
  | some k => .str (kdS k)
def CMP : List Str := ["eq", "ne", "lt", "le", "gt", "ge"]
def SIG : List (Str × List Kd × Kd) := [("neg", [.i], .i), ("abs", [.i], .i), ("not", [.f], .f), ("length", [.t], .i), ("add", [.i, .i], .i), ("sub", [.i, .i], .i), ("mul", [.i, .i], .i), ("div", [.i, .i], .i), ("mod", [.i, .i], .i),
  ("and", [.f, .f], .f), ("or", [.f, .f], .f), ("joined", [.t, .t], .t)]
/-- how many parts a word wants -/
def ar (w : Str) : Option Nat := if w = "is missing" then some 1 else if w ∈ CMP then some 2 else if w = "if" then some 3 else if w = "or else" then some 2 else (SIG.lookup w).map fun p => p.1.length
def joint (w : Str) (ks : List Kd) : Option Kd :=
  if w = "is missing" then some .f else if w ∈ CMP then (if ks[0]? = ks[1]? then some .f else none)
  else if w = "if" then (if ks[0]? = some .f then (if ks[1]? = ks[2]? then ks[1]? else none) else none)
  else if w = "or else" then (if ks[0]? = ks[1]? then ks[0]? else none) else (SIG.lookup w).bind fun p => if ks = p.1 then some p.2 else none
def leafK (ds : List D) (ts : List T) : Ex → Option Kd
  | .val k v => (kdOf k).bind fun q => if v = .non ∨ isVal q v = true then some q else none
  | .attr n => (ts.find? fun t => decide (t.n = n)).bind fun t => kdOf t.k
  | .dim n => if n ∈ ds.map (·.n) then some .i else none
  | .op _ _ => none
mutual
/-- the kind, or the number of the first wrong one -/
def ck (ds : List D) (ts : List T) : Ex → Nat → Except Nat Kd
  | .op w ps, n => match cks ds ts ps (n + 1) with
    | .error m => .error m
    | .ok ks => match joint w ks with
      | some k => .ok k
      | none => .error n
  | .val k v, n => match leafK ds ts (.val k v) with
    | some k => .ok k
    | none => .error n
  | .attr a, n => match leafK ds ts (.attr a) with
    | some k => .ok k
    | none => .error n
  | .dim a, n => match leafK ds ts (.dim a) with
    | some k => .ok k
    | none => .error n
def cks (ds : List D) (ts : List T) : List Ex → Nat → Except Nat (List Kd)
  | [], _ => .ok []
  | e :: r, n => match ck ds ts e n with
    | .error m => .error m
    | .ok k => match cks ds ts r (n + e.size) with
      | .error m => .error m
      | .ok ks => .ok (k :: ks)
end
def ValOk (v : V) : Prop := v = .non ∨ (∃ n, v = .int n) ∨ (∃ b, v = .bl b) ∨ ∃ z, v = .str z ∧ Txt95 z ∧ z.length ≤ 200
mutual
/-- every word with its parts, every value a thing -/
def WF : Ex → Prop
  | .op w ps => ar w = some ps.length ∧ WFs ps
  | .val k v => ValOk v ∧ PyData.strOk k = true
  | .attr n => PyData.strOk n = true
  | .dim n => PyData.strOk n = true
def WFs : List Ex → Prop
  | [] => True
  | e :: r => WF e ∧ WFs r
end
end K2

namespace K2
open PySem L2
theorem cut1 (x : V) (xs : List V) : cutV (x :: xs) (some 1) none = xs := by
  unfold cutV
  have e1 : HT.sIx (x :: xs).length 0 (some 1) = 1 := by
    rw [show HT.sIx (x :: xs).length 0 (some 1) = min 1 (x :: xs).length from HT.sIx_nat _ _ 1, List.length_cons]
    omega
  rw [e1, HT.sIx_none]
  rw [List.drop_succ_cons, List.drop_zero, List.length_cons, Nat.add_sub_cancel, List.take_length]
theorem cut1_not (x : V) (xs : List V) : ¬ (HT.sIx (x :: xs).length 0 (some 1) = 0 ∧ HT.sIx (x :: xs).length (x :: xs).length none = (x :: xs).length) := by
  have e1 : HT.sIx (x :: xs).length 0 (some 1) = 1 := by
    rw [show HT.sIx (x :: xs).length 0 (some 1) = min 1 (x :: xs).length from HT.sIx_nat _ _ 1, List.length_cons]
    omega
  rw [e1]
  exact fun h => absurd h.1 (by decide)
theorem inV_str (n : Str) : ∀ ns : List Str, inV (.str n) (ns.map V.str) = decide (n ∈ ns)
  | [] => rfl
  | m :: r => by
    have ih := inV_str n r
    unfold inV at ih ⊢
    rw [List.map_cons, List.any_cons, ih]
    by_cases e : m = n
    · subst e
      rw [decide_eq_true (List.mem_cons_self ..)]
      have : eqV (.str m) (.str m) = true := by simp [eqV]
      rw [this]
      rfl
    · have h1 : eqV (.str m) (.str n) = false := by simp [eqV, e]
      rw [h1, Bool.false_or]
      by_cases h : n ∈ r
      · rw [decide_eq_true h, decide_eq_true (List.mem_cons_of_mem _ h)]
      · rw [decide_eq_false h, decide_eq_false]
        intro z
        rcases List.mem_cons.mp z with z | z
        · exact e z.symm
        · exact h z
theorem flat_strs (ns : List Str) : (ns.map V.str).all flatV = true := by
  rw [List.all_eq_true]
  intro x hx
  obtain ⟨z, _, rfl⟩ := List.mem_map.mp hx
  rfl
def Ex.parts : Ex → List Ex
  | .op _ ps => ps
  | .val _ _ => []
  | .attr _ => []
  | .dim _ => []
def Ex.word : Ex → Str
  | .op w _ => w
  | .val _ _ => "value"
  | .attr _ => "attr"
  | .dim _ => "dim"
/-- an expression's tuple: its word, and what follows -/
theorem ExAt.tup {H : Hp} {e : Ex} {v : V} (h : ExAt H v e) : ∃ (a : Addr) (xs : List V), v = .ref a ∧ H a = some (.tup (.str e.word :: xs)) ∧ (e.word ∉ LV → ExAll H xs e.parts) ∧ (e.word ∈ LV → e.parts = []) := by
  cases h with
  | val h => exact ⟨_, _, rfl, h, fun z => absurd (by show ("value" : Str) ∈ LV; decide +kernel) z, fun _ => rfl⟩
  | attr h => exact ⟨_, _, rfl, h, fun z => absurd (by show ("attr" : Str) ∈ LV; decide +kernel) z, fun _ => rfl⟩
  | dim h => exact ⟨_, _, rfl, h, fun z => absurd (by show ("dim" : Str) ∈ LV; decide +kernel) z, fun _ => rfl⟩
  | op h g nw ne => exact ⟨_, _, rfl, h, fun _ => g, fun z => absurd z nw⟩
end K2

namespace K2
open PySem L2
def KS : List Str := ["int", "flag", "text"]
theorem kdOf_in {k : Str} (h : k ∈ KS) : ∃ q, k = kdS q ∧ kdOf k = some q := by
  rcases List.mem_cons.mp h with rfl | h
  · exact ⟨.i, rfl, kdOf_S .i⟩
  rcases List.mem_cons.mp h with rfl | h
  · exact ⟨.f, rfl, kdOf_S .f⟩
  rcases List.mem_cons.mp h with rfl | h
  · exact ⟨.t, rfl, kdOf_S .t⟩
  · exact absurd h (List.not_mem_nil)
theorem kdOf_not {k : Str} (h : k ∉ KS) : kdOf k = none := by
  unfold kdOf
  rw [if_neg fun e => h (by rw [e]; decide +kernel), if_neg fun e => h (by rw [e]; decide +kernel), if_neg fun e => h (by rw [e]; decide +kernel)]
theorem find_none {ts : List T} {n : Str} (h : n ∉ ts.map (·.n)) : ts.find? (fun t => decide (t.n = n)) = none := by
  rw [List.find?_eq_none]
  intro t ht e
  exact h (List.mem_map.mpr ⟨t, ht, of_decide_eq_true e⟩)
theorem find_some : ∀ {ts : List T} {n : Str} {i : Nat} (_ : (ts.map (·.n))[i]? = some n) (_ : ∀ j < i, (ts.map (·.n))[j]? ≠ some n), ts.find? (fun t => decide (t.n = n)) = ts[i]?
  | [], _, _, h, _ => by simp at h
  | t :: r, n, 0, h, _ => by
    have e : t.n = n := Option.some.inj h
    rw [List.find?_cons_of_pos (p := fun t : T => decide (t.n = n)) (decide_eq_true e)]
    rfl
  | t :: r, n, i + 1, h, g => by
    have e : ¬ decide (t.n = n) = true := fun z => g 0 (by omega) (by rw [← of_decide_eq_true z]; rfl)
    rw [List.find?_cons_of_neg (p := fun t : T => decide (t.n = n)) e]
    exact find_some (i := i) h fun j hj z => g (j + 1) (by omega) z
def GoodK (ds : List D) (ts : List T) : Prop := ds.length ≤ 900 ∧ ts.length ≤ 900 ∧ ∀ t ∈ ts, ∃ q, t.k = kdS q
theorem OfK.any {K : PySem.W.Frag} {H : Hp} {v : V} (h : ValOk v) : ∃ T, Thg K H v T := by
  rcases h with rfl | ⟨n, rfl⟩ | ⟨b, rfl⟩ | ⟨z, rfl, h1, h2⟩
  · exact ⟨_, .non⟩
  · exact ⟨_, .int n⟩
  · exact ⟨_, .bl b⟩
  · exact ⟨_, .str z h1 (by omega)⟩
def ks (k : Kd) : V := .str (kdS k)
theorem ks_eq (a b : Kd) : decide (ks a = ks b) = decide (a = b) := by cases a <;> cases b <;> decide +kernel
theorem kdS_inj {a b : Kd} (h : kdS a = kdS b) : a = b := by
  have := kdOf_S a
  rw [h, kdOf_S] at this
  exact (Option.some.inj this).symm
def pk (k : Kd) : PyData := .str (kdS k)
theorem eqv_ks : ∀ a b : List Kd, PyData.eqvAll (a.map pk) (b.map pk) = decide (a = b)
  | [], [] => by simp [PyData.eqvAll]
  | [], _ :: _ => by simp [PyData.eqvAll]
  | _ :: _, [] => by simp [PyData.eqvAll]
  | x :: r, y :: t => by
    have ih := eqv_ks r t
    rw [List.map_cons, List.map_cons, PyData.eqvAll, ih]
    have e : PyData.eqv (pk x) (pk y) = decide (x = y) := by
      unfold pk
      rw [PyData.eqv]
      cases x <;> cases y <;> decide +kernel
    rw [e]
    by_cases h1 : x = y
    · subst h1
      by_cases h2 : r = t
      · subst h2
        rw [decide_eq_true rfl, decide_eq_true rfl, decide_eq_true rfl]
        rfl
      · rw [decide_eq_true rfl, decide_eq_false h2, decide_eq_false fun z => h2 (List.cons.inj z).2]
        rfl
    · rw [decide_eq_false h1, decide_eq_false fun z => h1 (List.cons.inj z).1]
      rfl
theorem pk_ok (k : Kd) : (pk k).canLay0 = true := by cases k <;> (unfold pk; simp only [PyData.canLay0]; decide +kernel)
theorem lay_ks : ∀ a : List Kd, PyData.canLayAll0 (a.map pk) = true
  | [] => by simp [PyData.canLayAll0]
  | x :: r => by
    rw [List.map_cons, PyData.canLayAll0, pk_ok, lay_ks r]
    rfl
theorem dep_ks : ∀ a : List Kd, PyData.depthAll (a.map pk) = 0
  | [] => by simp [PyData.depthAll]
  | x :: r => by
    rw [List.map_cons, PyData.depthAll, dep_ks r]
    unfold pk
    simp [PyData.depth]
def TK (a : List Kd) : PyData := .tuple (a.map pk)
theorem TK_shp (a : List Kd) : SeqAt.shaped (TK a) = true := by
  show (PyData.canLay0 (.tuple (a.map pk)) && decide (PyData.depth (.tuple (a.map pk)) ≤ 64)) = true
  rw [Bool.and_eq_true]
  refine ⟨by simp only [PyData.canLay0]; exact lay_ks a, decide_eq_true ?_⟩
  simp only [PyData.depth]
  rw [dep_ks]
  decide
theorem TK_eqv (a b : List Kd) : PyData.eqv (TK a) (TK b) = decide (a = b) := by
  unfold TK
  rw [PyData.eqv]
  exact eqv_ks a b
theorem TK_dp {K : PySem.W.Frag} {H : Hp} : ∀ a : List Kd, DpAll K H (a.map ks) (a.map pk)
  | [] => .nil
  | x :: r => .cons (.str _) (TK_dp r)
theorem sig_tab : ∀ p ∈ SIG, SIG.lookup p.1 = some p.2 := by decide +kernel
theorem lookup_in {w : Str} {q : List Kd × Kd} : ∀ {l : List (Str × List Kd × Kd)}, l.lookup w = some q → (w, q) ∈ l
  | [], h => by cases h
  | (x, y) :: r, h => by
    by_cases e : w = x
    · subst e
      rw [List.lookup_cons_self] at h
      rw [Option.some.inj h]
      exact List.mem_cons_self ..
    · rw [List.lookup_cons, beq_false_of_ne e] at h
      exact List.mem_cons_of_mem _ (lookup_in h)
theorem two {α : Type} {l : List α} (h : l.length = 2) : ∃ a b, l = [a, b] := by
  match l, h with
  | [a, b], _ => exact ⟨a, b, rfl⟩
theorem three {α : Type} {l : List α} (h : l.length = 3) : ∃ a b c, l = [a, b, c] := by
  match l, h with
  | [a, b, c], _ => exact ⟨a, b, c, rfl⟩
theorem sizes_app : ∀ a b : List Ex, Ex.sizes (a ++ b) = Ex.sizes a + Ex.sizes b
  | [], b => by simp [Ex.sizes]
  | e :: r, b => by
    rw [List.cons_append, Ex.sizes, Ex.sizes, sizes_app r b, Nat.add_assoc]
theorem cks_app (ds : List D) (ts : List T) : ∀ (a b : List Ex) (n : Nat), cks ds ts (a ++ b) n = match cks ds ts a n with
    | .error m => .error m
    | .ok qs => match cks ds ts b (n + Ex.sizes a) with
      | .error m => .error m
      | .ok rs => .ok (qs ++ rs)
  | [], b, n => by
    rw [List.nil_append, cks, Ex.sizes, Nat.add_zero]
    cases cks ds ts b n <;> rfl
  | e :: r, b, n => by
    rw [List.cons_append, cks, cks]
    cases ck ds ts e n with
    | error m => rfl
    | ok k =>
      show (match cks ds ts (r ++ b) (n + e.size) with | .error m => Except.error m | .ok ks => .ok (k :: ks)) = _
      rw [cks_app ds ts r b, Ex.sizes, ← Nat.add_assoc]
      cases cks ds ts r (n + e.size) with
      | error m => rfl
      | ok qs =>
        show (match (match cks ds ts b (n + e.size + Ex.sizes r) with | .error m => Except.error m | .ok rs => .ok (qs ++ rs)) with | .error m => Except.error m | .ok ks => .ok (k :: ks)) = match cks ds ts b (n + e.size + Ex.sizes r) with | .error m => Except.error m | .ok rs => .ok (k :: qs ++ rs)
        cases cks ds ts b (n + e.size + Ex.sizes r) <;> rfl
theorem take_at {es : List Ex} {i : Nat} (h : i < es.length) : es.take (i + 1) = es.take i ++ [es[i]] := by
  rw [List.take_add_one, List.getElem?_eq_getElem h]
  rfl
theorem cks_one (ds : List D) (ts : List T) (e : Ex) (n : Nat) : cks ds ts [e] n = match ck ds ts e n with | .error m => .error m | .ok k => .ok [k] := by
  rw [cks]
  cases ck ds ts e n <;> rfl
theorem cks_ok {ds : List D} {ts : List T} {es : List Ex} {i n : Nat} {qs : List Kd} {k : Kd} (h : i < es.length) (h1 : cks ds ts (es.take i) n = .ok qs) (h2 : ck ds ts es[i] (n + Ex.sizes (es.take i)) = .ok k) : cks ds ts (es.take (i + 1)) n = .ok (qs ++ [k]) := by
  rw [take_at h, cks_app, h1]
  show (match cks ds ts [es[i]] (n + Ex.sizes (es.take i)) with | .error m => Except.error m | .ok rs => .ok (qs ++ rs)) = _
  rw [cks_one, h2]
theorem cks_bad {ds : List D} {ts : List T} {es : List Ex} {i n j : Nat} {qs : List Kd} (h : i < es.length) (h1 : cks ds ts (es.take i) n = .ok qs) (h2 : ck ds ts es[i] (n + Ex.sizes (es.take i)) = .error j) : cks ds ts es n = .error j := by
  have e1 : cks ds ts (es.take (i + 1)) n = .error j := by
    rw [take_at h, cks_app, h1]
    show (match cks ds ts [es[i]] (n + Ex.sizes (es.take i)) with | .error m => Except.error m | .ok rs => .ok (qs ++ rs)) = _
    rw [cks_one, h2]
  have e2 := cks_app ds ts (es.take (i + 1)) (es.drop (i + 1)) n
  rw [List.take_append_drop, e1] at e2
  exact e2
theorem ck_leaf {ds : List D} {ts : List T} {e : Ex} {n : Nat} (h : e.word ∈ LV) {H : Hp} {v : V} (he : ExAt H v e) : ck ds ts e n = match leafK ds ts e with | some k => .ok k | none => .error n := by
  cases he with
  | val _ => rw [ck] <;> rfl
  | attr _ => rw [ck] <;> rfl
  | dim _ => rw [ck] <;> rfl
  | op _ _ nw _ => exact absurd h nw
theorem ck_op {ds : List D} {ts : List T} {e : Ex} {n : Nat} (h : e.word ∉ LV) {H : Hp} {v : V} (he : ExAt H v e) : ck ds ts e n = match cks ds ts e.parts (n + 1) with | .error m => .error m | .ok qs => match joint e.word qs with | some k => .ok k | none => .error n := by
  cases he with
  | val _ => exact absurd (by show ("value" : Str) ∈ LV; decide +kernel) h
  | attr _ => exact absurd (by show ("attr" : Str) ∈ LV; decide +kernel) h
  | dim _ => exact absurd (by show ("dim" : Str) ∈ LV; decide +kernel) h
  | op _ _ _ _ => rw [ck]; rfl
theorem ar_le {w : Str} {n : Nat} (h : ar w = some n) : n ≤ 3 := by
  unfold ar at h
  by_cases w1 : w = "is missing"
  · rw [if_pos w1] at h
    rw [← Option.some.inj h]
    decide
  rw [if_neg w1] at h
  by_cases w2 : w ∈ CMP
  · rw [if_pos w2] at h
    rw [← Option.some.inj h]
    decide
  rw [if_neg w2] at h
  by_cases w3 : w = "if"
  · rw [if_pos w3] at h
    rw [← Option.some.inj h]
    decide
  rw [if_neg w3] at h
  by_cases w4 : w = "or else"
  · rw [if_pos w4] at h
    rw [← Option.some.inj h]
    decide
  rw [if_neg w4] at h
  cases e : SIG.lookup w with
  | none =>
    rw [e] at h
    cases h
  | some p =>
    rw [e] at h
    rw [← Option.some.inj h]
    have tab : ∀ p ∈ SIG, p.2.1.length ≤ 3 := by decide +kernel
    exact tab _ (lookup_in e)
theorem size_parts (e : Ex) : e.size = 1 + Ex.sizes e.parts := by cases e <;> simp [Ex.size, Ex.parts, Ex.sizes]
theorem dep_le : ∀ {es : List Ex} {e : Ex}, e ∈ es → e.dep ≤ Ex.deps es
  | x :: r, e, h => by
    rw [Ex.deps]
    rcases List.mem_cons.mp h with rfl | h
    · exact Nat.le_max_left ..
    · exact Nat.le_trans (dep_le h) (Nat.le_max_right ..)
theorem dep_part {e x : Ex} (h : x ∈ e.parts) : x.dep + 1 ≤ e.dep := by
  cases e with
  | op w ps =>
    have := dep_le h
    rw [Ex.dep]
    have h2 : Ex.deps ps = Ex.deps (Ex.parts (.op w ps)) := rfl
    omega
  | val _ _ => exact absurd h List.not_mem_nil
  | attr _ => exact absurd h List.not_mem_nil
  | dim _ => exact absurd h List.not_mem_nil
theorem WFs.mem : ∀ {es : List Ex} {e : Ex}, WFs es → e ∈ es → WF e
  | x :: r, e, h, m => by
    rw [WFs] at h
    rcases List.mem_cons.mp m with rfl | m
    · exact h.1
    · exact WFs.mem h.2 m
theorem WF.part {e x : Ex} (h : WF e) (m : x ∈ e.parts) : WF x := by
  cases e with
  | op w ps =>
    rw [WF] at h
    exact h.2.mem m
  | val _ _ => exact absurd m List.not_mem_nil
  | attr _ => exact absurd m List.not_mem_nil
  | dim _ => exact absurd m List.not_mem_nil
theorem WF.ar {e : Ex} (h : WF e) {H : Hp} {v : V} (he : ExAt H v e) (nw : e.word ∉ LV) : K2.ar e.word = some e.parts.length := by
  cases he with
  | val _ => exact absurd (by show ("value" : Str) ∈ LV; decide +kernel) nw
  | attr _ => exact absurd (by show ("attr" : Str) ∈ LV; decide +kernel) nw
  | dim _ => exact absurd (by show ("dim" : Str) ∈ LV; decide +kernel) nw
  | op _ _ _ _ => rw [WF] at h; exact h.1
end K2

namespace K2
open PySem L2
section
variable {X : Cx}
theorem ix_tupK (K : PySem.W.Frag) (hK : X.K = K) : IxR X (rIxT K) := by
  subst hK
  exact ix_tup
theorem pg_tupK {es : List Expr} {k : Nat} {t : TGs} {n : Nat} {pos : Pos} (K : PySem.W.Frag) (hK : X.K = K) (hc : X.calm = true) (h : PGs X es t)
    (hn : (assignEach es X.env).length = n := by rfl) (hst : (assignEach es X.env).findIdx? (·.1) = none := by rfl) : PG X (.Tuple es k pos) (gTup K n t) := by
  subst hK
  exact pg_tup hc h hn hst
end
end K2

namespace K2
open PySem L2
def L1 : List (List Kd) := [[.i], [.f], [.t]]
def L2' : List (List Kd) := L1.flatMap fun r => [.i :: r, .f :: r, .t :: r]
def L3' : List (List Kd) := L2'.flatMap fun r => [.i :: r, .f :: r, .t :: r]
def LA : List (List Kd) := [[]] ++ L1 ++ L2' ++ L3'
theorem la_in : ∀ {qs : List Kd}, qs.length ≤ 3 → qs ∈ LA
  | [], _ => by decide +kernel
  | [a], _ => by cases a <;> decide +kernel
  | [a, b], _ => by cases a <;> cases b <;> decide +kernel
  | [a, b, c], _ => by cases a <;> cases b <;> cases c <;> decide +kernel
  | _ :: _ :: _ :: _ :: _, h => by simp at h
def AW : List Str := [("is missing" : Str)] ++ CMP ++ [("if" : Str), "or else"] ++ SIG.map (·.1)
theorem ar_in {w : Str} {n : Nat} (h : ar w = some n) : w ∈ AW := by
  unfold ar at h
  unfold AW
  by_cases w1 : w = "is missing"
  · rw [w1]
    decide +kernel
  rw [if_neg w1] at h
  by_cases w2 : w ∈ CMP
  · exact List.mem_append_left _ (List.mem_append_left _ (List.mem_append_right _ w2))
  rw [if_neg w2] at h
  by_cases w3 : w = "if"
  · rw [w3]
    decide +kernel
  rw [if_neg w3] at h
  by_cases w4 : w = "or else"
  · rw [w4]
    decide +kernel
  rw [if_neg w4] at h
  cases e : SIG.lookup w with
  | none =>
    rw [e] at h
    cases h
  | some p => exact List.mem_append_right _ (List.mem_map.mpr ⟨_, lookup_in e, rfl⟩)
def QS : List Kd := [.i, .f, .t]
theorem qs_in (k : Kd) : k ∈ QS := by cases k <;> decide +kernel
def A5 : List Str := ["add", "sub", "mul", "div", "mod"]
end K2

namespace K2
open PySem L2
theorem str_in {ms : List Str} {xs : List V} {n : Int} (e : xs = ms.map V.str) (h0 : 0 ≤ n) (h1 : n < ms.length) : ∃ m ∈ ms, atI xs n = some (.str m) := by
  obtain ⟨j, rfl⟩ : ∃ j : Nat, n = (j : Int) := ⟨_, (Int.toNat_of_nonneg h0).symm⟩
  have hj : j < ms.length := by omega
  refine ⟨ms[j], List.getElem_mem hj, atI_nat ?_⟩
  rw [e, List.getElem?_map, List.getElem?_eq_getElem hj]
  rfl
/-- rows stay: no tuple is the state -/
theorem Rows.kp {d l : Addr} {H H1 : Hp} {xs : List V} {rs : List (List V)} (h : Rows H xs rs) (S : StAt H d l) (k : Kp d l H H1) : Rows H1 xs rs := by
  obtain ⟨ns, z, h1, _⟩ := S.ex
  refine h.keep fun a r e => k.keep _ _ e fun z => ?_
  rw [z, h1] at e
  cases e
structure Acc (d l p : Addr) (xs : List V) (rs : List (List V)) (H H1 : Hp) : Prop where
  k : Kp d l H H1
  p : H1 p = some (.lst xs)
  r : Rows H1 xs rs
section
variable {d l p : Addr} {xs : List V} {rs : List (List V)} {H H1 H2 : Hp}
theorem Acc.kp (a : Acc d l p xs rs H H1) (k : Kp d l H1 H2) : Acc d l p xs rs H H2 := by
  obtain ⟨ns, z, h1, _⟩ := a.k.st.ex
  refine ⟨a.k.trans k, k.keep _ _ a.p fun z => ?_, a.r.kp a.k.st k⟩
  have := a.p
  rw [z, h1] at this
  cases this
theorem Acc.new {o : Addr} {ob : HO} (a : Acc d l p xs rs H H1) (h : H1 o = none) : Acc d l p xs rs H (upd H1 o ob) :=
  ⟨a.k.new h, same_new h _ _ a.p, a.r.same (same_new h)⟩
theorem Acc.push {o : Addr} {r : List V} (a : Acc d l p xs rs H H1) (n : H p = none) (nd : p ≠ d ∧ p ≠ l) (e : H1 o = some (.tup r)) : Acc d l p (xs ++ [.ref o]) (rs ++ [r]) H (upd H1 p (.lst (xs ++ [.ref o]))) := by
  refine ⟨a.k.put n nd, upd_same, (a.r.push e).keep fun b q hb => ?_⟩
  rw [upd_ne]
  · exact hb
  · intro z
    have := a.p
    rw [← z, hb] at this
    cases this
end
theorem cutn {α : Type} (f : α → V) (ns : List α) (m : Nat) : cutV (ns.map f) none (some (m : Int)) = (ns.take m).map f := by
  unfold cutV
  rw [HT.sIx_none, show HT.sIx (ns.map f).length (ns.map f).length (some (m : Int)) = min m (ns.map f).length from HT.sIx_nat _ _ m, List.drop_zero, Nat.sub_zero, List.map_take]
  rw [Nat.min_def]
  split
  · rfl
  · rw [List.take_length, List.take_of_length_le (by omega)]
section
variable {d l p q x C : Addr} {xs : List V} {ds : List D} {ys : List V} {ts : List T} {H H1 : Hp}
theorem same_mk {x dx : Addr} {o1 o2 o3 o4 : HO} (nx : H x = none) (ndx : H dx = none) : Same H (upd (upd (upd (upd H dx o1) x o2) x o3) x o4) := same_put (same_put (same_put (same_new ndx) nx) nx) nx
theorem shape_mk {x dx td ta : Addr} (nx : H x = none) (ndx : H dx = none) (h2 : H td = some (.tup xs)) (h3 : Rows H xs (ds.map D.v)) (h4 : H ta = some (.tup ys)) (h5 : Rows H ys (ts.map T.v)) :
    ShapeAt (upd (upd (upd (upd H dx (.own x)) x (.ins C dx [])) x (.ins C dx [("dims", .ref td)])) x (.ins C dx [("dims", .ref td), ("attrs", .ref ta)])) C x ds ts := by
  have s := same_mk (o1 := .own x) (o2 := .ins C dx []) (o3 := .ins C dx [("dims", .ref td)]) (o4 := .ins C dx [("dims", .ref td), ("attrs", .ref ta)]) nx ndx
  exact ⟨dx, td, ta, xs, ys, upd_same, s _ _ h2, h3.same s, s _ _ h4, h5.same s⟩
end
def XY : List Str := ["x", "y", "z"]
def AB : List Str := ["a", "b", "c", "d"]
def KK : List Str := ["int", "flag", "text", "int"]
theorem kk_tab : ∀ z ∈ KK, ∃ q, z = kdS q := by
  intro z h
  rcases List.mem_cons.mp h with rfl | h
  · exact ⟨.i, rfl⟩
  rcases List.mem_cons.mp h with rfl | h
  · exact ⟨.f, rfl⟩
  rcases List.mem_cons.mp h with rfl | h
  · exact ⟨.t, rfl⟩
  rcases List.mem_cons.mp h with rfl | h
  · exact ⟨.i, rfl⟩
  · exact absurd h List.not_mem_nil
/-- a drawn dimension -/
def DB (x : D) : Prop := -5 ≤ x.l ∧ x.l ≤ x.h ∧ x.h ≤ 8 ∧ 1 ≤ x.s ∧ x.s ≤ 4
/-- what a drawn shape is -/
structure Dr (ds : List D) (ts : List T) : Prop where
  d1 : 1 ≤ ds.length
  d2 : ds.length ≤ 3
  t2 : ts.length ≤ 4
  nm : ts.map (·.n) = AB.take ts.length
  kd : ∀ t ∈ ts, ∃ q, t.k = kdS q
  dn : ∀ x ∈ ds, PyData.strOk x.n = true
  db : ∀ x ∈ ds, DB x
  dnm : ds.map (·.n) = XY.take ds.length
  t1 : 1 ≤ ts.length
theorem xy_ok : ∀ z ∈ XY, PyData.strOk z = true := by decide +kernel
theorem Dr.gk {ds : List D} {ts : List T} (h : Dr ds ts) : GoodK ds ts := ⟨by have := h.d2; omega, by have := h.t2; omega, h.kd⟩
section
variable {P : Program} {w : World} {K : PySem.W.Frag} {mg : Str → Option Value} {base : Heap}
def spShape (C : Addr) : Sp := fun vs H Q _ => ∃ d l : Addr, vs = [.ref d] ∧ StAt H d l ∧ ∀ H' s ds ts, Kp d l H H' → ShapeAt H' C s ds ts → Dr ds ts → Q (.ref s) H'
theorem scShape : FnScope ["state", "dims", "name", "low", "attrs", "k"] ["state"] (defScope sShape) := ⟨rfl, rfl, rfl, by decide +kernel, rfl, by decide +kernel, by decide +kernel⟩
theorem ok_shape {f fN C gI gE : Addr} {fd fdN dGI : FuncData} (F : Fun K "_law_shape" "_law_shape" sShape f fd) (M : Nm mg) (FN : Fun K "_law_next" "_law_next" sNext fN fdN) (bN : Binds K fdN ["state", "bound"] []) (gN : mg "_law_next" = some (.ref fN))
    (S : ShC K C gI gE) (gC : mg "Shape" = some (.ref C)) (GI : FnOk P w K mg base CX0 1 gI dGI ["self", "dims", "attrs"] (spShInit K C gI gE)) (bGI : Binds K dGI ["self", "dims", "attrs"] []) : FnOk P w K mg base CX0 3 f fd ["state"] (spShape C) := by
  have GN : FnOk P w K mg base CX0 1 fN fdN ["state", "bound"] spNext := ok_next FN M.int M.len
  refine F.ok scShape (fun vs H Q E h => ?_) (fun cdv A outer s H vs Q E hr h => ?_)
  · obtain ⟨d, l, rfl, _⟩ := h
    rfl
  · obtain ⟨d, l, rfl, St, q⟩ := h
    have hr1 := hr.mono (j := 1) (by decide)
    refine ⟨_, pss_cons (ps_set (i := 1) scShape.nd rfl (.inl rfl) (pe_lst pa_nil))
      (pss_cons (ps_for PassesOwn.never rfl (pi_list (pe_slice sl_list (pe_lst (pa_cons pe_str (pa_cons pe_str (pa_cons pe_str pa_nil)))) po_none (po_some (pe_op op_add pe_int (pe_call GN hr1 (by rfl) gN FN.kp bN .nil pass0 (pa_cons (pv 0) (pa_cons pe_int pa_nil))))))) (pg_name (i := 2) scShape.nd rfl (.inl rfl))
        (pss_cons (ps_set (i := 3) scShape.nd rfl (.inl rfl) (pe_op op_sub (pe_call GN hr1 (by rfl) gN FN.kp bN .nil pass0 (pa_cons (pv 0) (pa_cons pe_int pa_nil))) pe_int))
        (pss_one (ps_expr (pe_bm PySem.F.plainAttrs_list PySem.F.slot_list_append PySem.F.type_list_append mt_append (pv 1) (pa_cons (pe_tup (pa_cons (pv 2) (pa_cons (pv 3) (pa_cons (pe_op op_add (pv 3) (pe_call GN hr1 (by rfl) gN FN.kp bN .nil pass0 (pa_cons (pv 0) (pa_cons pe_int pa_nil))))
          (pa_cons (pe_op op_add pe_int (pe_call GN hr1 (by rfl) gN FN.kp bN .nil pass0 (pa_cons (pv 0) (pa_cons pe_int pa_nil)))) pa_nil))))) pa_nil))))))
      (pss_cons (ps_set (i := 4) scShape.nd rfl (.inl rfl) (pe_lst pa_nil))
      (pss_cons (ps_for PassesOwn.never rfl (pi_range1 (by rfl) M.range (pa_cons (pe_op op_add pe_int (pe_call GN hr1 (by rfl) gN FN.kp bN .nil pass0 (pa_cons (pv 0) (pa_cons pe_int pa_nil)))) pa_nil)) (pg_name (i := 5) scShape.nd rfl (.inl rfl))
        (pss_one (ps_expr (pe_bm PySem.F.plainAttrs_list PySem.F.slot_list_append PySem.F.type_list_append mt_append (pv 4) (pa_cons (pe_tup (pa_cons (pe_ix ix_list (pe_lst (pa_cons pe_str (pa_cons pe_str (pa_cons pe_str (pa_cons pe_str pa_nil))))) (pv 5) (fun _ _ => rfl))
          (pa_cons (pe_ix ix_list (pe_lst (pa_cons pe_str (pa_cons pe_str (pa_cons pe_str (pa_cons pe_str pa_nil))))) (pe_op op_mod (pe_callTy call_int1 (by rfl) M.int (by decide +kernel) (pa_cons (pe_op op_add (pv 5) (pe_call GN hr1 (by rfl) gN FN.kp bN .nil pass0 (pa_cons (pv 0) (pa_cons pe_int pa_nil)))) pa_nil)) pe_int) (fun _ _ => rfl)) pa_nil))) pa_nil)))))
      (pss_one (ps_ret (pe_make S.mm GI hr (by rfl) gC bGI .nil pass0 (pa_cons (pe_callTy call_tuple_of (by rfl) M.tuple (by decide +kernel) (pa_cons (pv 1) pa_nil)) (pa_cons (pe_callTy call_tuple_of (by rfl) M.tuple (by decide +kernel) (pa_cons (pv 4) pa_nil)) pa_nil)))))))), ?_⟩
    refine ⟨Nat.zero_le _, fun p np => ?_⟩
    have npd := St.nd np
    have a0 : Acc d l p [] [] H (upd H p (.lst [])) := ⟨Kp.pre (same_new np) (Kp.refl (St.same (same_new np))), upd_same, Rows.nil⟩
    refine ⟨(by show 3 ≤ sizeLine; decide), fun o no => ?_⟩
    have a1 := a0.new (ob := .lst [.str "x", .str "y", .str "z"]) no
    refine ⟨_, rfl, d, l, 3, rfl, a1.k.st, by decide, fun H2 n n0 n1 k2 => ?_⟩
    obtain ⟨j, rfl⟩ : ∃ j : Nat, n = (j : Int) := ⟨_, (Int.toNat_of_nonneg n0).symm⟩
    have a2 := a1.kp k2
    refine ⟨1, _, rfl, rfl, _, rfl, o, _, rfl, .inl (.inl (k2.keep _ _ upd_same (a0.k.st.nd no).1)), fun p2 np2 => ?_⟩
    rw [show cutV [V.str "x", V.str "y", V.str "z"] none (some (1 + (j : Int))) = (XY.take (1 + j)).map V.str from by
      rw [show (1 : Int) + (j : Int) = ((1 + j : Nat) : Int) from by omega]
      exact cutn V.str XY (1 + j)]
    have a3 := a2.new (ob := .lst ((XY.take (1 + j)).map V.str)) np2
    have p2d := (a2.k.st.nd np2).1
    have pp2 : p ≠ p2 := ne_of_none a2.p np2
    have lxy : (XY.take (1 + j)).length = 1 + j := by
      rw [List.length_take]
      show min (1 + j) 3 = 1 + j
      omega
    refine ⟨p2, rfl, ⟨_, .inl (.inl upd_same)⟩, for_list (xs := (XY.take (1 + j)).map V.str) (fun i σ H3 => ∃ (y2 y3 : Option V) (xs : List V) (ds : List D), σ = [some (.ref d), some (.ref p), y2, y3, none, none] ∧ Acc d l p xs (ds.map D.v) H H3 ∧ H3 p2 = some (.lst ((XY.take (1 + j)).map V.str)) ∧ ds.length = i ∧ (∀ x ∈ ds, PyData.strOk x.n = true ∧ DB x) ∧ ds.map (·.n) = XY.take i) ?_ ?_ ?_ ?_⟩
    · exact ⟨_, _, [], [], rfl, a3, upd_same, rfl, fun x h => (List.not_mem_nil h).elim, rfl⟩
    · rintro i σ H3 hi ⟨y2, y3, xs, ds, rfl, a, hp2, hl, hok, hdn⟩
      exact .inl (.inl hp2)
    · rintro i x σ H3 hx ⟨y2, y3, xs, ds, rfl, a, hp2, hl, hok, hdn⟩
      obtain ⟨z, hzx, hzi, rfl⟩ : ∃ z ∈ XY, XY[i]? = some z ∧ x = .str z := by
        rw [List.getElem?_map] at hx
        cases e : (XY.take (1 + j))[i]? with
        | none =>
          rw [e] at hx
          cases hx
        | some z =>
          rw [e] at hx
          have hi : i < 1 + j := by
            have := (List.getElem?_eq_some_iff.mp e).1
            rwa [lxy] at this
          have e2 := e
          rw [List.getElem?_take_of_lt hi] at e2
          exact ⟨z, List.mem_of_getElem? e2, e2, (Option.some.inj hx).symm⟩
      have hi : i < 1 + j := by
        have := (List.getElem?_eq_some_iff.mp hx).1
        rwa [List.length_map, lxy] at this
      refine ⟨_, rfl, d, l, 9, rfl, a.k.st, by decide, fun H4 u u0 u1 k4 => ⟨u, 5, rfl, rfl, ?_⟩⟩
      have b4 := a.kp k4
      refine ⟨_, rfl, .inl ⟨rfl, _, .inl (.inl b4.p)⟩, _, rfl, _, rfl, _, rfl, _, rfl, d, l, 6, rfl, b4.k.st, by decide, fun H5 v v0 v1 k5 => ⟨_, v, rfl, rfl, ?_⟩⟩
      have b5 := b4.kp k5
      refine ⟨_, rfl, d, l, 4, rfl, b5.k.st, by decide, fun H6 y y0 y1 k6 => ⟨1, y, rfl, rfl, (by show 4 ≤ sizeLine; decide), fun t nt => ?_⟩⟩
      have b6 := b5.kp k6
      have b7 := b6.new (ob := .tup [.str z, .int (u - 5), .int (u - 5 + v), .int (1 + y)]) nt
      have h6 := k6.keep _ _ (k5.keep _ _ (k4.keep _ _ hp2 p2d) p2d) p2d
      refine ⟨p, _, _, rfl, rfl, b7.p, ?_, ?_⟩
      · have := b7.r.1
        rw [List.length_map] at this
        exact small1000 (by omega)
      · refine ⟨_, _, xs ++ [.ref t], ds ++ [⟨z, u - 5, u - 5 + v, 1 + y⟩], rfl, ?_, ?_, ?_, ?_, ?_⟩
        · rw [List.map_append]
          exact b7.push np npd upd_same
        · rw [upd_ne pp2.symm]
          exact same_new nt _ _ h6
        · rw [List.length_append, hl]
          rfl
        · intro x hx
          rcases List.mem_append.mp hx with h | h
          · exact hok x h
          · rw [List.mem_singleton.mp h]
            exact ⟨xy_ok z hzx, by show -5 ≤ u - 5; omega, by show u - 5 ≤ u - 5 + v; omega, by show u - 5 + v ≤ 8; omega, by show 1 ≤ 1 + y; omega, by show 1 + y ≤ 4; omega⟩
        · rw [List.map_append, hdn, List.take_add_one, hzi]
          rfl
    · rintro σ H3 ⟨y2, y3, xs, ds, rfl, a, hp2, hl, hok, hdn⟩
      rw [List.length_map, lxy] at hl
      refine ⟨Nat.zero_le _, fun r nr => ?_⟩
      have nrd := a.k.st.nd nr
      have rp : r ≠ p := fun z => by
        have := a.p
        rw [← z, nr] at this
        cases this
      have c0 : Acc d l r [] [] H3 (upd H3 r (.lst [])) := ⟨Kp.pre (same_new nr) (Kp.refl (a.k.st.same (same_new nr))), upd_same, Rows.nil⟩
      refine ⟨_, rfl, d, l, 4, rfl, c0.k.st, by decide, fun H4 n n0 n1 k4 => ⟨1, n, rfl, rfl, _, rfl, by omega, by omega, ?_⟩⟩
      have c1 := c0.kp k4
      refine for_range (lo := 0) (n := (1 + n).toNat) (fun i σ H5 => ∃ (y2 y3 y5 : Option V) (ys : List V) (ts : List T), σ = [some (.ref d), some (.ref p), y2, y3, some (.ref r), y5] ∧ Acc d l r ys (ts.map T.v) H3 H5 ∧ ts.length = i ∧ ts.map (·.n) = AB.take i ∧ ∀ t ∈ ts, ∃ q, t.k = kdS q) ⟨_, _, _, [], [], rfl, c1, rfl, rfl, fun t h => (List.not_mem_nil h).elim⟩ ?_ ?_
      · rintro i σ H5 hi ⟨y2, y3, y5, ys, ts, rfl, c, ht, hnm, hkd⟩
        rw [Int.zero_add]
        have hi4 : i < 4 := by omega
        have hab : i < AB.length := hi4
        refine ⟨_, rfl, .inl ⟨rfl, _, .inl (.inl c.p)⟩, (by show 4 ≤ sizeLine; decide), fun o1 no1 => ?_⟩
        have d1 := c.new (ob := .lst (AB.map V.str)) no1
        refine ⟨_, rfl, o1, _, _, .str AB[i], rfl, rfl, .inl (.inl upd_same), atI_nat (by show (AB.map V.str)[i]? = _; rw [List.getElem?_map, List.getElem?_eq_getElem hab]; rfl), (by show 4 ≤ sizeLine; decide), fun o2 no2 => ?_⟩
        have d2 := d1.new (ob := .lst (KK.map V.str)) no2
        refine ⟨_, rfl, _, rfl, d, l, 3, rfl, d2.k.st, by decide, fun H6 u u0 u1 k6 => ⟨_, u, rfl, rfl, .inl ⟨_, rfl, _, 4, rfl, rfl, (by show (0 : Int) < 4; decide), ?_⟩⟩⟩
        have d3 := d2.kp k6
        obtain ⟨kz, hkz, hat⟩ := str_in (ms := KK) (n := ((i : Int) + u) % 4) rfl (Int.emod_nonneg _ (by decide)) (Int.emod_lt_of_pos _ (by decide))
        obtain ⟨qk, hqk⟩ := kk_tab kz hkz
        refine ⟨o2, _, _, _, rfl, rfl, .inl (.inl (k6.keep _ _ upd_same (d1.k.st.nd no2).1)), hat, (by show 2 ≤ sizeLine; decide), fun t nt => ?_⟩
        have d4 := d3.new (ob := .tup [.str AB[i], .str kz]) nt
        refine ⟨r, _, _, rfl, rfl, d4.p, ?_, ?_⟩
        · have := d4.r.1
          rw [List.length_map] at this
          exact small1000 (by omega)
        · refine ⟨_, _, _, ys ++ [.ref t], ts ++ [⟨AB[i], kz⟩], rfl, ?_, ?_, ?_, ?_⟩
          · rw [List.map_append]
            exact d4.push nr nrd upd_same
          · rw [List.length_append, ht]
            rfl
          · rw [List.map_append, hnm, List.take_add_one, List.getElem?_eq_getElem hab]
            rfl
          · intro x hx
            rcases List.mem_append.mp hx with h | h
            · exact hkd x h
            · rw [List.mem_singleton.mp h]
              exact ⟨qk, hqk⟩
      · rintro σ H5 ⟨y2, y3, y5, ys, ts, rfl, c, ht, hnm, hkd⟩
        have hp5 := c.k.keep _ _ a.p (fun z => npd.1 z)
        have r5 := a.r.kp a.k.st c.k
        refine ⟨_, rfl, p, xs, rfl, .inl ⟨.inl (.inl hp5), fun td ntd => ?_⟩⟩
        have e1 := same_new (o := .tup xs) ntd
        refine ⟨_, rfl, r, ys, rfl, .inl ⟨.inl (.inl (e1 _ _ c.p)), fun ta nta => ?_⟩⟩
        have e2 := same_new (o := .tup ys) nta
        intro x dx nx ndx nex
        refine ⟨x, dx, .ref td, .ref ta, rfl, upd_same, rfl, ?_⟩
        have s8 := same_mk (o1 := .own x) (o2 := .ins C dx []) (o3 := .ins C dx [("dims", .ref td)]) (o4 := .ins C dx [("dims", .ref td), ("attrs", .ref ta)]) nx ndx
        have e12 := e1.trans e2
        have lt : ts.length ≤ 4 := by omega
        refine q _ x ds ts (((a.k.trans c.k).same e12).same s8) (shape_mk (C := C) nx ndx (e2 _ _ upd_same) (r5.same e12) upd_same (c.r.same e12)) ⟨by omega, by omega, lt, by rw [hnm, ht], hkd, fun x h => (hok x h).1, fun x h => (hok x h).2, by rw [hdn, List.length_map, lxy, hl], by omega⟩
end
end K2

namespace K2
open PySem L2
theorem Kp.at {d l a : Addr} {H H1 : Hp} {o : HO} (k : Kp d l H H1) (S : StAt H d l) (e : H a = some o) (ho : ∀ kv, o ≠ .dK kv) : H1 a = some o := by
  obtain ⟨ns, z, h1, _⟩ := S.ex
  refine k.keep _ _ e fun y => ?_
  rw [y, h1] at e
  exact ho _ (Option.some.inj e).symm
structure Gd (ds : List D) (ts : List T) (k : Kd) (n : Nat) (e : Ex) : Prop where
  wf : WF e
  dp : e.dep ≤ n
  ty : ∀ m, ck ds ts e m = .ok k
theorem find_nodup : ∀ {ts : List T} {t : T}, (ts.map (·.n)).Nodup → t ∈ ts → ts.find? (fun x => decide (x.n = t.n)) = some t
  | x :: r, t, h, m => by
    rw [List.map_cons, List.nodup_cons] at h
    rcases List.mem_cons.mp m with e | m
    · subst e
      rw [List.find?_cons_of_pos (p := fun x : T => decide (x.n = t.n)) (decide_eq_true rfl)]
    · have ne : ¬ decide (x.n = t.n) = true := fun z => h.1 (by rw [of_decide_eq_true z]; exact List.mem_map.mpr ⟨t, m, rfl⟩)
      rw [List.find?_cons_of_neg (p := fun x : T => decide (x.n = t.n)) ne]
      exact find_nodup h.2 m
theorem Dr.nodup {ds : List D} {ts : List T} (h : Dr ds ts) : (ts.map (·.n)).Nodup := by
  rw [h.nm]
  exact List.Nodup.sublist (List.take_sublist ..) (by decide +kernel)
theorem ab_ok : ∀ z ∈ AB, PyData.strOk z = true := by decide +kernel
theorem kd_ok (k : Kd) : PyData.strOk (kdS k) = true := by cases k <;> decide +kernel
theorem gd_attr {ds : List D} {ts : List T} {k : Kd} {t : T} {n : Nat} (h : Dr ds ts) (m : t ∈ ts) (hk : t.k = kdS k) : Gd ds ts k n (.attr t.n) := by
  refine ⟨by rw [WF]; exact ab_ok _ (List.mem_of_mem_take (i := ts.length) (by rw [← h.nm]; exact List.mem_map.mpr ⟨t, m, rfl⟩)), by rw [Ex.dep]; exact Nat.zero_le _, fun j => ?_⟩
  have e : leafK ds ts (.attr t.n) = some k := by
    show (ts.find? _).bind _ = some k
    rw [find_nodup h.nodup m]
    show kdOf t.k = some k
    rw [hk, kdOf_S]
  rw [ck, e]
theorem gd_dim {ds : List D} {ts : List T} {x : D} {n : Nat} (h : Dr ds ts) (m : x ∈ ds) : Gd ds ts .i n (.dim x.n) := by
  refine ⟨by rw [WF]; exact h.dn x m, by rw [Ex.dep]; exact Nat.zero_le _, fun j => ?_⟩
  have e : leafK ds ts (.dim x.n) = some .i := if_pos (List.mem_map.mpr ⟨x, m, rfl⟩)
  rw [ck, e]
theorem gd_val {ds : List D} {ts : List T} {k : Kd} {v : V} {n : Nat} (h : v = .non ∨ (OfK k v ∧ isVal k v = true)) : Gd ds ts k n (.val (kdS k) v) := by
  refine ⟨?_, by rw [Ex.dep]; exact Nat.zero_le _, fun j => ?_⟩
  · rw [WF]
    refine ⟨?_, kd_ok k⟩
    rcases h with h | ⟨h, g⟩
    · exact .inl h
    · cases k with
      | i => exact .inr (.inl h)
      | f => exact .inr (.inr (.inl h))
      | t =>
        obtain ⟨z, rfl, h1, h2⟩ := h
        have h3 : ((z.length : Int) ≤ 200) := of_decide_eq_true g
        exact .inr (.inr (.inr ⟨z, rfl, h1, by omega⟩))
  · have e : leafK ds ts (.val (kdS k) v) = some k := by
      show (kdOf (kdS k)).bind _ = some k
      rw [kdOf_S]
      show (if v = .non ∨ isVal k v = true then some k else none) = some k
      rw [if_pos (h.elim .inl fun z => .inr z.2)]
    rw [ck, e]
section
variable {P : Program} {w : World} {K : PySem.W.Frag} {mg : Str → Option Value} {base : Heap}
def spLeaf (C : Addr) : Sp := fun vs H Q _ => ∃ (d l s : Addr) (k : Kd) (ds : List D) (ts : List T), vs = [.ref d, .ref s, ks k] ∧ StAt H d l ∧ ShapeAt H C s ds ts ∧ Dr ds ts ∧ ∀ H' r e, Kp d l H H' → ExAt H' r e → Gd ds ts k 0 e → Q r H'
theorem scLeaf : FnScope ["state", "shape", "kind", "names", "choice", "name", "word"] ["state", "shape", "kind"] (defScope sLeaf) := ⟨rfl, rfl, rfl, by decide +kernel, rfl, by decide +kernel, by decide +kernel⟩
theorem ok_leaf {f fN fT C f1 f2 : Addr} {fd fdN fdT : FuncData} (F : Fun K "_law_leaf" "_law_leaf" sLeaf f fd) (M : Nm mg) (S : ShC K C f1 f2) (FN : Fun K "_law_next" "_law_next" sNext fN fdN) (bN : Binds K fdN ["state", "bound"] []) (gN : mg "_law_next" = some (.ref fN))
    (GT : FnOk P w K mg base CX0 3 fT fdT ["state", "kind"] spThing) (kT : PySem.W.keepIn K (.ref fT) = true) (bT : Binds K fdT ["state", "kind"] []) (gT : mg "_law_thing" = some (.ref fT)) : FnOk P w K mg base CX0 4 f fd ["state", "shape", "kind"] (spLeaf C) := by
  have GN : FnOk P w K mg base CX0 1 fN fdN ["state", "bound"] spNext := ok_next FN M.int M.len
  refine F.ok scLeaf (fun vs H Q E h => ?_) (fun cdv A outer s H vs Q E hr h => ?_)
  · obtain ⟨d, l, s, k, ds, ts, rfl, _⟩ := h
    rfl
  · obtain ⟨d, l, s', k, ds, ts, rfl, St, hS, dr, q⟩ := h
    have hr1 := hr.mono (j := 1) (by decide)
    refine ⟨_, pss_cons (ps_setLc (i := 3) (own := [("name", 5), ("word", 6)]) (g := gTup K 2 (gCons (gName 5) (gCons (gName 6) gNil))) rfl scLeaf.nd rfl rfl (sw_true rfl rfl rfl (by decide +kernel)) (pi_tup (pe_fld (pv 1) rfl))
          (blkOk_by (N := ["state", "shape", "kind", "names", "choice", "name", "word"]) (sc := defScope sLeaf) (by decide +kernel))
          (fun _ _ _ _ _ => pg_tupK K rfl (by rfl) (pgs_cons (pg_name (i := 5) scLeaf.nd rfl (Or.inl rfl)) (pgs_cons (pg_name (i := 6) scLeaf.nd rfl (Or.inl rfl)) pgs_nil)))
          (fun _ _ _ _ _ => pts_one (pt_cmpR op_eq (pv 6) (pv 2) (nomark _))) (fun _ _ _ _ _ => pv 5))
      (pss_cons (ps_set (i := 4) scLeaf.nd rfl (.inl rfl) (pe_call GN hr1 (by rfl) gN FN.kp bN .nil pass0 (pa_cons (pv 0) (pa_cons pe_int pa_nil))))
      (Evl.pss_cut (ps_if (PW.pt (pw_and (pt_cmpR op_lt (pv 4) pe_int (nomark _)) (pw_and1 (pt_cmpR op_gt (pe_callB call_len_seq (by rfl) M.len PySem.boot_len (pa_cons (pv 3) pa_nil)) pe_int (nomark _)))))
          (pss_one (ps_ret (pe_tup (pa_cons pe_str (pa_cons (pe_ix ix_list (pv 3) (pe_call GN hr1 (by rfl) gN FN.kp bN .nil pass0 (pa_cons (pv 0) (pa_cons (pe_callB call_len_seq (by rfl) M.len PySem.boot_len (pa_cons (pv 3) pa_nil)) pa_nil))) (fun _ _ => rfl)) pa_nil))))) pss_nil)
      (Evl.pss_cut (ps_if (PW.pt (pw_and (pt_cmpR op_lt (pv 4) pe_int (nomark _)) (pw_and1 (pt_cmpR op_eq (pv 2) pe_str (nomark _)))))
          (pss_one (ps_ret (pe_tup (pa_cons pe_str (pa_cons (pe_ix ix_tup (pe_ix ix_tup (pe_fld (pv 1) rfl) (pe_call GN hr1 (by rfl) gN FN.kp bN .nil pass0 (pa_cons (pv 0) (pa_cons (pe_callB call_len_seq (by rfl) M.len PySem.boot_len (pa_cons (pe_fld (pv 1) rfl) pa_nil)) pa_nil))) (fun _ _ => rfl)) pe_int (fun _ _ => rfl)) pa_nil))))) pss_nil)
      (Evl.pss_cut (ps_if (PW.pt (pw_and (pt_cmpR op_eq (pv 4) pe_int (nomark _)) (pw_and1 (pt_cmpR op_eq (pe_call GN hr1 (by rfl) gN FN.kp bN .nil pass0 (pa_cons (pv 0) (pa_cons pe_int pa_nil))) pe_int (nomark _)))))
          (pss_one (ps_ret (pe_tup (pa_cons pe_str (pa_cons (pv 2) (pa_cons pe_non pa_nil)))))) pss_nil)
      (pss_one (ps_ret (pe_tup (pa_cons pe_str (pa_cons (pv 2) (pa_cons (pe_call GT hr (by rfl) gT kT bT .nil pass0 (pa_cons (pv 0) (pa_cons (pv 2) pa_nil))) pa_nil)))))))))), ?_⟩
    obtain ⟨dx, td, ta, xs, ys, h1, h2, h3, h4, h5⟩ := id hS
    have lx : xs.length = ds.length := by
      have := h3.1
      rwa [List.length_map] at this
    have ly : ys.length = ts.length := by
      have := h5.1
      rwa [List.length_map] at this
    refine ⟨_, rfl, s', C, dx, _, .ref ta, rfl, h1, S.cl, S.nA, rfl, ta, rfl, ⟨_, SqT.of h4⟩, fun D nD => ?_⟩
    refine lc_it (walk_tup (xs := ys)) (fun i H3 => Same H H3 ∧ H3 D = some (.lst (((ts.take i).filter fun t => decide (t.k = kdS k)).map fun t => V.str t.n))) ⟨same_new nD, upd_same⟩ (fun _ _ _ z => SqT.of (z.1 _ _ h4)) ?_ ?_
    · rintro i x H3 H' hi ⟨sm, hD⟩ ⟨rfl, hxi⟩
      have hi2 : i < ts.length := by omega
      obtain ⟨b, e1, e2⟩ := h5.2 i ts[i].v (by rw [List.getElem?_map, List.getElem?_eq_getElem hi2]; rfl)
      obtain rfl : x = .ref b := Option.some.inj (hxi.symm.trans e1)
      have etk : ts.take (i + 1) = ts.take i ++ [ts[i]] := by
        rw [List.take_add_one, List.getElem?_eq_getElem hi2]
        rfl
      refine ⟨b, _, rfl, SqT.of (sm _ _ e2), rfl, _, _, rfl, _, _, rfl, rfl, rfl, ?_⟩
      refine ⟨_, rfl, _, rfl, rfl, _, rfl, ?_⟩
      have es : decide (V.str ts[i].k = ks k) = decide (ts[i].k = kdS k) := str_eq _ _
      rw [es]
      by_cases e : ts[i].k = kdS k
      · refine iteB (decide_eq_true e) ⟨_, rfl, _, hD, ?_, same_put sm nD, ?_⟩
        · rw [List.length_map]
          exact small1000 (Nat.le_trans (List.length_filter_le ..) (by rw [List.length_take]; have := dr.t2; omega))
        · rw [upd_same, etk, List.filter_append, List.map_append]
          rw [show [ts[i]].filter (fun t => decide (t.k = kdS k)) = [ts[i]] from List.filter_cons_of_pos (decide_eq_true e)]
          rfl
      · refine iteBF (decide_eq_false e) ⟨sm, ?_⟩
        rw [etk, List.filter_append]
        rw [show [ts[i]].filter (fun t => decide (t.k = kdS k)) = [] from List.filter_cons_of_neg (by rw [decide_eq_false e]; decide), List.append_nil]
        exact hD
    · rintro H3 ⟨sm, hD⟩
      rw [ly, List.take_length] at hD
      have k3 : Kp d l H H3 := (Kp.refl St).same sm
      refine ⟨_, rfl, d, l, 6, rfl, k3.st, by decide, fun H4 n n0 n1 k4 => ?_⟩
      have k34 := k3.trans k4
      have hS4 := hS.same sm
      have nDd : D ≠ d := (St.nd nD).1
      have hD4 := k4.keep _ _ hD nDd
      obtain ⟨L, eL⟩ : ∃ L : List T, L = ts.filter fun t => decide (t.k = kdS k) := ⟨_, rfl⟩
      rw [← eL] at hD4
      have memL : ∀ t ∈ L, t ∈ ts ∧ t.k = kdS k := fun t h => by
        rw [eL] at h
        have := List.mem_filter.mp h
        exact ⟨this.1, of_decide_eq_true this.2⟩
      have sD : SqL K H4 D (L.map fun t => V.str t.n) := .inl (.inl hD4)
      refine ⟨fun σ H' => ∃ y5 y6, σ = [some (.ref d), some (.ref s'), some (ks k), some (.ref D), some (.int n), y5, y6] ∧ H' = H4, ?_, ?_⟩
      · refine ⟨_, rfl, n, 3, rfl, rfl, _, rfl, ?_⟩
        by_cases c1 : n < 3
        case neg => exact iteBF (decide_eq_false c1) (iteF ⟨_, _, rfl, rfl⟩)
        refine iteB (decide_eq_true c1) ⟨_, rfl, D, _, rfl, .inl sD, ((L.map fun t => V.str t.n).length : Int), 0, rfl, rfl, _, rfl, ?_⟩
        by_cases c2 : 0 < ((L.map fun t => V.str t.n).length : Int)
        case neg => exact iteBF (decide_eq_false c2) ⟨_, _, rfl, rfl⟩
        refine iteB (decide_eq_true c2) ?_
        refine ⟨_, rfl, _, rfl, _, rfl, D, _, rfl, .inl sD, d, l, _, rfl, k34.st, c2, fun H5 m m0 m1 k5 => ?_⟩
        obtain ⟨j, rfl⟩ : ∃ j : Nat, m = (j : Int) := ⟨_, (Int.toNat_of_nonneg m0).symm⟩
        have hj : j < L.length := by
          rw [List.length_map] at m1
          omega
        obtain ⟨hm1, hm2⟩ := memL _ (List.getElem_mem hj)
        refine ⟨D, _, _, .str L[j].n, rfl, rfl, .inl (.inl (k5.keep _ _ hD4 nDd)), atI_nat (by rw [List.getElem?_map, List.getElem?_eq_getElem hj]; rfl), (by show 2 ≤ sizeLine; decide), fun t nt => ?_⟩
        exact q _ _ (.attr L[j].n) ((k34.trans k5).new nt) (.attr upd_same) (gd_attr dr hm1 hm2)
      rintro σ H' ⟨y5, y6, rfl, rfl⟩
      obtain ⟨dx2, td2, ta2, zs, us, f1, f2, f3, f4, f5⟩ := hS4
      have g1 := k4.at k3.st f1 (fun _ z => nomatch z)
      have g2 := k4.at k3.st f2 (fun _ z => nomatch z)
      have g3 := f3.kp k3.st k4
      have lz : zs.length = ds.length := by
        have := g3.1
        rwa [List.length_map] at this
      refine ⟨fun σ H'' => σ = [some (.ref d), some (.ref s'), some (ks k), some (.ref D), some (.int n), y5, y6] ∧ H'' = H', ?_, ?_⟩
      · refine ⟨_, rfl, n, 4, rfl, rfl, _, rfl, ?_⟩
        by_cases c1 : n < 4
        case neg => exact iteBF (decide_eq_false c1) (iteF ⟨rfl, rfl⟩)
        refine iteB (decide_eq_true c1) ⟨_, rfl, rfl, _, rfl, ?_⟩
        have ek : decide (ks k = .str ("int" : Str)) = decide (k = .i) := ks_eq k .i
        rw [ek]
        by_cases c2 : k = .i
        case neg => exact iteBF (decide_eq_false c2) ⟨rfl, rfl⟩
        subst c2
        refine iteB (decide_eq_true rfl) ?_
        refine ⟨_, rfl, s', C, dx2, _, .ref td2, rfl, g1, S.cl, S.nD, rfl, _, rfl, _, rfl, s', C, dx2, _, .ref td2, rfl, g1, S.cl, S.nD, rfl, td2, zs, rfl, .inr (SqT.of g2), d, l, _, rfl, k34.st, (by have := dr.d1; omega), fun H5 m m0 m1 k5 => ?_⟩
        obtain ⟨j, rfl⟩ : ∃ j : Nat, m = (j : Int) := ⟨_, (Int.toNat_of_nonneg m0).symm⟩
        have hj : j < ds.length := by omega
        obtain ⟨b, e1, e2⟩ := (g3.kp k34.st k5).2 j ds[j].v (by rw [List.getElem?_map, List.getElem?_eq_getElem hj]; rfl)
        refine ⟨td2, zs, _, .ref b, rfl, rfl, SqT.of (k5.at k34.st g2 (fun _ z => nomatch z)), atI_nat e1, b, _, 0, .str ds[j].n, rfl, rfl, SqT.of e2, atI_nat (j := 0) rfl, (by show 2 ≤ sizeLine; decide), fun t nt => ?_⟩
        exact q _ _ (.dim ds[j].n) ((k34.trans k5).new nt) (.dim upd_same) (gd_dim dr (List.getElem_mem hj))
      rintro σ H'' ⟨rfl, rfl⟩
      refine ⟨fun σ H5 => σ = [some (.ref d), some (.ref s'), some (ks k), some (.ref D), some (.int n), y5, y6] ∧ Kp d l H H5, ?_, ?_⟩
      · refine ⟨_, rfl, rfl, _, rfl, ?_⟩
        by_cases c1 : V.int n = V.int 5
        case neg => exact iteBF (decide_eq_false c1) (iteF ⟨rfl, k34⟩)
        refine iteB (decide_eq_true c1) ⟨_, rfl, d, l, 3, rfl, k34.st, by decide, fun H5 m m0 m1 k5 => ⟨rfl, _, rfl, ?_⟩⟩
        have k35 := k34.trans k5
        by_cases c2 : V.int m = V.int 0
        case neg => exact iteBF (decide_eq_false c2) ⟨rfl, k35⟩
        refine iteB (decide_eq_true c2) ⟨_, rfl, (by show 3 ≤ sizeLine; decide), fun t nt => ?_⟩
        exact q _ _ (.val (kdS k) .non) (k35.new nt) (.val upd_same) (gd_val (.inl rfl))
      rintro σ H5 ⟨rfl, k5⟩
      refine ⟨_, rfl, _, rfl, _, rfl, d, l, k, rfl, k5.st, fun H6 v hv1 hv2 k6 => ⟨(by show 3 ≤ sizeLine; decide), fun t nt => ?_⟩⟩
      exact q _ _ (.val (kdS k) v) ((k5.trans k6).new nt) (.val upd_same) (gd_val (.inr ⟨hv1, hv2⟩))
end
end K2

namespace K2
open PySem L2
theorem cks1 {ds : List D} {ts : List T} {e : Ex} {m : Nat} {k : Kd} (h : ∀ m, ck ds ts e m = .ok k) : cks ds ts [e] m = .ok [k] := by rw [cks_one, h]
theorem cksC {ds : List D} {ts : List T} {e : Ex} {r : List Ex} {m : Nat} {k : Kd} {qs : List Kd} (h : ∀ m, ck ds ts e m = .ok k) (g : ∀ m, cks ds ts r m = .ok qs) : cks ds ts (e :: r) m = .ok (k :: qs) := by
  rw [cks, h]
  show (match cks ds ts r (m + e.size) with | .error m => Except.error m | .ok ks => .ok (k :: ks)) = _
  rw [g]
theorem gd_op1 {ds : List D} {ts : List T} {w : Str} {e : Ex} {k k1 : Kd} {n : Nat} (g : Gd ds ts k1 n e) (ha : ar w = some 1) (hj : joint w [k1] = some k) : Gd ds ts k (n + 1) (.op w [e]) := by
  refine ⟨by rw [WF, WFs, WFs]; exact ⟨ha, g.wf, trivial⟩, ?_, fun m => ?_⟩
  · rw [Ex.dep, Ex.deps, Ex.deps]
    have := g.dp
    omega
  · rw [ck, cks1 g.ty]
    show (match joint w [k1] with | some k => Except.ok k | none => .error m) = _
    rw [hj]
theorem gd_op2 {ds : List D} {ts : List T} {w : Str} {e1 e2 : Ex} {k k1 k2 : Kd} {n : Nat} (g1 : Gd ds ts k1 n e1) (g2 : Gd ds ts k2 n e2) (ha : ar w = some 2) (hj : joint w [k1, k2] = some k) : Gd ds ts k (n + 1) (.op w [e1, e2]) := by
  refine ⟨by rw [WF, WFs, WFs, WFs]; exact ⟨ha, g1.wf, g2.wf, trivial⟩, ?_, fun m => ?_⟩
  · rw [Ex.dep, Ex.deps, Ex.deps, Ex.deps]
    have := g1.dp
    have := g2.dp
    omega
  · rw [ck, cksC g1.ty fun m => cks1 g2.ty]
    show (match joint w [k1, k2] with | some k => Except.ok k | none => .error m) = _
    rw [hj]
theorem gd_op3 {ds : List D} {ts : List T} {w : Str} {e1 e2 e3 : Ex} {k k1 k2 k3 : Kd} {n : Nat} (g1 : Gd ds ts k1 n e1) (g2 : Gd ds ts k2 n e2) (g3 : Gd ds ts k3 n e3) (ha : ar w = some 3) (hj : joint w [k1, k2, k3] = some k) : Gd ds ts k (n + 1) (.op w [e1, e2, e3]) := by
  refine ⟨by rw [WF, WFs, WFs, WFs, WFs]; exact ⟨ha, g1.wf, g2.wf, g3.wf, trivial⟩, ?_, fun m => ?_⟩
  · rw [Ex.dep, Ex.deps, Ex.deps, Ex.deps, Ex.deps]
    have := g1.dp
    have := g2.dp
    have := g3.dp
    omega
  · rw [ck, cksC g1.ty fun m => cksC g2.ty fun m => cks1 g3.ty]
    show (match joint w [k1, k2, k3] with | some k => Except.ok k | none => .error m) = _
    rw [hj]
theorem Gd.mono {ds : List D} {ts : List T} {e : Ex} {k : Kd} {n m : Nat} (g : Gd ds ts k n e) (h : n ≤ m) : Gd ds ts k m e := ⟨g.wf, Nat.le_trans g.dp h, g.ty⟩
theorem ex1 {H : Hp} {a : Addr} {w : Str} {r : V} {e : Ex} (h : H a = some (.tup [.str w, r])) (x : ExAt H r e) (nw : w ∉ LV) : ExAt H (.ref a) (.op w [e]) := .op h (.cons x .nil) nw (by simp)
theorem ex2 {H : Hp} {a : Addr} {w : Str} {r1 r2 : V} {e1 e2 : Ex} (h : H a = some (.tup [.str w, r1, r2])) (x : ExAt H r1 e1) (y : ExAt H r2 e2) (nw : w ∉ LV) : ExAt H (.ref a) (.op w [e1, e2]) := .op h (.cons x (.cons y .nil)) nw (by simp)
theorem ex3 {H : Hp} {a : Addr} {w : Str} {r1 r2 r3 : V} {e1 e2 e3 : Ex} (h : H a = some (.tup [.str w, r1, r2, r3])) (x : ExAt H r1 e1) (y : ExAt H r2 e2) (z : ExAt H r3 e3) (nw : w ∉ LV) : ExAt H (.ref a) (.op w [e1, e2, e3]) := .op h (.cons x (.cons y (.cons z .nil))) nw (by simp)
theorem ShapeAt.kp {d l : Addr} {H H1 : Hp} {C a : Addr} {ds : List D} {ts : List T} (h : ShapeAt H C a ds ts) (S : StAt H d l) (k : Kp d l H H1) : ShapeAt H1 C a ds ts := by
  obtain ⟨dx, td, ta, xs, ys, h1, h2, h3, h4, h5⟩ := h
  exact ⟨dx, td, ta, xs, ys, k.at S h1 (fun _ z => nomatch z), k.at S h2 (fun _ z => nomatch z), h3.kp S k, k.at S h4 (fun _ z => nomatch z), h5.kp S k⟩
def K3 : List Str := ["int", "flag", "text"]
def K5 : List Str := ["int", "int", "int", "text", "flag"]
def AO : List Str := ["and", "or"]
def NA : List Str := ["neg", "abs"]
theorem k3_tab : ∀ z ∈ K3, ∃ q, z = kdS q := by
  intro z h
  rcases List.mem_cons.mp h with rfl | h
  · exact ⟨.i, rfl⟩
  rcases List.mem_cons.mp h with rfl | h
  · exact ⟨.f, rfl⟩
  rcases List.mem_cons.mp h with rfl | h
  · exact ⟨.t, rfl⟩
  · exact absurd h List.not_mem_nil
theorem k5_tab : ∀ z ∈ K5, ∃ q, z = kdS q := fun z h => k3_tab z (by
  have : ∀ z ∈ K5, z ∈ K3 := by decide +kernel
  exact this z h)
theorem cmp_t : ∀ w ∈ CMP, ∀ k ∈ QS, ar w = some 2 ∧ joint w [k, k] = some .f ∧ w ∉ LV := by decide +kernel
theorem ao_t : ∀ w ∈ AO, ar w = some 2 ∧ joint w [.f, .f] = some .f ∧ w ∉ LV := by decide +kernel
theorem na_t : ∀ w ∈ NA, ar w = some 1 ∧ joint w [.i] = some .i ∧ w ∉ LV := by decide +kernel
theorem a5_t : ∀ w ∈ A5, ar w = some 2 ∧ joint w [.i, .i] = some .i ∧ w ∉ LV := by decide +kernel
theorem mi_t : ∀ k ∈ QS, joint "is missing" [k] = some .f := by decide +kernel
theorem if_t : ∀ k ∈ QS, joint "if" [.f, k, k] = some k := by decide +kernel
theorem oe_t : ∀ k ∈ QS, joint "or else" [k, k] = some k := by decide +kernel
section
variable {P : Program} {w : World} {K : PySem.W.Frag} {mg : Str → Option Value} {base : Heap}
def spE (C : Addr) (n : Nat) : Sp := fun vs H Q _ => ∃ (d l s : Addr) (k : Kd) (z : Nat) (ds : List D) (ts : List T), vs = [.ref d, .ref s, ks k, .int (z : Int)] ∧ z < n ∧ StAt H d l ∧ ShapeAt H C s ds ts ∧ Dr ds ts ∧ ∀ H' r e, Kp d l H H' → ExAt H' r e → Gd ds ts k z e → Q r H'
def spFl (C : Addr) (n : Nat) : Sp := fun vs H Q _ => ∃ (d l s : Addr) (z : Nat) (ds : List D) (ts : List T), vs = [.ref d, .ref s, .int ((z + 1 : Nat) : Int)] ∧ z < n ∧ StAt H d l ∧ ShapeAt H C s ds ts ∧ Dr ds ts ∧ ∀ H' r e, Kp d l H H' → ExAt H' r e → Gd ds ts .f (z + 1) e → Q r H'
theorem scFlag : FnScope ["state", "shape", "depth", "choice", "word", "kind"] ["state", "shape", "depth"] (defScope sFlag) := ⟨rfl, rfl, rfl, by decide +kernel, rfl, by decide +kernel, by decide +kernel⟩
theorem ok_flag {f fN fE C : Addr} {fd fdN fdE : FuncData} {n lv : Nat} (F : Fun K "_law_flag" "_law_flag" sFlag f fd) (M : Nm mg) (FN : Fun K "_law_next" "_law_next" sNext fN fdN) (bN : Binds K fdN ["state", "bound"] []) (gN : mg "_law_next" = some (.ref fN))
    (GE : FnOk P w K mg base CX0 lv fE fdE ["state", "shape", "kind", "depth"] (spE C n)) (kE : PySem.W.keepIn K (.ref fE) = true) (bE : Binds K fdE ["state", "shape", "kind", "depth"] []) (gE : mg "_law_expression" = some (.ref fE)) (hl : 1 ≤ lv) : FnOk P w K mg base CX0 (lv + 1) f fd ["state", "shape", "depth"] (spFl C n) := by
  have GN : FnOk P w K mg base CX0 1 fN fdN ["state", "bound"] spNext := ok_next FN M.int M.len
  refine F.ok scFlag (fun vs H Q E h => ?_) (fun cdv A outer s H vs Q E hr h => ?_)
  · obtain ⟨d, l, s, z, ds, ts, rfl, _⟩ := h
    rfl
  · obtain ⟨d, l, s', z, ds, ts, rfl, hz, St, hS, dr, q⟩ := h
    have hr1 := hr.mono (j := 1) hl
    refine ⟨_, pss_cons (ps_set (i := 3) scFlag.nd rfl (.inl rfl) (pe_call GN hr1 (by rfl) gN FN.kp bN .nil pass0 (pa_cons (pv 0) (pa_cons pe_int pa_nil))))
      (pss_cons (ps_if (pt_cmpR op_eq (pv 3) pe_int (nomark _)) (pss_one (ps_ret (pe_tup (pa_cons pe_str (pa_cons (pe_call GE hr (by rfl) gE kE bE .nil pass0 (pa_cons (pv 0) (pa_cons (pv 1) (pa_cons pe_str (pa_cons (pe_op op_sub (pv 2) pe_int) pa_nil))))) pa_nil))))) pss_nil)
      (pss_cons (ps_if (pt_cmpR op_eq (pv 3) pe_int (nomark _)) (pss_one (ps_ret (pe_tup (pa_cons pe_str (pa_cons (pe_call GE hr (by rfl) gE kE bE .nil pass0 (pa_cons (pv 0) (pa_cons (pv 1) (pa_cons (pe_ix ix_list (pe_lst (pa_cons pe_str (pa_cons pe_str (pa_cons pe_str pa_nil))))
          (pe_call GN hr1 (by rfl) gN FN.kp bN .nil pass0 (pa_cons (pv 0) (pa_cons pe_int pa_nil))) (fun _ _ => rfl)) (pa_cons (pe_op op_sub (pv 2) pe_int) pa_nil))))) pa_nil))))) pss_nil)
      (pss_cons (ps_if (pt_cmpR op_lt (pv 3) pe_int (nomark _)) (pss_cons (ps_set (i := 4) scFlag.nd rfl (.inl rfl) (pe_ix ix_list (pe_lst (pa_cons pe_str (pa_cons pe_str pa_nil))) (pe_op op_sub (pv 3) pe_int) (fun _ _ => rfl)))
          (pss_one (ps_ret (pe_tup (pa_cons (pv 4) (pa_cons (pe_call GE hr (by rfl) gE kE bE .nil pass0 (pa_cons (pv 0) (pa_cons (pv 1) (pa_cons pe_str (pa_cons (pe_op op_sub (pv 2) pe_int) pa_nil))))) (pa_cons (pe_call GE hr (by rfl) gE kE bE .nil pass0 (pa_cons (pv 0) (pa_cons (pv 1) (pa_cons pe_str (pa_cons (pe_op op_sub (pv 2) pe_int) pa_nil))))) pa_nil))))))) pss_nil)
      (pss_cons (ps_set (i := 5) scFlag.nd rfl (.inl rfl) (pe_ix ix_list (pe_lst (pa_cons pe_str (pa_cons pe_str (pa_cons pe_str (pa_cons pe_str (pa_cons pe_str pa_nil)))))) (pe_call GN hr1 (by rfl) gN FN.kp bN .nil pass0 (pa_cons (pv 0) (pa_cons pe_int pa_nil))) (fun _ _ => rfl)))
      (pss_cons (ps_set (i := 4) scFlag.nd rfl (.inl rfl) (pe_ix ix_list (pe_lst (pa_cons pe_str (pa_cons pe_str (pa_cons pe_str (pa_cons pe_str (pa_cons pe_str (pa_cons pe_str pa_nil))))))) (pe_call GN hr1 (by rfl) gN FN.kp bN .nil pass0 (pa_cons (pv 0) (pa_cons pe_int pa_nil))) (fun _ _ => rfl)))
      (pss_one (ps_ret (pe_tup (pa_cons (pv 4) (pa_cons (pe_call GE hr (by rfl) gE kE bE .nil pass0 (pa_cons (pv 0) (pa_cons (pv 1) (pa_cons (pv 5) (pa_cons (pe_op op_sub (pv 2) pe_int) pa_nil))))) (pa_cons (pe_call GE hr (by rfl) gE kE bE .nil pass0 (pa_cons (pv 0) (pa_cons (pv 1) (pa_cons (pv 5) (pa_cons (pe_op op_sub (pv 2) pe_int) pa_nil))))) pa_nil)))))))))))
      , ?_⟩
    have ez : ((z + 1 : Nat) : Int) - 1 = (z : Int) := by omega
    have ev : ∀ u : V, [V.ref d, V.ref s', u, V.int (((z + 1 : Nat) : Int) - 1)] = [V.ref d, V.ref s', u, V.int (z : Int)] := fun u => by rw [ez]
    refine ⟨_, rfl, d, l, 9, rfl, St, by decide, fun H1 n0 n1 n2 k1 => ?_⟩
    have hS1 := hS.kp St k1
    refine ⟨_, rfl, rfl, _, rfl, ite2 (fun _ => ?_) (fun _ => ?_)⟩
    · refine ⟨_, rfl, _, rfl, _, rfl, _, 1, rfl, rfl, d, l, s', .f, z, ds, ts, ev (ks .f), hz, k1.st, hS1, dr, fun H2 r e k2 x g => ⟨(by show 2 ≤ sizeLine; decide), fun t nt => ?_⟩⟩
      exact q _ _ _ ((k1.trans k2).new nt) (ex1 upd_same (x.same (same_new nt)) (by decide +kernel)) (gd_op1 g (by decide +kernel) (by decide +kernel))
    refine ⟨_, rfl, rfl, _, rfl, ite2 (fun _ => ?_) (fun _ => ?_)⟩
    · refine ⟨_, rfl, _, rfl, (by show 3 ≤ sizeLine; decide), fun o no => ?_⟩
      have k2 := k1.new (o := .lst (K3.map V.str)) no
      refine ⟨_, rfl, d, l, 3, rfl, k2.st, by decide, fun H3 m m0 m1 k3 => ?_⟩
      obtain ⟨kz, hkz, hat⟩ := str_in (ms := K3) rfl m0 m1
      obtain ⟨qk, rfl⟩ := k3_tab kz hkz
      have k23 := k2.trans k3
      refine ⟨o, _, _, _, rfl, rfl, .inl (.inl (k3.keep _ _ upd_same (k1.st.nd no).1)), hat, _, rfl, _, 1, rfl, rfl, d, l, s', qk, z, ds, ts, ev (ks qk), hz, k23.st, hS.kp St k23, dr, fun H4 r e k4 x g => ⟨(by show 2 ≤ sizeLine; decide), fun t nt => ?_⟩⟩
      exact q _ _ _ ((k23.trans k4).new nt) (ex1 upd_same (x.same (same_new nt)) (by decide +kernel)) (gd_op1 g (by decide +kernel) (mi_t qk (qs_in qk)))
    rename_i hn0 hn1
    have hn0' : n0 ≠ 0 := fun h => by rw [h] at hn0; exact absurd hn0 (by decide)
    have hn1' : n0 ≠ 1 := fun h => by rw [h] at hn1; exact absurd hn1 (by decide)
    refine ⟨_, rfl, n0, 4, rfl, rfl, _, rfl, ?_⟩
    by_cases c : n0 < 4
    · refine iteB (decide_eq_true c) ⟨(by show 2 ≤ sizeLine; decide), fun o no => ?_⟩
      have k2 := k1.new (o := .lst (AO.map V.str)) no
      obtain ⟨wz, hwz, hat⟩ := str_in (ms := AO) (n := n0 - 2) rfl (by omega) (by show n0 - 2 < ((2 : Nat) : Int); omega)
      obtain ⟨t1, t2, t3⟩ := ao_t wz hwz
      refine ⟨_, rfl, n0, 2, rfl, rfl, o, _, _, _, rfl, rfl, .inl (.inl upd_same), hat, ?_⟩
      refine ⟨_, rfl, _, rfl, _, rfl, _, rfl, _, 1, rfl, rfl, d, l, s', .f, z, ds, ts, ev (ks .f), hz, k2.st, hS.kp St k2, dr, fun H4 r e k4 x g => ?_⟩
      have k24 := k2.trans k4
      refine ⟨_, rfl, _, rfl, _, rfl, _, 1, rfl, rfl, d, l, s', .f, z, ds, ts, ev (ks .f), hz, k24.st, hS.kp St k24, dr, fun H5 r2 e2 k5 x2 g2 => ⟨(by show 3 ≤ sizeLine; decide), fun t nt => ?_⟩⟩
      exact q _ _ _ ((k24.trans k5).new nt) (ex2 upd_same ((x.kp k24.st k5).same (same_new nt)) (x2.same (same_new nt)) t3) (gd_op2 g g2 t1 t2)
    refine iteBF (decide_eq_false c) ⟨(by show 5 ≤ sizeLine; decide), fun o no => ?_⟩
    have k2 := k1.new (o := .lst (K5.map V.str)) no
    refine ⟨_, rfl, d, l, 5, rfl, k2.st, by decide, fun H3 m m0 m1 k3 => ?_⟩
    obtain ⟨kz, hkz, hat⟩ := str_in (ms := K5) rfl m0 m1
    obtain ⟨qk, rfl⟩ := k5_tab kz hkz
    have k23 := k2.trans k3
    refine ⟨o, _, _, _, rfl, rfl, .inl (.inl (k3.keep _ _ upd_same (k1.st.nd no).1)), hat, (by show 6 ≤ sizeLine; decide), fun o2 no2 => ?_⟩
    have k4 := k23.new (o := .lst (CMP.map V.str)) no2
    refine ⟨_, rfl, d, l, 6, rfl, k4.st, by decide, fun H5 m2 m20 m21 k5 => ?_⟩
    obtain ⟨wz, hwz, hat2⟩ := str_in (ms := CMP) rfl m20 m21
    obtain ⟨t1, t2, t3⟩ := cmp_t wz hwz qk (qs_in qk)
    have k45 := k4.trans k5
    refine ⟨o2, _, _, _, rfl, rfl, .inl (.inl (k5.keep _ _ upd_same (k23.st.nd no2).1)), hat2, ?_⟩
    refine ⟨_, rfl, _, rfl, _, rfl, _, rfl, _, rfl, _, 1, rfl, rfl, d, l, s', qk, z, ds, ts, ev (ks qk), hz, k45.st, hS.kp St k45, dr, fun H6 r e k6 x g => ?_⟩
    have k56 := k45.trans k6
    refine ⟨_, rfl, _, rfl, _, rfl, _, rfl, _, 1, rfl, rfl, d, l, s', qk, z, ds, ts, ev (ks qk), hz, k56.st, hS.kp St k56, dr, fun H7 r2 e2 k7 x2 g2 => ⟨(by show 3 ≤ sizeLine; decide), fun t nt => ?_⟩⟩
    exact q _ _ _ ((k56.trans k7).new nt) (ex2 upd_same ((x.kp k56.st k7).same (same_new nt)) (x2.same (same_new nt)) t3) (gd_op2 g g2 t1 t2)
end
end K2

namespace K2
open PySem L2
section
variable {P : Program} {w : World} {K : PySem.W.Frag} {mg : Str → Option Value} {base : Heap}
theorem scExpr : FnScope ["state", "shape", "kind", "depth", "choice", "parts", "word"] ["state", "shape", "kind", "depth"] (defScope sExpr) := ⟨rfl, rfl, rfl, by decide +kernel, rfl, by decide +kernel, by decide +kernel⟩
theorem ok_expr {f fN fL fF C : Addr} {fd fdN fdL fdF : FuncData} (F : Fun K "_law_expression" "_law_expression" sExpr f fd) (gF : mg "_law_expression" = some (.ref f)) (bF : Binds K fd ["state", "shape", "kind", "depth"] []) (M : Nm mg) (FN : Fun K "_law_next" "_law_next" sNext fN fdN) (bN : Binds K fdN ["state", "bound"] []) (gN : mg "_law_next" = some (.ref fN))
    (GL : FnOk P w K mg base CX0 4 fL fdL ["state", "shape", "kind"] (spLeaf C)) (kL : PySem.W.keepIn K (.ref fL) = true) (bL : Binds K fdL ["state", "shape", "kind"] []) (gL : mg "_law_leaf" = some (.ref fL))
    (FF : Fun K "_law_flag" "_law_flag" sFlag fF fdF) (bFF : Binds K fdF ["state", "shape", "depth"] []) (gFF : mg "_law_flag" = some (.ref fF)) : ∀ n : Nat, FnOk P w K mg base CX0 (5 + 2 * n) f fd ["state", "shape", "kind", "depth"] (spE C n) := by
  have GN : FnOk P w K mg base CX0 1 fN fdN ["state", "bound"] spNext := ok_next FN M.int M.len
  intro n
  induction n with
  | zero =>
    refine F.ok scExpr (fun vs H Q E h => ?_) (fun cdv A outer s H vs Q E hr h => ?_)
    · obtain ⟨d, l, s, k, z, ds, ts, rfl, _⟩ := h
      rfl
    · obtain ⟨d, l, s, k, z, ds, ts, rfl, hz, _⟩ := h
      exact absurd hz (Nat.not_lt_zero _)
  | succ n ih =>
    have GF : FnOk P w K mg base CX0 (5 + 2 * n + 1) fF fdF ["state", "shape", "depth"] (spFl C n) := ok_flag FF M FN bN gN ih F.kp bF gF (by omega)
    have e7 : 5 + 2 * (n + 1) = (6 + 2 * n) + 1 := by omega
    rw [e7]
    refine F.ok scExpr (fun vs H Q E h => ?_) (fun cdv A outer s H vs Q E hr h => ?_)
    · obtain ⟨d, l, s, k, z, ds, ts, rfl, _⟩ := h
      rfl
    · obtain ⟨d, l, s', k, z, ds, ts, rfl, hz, St, hS, dr, q⟩ := h
      have hr1 := hr.mono (j := 1) (by omega)
      have hr4 := hr.mono (j := 4) (by omega)
      have hre := hr.mono (j := 5 + 2 * n) (by omega)
      have hrf := hr.mono (j := 5 + 2 * n + 1) (by omega)
      refine ⟨_, pss_cons (ps_set (i := 4) scExpr.nd rfl (.inl rfl) (pe_call GN hr1 (by rfl) gN FN.kp bN .nil pass0 (pa_cons (pv 0) (pa_cons pe_int pa_nil))))
        (pss_cons (ps_if (PW.pt (pw_or (pt_cmpR op_le (pv 3) pe_int (nomark _)) (pw_or1 (pt_cmpR op_eq (pv 4) pe_int (nomark _))))) (pss_one (ps_ret (pe_call GL hr4 (by rfl) gL kL bL .nil pass0 (pa_cons (pv 0) (pa_cons (pv 1) (pa_cons (pv 2) pa_nil)))))) pss_nil)
        (pss_cons (ps_if (pt_cmpR op_eq (pv 4) pe_int (nomark _)) (pss_cons (ps_set (i := 5) scExpr.nd rfl (.inl rfl) (pe_tup (pa_cons (pe_call ih hre (by rfl) gF F.kp bF .nil pass0 (pa_cons (pv 0) (pa_cons (pv 1) (pa_cons (pv 2) (pa_cons (pe_op op_sub (pv 3) pe_int) pa_nil)))))
              (pa_cons (pe_call ih hre (by rfl) gF F.kp bF .nil pass0 (pa_cons (pv 0) (pa_cons (pv 1) (pa_cons (pv 2) (pa_cons (pe_op op_sub (pv 3) pe_int) pa_nil))))) pa_nil))))
            (pss_one (ps_ret (pe_op op_catT (pe_tup (pa_cons pe_str (pa_cons (pe_call ih hre (by rfl) gF F.kp bF .nil pass0 (pa_cons (pv 0) (pa_cons (pv 1) (pa_cons pe_str (pa_cons (pe_op op_sub (pv 3) pe_int) pa_nil))))) pa_nil))) (pv 5))))) pss_nil)
        (pss_cons (ps_if (pt_cmpR op_eq (pv 4) pe_int (nomark _)) (pss_one (ps_ret (pe_tup (pa_cons pe_str (pa_cons (pe_call ih hre (by rfl) gF F.kp bF .nil pass0 (pa_cons (pv 0) (pa_cons (pv 1) (pa_cons (pv 2) (pa_cons (pe_op op_sub (pv 3) pe_int) pa_nil)))))
              (pa_cons (pe_call ih hre (by rfl) gF F.kp bF .nil pass0 (pa_cons (pv 0) (pa_cons (pv 1) (pa_cons (pv 2) (pa_cons (pe_op op_sub (pv 3) pe_int) pa_nil))))) pa_nil)))))) pss_nil)
        (pss_cons (ps_if (pt_cmpR op_eq (pv 2) pe_str (nomark _)) (pss_one (ps_ret (pe_call GF hrf (by rfl) gFF FF.kp bFF .nil pass0 (pa_cons (pv 0) (pa_cons (pv 1) (pa_cons (pv 3) pa_nil)))))) pss_nil)
        (pss_cons (ps_if (pt_cmpR op_eq (pv 2) pe_str (nomark _)) (pss_one (ps_ret (pe_tup (pa_cons pe_str (pa_cons (pe_call ih hre (by rfl) gF F.kp bF .nil pass0 (pa_cons (pv 0) (pa_cons (pv 1) (pa_cons (pv 2) (pa_cons (pe_op op_sub (pv 3) pe_int) pa_nil)))))
              (pa_cons (pe_call ih hre (by rfl) gF F.kp bF .nil pass0 (pa_cons (pv 0) (pa_cons (pv 1) (pa_cons (pv 2) (pa_cons (pe_op op_sub (pv 3) pe_int) pa_nil))))) pa_nil)))))) pss_nil)
        (pss_cons (ps_if (pt_cmpR op_eq (pv 4) pe_int (nomark _)) (pss_one (ps_ret (pe_tup (pa_cons pe_str (pa_cons (pe_call ih hre (by rfl) gF F.kp bF .nil pass0 (pa_cons (pv 0) (pa_cons (pv 1) (pa_cons pe_str (pa_cons (pe_op op_sub (pv 3) pe_int) pa_nil))))) pa_nil))))) pss_nil)
        (pss_cons (ps_if (pt_cmpR op_eq (pv 4) pe_int (nomark _)) (pss_one (ps_ret (pe_tup (pa_cons (pe_ix ix_list (pe_lst (pa_cons pe_str (pa_cons pe_str pa_nil))) (pe_call GN hr1 (by rfl) gN FN.kp bN .nil pass0 (pa_cons (pv 0) (pa_cons pe_int pa_nil))) (fun _ _ => rfl))
              (pa_cons (pe_call ih hre (by rfl) gF F.kp bF .nil pass0 (pa_cons (pv 0) (pa_cons (pv 1) (pa_cons (pv 2) (pa_cons (pe_op op_sub (pv 3) pe_int) pa_nil))))) pa_nil))))) pss_nil)
        (pss_cons (ps_set (i := 6) scExpr.nd rfl (.inl rfl) (pe_ix ix_list (pe_lst (pa_cons pe_str (pa_cons pe_str (pa_cons pe_str (pa_cons pe_str (pa_cons pe_str pa_nil)))))) (pe_call GN hr1 (by rfl) gN FN.kp bN .nil pass0 (pa_cons (pv 0) (pa_cons pe_int pa_nil))) (fun _ _ => rfl)))
        (pss_one (ps_ret (pe_tup (pa_cons (pv 6) (pa_cons (pe_call ih hre (by rfl) gF F.kp bF .nil pass0 (pa_cons (pv 0) (pa_cons (pv 1) (pa_cons (pv 2) (pa_cons (pe_op op_sub (pv 3) pe_int) pa_nil)))))
              (pa_cons (pe_call ih hre (by rfl) gF F.kp bF .nil pass0 (pa_cons (pv 0) (pa_cons (pv 1) (pa_cons (pv 2) (pa_cons (pe_op op_sub (pv 3) pe_int) pa_nil))))) pa_nil)))))))))))))), ?_⟩
      refine ⟨_, rfl, d, l, 10, rfl, St, by decide, fun H1 c c0 c1 k1 => ?_⟩
      have hS1 := hS.kp St k1
      refine ⟨_, rfl, (z : Int), 0, rfl, rfl, _, rfl, ?_⟩
      by_cases hz0 : (z : Int) ≤ 0
      · exact iteB (decide_eq_true hz0) ⟨_, rfl, _, rfl, _, rfl, d, l, s', k, ds, ts, rfl, k1.st, hS1, dr, fun H2 r e k2 x g => q _ _ _ (k1.trans k2) x (g.mono (Nat.zero_le _))⟩
      refine iteBF (decide_eq_false hz0) ⟨_, rfl, rfl, _, rfl, ite2 (fun _ => ?_) (fun _ => ?_)⟩
      · exact ⟨_, rfl, _, rfl, _, rfl, d, l, s', k, ds, ts, rfl, k1.st, hS1, dr, fun H2 r e k2 x g => q _ _ _ (k1.trans k2) x (g.mono (Nat.zero_le _))⟩
      obtain ⟨y, rfl⟩ : ∃ y, z = y + 1 := ⟨z - 1, by omega⟩
      have hy : y < n := by omega
      have ez : ((y + 1 : Nat) : Int) - 1 = (y : Int) := by omega
      have ev : ∀ u : V, [V.ref d, V.ref s', u, V.int (((y + 1 : Nat) : Int) - 1)] = [V.ref d, V.ref s', u, V.int (y : Int)] := fun u => by rw [ez]
      refine ⟨_, rfl, rfl, _, rfl, ite2 (fun _ => ?_) (fun _ => ?_)⟩
      · refine ⟨_, rfl, _, rfl, _, rfl, _, rfl, _, 1, rfl, rfl, d, l, s', k, y, ds, ts, ev (ks k), hy, k1.st, hS1, dr, fun H2 r1 e1 k2 x1 g1 => ?_⟩
        have k12 := k1.trans k2
        refine ⟨_, rfl, _, rfl, _, rfl, _, rfl, _, 1, rfl, rfl, d, l, s', k, y, ds, ts, ev (ks k), hy, k12.st, hS.kp St k12, dr, fun H3 r2 e2 k3 x2 g2 => ⟨(by show 2 ≤ sizeLine; decide), fun t nt => ?_⟩⟩
        have k13 := (k12.trans k3).new (o := .tup [r1, r2]) nt
        have x1' := (x1.kp k12.st k3).same (same_new (o := .tup [r1, r2]) nt)
        have x2' := x2.same (same_new (o := .tup [r1, r2]) nt)
        refine ⟨_, rfl, _, rfl, _, rfl, _, 1, rfl, rfl, d, l, s', .f, y, ds, ts, ev (ks .f), hy, k13.st, hS.kp St k13, dr, fun H4 r3 e3 k4 x3 g3 => ⟨(by show 2 ≤ sizeLine; decide), fun t2 nt2 => ?_⟩⟩
        have k14 := (k13.trans k4).new (o := .tup [.str "if", r3]) nt2
        have ht := same_new (o := .tup [.str "if", r3]) nt2 _ _ (k4.at k13.st upd_same (fun _ z => nomatch z))
        refine ⟨_, rfl, t2, t, _, _, rfl, rfl, SqT.of upd_same, SqT.of ht, (by simp), (by show 2 + 2 ≤ sizeLine; decide), (fun h => absurd h (by simp)), fun _ p3 np3 => ?_⟩
        have s5 := (same_new (o := .tup [.str "if", r3]) nt2).trans (same_new (o := .tup ([.str "if", r3] ++ [r1, r2])) np3)
        exact q _ _ _ (k14.new np3) (ex3 upd_same (x3.same s5) ((x1'.kp k13.st k4).same s5) ((x2'.kp k13.st k4).same s5) (by decide +kernel)) (gd_op3 g3 g1 g2 (by decide +kernel) (if_t k (qs_in k)))
      refine ⟨_, rfl, rfl, _, rfl, ite2 (fun _ => ?_) (fun _ => ?_)⟩
      · refine ⟨_, rfl, _, rfl, _, rfl, _, rfl, _, 1, rfl, rfl, d, l, s', k, y, ds, ts, ev (ks k), hy, k1.st, hS1, dr, fun H2 r1 e1 k2 x1 g1 => ?_⟩
        have k12 := k1.trans k2
        refine ⟨_, rfl, _, rfl, _, rfl, _, rfl, _, 1, rfl, rfl, d, l, s', k, y, ds, ts, ev (ks k), hy, k12.st, hS.kp St k12, dr, fun H3 r2 e2 k3 x2 g2 => ⟨(by show 3 ≤ sizeLine; decide), fun t nt => ?_⟩⟩
        exact q _ _ _ ((k12.trans k3).new nt) (ex2 upd_same ((x1.kp k12.st k3).same (same_new nt)) (x2.same (same_new nt)) (by decide +kernel)) (gd_op2 g1 g2 (by decide +kernel) (oe_t k (qs_in k)))
      refine ⟨_, rfl, rfl, _, rfl, ?_⟩
      rw [show decide (ks k = .str ("flag" : Str)) = decide (k = .f) from ks_eq k .f]
      by_cases kf : k = .f
      · subst kf
        exact iteB (decide_eq_true rfl) ⟨_, rfl, _, rfl, _, rfl, d, l, s', y, ds, ts, rfl, hy, k1.st, hS1, dr, fun H2 r e k2 x g => q _ _ _ (k1.trans k2) x g⟩
      refine iteBF (decide_eq_false kf) ⟨_, rfl, rfl, _, rfl, ?_⟩
      rw [show decide (ks k = .str ("text" : Str)) = decide (k = .t) from ks_eq k .t]
      by_cases kt : k = .t
      · subst kt
        refine iteB (decide_eq_true rfl) ⟨_, rfl, _, rfl, _, rfl, _, rfl, _, 1, rfl, rfl, d, l, s', .t, y, ds, ts, ev (ks .t), hy, k1.st, hS1, dr, fun H2 r1 e1 k2 x1 g1 => ?_⟩
        have k12 := k1.trans k2
        refine ⟨_, rfl, _, rfl, _, rfl, _, rfl, _, 1, rfl, rfl, d, l, s', .t, y, ds, ts, ev (ks .t), hy, k12.st, hS.kp St k12, dr, fun H3 r2 e2 k3 x2 g2 => ⟨(by show 3 ≤ sizeLine; decide), fun t nt => ?_⟩⟩
        exact q _ _ _ ((k12.trans k3).new nt) (ex2 upd_same ((x1.kp k12.st k3).same (same_new nt)) (x2.same (same_new nt)) (by decide +kernel)) (gd_op2 g1 g2 (by decide +kernel) (by decide +kernel))
      have ki : k = .i := by cases k <;> first | rfl | exact absurd rfl kf | exact absurd rfl kt
      subst ki
      refine iteBF (decide_eq_false kt) ⟨_, rfl, rfl, _, rfl, ite2 (fun _ => ?_) (fun _ => ?_)⟩
      · refine ⟨_, rfl, _, rfl, _, rfl, _, 1, rfl, rfl, d, l, s', .t, y, ds, ts, ev (ks .t), hy, k1.st, hS1, dr, fun H2 r1 e1 k2 x1 g1 => ⟨(by show 2 ≤ sizeLine; decide), fun t nt => ?_⟩⟩
        exact q _ _ _ ((k1.trans k2).new nt) (ex1 upd_same (x1.same (same_new nt)) (by decide +kernel)) (gd_op1 g1 (by decide +kernel) (by decide +kernel))
      refine ⟨_, rfl, rfl, _, rfl, ite2 (fun _ => ?_) (fun _ => ?_)⟩
      · refine ⟨(by show 2 ≤ sizeLine; decide), fun o no => ?_⟩
        have k2 := k1.new (o := .lst (NA.map V.str)) no
        refine ⟨_, rfl, d, l, 2, rfl, k2.st, by decide, fun H3 m m0 m1 k3 => ?_⟩
        obtain ⟨wz, hwz, hat⟩ := str_in (ms := NA) rfl m0 m1
        obtain ⟨t1, t2, t3⟩ := na_t wz hwz
        have k23 := k2.trans k3
        refine ⟨o, _, _, _, rfl, rfl, .inl (.inl (k3.keep _ _ upd_same (k1.st.nd no).1)), hat, _, rfl, _, rfl, _, rfl, _, rfl, _, 1, rfl, rfl, d, l, s', .i, y, ds, ts, ev (ks .i), hy, k23.st, hS.kp St k23, dr, fun H4 r1 e1 k4 x1 g1 => ⟨(by show 2 ≤ sizeLine; decide), fun t nt => ?_⟩⟩
        exact q _ _ _ ((k23.trans k4).new nt) (ex1 upd_same (x1.same (same_new nt)) t3) (gd_op1 g1 t1 t2)
      refine ⟨(by show 5 ≤ sizeLine; decide), fun o no => ?_⟩
      have k2 := k1.new (o := .lst (A5.map V.str)) no
      refine ⟨_, rfl, d, l, 5, rfl, k2.st, by decide, fun H3 m m0 m1 k3 => ?_⟩
      obtain ⟨wz, hwz, hat⟩ := str_in (ms := A5) rfl m0 m1
      obtain ⟨t1, t2, t3⟩ := a5_t wz hwz
      have k23 := k2.trans k3
      refine ⟨o, _, _, _, rfl, rfl, .inl (.inl (k3.keep _ _ upd_same (k1.st.nd no).1)), hat, ?_⟩
      refine ⟨_, rfl, _, rfl, _, rfl, _, rfl, _, rfl, _, 1, rfl, rfl, d, l, s', .i, y, ds, ts, ev (ks .i), hy, k23.st, hS.kp St k23, dr, fun H4 r1 e1 k4 x1 g1 => ?_⟩
      have k24 := k23.trans k4
      refine ⟨_, rfl, _, rfl, _, rfl, _, rfl, _, 1, rfl, rfl, d, l, s', .i, y, ds, ts, ev (ks .i), hy, k24.st, hS.kp St k24, dr, fun H5 r2 e2 k5 x2 g2 => ⟨(by show 3 ≤ sizeLine; decide), fun t nt => ?_⟩⟩
      exact q _ _ _ ((k24.trans k5).new nt) (ex2 upd_same ((x1.kp k24.st k5).same (same_new nt)) (x2.same (same_new nt)) t3) (gd_op2 g1 g2 t1 t2)
end
end K2

namespace K2
open PySem L2
section
variable {P : Program} {w : World} {K : PySem.W.Frag} {mg : Str → Option Value} {base : Heap}
def spParts : Sp := fun vs H Q _ => ∃ (r : V) (e : Ex), vs = [r] ∧ ExAt H r e ∧ ∀ H' p xs, Same H H' → H p = none → H' p = some (.lst xs) → ExAll H' xs e.parts → Q (.ref p) H'
theorem scParts : FnScope ["expression"] ["expression"] (defScope sPartsOf) := ⟨rfl, rfl, rfl, by decide +kernel, rfl, by decide +kernel, by decide +kernel⟩
theorem ok_parts {f : Addr} {fd : FuncData} (F : Fun K "parts_of" "parts_of" sPartsOf f fd) (N : Nm mg) (leaves : ∃ kk, mg "LEAVES" = some (.ref kk) ∧ ∀ H : Hp, SqT K H kk ((["value", "attr", "dim"] : List Str).map V.str)) : FnOk P w K mg base CX0 1 f fd ["expression"] spParts := by
  refine F.ok scParts (fun vs H Q E h => ?_) (fun cdv A outer s H vs Q E hr h => ?_)
  · obtain ⟨r, e, rfl, _⟩ := h
    rfl
  · obtain ⟨r, e, rfl, he, q⟩ := h
    obtain ⟨kk, m1, r1⟩ := leaves
    refine ⟨_, pss_cons (ps_if (pt_cmpR op_in_seq (pe_ix ix_tup (pv 0) pe_int (fun _ _ => rfl)) (pe_glob (v := .ref kk) (by rfl) m1 rfl) (by rfl)) (pss_one (ps_ret (pe_lst pa_nil))) pss_nil)
      (pss_one (ps_ret (pe_callTy call_list_of (by rfl) N.list (by decide +kernel) (pa_cons (pe_slice sl_tup (pv 0) (po_some pe_int) po_none) pa_nil)))), ?_⟩
    obtain ⟨a, xs, rfl, ha, h1, h2⟩ := he.tup
    refine ⟨_, rfl, a, _, 0, _, rfl, rfl, SqT.of ha, atI_nat (j := 0) rfl, kk, _, rfl, .inr (r1 H), rfl, flat_strs LV, _, rfl, ?_⟩
    by_cases hw : e.word ∈ LV
    · refine iteB ((inV_str _ LV).trans (decide_eq_true hw)) ⟨Nat.zero_le _, fun p np => ?_⟩
      exact q _ p [] (same_new np) np upd_same (by rw [h2 hw]; exact .nil)
    · refine iteBF ((inV_str _ LV).trans (decide_eq_false hw)) ?_
      refine ⟨_, rfl, 1, rfl, a, _, rfl, SqT.of ha, cut1_not _ _, fun p np => ?_⟩
      have s1 := same_new (o := .tup (cutV (.str e.word :: xs) (some 1) none)) np
      refine ⟨p, _, rfl, .inr (SqT.of upd_same), fun p2 np2 => ?_⟩
      have s2 := s1.trans (same_new (o := .lst (cutV (.str e.word :: xs) (some 1) none)) np2)
      exact q _ p2 xs s2 (s1.free np2) (by rw [upd_same, cut1]) ((h1 hw).same s2)
end
end K2

namespace K2
open PySem L2
/-! ### values of expressions -/
def ob : Option Bool → V
  | none => .non
  | some b => .bl b
def and3 : Option Bool → Option Bool → Option Bool
  | some false, _ => some false
  | none, some false => some false
  | none, _ => none
  | some true, b => b
def or3 : Option Bool → Option Bool → Option Bool
  | some true, _ => some true
  | none, some true => some true
  | none, _ => none
  | some false, b => b
def cmpV (w : Str) (k : Kd) (a b : V) : Bool := if w = "eq" then decide (a = b) else if w = "ne" then !decide (a = b) else if w = "lt" then less k a b else if w = "le" then !less k b a else if w = "gt" then less k b a else !less k a b
def arI (w : Str) (a b : Int) : Option Int := if w = "add" then some (a + b) else if w = "sub" then some (a - b) else if w = "mul" then some (a * b) else if b = 0 then none else if w = "div" then some (a.fdiv b) else some (a.fmod b)
def capI : Option Int → V
  | none => .non
  | some n => if isVal .i (.int n) = true then .int n else .non
def chs : Option Bool → V → V → V
  | none, _, _ => .non
  | some true, a, _ => a
  | some false, _, b => b
def LW : List Str := ["is missing", "and", "or", "if", "or else"]
inductive ApL : Str → List V → V → Prop
  | mis (x : V) : ApL "is missing" [x] (.bl (decide (x = .non)))
  | and2 (a b : Option Bool) : ApL "and" [ob a, ob b] (ob (and3 a b))
  | or2 (a b : Option Bool) : ApL "or" [ob a, ob b] (ob (or3 a b))
  | iff (c : Option Bool) (a b : V) : ApL "if" [ob c, a, b] (chs c a b)
  | els (a b : V) : ApL "or else" [a, b] (if a = .non then b else a)
inductive ApS : Str → List V → V → Prop
  | not (b : Bool) : ApS "not" [.bl b] (.bl (!b))
  | neg (n : Int) : ApS "neg" [.int n] (.int (-n))
  | abs (n : Int) : ApS "abs" [.int n] (.int (if n < 0 then -n else n))
  | len (z : Str) : z.length ≤ 200 → ApS "length" [.str z] (.int (z.length : Int))
  | joined (y z : Str) : y.length ≤ 200 → z.length ≤ 200 → ApS "joined" [.str y, .str z] (if y.length + z.length ≤ 200 then .str (y ++ z) else .non)
  | cmp (w : Str) (k : Kd) (a b : V) : w ∈ CMP → OfK k a → OfK k b → ApS w [a, b] (.bl (cmpV w k a b))
  | ar (w : Str) (a b : Int) : w ∈ A5 → NumOk a → NumOk b → ApS w [.int a, .int b] (capI (arI w a b))
inductive Ap (w : Str) (xs : List V) : V → Prop
  | loose {v : V} : ApL w xs v → Ap w xs v
  | gone : w ∉ LW → V.non ∈ xs → Ap w xs .non
  | strict {v : V} : V.non ∉ xs → ApS w xs v → Ap w xs v
inductive OkVs : List Kd → List V → Prop
  | nil : OkVs [] []
  | cons {k : Kd} {v : V} {ks : List Kd} {vs : List V} : OkV k v → OkVs ks vs → OkVs (k :: ks) (v :: vs)
theorem OkV.flat {k : Kd} {v : V} (h : OkV k v) : flatV v = true := by
  rcases h with rfl | ⟨h, _⟩
  · rfl
  · cases k with
    | i => obtain ⟨n, rfl⟩ := h; rfl
    | f => obtain ⟨b, rfl⟩ := h; rfl
    | t => obtain ⟨z, rfl, _⟩ := h; rfl
theorem OkVs.flat : ∀ {ks : List Kd} {vs : List V}, OkVs ks vs → vs.all flatV = true
  | _, _, .nil => rfl
  | _, _, .cons h g => by rw [List.all_cons, h.flat, g.flat]; rfl
mutual
inductive Ev (ds : List D) (ts : List T) (pl : List Int) (vs : List V) : Ex → V → Prop
  | val {k : Str} {v : V} : Ev ds ts pl vs (.val k v) v
  | attr {n : Str} {i : Nat} {v : V} : IsIdx (ts.map (·.n)) n (some i) → vs[i]? = some v → Ev ds ts pl vs (.attr n) v
  | dim {n : Str} {i : Nat} {c : Int} : IsIdx (ds.map (·.n)) n (some i) → pl[i]? = some c → Ev ds ts pl vs (.dim n) (.int c)
  | op {w : Str} {ps : List Ex} {xs : List V} {v : V} : EvAll ds ts pl vs ps xs → xs.all flatV = true → Ap w xs v → Ev ds ts pl vs (.op w ps) v
inductive EvAll (ds : List D) (ts : List T) (pl : List Int) (vs : List V) : List Ex → List V → Prop
  | nil : EvAll ds ts pl vs [] []
  | cons {e : Ex} {es : List Ex} {x : V} {xs : List V} : Ev ds ts pl vs e x → EvAll ds ts pl vs es xs → EvAll ds ts pl vs (e :: es) (x :: xs)
end
theorem EvAll.len {ds : List D} {ts : List T} {pl : List Int} {vs : List V} : ∀ {es : List Ex} {xs : List V}, EvAll ds ts pl vs es xs → xs.length = es.length
  | _, _, .nil => rfl
  | _, _, .cons _ g => by rw [List.length_cons, List.length_cons, g.len]
theorem EvAll.at {ds : List D} {ts : List T} {pl : List Int} {vs : List V} : ∀ {es : List Ex} {xs : List V} {i : Nat} {e : Ex}, EvAll ds ts pl vs es xs → es[i]? = some e → ∃ x, xs[i]? = some x ∧ Ev ds ts pl vs e x
  | _, _, _, _, .nil, h => by simp at h
  | _, _, 0, _, .cons h g, q => by
    have := Option.some.inj q
    subst this
    exact ⟨_, rfl, h⟩
  | _, _, i + 1, _, .cons h g, q => EvAll.at (i := i) g q
/-- which words take which kinds -/
def JT (w : Str) (qs : List Kd) (k : Kd) : Prop :=
    (w = "not" ∧ qs = [.f] ∧ k = .f) ∨ (w = "neg" ∧ qs = [.i] ∧ k = .i) ∨ (w = "abs" ∧ qs = [.i] ∧ k = .i) ∨ (w = "length" ∧ qs = [.t] ∧ k = .i) ∨ (w = "joined" ∧ qs = [.t, .t] ∧ k = .t) ∨
    (w ∈ CMP ∧ k = .f ∧ ∃ a ∈ QS, qs = [a, a]) ∨ (w ∈ A5 ∧ qs = [.i, .i] ∧ k = .i) ∨ (w = "is missing" ∧ k = .f ∧ ∃ a ∈ QS, qs = [a]) ∨ (w = "and" ∧ qs = [.f, .f] ∧ k = .f) ∨ (w = "or" ∧ qs = [.f, .f] ∧ k = .f) ∨
    (w = "if" ∧ qs = [.f, k, k]) ∨ (w = "or else" ∧ qs = [k, k])
instance (w : Str) (qs : List Kd) (k : Kd) : Decidable (JT w qs k) := by
  unfold JT
  infer_instance
theorem jt : ∀ w ∈ AW, ∀ qs ∈ LA, ∀ k ∈ QS, ar w = some qs.length → joint w qs = some k → JT w qs k := by decide +kernel
theorem notLW : ∀ w ∈ ([("not" : Str), "neg", "abs", "length", "joined"] ++ CMP ++ A5), w ∉ LW := by decide +kernel
theorem okf {v : V} (h : OkV .f v) : ∃ b, v = ob b := by
  rcases h with rfl | ⟨⟨b, rfl⟩, _⟩
  · exact ⟨none, rfl⟩
  · exact ⟨some b, rfl⟩
theorem ob_ok (b : Option Bool) : OkV .f (ob b) := by
  cases b with
  | none => exact .inl rfl
  | some b => exact .inr ⟨⟨b, rfl⟩, rfl⟩
theorem num_of {n : Int} (h : isVal .i (.int n) = true) : NumOk n := by
  have h : (decide (-(10 ^ 30 : Int) < n) && decide (n < 10 ^ 30)) = true := h
  rw [Bool.and_eq_true, decide_eq_true_eq, decide_eq_true_eq] at h
  exact h
theorem of_num {n : Int} (h : NumOk n) : isVal .i (.int n) = true := by
  show (decide (-(10 ^ 30 : Int) < n) && decide (n < 10 ^ 30)) = true
  rw [Bool.and_eq_true, decide_eq_true_eq, decide_eq_true_eq]
  exact h
theorem ok_int {n : Int} (h : NumOk n) : OkV .i (.int n) := .inr ⟨⟨n, rfl⟩, of_num h⟩
theorem cap_ok (o : Option Int) : OkV .i (capI o) := by
  cases o with
  | none => exact .inl rfl
  | some n =>
    by_cases h : isVal .i (.int n) = true
    · rw [show capI (some n) = .int n from if_pos h]
      exact .inr ⟨⟨n, rfl⟩, h⟩
    · rw [show capI (some n) = .non from if_neg h]
      exact .inl rfl
/-- what a word makes of values of the kinds that it takes -/
theorem ap_of {w : Str} {qs : List Kd} {xs : List V} {k : Kd} (ha : ar w = some qs.length) (hj : joint w qs = some k) (hx : OkVs qs xs) : ∃ v, Ap w xs v ∧ OkV k v := by
  have hla : qs ∈ LA := la_in (ar_le ha)
  rcases jt w (ar_in ha) qs hla k (qs_in k) ha hj with ⟨rfl, rfl, rfl⟩ | ⟨rfl, rfl, rfl⟩ | ⟨rfl, rfl, rfl⟩ | ⟨rfl, rfl, rfl⟩ | ⟨rfl, rfl, rfl⟩ | ⟨hw, rfl, a, _, rfl⟩ | ⟨hw, rfl, rfl⟩ | ⟨rfl, rfl, a, _, rfl⟩ | ⟨rfl, rfl, rfl⟩ | ⟨rfl, rfl, rfl⟩ | ⟨rfl, rfl⟩ | ⟨rfl, rfl⟩
  · cases hx with | cons h g => cases g with | nil =>
    rcases h with rfl | ⟨⟨b, rfl⟩, _⟩
    · exact ⟨_, .gone (notLW _ (by decide +kernel)) (List.mem_cons_self ..), .inl rfl⟩
    · exact ⟨_, .strict (by simp) (.not b), .inr ⟨⟨_, rfl⟩, rfl⟩⟩
  · cases hx with | cons h g => cases g with | nil =>
    rcases h with rfl | ⟨⟨n, rfl⟩, hn⟩
    · exact ⟨_, .gone (notLW _ (by decide +kernel)) (List.mem_cons_self ..), .inl rfl⟩
    · have := num_of hn
      exact ⟨_, .strict (by simp) (.neg n), ok_int ⟨by have := this.2; omega, by have := this.1; omega⟩⟩
  · cases hx with | cons h g => cases g with | nil =>
    rcases h with rfl | ⟨⟨n, rfl⟩, hn⟩
    · exact ⟨_, .gone (notLW _ (by decide +kernel)) (List.mem_cons_self ..), .inl rfl⟩
    · have := num_of hn
      refine ⟨_, .strict (by simp) (.abs n), ok_int ?_⟩
      have h1 := this.1
      have h2 := this.2
      split <;> exact ⟨by omega, by omega⟩
  · cases hx with | cons h g => cases g with | nil =>
    rcases h with rfl | ⟨⟨z, rfl, _, _⟩, hn⟩
    · exact ⟨_, .gone (notLW _ (by decide +kernel)) (List.mem_cons_self ..), .inl rfl⟩
    · have h2 : ((z.length : Int) ≤ 200) := of_decide_eq_true hn
      exact ⟨_, .strict (by simp) (.len z (by omega)), ok_int ⟨by omega, by omega⟩⟩
  · cases hx with | cons h g => cases g with | cons h2 g => cases g with | nil =>
    rcases h with rfl | ⟨⟨y, rfl, y1, y2⟩, hy⟩
    · exact ⟨_, .gone (notLW _ (by decide +kernel)) (List.mem_cons_self ..), .inl rfl⟩
    rcases h2 with rfl | ⟨⟨z, rfl, z1, z2⟩, hz⟩
    · exact ⟨_, .gone (notLW _ (by decide +kernel)) (by simp), .inl rfl⟩
    have h3 : ((y.length : Int) ≤ 200) := of_decide_eq_true hy
    have h4 : ((z.length : Int) ≤ 200) := of_decide_eq_true hz
    refine ⟨_, .strict (by simp) (.joined y z (by omega) (by omega)), ?_⟩
    split
    · rename_i h5
      have e : (y ++ z).length = y.length + z.length := Array.size_append
      exact .inr ⟨⟨_, rfl, cat_ok y1 z1, by omega⟩, decide_eq_true (by omega)⟩
    · exact .inl rfl
  · cases hx with | cons h g => cases g with | cons h2 g => cases g with | nil =>
    have nl : w ∉ LW := notLW _ (List.mem_append.mpr (.inl (List.mem_append.mpr (.inr hw))))
    rcases h with rfl | ⟨h, hn⟩
    · exact ⟨_, .gone nl (List.mem_cons_self ..), .inl rfl⟩
    rcases h2 with rfl | ⟨h2, hn2⟩
    · exact ⟨_, .gone nl (by simp), .inl rfl⟩
    refine ⟨_, .strict ?_ (.cmp w a _ _ hw h h2), .inr ⟨⟨_, rfl⟩, rfl⟩⟩
    cases a with
    | i => obtain ⟨n, rfl⟩ := h; obtain ⟨m, rfl⟩ := h2; simp
    | f => obtain ⟨n, rfl⟩ := h; obtain ⟨m, rfl⟩ := h2; simp
    | t => obtain ⟨n, rfl, _⟩ := h; obtain ⟨m, rfl, _⟩ := h2; simp
  · cases hx with | cons h g => cases g with | cons h2 g => cases g with | nil =>
    have nl : w ∉ LW := notLW _ (List.mem_append.mpr (.inr hw))
    rcases h with rfl | ⟨⟨n, rfl⟩, hn⟩
    · exact ⟨_, .gone nl (List.mem_cons_self ..), .inl rfl⟩
    rcases h2 with rfl | ⟨⟨m, rfl⟩, hm⟩
    · exact ⟨_, .gone nl (by simp), .inl rfl⟩
    exact ⟨_, .strict (by simp) (.ar w n m hw (num_of hn) (num_of hm)), cap_ok _⟩
  · cases hx with | cons h g => cases g with | nil =>
    exact ⟨_, .loose (.mis _), .inr ⟨⟨_, rfl⟩, rfl⟩⟩
  · cases hx with | cons h g => cases g with | cons h2 g => cases g with | nil =>
    obtain ⟨a, rfl⟩ := okf h
    obtain ⟨b, rfl⟩ := okf h2
    exact ⟨_, .loose (.and2 a b), ob_ok _⟩
  · cases hx with | cons h g => cases g with | cons h2 g => cases g with | nil =>
    obtain ⟨a, rfl⟩ := okf h
    obtain ⟨b, rfl⟩ := okf h2
    exact ⟨_, .loose (.or2 a b), ob_ok _⟩
  · cases hx with | cons h g => cases g with | cons h2 g => cases g with | cons h3 g => cases g with | nil =>
    obtain ⟨c, rfl⟩ := okf h
    refine ⟨_, .loose (.iff c _ _), ?_⟩
    match c with
    | none => exact .inl rfl
    | some true => exact h2
    | some false => exact h3
  · cases hx with | cons h g => cases g with | cons h2 g => cases g with | nil =>
    refine ⟨_, .loose (.els _ _), ?_⟩
    split
    · exact h2
    · exact h
/-- a place and values of a cell of the shape -/
structure Fits (ds : List D) (ts : List T) (pl : List Int) (vs : List V) : Prop where
  lp : pl.length = ds.length
  np : ∀ c ∈ pl, NumOk c
  lv : vs.length = ts.length
  kv : ∀ (i : Nat) (t : T) (v : V), ts[i]? = some t → vs[i]? = some v → ∃ k, t.k = kdS k ∧ OkV k v
theorem idx_of {ns : List Str} {n : Str} (h : n ∈ ns) : ∃ i, IsIdx ns n (some i) := by
  induction ns with
  | nil => exact absurd h List.not_mem_nil
  | cons m r ih =>
    by_cases e : m = n
    · exact ⟨0, by rw [e]; rfl, fun j hj => absurd hj (Nat.not_lt_zero _)⟩
    · obtain ⟨i, h1, h2⟩ := ih ((List.mem_cons.mp h).resolve_left fun z => e z.symm)
      refine ⟨i + 1, h1, fun j hj => ?_⟩
      cases j with
      | zero => exact fun z => e (Option.some.inj z)
      | succ j => exact h2 j (by omega)
theorem cks_len {ds : List D} {ts : List T} : ∀ {es : List Ex} {m : Nat} {ks : List Kd}, cks ds ts es m = .ok ks → ks.length = es.length
  | [], m, ks, h => by
    rw [cks] at h
    injection h with h
    rw [← h]
    rfl
  | e :: r, m, ks, h => by
    rw [cks] at h
    cases h1 : ck ds ts e m with
    | error j => rw [h1] at h; cases h
    | ok k =>
      rw [h1] at h
      cases h2 : cks ds ts r (m + e.size) with
      | error j => simp only [h2] at h; cases h
      | ok qs =>
        simp only [h2] at h
        injection h with h
        rw [← h, List.length_cons, List.length_cons, cks_len h2]
mutual
theorem ev_of {ds : List D} {ts : List T} {pl : List Int} {vs : List V} (F : Fits ds ts pl vs) : ∀ (e : Ex) {m : Nat} {k : Kd}, WF e → ck ds ts e m = .ok k → ∃ v, Ev ds ts pl vs e v ∧ OkV k v
  | .val kz v, m, k, wf, h => by
    refine ⟨v, .val, ?_⟩
    rw [ck] at h
    cases e : leafK ds ts (.val kz v) with
    | none => rw [e] at h; cases h
    | some k2 =>
      rw [e] at h
      injection h with h
      subst h
      have e : ((kdOf kz).bind fun q => if v = .non ∨ isVal q v = true then some q else none) = some k2 := e
      cases e3 : kdOf kz with
      | none => rw [e3] at e; cases e
      | some q =>
        rw [e3] at e
        have e : (if v = .non ∨ isVal q v = true then some q else none) = some k2 := e
        split at e
        · rename_i c
          have := Option.some.inj e
          subst this
          rcases c with c | c
          · exact .inl c
          · refine .inr ⟨?_, c⟩
            rcases wf.1 with rfl | ⟨n, rfl⟩ | ⟨b, rfl⟩ | ⟨z, rfl, z1, z2⟩
            · cases q <;> cases c
            · cases q with
              | i => exact ⟨n, rfl⟩
              | f => cases c
              | t => cases c
            · cases q with
              | i => cases c
              | f => exact ⟨b, rfl⟩
              | t => cases c
            · cases q with
              | i => cases c
              | f => cases c
              | t => exact ⟨z, rfl, z1, by omega⟩
        · cases e
  | .attr n, m, k, wf, h => by
    rw [ck] at h
    cases e : leafK ds ts (.attr n) with
    | none => rw [e] at h; cases h
    | some k2 =>
      rw [e] at h
      injection h with h
      subst h
      have e : (ts.find? fun t => decide (t.n = n)).bind (fun t => kdOf t.k) = some k2 := e
      cases e3 : ts.find? fun t => decide (t.n = n) with
      | none => rw [e3] at e; cases e
      | some t =>
        rw [e3] at e
        have e : kdOf t.k = some k2 := e
        have hm := List.mem_of_find?_eq_some e3
        have hn := of_decide_eq_true (List.find?_some (p := fun t : T => decide (t.n = n)) e3)
        obtain ⟨i, hi⟩ := idx_of (ns := ts.map (·.n)) (n := n) (List.mem_map.mpr ⟨t, hm, hn⟩)
        have hfs := find_some hi.1 hi.2
        rw [e3] at hfs
        have hil : i < ts.length := (List.getElem?_eq_some_iff.mp hfs.symm).1
        have hlv : i < vs.length := by rw [F.lv]; exact hil
        have hv : vs[i]? = some vs[i] := List.getElem?_eq_getElem hlv
        obtain ⟨q, hq, ho⟩ := F.kv i t _ hfs.symm hv
        rw [hq, kdOf_S] at e
        have := Option.some.inj e
        subst this
        exact ⟨_, .attr hi hv, ho⟩
  | .dim n, m, k, wf, h => by
    rw [ck] at h
    cases e : leafK ds ts (.dim n) with
    | none => rw [e] at h; cases h
    | some k2 =>
      rw [e] at h
      injection h with h
      subst h
      have e : (if n ∈ ds.map (·.n) then some Kd.i else none) = some k2 := e
      split at e
      · rename_i hm
        have := Option.some.inj e
        subst this
        obtain ⟨i, hi⟩ := idx_of hm
        have hil : i < ds.length := by
          have := (List.getElem?_eq_some_iff.mp hi.1).1
          rwa [List.length_map] at this
        have hlp : i < pl.length := by rw [F.lp]; exact hil
        have hp : pl[i]? = some pl[i] := List.getElem?_eq_getElem hlp
        exact ⟨_, .dim hi hp, ok_int (F.np _ (List.getElem_mem _))⟩
      · cases e
  | .op wd ps, m, k, wf, h => by
    rw [ck] at h
    cases h1 : cks ds ts ps (m + 1) with
    | error j => rw [h1] at h; cases h
    | ok qs =>
      rw [h1] at h
      have h : (match joint wd qs with | some k => Except.ok k | none => .error m) = Except.ok k := h
      cases h2 : joint wd qs with
      | none => rw [h2] at h; cases h
      | some k2 =>
        rw [h2] at h
        injection h with h
        subst h
        rw [WF] at wf
        obtain ⟨xs, hx, ho⟩ := evs_of F ps wf.2 h1
        obtain ⟨v, ha, hv⟩ := ap_of (by rw [wf.1, cks_len h1]) h2 ho
        exact ⟨v, .op hx ho.flat ha, hv⟩
theorem evs_of {ds : List D} {ts : List T} {pl : List Int} {vs : List V} (F : Fits ds ts pl vs) : ∀ (es : List Ex) {m : Nat} {qs : List Kd}, WFs es → cks ds ts es m = .ok qs → ∃ xs, EvAll ds ts pl vs es xs ∧ OkVs qs xs
  | [], m, qs, wf, h => by
    rw [cks] at h
    injection h with h
    subst h
    exact ⟨[], .nil, .nil⟩
  | e :: r, m, qs, wf, h => by
    rw [cks] at h
    rw [WFs] at wf
    cases h1 : ck ds ts e m with
    | error j => rw [h1] at h; cases h
    | ok k =>
      rw [h1] at h
      cases h2 : cks ds ts r (m + e.size) with
      | error j => simp only [h2] at h; cases h
      | ok ks =>
        simp only [h2] at h
        injection h with h
        subst h
        obtain ⟨v, h3, h4⟩ := ev_of F e wf.1 h1
        obtain ⟨xs, h5, h6⟩ := evs_of F r wf.2 h2
        exact ⟨v :: xs, .cons h3 h5, .cons h4 h6⟩
end
end K2

namespace K2
open PySem L2
section
variable {X : Cx}
/-- is True, is False, of a truth value or None -/
theorem op_isOb : OpR X (compareOp .Is) (fun x y H Q => ∃ (a : Option Bool) (b : Bool), x = ob a ∧ y = .bl b ∧ Q (.bl (decide (a = some b))) H) := by
  intro pins s σ H x y v u Q I rx ry h
  obtain ⟨a, b, rfl, rfl, q⟩ := h
  cases (show u = Value.bool b from ry)
  cases a with
  | none =>
    cases rx
    exact wpAny_is_other rfl (fun z => nomatch z) ⟨.bl false, H, I, rfl, by simpa using q⟩
  | some a =>
    cases (show v = Value.bool a from rx)
    by_cases e : a = b
    · subst e
      exact wpAny_is_self rfl ⟨.bl true, H, I, rfl, by simpa using q⟩
    · exact wpAny_is_other rfl (fun z => e (Value.bool.inj z)) ⟨.bl false, H, I, rfl, by simpa [e] using q⟩
/-- // and % of great ints, by any divisor but 0 -/
theorem op_fdivZ : OpR X (binaryOp .FloorDiv) (rI (fun _ j => j ≠ 0 ∧ j.natAbs.log2 < 9000) fun i j => .int (i.fdiv j)) := opI fun _ _ _ _ _ _ _ hc q => PyProof.Rows.floordiv_int hc.1 q (.inl (PyProof.noPylong_of_log2 hc.2))
theorem op_ltK : OpR X (compareOp .Lt) (fun x y H Q => ∃ k, OfK k x ∧ OfK k y ∧ Q (.bl (less k x y)) H) := by
  intro pins s σ H x y v u Q I rx ry h
  obtain ⟨k, hx, hy, q⟩ := h
  cases k with
  | i => obtain ⟨n, rfl⟩ := hx; obtain ⟨m, rfl⟩ := hy; exact op_lt _ _ _ _ _ _ _ _ _ I rx ry ⟨n, m, rfl, rfl, q⟩
  | f =>
    obtain ⟨n, rfl⟩ := hx
    obtain ⟨m, rfl⟩ := hy
    exact op_lt_bl _ _ _ _ _ _ _ _ _ I rx ry ⟨n, m, rfl, rfl, q⟩
  | t => obtain ⟨n, rfl, _⟩ := hx; obtain ⟨m, rfl, _⟩ := hy; exact op_lt_str _ _ _ _ _ _ _ _ _ I rx ry ⟨n, m, rfl, rfl, q⟩
theorem op_gtK : OpR X (compareOp .Gt) (fun x y H Q => ∃ k, OfK k x ∧ OfK k y ∧ Q (.bl (less k y x)) H) := by
  intro pins s σ H x y v u Q I rx ry h
  obtain ⟨k, hx, hy, q⟩ := h
  cases k with
  | i => obtain ⟨n, rfl⟩ := hx; obtain ⟨m, rfl⟩ := hy; exact op_gt _ _ _ _ _ _ _ _ _ I rx ry ⟨n, m, rfl, rfl, q⟩
  | f =>
    obtain ⟨n, rfl⟩ := hx
    obtain ⟨m, rfl⟩ := hy
    cases (show v = Value.bool n from rx)
    cases (show u = Value.bool m from ry)
    exact PyProof.Rows.gt_bool ⟨.bl _, H, I, rfl, q⟩
  | t => obtain ⟨n, rfl, _⟩ := hx; obtain ⟨m, rfl, _⟩ := hy; exact op_gt_str _ _ _ _ _ _ _ _ _ I rx ry ⟨n, m, rfl, rfl, q⟩
theorem b2i_le (n m : Bool) : decide (PyProof.Rows.b2i n ≤ PyProof.Rows.b2i m) = !decide (PyProof.Rows.b2i m < PyProof.Rows.b2i n) := by cases n <;> cases m <;> decide
theorem int_le (n m : Int) : decide (n ≤ m) = !decide (m < n) := by
  by_cases h : n ≤ m
  · rw [decide_eq_true h, decide_eq_false (by omega)]; rfl
  · rw [decide_eq_false h, decide_eq_true (by omega)]; rfl
theorem op_leK : OpR X (compareOp .LtE) (fun x y H Q => ∃ k, OfK k x ∧ OfK k y ∧ Q (.bl (!less k y x)) H) := by
  intro pins s σ H x y v u Q I rx ry h
  obtain ⟨k, hx, hy, q⟩ := h
  cases k with
  | i =>
    obtain ⟨n, rfl⟩ := hx
    obtain ⟨m, rfl⟩ := hy
    exact op_le _ _ _ _ _ _ _ _ _ I rx ry ⟨n, m, rfl, rfl, by show Q (.bl (decide (n ≤ m))) H; rw [int_le]; exact q⟩
  | f =>
    obtain ⟨n, rfl⟩ := hx
    obtain ⟨m, rfl⟩ := hy
    cases (show v = Value.bool n from rx)
    cases (show u = Value.bool m from ry)
    exact PyProof.Rows.le_bool ⟨.bl _, H, I, rfl, by rw [b2i_le]; exact q⟩
  | t => obtain ⟨n, rfl, _⟩ := hx; obtain ⟨m, rfl, _⟩ := hy; exact op_le_str _ _ _ _ _ _ _ _ _ I rx ry ⟨n, m, rfl, rfl, q⟩
theorem op_geK : OpR X (compareOp .GtE) (fun x y H Q => ∃ k, OfK k x ∧ OfK k y ∧ Q (.bl (!less k x y)) H) := by
  intro pins s σ H x y v u Q I rx ry h
  obtain ⟨k, hx, hy, q⟩ := h
  cases k with
  | i =>
    obtain ⟨n, rfl⟩ := hx
    obtain ⟨m, rfl⟩ := hy
    exact op_ge _ _ _ _ _ _ _ _ _ I rx ry ⟨n, m, rfl, rfl, by show Q (.bl (decide (m ≤ n))) H; rw [int_le]; exact q⟩
  | f =>
    obtain ⟨n, rfl⟩ := hx
    obtain ⟨m, rfl⟩ := hy
    cases (show v = Value.bool n from rx)
    cases (show u = Value.bool m from ry)
    exact PyProof.Rows.ge_bool ⟨.bl _, H, I, rfl, by rw [show decide (PyProof.Rows.b2i n ≥ PyProof.Rows.b2i m) = _ from b2i_le m n]; exact q⟩
  | t => obtain ⟨n, rfl, _⟩ := hx; obtain ⟨m, rfl, _⟩ := hy; exact op_ge_str _ _ _ _ _ _ _ _ _ I rx ry ⟨n, m, rfl, rfl, q⟩
end
theorem scal_k {k : Kd} {x y : V} (hx : OfK k x) (hy : OfK k y) : scal x y = true := by
  cases k with
  | i => obtain ⟨n, rfl⟩ := hx; obtain ⟨m, rfl⟩ := hy; rfl
  | f => obtain ⟨n, rfl⟩ := hx; obtain ⟨m, rfl⟩ := hy; rfl
  | t => obtain ⟨n, rfl, _⟩ := hx; obtain ⟨m, rfl, _⟩ := hy; rfl
section
variable {P : Program} {w : World} {K : PySem.W.Frag} {mg : Str → Option Value} {base : Heap}
def spBoth : Sp := fun vs H Q _ => ∃ a b : Option Bool, vs = [ob a, ob b] ∧ Q (ob (and3 a b)) H
def spEither : Sp := fun vs H Q _ => ∃ a b : Option Bool, vs = [ob a, ob b] ∧ Q (ob (or3 a b)) H
theorem scBoth : FnScope ["first", "second"] ["first", "second"] (defScope sBoth) := ⟨rfl, rfl, rfl, by decide +kernel, rfl, by decide +kernel, by decide +kernel⟩
theorem scEither : FnScope ["first", "second"] ["first", "second"] (defScope sEither) := ⟨rfl, rfl, rfl, by decide +kernel, rfl, by decide +kernel, by decide +kernel⟩
theorem ob_non (a : Option Bool) : decide (ob a = .non) = a.isNone := by cases a <;> rfl
theorem ok_both {f : Addr} {fd : FuncData} (F : Fun K "both" "both" sBoth f fd) : FnOk P w K mg base CX0 1 f fd ["first", "second"] spBoth := by
  refine F.ok scBoth (fun vs H Q E h => ?_) (fun cdv A outer s H vs Q E hr h => ?_)
  · obtain ⟨a, b, rfl, _⟩ := h
    rfl
  · obtain ⟨a, b, rfl, q⟩ := h
    refine ⟨_, pss_cons (ps_if (PW.pt (pw_or (pt_cmpR op_isOb (pv 0) pe_bl (nomark _)) (pw_or1 (pt_cmpR op_isOb (pv 1) pe_bl (nomark _))))) (pss_one (ps_ret pe_bl)) pss_nil)
      (pss_one (ps_ret (pe_ifExp (PW.pt (pw_or (pt_cmpR op_isN (pv 0) pe_non (nomark _)) (pw_or1 (pt_cmpR op_isN (pv 1) pe_non (nomark _))))) pe_non pe_bl))), ?_⟩
    refine ⟨_, rfl, a, false, rfl, rfl, _, rfl, ?_⟩
    match a, b with
    | some false, _ => exact iteT q
    | none, b =>
      refine iteF ⟨_, rfl, b, false, rfl, rfl, _, rfl, ?_⟩
      match b with
      | some false => exact iteT q
      | some true => exact iteF ⟨_, rfl, rfl, _, rfl, iteT q⟩
      | none => exact iteF ⟨_, rfl, rfl, _, rfl, iteT q⟩
    | some true, b =>
      refine iteF ⟨_, rfl, b, false, rfl, rfl, _, rfl, ?_⟩
      match b with
      | some false => exact iteT q
      | some true => exact iteF ⟨_, rfl, rfl, _, rfl, iteF ⟨_, rfl, rfl, _, rfl, iteF q⟩⟩
      | none => exact iteF ⟨_, rfl, rfl, _, rfl, iteF ⟨_, rfl, rfl, _, rfl, iteT q⟩⟩
theorem ok_either {f : Addr} {fd : FuncData} (F : Fun K "either" "either" sEither f fd) : FnOk P w K mg base CX0 1 f fd ["first", "second"] spEither := by
  refine F.ok scEither (fun vs H Q E h => ?_) (fun cdv A outer s H vs Q E hr h => ?_)
  · obtain ⟨a, b, rfl, _⟩ := h
    rfl
  · obtain ⟨a, b, rfl, q⟩ := h
    refine ⟨_, pss_cons (ps_if (PW.pt (pw_or (pt_cmpR op_isOb (pv 0) pe_bl (nomark _)) (pw_or1 (pt_cmpR op_isOb (pv 1) pe_bl (nomark _))))) (pss_one (ps_ret pe_bl)) pss_nil)
      (pss_one (ps_ret (pe_ifExp (PW.pt (pw_or (pt_cmpR op_isN (pv 0) pe_non (nomark _)) (pw_or1 (pt_cmpR op_isN (pv 1) pe_non (nomark _))))) pe_non pe_bl))), ?_⟩
    refine ⟨_, rfl, a, true, rfl, rfl, _, rfl, ?_⟩
    match a, b with
    | some true, _ => exact iteT q
    | none, b =>
      refine iteF ⟨_, rfl, b, true, rfl, rfl, _, rfl, ?_⟩
      match b with
      | some true => exact iteT q
      | some false => exact iteF ⟨_, rfl, rfl, _, rfl, iteT q⟩
      | none => exact iteF ⟨_, rfl, rfl, _, rfl, iteT q⟩
    | some false, b =>
      refine iteF ⟨_, rfl, b, true, rfl, rfl, _, rfl, ?_⟩
      match b with
      | some true => exact iteT q
      | some false => exact iteF ⟨_, rfl, rfl, _, rfl, iteF ⟨_, rfl, rfl, _, rfl, iteF q⟩⟩
      | none => exact iteF ⟨_, rfl, rfl, _, rfl, iteF ⟨_, rfl, rfl, _, rfl, iteT q⟩⟩
def spChosen : Sp := fun vs H Q _ => ∃ (c : Option Bool) (a b : V), vs = [ob c, a, b] ∧ Q (chs c a b) H
theorem scChosen : FnScope ["condition", "first", "second"] ["condition", "first", "second"] (defScope sChosen) := ⟨rfl, rfl, rfl, by decide +kernel, rfl, by decide +kernel, by decide +kernel⟩
theorem ok_chosen {f : Addr} {fd : FuncData} (F : Fun K "chosen" "chosen" sChosen f fd) : FnOk P w K mg base CX0 1 f fd ["condition", "first", "second"] spChosen := by
  refine F.ok scChosen (fun vs H Q E h => ?_) (fun cdv A outer s H vs Q E hr h => ?_)
  · obtain ⟨c, a, b, rfl, _⟩ := h
    rfl
  · obtain ⟨c, a, b, rfl, q⟩ := h
    refine ⟨_, pss_cons (ps_if (pt_cmpR op_isN (pv 0) pe_non (nomark _)) (pss_one (ps_ret pe_non)) pss_nil) (pss_one (ps_ret (pe_ifExp (pt_val (pv 0)) (pv 1) (pv 2)))), ?_⟩
    refine ⟨_, rfl, rfl, _, rfl, ?_⟩
    match c with
    | none => exact iteT q
    | some true => exact iteF ⟨_, rfl, true, rfl, iteT ⟨_, rfl, q⟩⟩
    | some false => exact iteF ⟨_, rfl, false, rfl, iteF ⟨_, rfl, q⟩⟩
/-! ### the words that take missing values -/
def spLoose : Sp := fun vs H Q _ => ∃ (wd : Str) (p : Addr) (xs : List V) (v : V), vs = [.str wd, .ref p] ∧ H p = some (.lst xs) ∧ ApL wd xs v ∧ Q v H
theorem scLoose : FnScope ["word", "parts"] ["word", "parts"] (defScope sLooseValue) := ⟨rfl, rfl, rfl, by decide +kernel, rfl, by decide +kernel, by decide +kernel⟩
theorem ok_loose {f fB fE fC : Addr} {fd fdB fdE fdC : FuncData} (F : Fun K "loose_value" "loose_value" sLooseValue f fd) (FB : Fun K "both" "both" sBoth fB fdB) (bB : Binds K fdB ["first", "second"] []) (gB : mg "both" = some (.ref fB))
    (FE : Fun K "either" "either" sEither fE fdE) (bE : Binds K fdE ["first", "second"] []) (gE : mg "either" = some (.ref fE)) (FC : Fun K "chosen" "chosen" sChosen fC fdC) (bC : Binds K fdC ["condition", "first", "second"] []) (gC : mg "chosen" = some (.ref fC)) :
    FnOk P w K mg base CX0 2 f fd ["word", "parts"] spLoose := by
  have GB : FnOk P w K mg base CX0 1 fB fdB ["first", "second"] spBoth := ok_both FB
  have GE : FnOk P w K mg base CX0 1 fE fdE ["first", "second"] spEither := ok_either FE
  have GC : FnOk P w K mg base CX0 1 fC fdC ["condition", "first", "second"] spChosen := ok_chosen FC
  refine F.ok scLoose (fun vs H Q E h => ?_) (fun cdv A outer s H vs Q E hr h => ?_)
  · obtain ⟨wd, p, xs, v, rfl, _⟩ := h
    rfl
  · obtain ⟨wd, p, xs, v, rfl, hp, ha, q⟩ := h
    refine ⟨_, pss_cons (ps_if (pt_cmpR op_eq (pv 0) pe_str (nomark _)) (pss_one (ps_ret (pe_cmpR op_isN (pe_ix ix_list (pv 1) pe_int (fun _ _ => rfl)) pe_non (nomark _)))) pss_nil)
      (pss_cons (ps_if (pt_cmpR op_eq (pv 0) pe_str (nomark _)) (pss_one (ps_ret (pe_call GB hr (by rfl) gB FB.kp bB .nil pass0 (pa_cons (pe_ix ix_list (pv 1) pe_int (fun _ _ => rfl)) (pa_cons (pe_ix ix_list (pv 1) pe_int (fun _ _ => rfl)) pa_nil))))) pss_nil)
      (pss_cons (ps_if (pt_cmpR op_eq (pv 0) pe_str (nomark _)) (pss_one (ps_ret (pe_call GE hr (by rfl) gE FE.kp bE .nil pass0 (pa_cons (pe_ix ix_list (pv 1) pe_int (fun _ _ => rfl)) (pa_cons (pe_ix ix_list (pv 1) pe_int (fun _ _ => rfl)) pa_nil))))) pss_nil)
      (pss_cons (ps_if (pt_cmpR op_eq (pv 0) pe_str (nomark _)) (pss_one (ps_ret (pe_call GC hr (by rfl) gC FC.kp bC .nil pass0 (pa_cons (pe_ix ix_list (pv 1) pe_int (fun _ _ => rfl)) (pa_cons (pe_ix ix_list (pv 1) pe_int (fun _ _ => rfl)) (pa_cons (pe_ix ix_list (pv 1) pe_int (fun _ _ => rfl)) pa_nil)))))) pss_nil)
      (pss_one (ps_ret (pe_ifExp (pt_cmpR op_isN (pe_ix ix_list (pv 1) pe_int (fun _ _ => rfl)) pe_non (nomark _)) (pe_ix ix_list (pv 1) pe_int (fun _ _ => rfl)) (pe_ix ix_list (pv 1) pe_int (fun _ _ => rfl)))))))), ?_⟩
    have sp : SqL K H p xs := .inl (.inl hp)
    cases ha with
    | mis x =>
      exact ⟨_, rfl, rfl, _, rfl, iteB (by decide +kernel) ⟨_, rfl, p, _, 0, x, rfl, rfl, sp, atI_nat (j := 0) rfl, rfl, q⟩⟩
    | and2 a b =>
      refine ⟨_, rfl, rfl, _, rfl, iteBF (by decide +kernel) ⟨_, rfl, rfl, _, rfl, iteB (by decide +kernel) ?_⟩⟩
      exact ⟨_, rfl, p, _, 0, ob a, rfl, rfl, sp, atI_nat (j := 0) rfl, _, rfl, p, _, 1, ob b, rfl, rfl, sp, atI_nat (j := 1) rfl, a, b, rfl, q⟩
    | or2 a b =>
      refine ⟨_, rfl, rfl, _, rfl, iteBF (by decide +kernel) ⟨_, rfl, rfl, _, rfl, iteBF (by decide +kernel) ⟨_, rfl, rfl, _, rfl, iteB (by decide +kernel) ?_⟩⟩⟩
      exact ⟨_, rfl, p, _, 0, ob a, rfl, rfl, sp, atI_nat (j := 0) rfl, _, rfl, p, _, 1, ob b, rfl, rfl, sp, atI_nat (j := 1) rfl, a, b, rfl, q⟩
    | iff c a b =>
      refine ⟨_, rfl, rfl, _, rfl, iteBF (by decide +kernel) ⟨_, rfl, rfl, _, rfl, iteBF (by decide +kernel) ⟨_, rfl, rfl, _, rfl, iteBF (by decide +kernel) ⟨_, rfl, rfl, _, rfl, iteB (by decide +kernel) ?_⟩⟩⟩⟩
      exact ⟨_, rfl, p, _, 0, ob c, rfl, rfl, sp, atI_nat (j := 0) rfl, _, rfl, p, _, 1, a, rfl, rfl, sp, atI_nat (j := 1) rfl, _, rfl, p, _, 2, b, rfl, rfl, sp, atI_nat (j := 2) rfl, c, a, b, rfl, q⟩
    | els a b =>
      refine ⟨_, rfl, rfl, _, rfl, iteBF (by decide +kernel) ⟨_, rfl, rfl, _, rfl, iteBF (by decide +kernel) ⟨_, rfl, rfl, _, rfl, iteBF (by decide +kernel) ⟨_, rfl, rfl, _, rfl, iteBF (by decide +kernel) ?_⟩⟩⟩⟩
      refine ⟨_, rfl, p, _, 0, a, rfl, rfl, sp, atI_nat (j := 0) rfl, rfl, _, rfl, ?_⟩
      by_cases e : a = .non
      · rw [if_pos e] at q
        exact iteB (decide_eq_true e) ⟨_, rfl, p, _, 1, b, rfl, rfl, sp, atI_nat (j := 1) rfl, q⟩
      · rw [if_neg e] at q
        exact iteBF (decide_eq_false e) ⟨_, rfl, p, _, 0, a, rfl, rfl, sp, atI_nat (j := 0) rfl, q⟩
end
end K2

namespace K2
open PySem L2
theorem cv1 (k : Kd) (a b : V) : cmpV "eq" k a b = decide (a = b) := if_pos rfl
theorem cv2 (k : Kd) (a b : V) : cmpV "ne" k a b = !decide (a = b) := by
  unfold cmpV
  rw [if_neg (by decide +kernel), if_pos rfl]
theorem cv3 (k : Kd) (a b : V) : cmpV "lt" k a b = less k a b := by
  unfold cmpV
  rw [if_neg (by decide +kernel), if_neg (by decide +kernel), if_pos rfl]
theorem cv4 (k : Kd) (a b : V) : cmpV "le" k a b = !less k b a := by
  unfold cmpV
  rw [if_neg (by decide +kernel), if_neg (by decide +kernel), if_neg (by decide +kernel), if_pos rfl]
theorem cv5 (k : Kd) (a b : V) : cmpV "gt" k a b = less k b a := by
  unfold cmpV
  rw [if_neg (by decide +kernel), if_neg (by decide +kernel), if_neg (by decide +kernel), if_neg (by decide +kernel), if_pos rfl]
theorem cv6 (k : Kd) (a b : V) : cmpV "ge" k a b = !less k a b := by
  unfold cmpV
  rw [if_neg (by decide +kernel), if_neg (by decide +kernel), if_neg (by decide +kernel), if_neg (by decide +kernel), if_neg (by decide +kernel)]
theorem av1 (a b : Int) : arI "add" a b = some (a + b) := if_pos rfl
theorem av2 (a b : Int) : arI "sub" a b = some (a - b) := by
  unfold arI
  rw [if_neg (by decide +kernel), if_pos rfl]
theorem av3 (a b : Int) : arI "mul" a b = some (a * b) := by
  unfold arI
  rw [if_neg (by decide +kernel), if_neg (by decide +kernel), if_pos rfl]
theorem av4 (a b : Int) : arI "div" a b = if b = 0 then none else some (a.fdiv b) := by
  unfold arI
  rw [if_neg (by decide +kernel), if_neg (by decide +kernel), if_neg (by decide +kernel), if_pos rfl]
theorem av5 (a b : Int) : arI "mod" a b = if b = 0 then none else some (a.fmod b) := by
  unfold arI
  rw [if_neg (by decide +kernel), if_neg (by decide +kernel), if_neg (by decide +kernel), if_neg (c := ("mod" : Str) = "div") (by decide +kernel)]
def rv : Option Int → V
  | none => .non
  | some n => .int n
theorem num_abs {n : Int} (h : NumOk n) : n.natAbs < 2 ^ 100 := by
  have h1 := h.1
  have h2 := h.2
  have e : (2 : Nat) ^ 100 = 1267650600228229401496703205376 := by decide
  rw [e]
  have e2 : (10 : Int) ^ 30 = 1000000000000000000000000000000 := by decide
  omega
theorem num_log {n : Int} (h : NumOk n) : n.natAbs.log2 < 9000 := Nat.lt_trans (PySem.Flt.log2_lt_of (by decide : 0 < 100) (num_abs h)) (by decide)
theorem pre_t : ∀ w ∈ CMP ++ A5, decide (V.str w = V.str "neg") = false ∧ decide (V.str w = V.str "abs") = false ∧ decide (V.str w = V.str "not") = false ∧ decide (V.str w = V.str "length") = false ∧ decide (V.str w = V.str "joined") = false := by decide +kernel
theorem a5_cmp : ∀ w ∈ A5, w ∉ CMP := by decide +kernel
section
variable {P : Program} {w : World} {K : PySem.W.Frag} {mg : Str → Option Value} {base : Heap}
def spComp : Sp := fun vs H Q _ => ∃ (wd : Str) (k : Kd) (a b : V), vs = [.str wd, a, b] ∧ wd ∈ CMP ∧ OfK k a ∧ OfK k b ∧ Q (.bl (cmpV wd k a b)) H
theorem scComp : FnScope ["word", "first", "second"] ["word", "first", "second"] (defScope sCompared) := ⟨rfl, rfl, rfl, by decide +kernel, rfl, by decide +kernel, by decide +kernel⟩
theorem ok_comp {f : Addr} {fd : FuncData} (F : Fun K "compared" "compared" sCompared f fd) : FnOk P w K mg base CX0 1 f fd ["word", "first", "second"] spComp := by
  refine F.ok scComp (fun vs H Q E h => ?_) (fun cdv A outer s H vs Q E hr h => ?_)
  · obtain ⟨wd, k, a, b, rfl, _⟩ := h
    rfl
  · obtain ⟨wd, k, a, b, rfl, hw, ha, hb, q⟩ := h
    refine ⟨_, pss_cons (ps_if (pt_cmpR op_eq (pv 0) pe_str (nomark _)) (pss_one (ps_ret (pe_cmpR op_eq (pv 1) (pv 2) (nomark _)))) pss_nil)
      (pss_cons (ps_if (pt_cmpR op_eq (pv 0) pe_str (nomark _)) (pss_one (ps_ret (pe_cmpR op_ne (pv 1) (pv 2) (nomark _)))) pss_nil)
      (pss_cons (ps_if (pt_cmpR op_eq (pv 0) pe_str (nomark _)) (pss_one (ps_ret (pe_cmpR op_ltK (pv 1) (pv 2) (nomark _)))) pss_nil)
      (pss_cons (ps_if (pt_cmpR op_eq (pv 0) pe_str (nomark _)) (pss_one (ps_ret (pe_cmpR op_leK (pv 1) (pv 2) (nomark _)))) pss_nil)
      (pss_cons (ps_if (pt_cmpR op_eq (pv 0) pe_str (nomark _)) (pss_one (ps_ret (pe_cmpR op_gtK (pv 1) (pv 2) (nomark _)))) pss_nil)
      (pss_one (ps_ret (pe_cmpR op_geK (pv 1) (pv 2) (nomark _)))))))), ?_⟩
    have hs := scal_k ha hb
    rcases List.mem_cons.mp hw with rfl | hw
    · rw [cv1] at q
      exact ⟨_, rfl, rfl, _, rfl, iteB (by decide +kernel) ⟨_, rfl, _, rfl, hs, q⟩⟩
    rcases List.mem_cons.mp hw with rfl | hw
    · rw [cv2] at q
      exact ⟨_, rfl, rfl, _, rfl, iteBF (by decide +kernel) ⟨_, rfl, rfl, _, rfl, iteB (by decide +kernel) ⟨_, rfl, _, rfl, hs, q⟩⟩⟩
    rcases List.mem_cons.mp hw with rfl | hw
    · rw [cv3] at q
      exact ⟨_, rfl, rfl, _, rfl, iteBF (by decide +kernel) ⟨_, rfl, rfl, _, rfl, iteBF (by decide +kernel) ⟨_, rfl, rfl, _, rfl, iteB (by decide +kernel) ⟨_, rfl, _, rfl, k, ha, hb, q⟩⟩⟩⟩
    rcases List.mem_cons.mp hw with rfl | hw
    · rw [cv4] at q
      exact ⟨_, rfl, rfl, _, rfl, iteBF (by decide +kernel) ⟨_, rfl, rfl, _, rfl, iteBF (by decide +kernel) ⟨_, rfl, rfl, _, rfl, iteBF (by decide +kernel) ⟨_, rfl, rfl, _, rfl, iteB (by decide +kernel) ⟨_, rfl, _, rfl, k, ha, hb, q⟩⟩⟩⟩⟩
    rcases List.mem_cons.mp hw with rfl | hw
    · rw [cv5] at q
      exact ⟨_, rfl, rfl, _, rfl, iteBF (by decide +kernel) ⟨_, rfl, rfl, _, rfl, iteBF (by decide +kernel) ⟨_, rfl, rfl, _, rfl, iteBF (by decide +kernel) ⟨_, rfl, rfl, _, rfl, iteBF (by decide +kernel) ⟨_, rfl, rfl, _, rfl, iteB (by decide +kernel) ⟨_, rfl, _, rfl, k, ha, hb, q⟩⟩⟩⟩⟩⟩
    rcases List.mem_cons.mp hw with rfl | hw
    · rw [cv6] at q
      exact ⟨_, rfl, rfl, _, rfl, iteBF (by decide +kernel) ⟨_, rfl, rfl, _, rfl, iteBF (by decide +kernel) ⟨_, rfl, rfl, _, rfl, iteBF (by decide +kernel) ⟨_, rfl, rfl, _, rfl, iteBF (by decide +kernel) ⟨_, rfl, rfl, _, rfl, iteBF (by decide +kernel) ⟨_, rfl, _, rfl, k, ha, hb, q⟩⟩⟩⟩⟩⟩
    · exact absurd hw List.not_mem_nil
def spReck : Sp := fun vs H Q _ => ∃ (wd : Str) (a b : Int), vs = [.str wd, .int a, .int b] ∧ wd ∈ A5 ∧ NumOk a ∧ NumOk b ∧ Q (rv (arI wd a b)) H
theorem scReck : FnScope ["word", "first", "second"] ["word", "first", "second"] (defScope sReckoned) := ⟨rfl, rfl, rfl, by decide +kernel, rfl, by decide +kernel, by decide +kernel⟩
theorem dec_zero (b : Int) : decide (V.int b = V.int 0) = decide (b = 0) := by
  by_cases h : b = 0
  · rw [h, decide_eq_true rfl, decide_eq_true rfl]
  · rw [decide_eq_false h, decide_eq_false fun z => h (V.int.inj z)]
theorem ok_reck {f : Addr} {fd : FuncData} (F : Fun K "reckoned" "reckoned" sReckoned f fd) : FnOk P w K mg base CX0 1 f fd ["word", "first", "second"] spReck := by
  refine F.ok scReck (fun vs H Q E h => ?_) (fun cdv A outer s H vs Q E hr h => ?_)
  · obtain ⟨wd, a, b, rfl, _⟩ := h
    rfl
  · obtain ⟨wd, a, b, rfl, hw, ha, hb, q⟩ := h
    refine ⟨_, pss_cons (ps_if (pt_cmpR op_eq (pv 0) pe_str (nomark _)) (pss_one (ps_ret (pe_op op_add (pv 1) (pv 2)))) pss_nil)
      (pss_cons (ps_if (pt_cmpR op_eq (pv 0) pe_str (nomark _)) (pss_one (ps_ret (pe_op op_sub (pv 1) (pv 2)))) pss_nil)
      (pss_cons (ps_if (pt_cmpR op_eq (pv 0) pe_str (nomark _)) (pss_one (ps_ret (pe_op op_mulW (pv 1) (pv 2)))) pss_nil)
      (pss_cons (ps_if (pt_cmpR op_eq (pv 2) pe_int (nomark _)) (pss_one (ps_ret pe_non)) pss_nil)
      (pss_cons (ps_if (pt_cmpR op_eq (pv 0) pe_str (nomark _)) (pss_one (ps_ret (pe_op op_fdivZ (pv 1) (pv 2)))) pss_nil)
      (pss_one (ps_ret (pe_op op_modN (pv 1) (pv 2)))))))), ?_⟩
    rcases List.mem_cons.mp hw with rfl | hw
    · rw [av1] at q
      exact ⟨_, rfl, rfl, _, rfl, iteB (by decide +kernel) ⟨_, rfl, _, rfl, a, b, rfl, rfl, q⟩⟩
    rcases List.mem_cons.mp hw with rfl | hw
    · rw [av2] at q
      exact ⟨_, rfl, rfl, _, rfl, iteBF (by decide +kernel) ⟨_, rfl, rfl, _, rfl, iteB (by decide +kernel) ⟨_, rfl, _, rfl, a, b, rfl, rfl, q⟩⟩⟩
    rcases List.mem_cons.mp hw with rfl | hw
    · rw [av3] at q
      exact ⟨_, rfl, rfl, _, rfl, iteBF (by decide +kernel) ⟨_, rfl, rfl, _, rfl, iteBF (by decide +kernel) ⟨_, rfl, rfl, _, rfl, iteB (by decide +kernel) ⟨_, rfl, _, rfl, a, b, rfl, rfl, wide_mul (num_abs ha) (num_abs hb) (by decide) (by decide) (by decide), q⟩⟩⟩⟩
    rcases List.mem_cons.mp hw with rfl | hw
    · rw [av4] at q
      refine ⟨_, rfl, rfl, _, rfl, iteBF (by decide +kernel) ⟨_, rfl, rfl, _, rfl, iteBF (by decide +kernel) ⟨_, rfl, rfl, _, rfl, iteBF (by decide +kernel) ⟨_, rfl, rfl, _, rfl, ?_⟩⟩⟩⟩
      rw [dec_zero]
      by_cases h0 : b = 0
      · rw [if_pos h0] at q
        exact iteB (decide_eq_true h0) q
      · rw [if_neg h0] at q
        exact iteBF (decide_eq_false h0) ⟨_, rfl, rfl, _, rfl, iteB (by decide +kernel) ⟨_, rfl, _, rfl, a, b, rfl, rfl, ⟨h0, num_log hb⟩, q⟩⟩
    rcases List.mem_cons.mp hw with rfl | hw
    · rw [av5] at q
      refine ⟨_, rfl, rfl, _, rfl, iteBF (by decide +kernel) ⟨_, rfl, rfl, _, rfl, iteBF (by decide +kernel) ⟨_, rfl, rfl, _, rfl, iteBF (by decide +kernel) ⟨_, rfl, rfl, _, rfl, ?_⟩⟩⟩⟩
      rw [dec_zero]
      by_cases h0 : b = 0
      · rw [if_pos h0] at q
        exact iteB (decide_eq_true h0) q
      · rw [if_neg h0] at q
        exact iteBF (decide_eq_false h0) ⟨_, rfl, rfl, _, rfl, iteBF (by decide +kernel) ⟨_, rfl, _, rfl, a, b, rfl, rfl, h0, q⟩⟩
    · exact absurd hw List.not_mem_nil
/-! ### the words that take none -/
def Cmps (K : PySem.W.Frag) (mg : Str → Option Value) : Prop := ∃ kk, mg "COMPARISONS" = some (.ref kk) ∧ ∀ H : Hp, SqT K H kk (CMP.map V.str)
def spStrict : Sp := fun vs H Q _ => ∃ (wd : Str) (p : Addr) (xs : List V) (v : V), vs = [.str wd, .ref p] ∧ H p = some (.lst xs) ∧ ApS wd xs v ∧ Q v H
theorem scStrict : FnScope ["word", "parts", "first", "second", "number"] ["word", "parts"] (defScope sStrictValue) := ⟨rfl, rfl, rfl, by decide +kernel, rfl, by decide +kernel, by decide +kernel⟩
theorem ok_strict {f fC fR fV : Addr} {fd fdC fdR fdV : FuncData} (F : Fun K "strict_value" "strict_value" sStrictValue f fd) (N : Nm mg) (N2 : Ct mg) (cm : Cmps K mg) (FC : Fun K "compared" "compared" sCompared fC fdC) (bC : Binds K fdC ["word", "first", "second"] []) (gC : mg "compared" = some (.ref fC))
    (FR : Fun K "reckoned" "reckoned" sReckoned fR fdR) (bR : Binds K fdR ["word", "first", "second"] []) (gR : mg "reckoned" = some (.ref fR))
    (GV : FnOk P w K mg base CX0 2 fV fdV ["kind", "value"] (spVal K)) (kV : PySem.W.keepIn K (.ref fV) = true) (bV : Binds K fdV ["kind", "value"] []) (gV : mg "is_value" = some (.ref fV)) : FnOk P w K mg base CX0 3 f fd ["word", "parts"] spStrict := by
  have GC : FnOk P w K mg base CX0 1 fC fdC ["word", "first", "second"] spComp := ok_comp FC
  have GR : FnOk P w K mg base CX0 1 fR fdR ["word", "first", "second"] spReck := ok_reck FR
  refine F.ok scStrict (fun vs H Q E h => ?_) (fun cdv A outer s H vs Q E hr h => ?_)
  · obtain ⟨wd, p, xs, v, rfl, _⟩ := h
    rfl
  · obtain ⟨wd, p, xs, v, rfl, hp, ha, q⟩ := h
    have hr1 := hr.mono (j := 1) (by decide)
    obtain ⟨kk, m1, r1⟩ := cm
    obtain ⟨ut, mtb, rtb⟩ := N2.tb
    refine ⟨_, pss_cons (ps_set (i := 2) scStrict.nd rfl (.inl rfl) (pe_ix ix_list (pv 1) pe_int (fun _ _ => rfl)))
      (pss_cons (ps_if (pt_cmpR op_eq (pv 0) pe_str (nomark _)) (pss_one (ps_ret (pe_un un_neg (pv 2)))) pss_nil)
      (pss_cons (ps_if (pt_cmpR op_eq (pv 0) pe_str (nomark _)) (pss_one (ps_ret (pe_callB call_abs (by rfl) N.abs (by decide +kernel) (pa_cons (pv 2) pa_nil)))) pss_nil)
      (pss_cons (ps_if (pt_cmpR op_eq (pv 0) pe_str (nomark _)) (pss_one (ps_ret (pe_not (pv 2)))) pss_nil)
      (pss_cons (ps_if (pt_cmpR op_eq (pv 0) pe_str (nomark _)) (pss_one (ps_ret (pe_callB call_len_str (by rfl) N.len PySem.boot_len (pa_cons (pv 2) pa_nil)))) pss_nil)
      (pss_cons (ps_set (i := 3) scStrict.nd rfl (.inl rfl) (pe_ix ix_list (pv 1) pe_int (fun _ _ => rfl)))
      (pss_cons (ps_if (pt_cmpR op_eq (pv 0) pe_str (nomark _)) (pss_one (ps_ret (pe_ifExp (pt_cmpR op_le (pe_op op_add (pe_callB call_len_str (by rfl) N.len PySem.boot_len (pa_cons (pv 2) pa_nil)) (pe_callB call_len_str (by rfl) N.len PySem.boot_len (pa_cons (pv 3) pa_nil))) (pe_glob (by rfl) mtb rtb) (nomark _))
          (pe_op op_add_str (pv 2) (pv 3)) pe_non))) pss_nil)
      (pss_cons (ps_if (pt_cmpR op_in_seq (pv 0) (pe_glob (v := .ref kk) (by rfl) m1 rfl) (by rfl)) (pss_one (ps_ret (pe_call GC hr1 (by rfl) gC FC.kp bC .nil pass0 (pa_cons (pv 0) (pa_cons (pv 2) (pa_cons (pv 3) pa_nil)))))) pss_nil)
      (pss_cons (ps_set (i := 4) scStrict.nd rfl (.inl rfl) (pe_call GR hr1 (by rfl) gR FR.kp bR .nil pass0 (pa_cons (pv 0) (pa_cons (pv 2) (pa_cons (pv 3) pa_nil)))))
      (pss_one (ps_ret (pe_ifExp (pt_val (pe_call GV hr (by rfl) gV kV bV .nil pass0 (pa_cons pe_str (pa_cons (pv 4) pa_nil)))) (pv 4) pe_non))))))))))), ?_⟩
    have sp : SqL K H p xs := .inl (.inl hp)
    cases ha with
    | neg n => exact ⟨_, rfl, p, _, 0, _, rfl, rfl, sp, atI_nat (j := 0) rfl, _, rfl, rfl, _, rfl, iteB (by decide +kernel) ⟨_, rfl, n, rfl, q⟩⟩
    | abs n => exact ⟨_, rfl, p, _, 0, _, rfl, rfl, sp, atI_nat (j := 0) rfl, _, rfl, rfl, _, rfl, iteBF (by decide +kernel) ⟨_, rfl, rfl, _, rfl, iteB (by decide +kernel) ⟨_, rfl, n, rfl, q⟩⟩⟩
    | not b => exact ⟨_, rfl, p, _, 0, _, rfl, rfl, sp, atI_nat (j := 0) rfl, _, rfl, rfl, _, rfl, iteBF (by decide +kernel) ⟨_, rfl, rfl, _, rfl, iteBF (by decide +kernel) ⟨_, rfl, rfl, _, rfl, iteB (by decide +kernel) ⟨_, rfl, b, rfl, q⟩⟩⟩⟩
    | len z hz => exact ⟨_, rfl, p, _, 0, _, rfl, rfl, sp, atI_nat (j := 0) rfl, _, rfl, rfl, _, rfl, iteBF (by decide +kernel) ⟨_, rfl, rfl, _, rfl, iteBF (by decide +kernel) ⟨_, rfl, rfl, _, rfl, iteBF (by decide +kernel) ⟨_, rfl, rfl, _, rfl, iteB (by decide +kernel) ⟨_, rfl, z, rfl, len_line (by omega), q⟩⟩⟩⟩⟩
    | joined y z hy hz =>
      refine ⟨_, rfl, p, _, 0, _, rfl, rfl, sp, atI_nat (j := 0) rfl, _, rfl, rfl, _, rfl, iteBF (by decide +kernel) ⟨_, rfl, rfl, _, rfl, iteBF (by decide +kernel) ⟨_, rfl, rfl, _, rfl, iteBF (by decide +kernel) ⟨_, rfl, rfl, _, rfl, iteBF (by decide +kernel) ?_⟩⟩⟩⟩
      refine ⟨_, rfl, p, _, 1, _, rfl, rfl, sp, atI_nat (j := 1) rfl, _, rfl, rfl, _, rfl, iteB (by decide +kernel) ?_⟩
      refine ⟨_, rfl, y, rfl, len_line (by omega), _, rfl, z, rfl, len_line (by omega), _, _, rfl, rfl, _, _, rfl, rfl, _, rfl, ?_⟩
      by_cases c : y.length + z.length ≤ 200
      · rw [if_pos c] at q
        exact iteB (decide_eq_true (by omega)) ⟨_, rfl, _, rfl, y, z, rfl, rfl, Nat.le_trans c (by decide), q⟩
      · rw [if_neg c] at q
        exact iteBF (decide_eq_false (by omega)) q
    | cmp w k a b hw ha hb =>
      obtain ⟨t1, t2, t3, t4, t5⟩ := pre_t wd (List.mem_append_left _ hw)
      refine ⟨_, rfl, p, _, 0, _, rfl, rfl, sp, atI_nat (j := 0) rfl, _, rfl, rfl, _, rfl, iteBF t1 ⟨_, rfl, rfl, _, rfl, iteBF t2 ⟨_, rfl, rfl, _, rfl, iteBF t3 ⟨_, rfl, rfl, _, rfl, iteBF t4 ?_⟩⟩⟩⟩
      refine ⟨_, rfl, p, _, 1, _, rfl, rfl, sp, atI_nat (j := 1) rfl, _, rfl, rfl, _, rfl, iteBF t5 ?_⟩
      refine ⟨_, rfl, kk, _, rfl, .inr (r1 H), rfl, flat_strs CMP, _, rfl, iteB ((inV_str _ CMP).trans (decide_eq_true hw)) ?_⟩
      exact ⟨_, rfl, _, rfl, _, rfl, wd, k, a, b, rfl, hw, ha, hb, q⟩
    | ar w a b hw ha hb =>
      obtain ⟨t1, t2, t3, t4, t5⟩ := pre_t wd (List.mem_append_right _ hw)
      refine ⟨_, rfl, p, _, 0, _, rfl, rfl, sp, atI_nat (j := 0) rfl, _, rfl, rfl, _, rfl, iteBF t1 ⟨_, rfl, rfl, _, rfl, iteBF t2 ⟨_, rfl, rfl, _, rfl, iteBF t3 ⟨_, rfl, rfl, _, rfl, iteBF t4 ?_⟩⟩⟩⟩
      refine ⟨_, rfl, p, _, 1, _, rfl, rfl, sp, atI_nat (j := 1) rfl, _, rfl, rfl, _, rfl, iteBF t5 ?_⟩
      refine ⟨_, rfl, kk, _, rfl, .inr (r1 H), rfl, flat_strs CMP, _, rfl, iteBF ((inV_str _ CMP).trans (decide_eq_false (a5_cmp wd hw))) ?_⟩
      refine ⟨_, rfl, _, rfl, _, rfl, wd, a, b, rfl, hw, ha, hb, ?_⟩
      cases e : arI wd a b with
      | none =>
        rw [e] at q
        exact ⟨_, rfl, .i, .non, _, rfl, .non, _, rfl, iteF q⟩
      | some n =>
        rw [e] at q
        refine ⟨_, rfl, .i, .int n, _, rfl, .int n, _, rfl, ?_⟩
        by_cases c : isVal .i (.int n) = true
        · rw [show capI (some n) = .int n from if_pos c] at q
          exact iteB c ⟨_, rfl, q⟩
        · rw [show capI (some n) = .non from if_neg c] at q
          exact iteBF (by rwa [Bool.not_eq_true] at c) q
end
end K2

namespace K2
open PySem L2
theorem inV_non : ∀ {xs : List V}, xs.all flatV = true → inV .non xs = decide (V.non ∈ xs)
  | [], _ => rfl
  | x :: r, h => by
    rw [List.all_cons, Bool.and_eq_true] at h
    have ih := inV_non h.2
    unfold inV at ih ⊢
    rw [List.any_cons, ih]
    cases x with
    | non => rw [decide_eq_true (List.mem_cons_self ..)]; rfl
    | bl b =>
      have e : (V.non ∈ V.bl b :: r) ↔ V.non ∈ r := by simp
      rw [show decide (V.non ∈ V.bl b :: r) = decide (V.non ∈ r) from decide_eq_decide.mpr e]; rfl
    | int b =>
      have e : (V.non ∈ V.int b :: r) ↔ V.non ∈ r := by simp
      rw [show decide (V.non ∈ V.int b :: r) = decide (V.non ∈ r) from decide_eq_decide.mpr e]; rfl
    | str b =>
      have e : (V.non ∈ V.str b :: r) ↔ V.non ∈ r := by simp
      rw [show decide (V.non ∈ V.str b :: r) = decide (V.non ∈ r) from decide_eq_decide.mpr e]; rfl
    | _ => exact absurd h.1 Bool.false_ne_true
def kE : Key := Sum.inr "eq"
/-- six answers under their words -/
theorem six {a b c d e f : V} (w : Str) (hw : w ∈ CMP) : valV (mergeK [] [((Sum.inr "eq" : Key), a), (Sum.inr "ne", b), (Sum.inr "lt", c), (Sum.inr "le", d), (Sum.inr "gt", e), (Sum.inr "ge", f)]) (Sum.inr w) =
    some (if w = "eq" then a else if w = "ne" then b else if w = "lt" then c else if w = "le" then d else if w = "gt" then e else f) := by
  simp only [mergeK, List.foldl_cons, List.foldl_nil, valV_put, valV_nil]
  rcases List.mem_cons.mp hw with rfl | hw
  · rw [if_neg (by decide +kernel), if_neg (by decide +kernel), if_neg (by decide +kernel), if_neg (by decide +kernel), if_neg (by decide +kernel), if_pos rfl, if_pos rfl]
  rcases List.mem_cons.mp hw with rfl | hw
  · rw [if_neg (by decide +kernel), if_neg (by decide +kernel), if_neg (by decide +kernel), if_neg (by decide +kernel), if_pos rfl, if_neg (by decide +kernel), if_pos rfl]
  rcases List.mem_cons.mp hw with rfl | hw
  · rw [if_neg (by decide +kernel), if_neg (by decide +kernel), if_neg (by decide +kernel), if_pos rfl, if_neg (by decide +kernel), if_neg (by decide +kernel), if_pos rfl]
  rcases List.mem_cons.mp hw with rfl | hw
  · rw [if_neg (by decide +kernel), if_neg (by decide +kernel), if_pos rfl, if_neg (by decide +kernel), if_neg (by decide +kernel), if_neg (by decide +kernel), if_pos rfl]
  rcases List.mem_cons.mp hw with rfl | hw
  · rw [if_neg (by decide +kernel), if_pos rfl, if_neg (by decide +kernel), if_neg (by decide +kernel), if_neg (by decide +kernel), if_neg (by decide +kernel), if_pos rfl]
  rcases List.mem_cons.mp hw with rfl | hw
  · rw [if_pos rfl, if_neg (by decide +kernel), if_neg (by decide +kernel), if_neg (by decide +kernel), if_neg (by decide +kernel), if_neg (by decide +kernel)]
  · exact absurd hw List.not_mem_nil
theorem three_v {a b c : V} (w : Str) (hw : w ∈ ([("add" : Str), "sub", "mul"] : List Str)) : valV (mergeK [] [((Sum.inr "add" : Key), a), (Sum.inr "sub", b), (Sum.inr "mul", c)]) (Sum.inr w) = some (if w = "add" then a else if w = "sub" then b else c) := by
  simp only [mergeK, List.foldl_cons, List.foldl_nil, valV_put, valV_nil]
  rcases List.mem_cons.mp hw with rfl | hw
  · rw [if_neg (by decide +kernel), if_neg (by decide +kernel), if_pos rfl, if_pos rfl]
  rcases List.mem_cons.mp hw with rfl | hw
  · rw [if_neg (by decide +kernel), if_pos rfl, if_neg (by decide +kernel), if_pos rfl]
  rcases List.mem_cons.mp hw with rfl | hw
  · rw [if_pos rfl, if_neg (by decide +kernel), if_neg (by decide +kernel)]
  · exact absurd hw List.not_mem_nil
theorem fdiv_abs {a b : Int} (ha : NumOk a) : (a.fdiv b).natAbs < 2 ^ 101 := by
  have h1 := num_abs ha
  have h2 : (a / b).natAbs ≤ a.natAbs := Int.natAbs_ediv_le_natAbs a b
  have h3 := Int.fdiv_eq_ediv (a := a) (b := b)
  have e1 : (2 : Nat) ^ 100 = 1267650600228229401496703205376 := by decide
  have e2 : (2 : Nat) ^ 101 = 2535301200456458802993406410752 := by decide
  rw [e1] at h1
  rw [e2, h3]
  split <;> omega
section
variable {P : Program} {w : World} {K : PySem.W.Frag} {mg : Str → Option Value} {base : Heap}
def CM3 : List Str := ["joined"]
theorem pick2 (b : Bool) (x : V) : ∃ v, atI [x, V.non] (if b then 1 else 0) = some v ∧ v = (if b = true then .non else x) := by
  cases b with
  | true => exact ⟨.non, atI_nat (j := 1) rfl, rfl⟩
  | false => exact ⟨x, atI_nat (j := 0) rfl, rfl⟩
theorem pick1 (b : Bool) (x : V) : ∃ v, atI [V.non, x] (if b then 1 else 0) = some v ∧ v = (if b = true then x else .non) := by
  cases b with
  | true => exact ⟨x, atI_nat (j := 1) rfl, rfl⟩
  | false => exact ⟨.non, atI_nat (j := 0) rfl, rfl⟩
def DM : List Str := ["div", "mod"]
theorem cm_t : ∀ w ∈ CMP, decide (V.str w = V.str "joined") = false := by decide +kernel
theorem a5_t2 : ∀ w ∈ A5, decide (V.str w = V.str "joined") = false ∧ (decide (w ∈ DM) = decide (w = "div" ∨ w = "mod")) := by decide +kernel
theorem arAdd_in : ("add" : Str) ∈ A5 := by decide +kernel
end
end K2

namespace K2
open PySem L2
theorem ApL.lw {w : Str} {xs : List V} {v : V} (h : ApL w xs v) : w ∈ LW := by cases h <;> decide +kernel
theorem ApS.lw {w : Str} {xs : List V} {v : V} (h : ApS w xs v) : w ∉ LW := by
  cases h with
  | not _ => exact notLW _ (by decide +kernel)
  | neg _ => exact notLW _ (by decide +kernel)
  | abs _ => exact notLW _ (by decide +kernel)
  | len _ _ => exact notLW _ (by decide +kernel)
  | joined _ _ _ _ => exact notLW _ (by decide +kernel)
  | cmp _ _ _ _ hw _ _ => exact notLW _ (List.mem_append.mpr (.inl (List.mem_append.mpr (.inr hw))))
  | ar _ _ _ hw _ _ => exact notLW _ (List.mem_append.mpr (.inr hw))
theorem lv_ne {w : Str} (h : w ∉ LV) : decide (V.str w = V.str "value") = false ∧ decide (V.str w = V.str "attr") = false ∧ decide (V.str w = V.str "dim") = false := by
  refine ⟨?_, ?_, ?_⟩ <;> rw [str_eq] <;> refine decide_eq_false fun z => h ?_ <;> rw [z] <;> decide +kernel
theorem Ev.op_inv {ds : List D} {ts : List T} {pl : List Int} {vs : List V} {e : Ex} {v : V} (h : Ev ds ts pl vs e v) {H : Hp} {r : V} (he : ExAt H r e) (nw : e.word ∉ LV) : ∃ xs, EvAll ds ts pl vs e.parts xs ∧ xs.all flatV = true ∧ Ap e.word xs v := by
  cases he with
  | val _ => exact absurd (by show ("value" : Str) ∈ LV; decide +kernel) nw
  | attr _ => exact absurd (by show ("attr" : Str) ∈ LV; decide +kernel) nw
  | dim _ => exact absurd (by show ("dim" : Str) ∈ LV; decide +kernel) nw
  | op _ _ _ _ =>
    cases h with
    | op h1 h2 h3 => exact ⟨_, h1, h2, h3⟩
theorem parts_le {e : Ex} (wf : WF e) {H : Hp} {v : V} (he : ExAt H v e) : e.parts.length ≤ 3 := by
  by_cases nw : e.word ∈ LV
  · obtain ⟨_, _, _, _, _, g⟩ := he.tup
    rw [g nw]
    decide
  · exact ar_le (wf.ar he nw)
def Loose (K : PySem.W.Frag) (mg : Str → Option Value) : Prop := ∃ kk, mg "LOOSE_WORDS" = some (.ref kk) ∧ ∀ H : Hp, SqT K H kk (LW.map V.str)
section
variable {P : Program} {w : World} {K : PySem.W.Frag} {mg : Str → Option Value} {base : Heap}
def spVO (C : Addr) (n : Nat) : Sp := fun vs H Q _ => ∃ (r : V) (s pa va : Addr) (e : Ex) (ds : List D) (ts : List T) (pl : List Int) (ws : List V) (v : V), vs = [r, .ref s, .ref pa, .ref va] ∧ ExAt H r e ∧ WF e ∧ e.dep < n ∧ ShapeAt H C s ds ts ∧ H pa = some (.tup (pl.map V.int)) ∧ H va = some (.tup ws) ∧
  Ev ds ts pl ws e v ∧ (ds.length ≤ 900 ∧ ts.length ≤ 900) ∧ ∀ H', Same H H' → Q v H'
theorem scVO : FnScope ["expression", "shape", "place", "values", "word", "parts", "part"] ["expression", "shape", "place", "values"] (defScope sValueOf) := ⟨rfl, rfl, rfl, by decide +kernel, rfl, by decide +kernel, by decide +kernel⟩
theorem ok_vo {f fP fA fD fL fS C : Addr} {fd fdP fdA fdD fdL fdS : FuncData} (F : Fun K "value_of" "value_of" sValueOf f fd) (gF : mg "value_of" = some (.ref f)) (bF : Binds K fd ["expression", "shape", "place", "values"] []) (lo : Loose K mg)
    (GP : FnOk P w K mg base CX0 1 fP fdP ["expression"] spParts) (kP : PySem.W.keepIn K (.ref fP) = true) (bP : Binds K fdP ["expression"] []) (gP : mg "parts_of" = some (.ref fP))
    (GA : FnOk P w K mg base CX0 2 fA fdA ["shape", "name"] (spAttrIx C)) (kA : PySem.W.keepIn K (.ref fA) = true) (bA : Binds K fdA ["shape", "name"] []) (gA : mg "attr_index" = some (.ref fA))
    (GD : FnOk P w K mg base CX0 2 fD fdD ["shape", "name"] (spDimIx C)) (kD : PySem.W.keepIn K (.ref fD) = true) (bD : Binds K fdD ["shape", "name"] []) (gD : mg "dim_index" = some (.ref fD))
    (GL : FnOk P w K mg base CX0 2 fL fdL ["word", "parts"] spLoose) (kL : PySem.W.keepIn K (.ref fL) = true) (bL : Binds K fdL ["word", "parts"] []) (gL : mg "loose_value" = some (.ref fL))
    (GS : FnOk P w K mg base CX0 3 fS fdS ["word", "parts"] spStrict) (kS : PySem.W.keepIn K (.ref fS) = true) (bS : Binds K fdS ["word", "parts"] []) (gS : mg "strict_value" = some (.ref fS)) :
    ∀ n : Nat, FnOk P w K mg base CX0 (4 + n) f fd ["expression", "shape", "place", "values"] (spVO C n) := by
  intro n
  induction n with
  | zero =>
    refine F.ok scVO (fun vs H Q E h => ?_) (fun cdv A outer s H vs Q E hr h => ?_)
    · obtain ⟨r, s, pa, va, e, ds, ts, pl, ws, v, rfl, _⟩ := h
      rfl
    · obtain ⟨r, s', pa, va, e, ds, ts, pl, ws, v, rfl, he, wf, hd, _⟩ := h
      exact absurd hd (Nat.not_lt_zero _)
  | succ n ih =>
    refine F.ok scVO (fun vs H Q E h => ?_) (fun cdv A outer s H vs Q E hr h => ?_)
    · obtain ⟨r, s, pa, va, e, ds, ts, pl, ws, v, rfl, _⟩ := h
      rfl
    · obtain ⟨r, s', pa, va, e, ds, ts, pl, ws, v, rfl, he, wf, hd, hS, hpa, hva, hev, gk, q⟩ := h
      have hr1 := hr.mono (j := 1) (by show 1 ≤ 4 + n; omega)
      have hr2 := hr.mono (j := 2) (by show 2 ≤ 4 + n; omega)
      have hr3 := hr.mono (j := 3) (by show 3 ≤ 4 + n; omega)
      have hrn := hr.mono (j := 4 + n) (by show 4 + n ≤ 4 + n; omega)
      obtain ⟨kk, m1, r1⟩ := lo
      refine ⟨_, pss_cons (ps_set (i := 4) scVO.nd rfl (.inl rfl) (pe_ix ix_tup (pv 0) pe_int (fun _ _ => rfl)))
        (pss_cons (ps_if (pt_cmpR op_eq (pv 4) pe_str (nomark _)) (pss_one (ps_ret (pe_ix ix_tup (pv 0) pe_int (fun _ _ => rfl)))) pss_nil)
        (pss_cons (ps_if (pt_cmpR op_eq (pv 4) pe_str (nomark _)) (pss_one (ps_ret (pe_ix ix_tup (pv 3) (pe_call GA hr2 (by rfl) gA kA bA .nil pass0 (pa_cons (pv 1) (pa_cons (pe_ix ix_tup (pv 0) pe_int (fun _ _ => rfl)) pa_nil))) (fun _ _ => rfl)))) pss_nil)
        (pss_cons (ps_if (pt_cmpR op_eq (pv 4) pe_str (nomark _)) (pss_one (ps_ret (pe_ix ix_tup (pv 2) (pe_call GD hr2 (by rfl) gD kD bD .nil pass0 (pa_cons (pv 1) (pa_cons (pe_ix ix_tup (pv 0) pe_int (fun _ _ => rfl)) pa_nil))) (fun _ _ => rfl)))) pss_nil)
        (pss_cons (ps_setLc (i := 5) (own := [("part", 6)]) (g := gName 6) (tt := tYes) rfl scVO.nd rfl rfl (sw_true rfl rfl rfl (by decide +kernel)) (pi_list (pe_call GP hr1 (by rfl) gP kP bP .nil pass0 (pa_cons (pv 0) pa_nil)))
            (blkOk_by (N := ["expression", "shape", "place", "values", "word", "parts", "part"]) (sc := defScope sValueOf) (by decide +kernel)) (fun _ _ _ _ _ => pg_name (i := 6) scVO.nd rfl (Or.inl rfl)) (fun _ _ _ _ _ => pts_nil)
            (fun _ _ _ _ _ => pe_call ih hrn (by rfl) gF F.kp bF .nil pass0 (pa_cons (pv 6) (pa_cons (pv 1) (pa_cons (pv 2) (pa_cons (pv 3) pa_nil))))))
        (pss_cons (ps_if (pt_cmpR op_in_seq (pv 4) (pe_glob (v := .ref kk) (by rfl) m1 rfl) (by rfl)) (pss_one (ps_ret (pe_call GL hr2 (by rfl) gL kL bL .nil pass0 (pa_cons (pv 4) (pa_cons (pv 5) pa_nil))))) pss_nil)
        (pss_cons (ps_if (pt_cmpR op_in_seq pe_non (pv 5) (by rfl)) (pss_one (ps_ret pe_non)) pss_nil)
        (pss_one (ps_ret (pe_call GS hr3 (by rfl) gS kS bS .nil pass0 (pa_cons (pv 4) (pa_cons (pv 5) pa_nil))))))))))), ?_⟩
      have hpl := parts_le wf he
      have he0 := he
      obtain ⟨a, xs, rfl, ha, h1, h2⟩ := he.tup
      refine ⟨_, rfl, a, _, 0, _, rfl, rfl, SqT.of ha, atI_nat (j := 0) rfl, ?_⟩
      cases he with
      | @val _ k v2 hx =>
        cases hev
        have hx := hx
        exact ⟨_, rfl, rfl, _, rfl, iteB (by show decide (V.str "value" = V.str "value") = true; decide +kernel) ⟨_, rfl, a, _, 2, v, rfl, rfl, SqT.of hx, atI_nat (j := 2) rfl, q _ (fun _ _ z => z)⟩⟩
      | @attr _ nm hx =>
        cases hev with
        | @attr _ i _ hi hv =>
          refine ⟨_, rfl, rfl, _, rfl, iteBF (by show decide (V.str "attr" = V.str "value") = false; decide +kernel) ⟨_, rfl, rfl, _, rfl, iteB (by show decide (V.str "attr" = V.str "attr") = true; decide +kernel) ?_⟩⟩
          refine ⟨_, rfl, _, rfl, _, rfl, a, _, 1, .str nm, rfl, rfl, SqT.of hx, atI_nat (j := 1) rfl, s', nm, ds, ts, rfl, hS, fun r hr H' sm => ?_⟩
          obtain rfl := idx_one hi hr
          exact ⟨va, ws, i, v, rfl, rfl, SqT.of (sm _ _ hva), atI_nat hv, q _ sm⟩
      | @dim _ nm hx =>
        cases hev with
        | @dim _ i c hi hv =>
          refine ⟨_, rfl, rfl, _, rfl, iteBF (by show decide (V.str "dim" = V.str "value") = false; decide +kernel) ⟨_, rfl, rfl, _, rfl, iteBF (by show decide (V.str "dim" = V.str "attr") = false; decide +kernel) ⟨_, rfl, rfl, _, rfl, iteB (by show decide (V.str "dim" = V.str "dim") = true; decide +kernel) ?_⟩⟩⟩
          refine ⟨_, rfl, _, rfl, _, rfl, a, _, 1, .str nm, rfl, rfl, SqT.of hx, atI_nat (j := 1) rfl, s', nm, ds, ts, rfl, hS, fun r hr H' sm => ?_⟩
          obtain rfl := idx_one hi hr
          exact ⟨pa, _, i, .int c, rfl, rfl, SqT.of (sm _ _ hpa), atI_nat (by rw [List.getElem?_map, hv]; rfl), q _ sm⟩
      | @op _ wd xs2 ps hx g nw ne =>
        obtain ⟨zs, hz, hf, hap⟩ := hev.op_inv he0 nw
        obtain ⟨n1, n2, n3⟩ := lv_ne nw
        refine ⟨_, rfl, rfl, _, rfl, iteBF n1 ⟨_, rfl, rfl, _, rfl, iteBF n2 ⟨_, rfl, rfl, _, rfl, iteBF n3 ?_⟩⟩⟩
        refine ⟨_, rfl, _, _, rfl, he0, fun H1 p ys s1 np hp hx1 => ⟨p, rfl, ⟨_, .inl (.inl hp)⟩, fun D nD => ?_⟩⟩
        have ly := hx1.len
        have lz : zs.length = ps.length := hz.len
        have hpl : ps.length ≤ 3 := hpl
        have ly : ys.length = ps.length := ly
        have s2 := s1.trans (same_new (o := .lst []) nD)
        have nD0 := s1.free nD
        refine lc_list (K := K) (a := p) (xs := ys) (fun i H3 => Same H H3 ∧ H3 p = some (.lst ys) ∧ H3 D = some (.lst (zs.take i)) ∧ ExAll H3 ys ps) ⟨s2, same_new nD _ _ hp, upd_same, hx1.same (same_new nD)⟩ (fun _ _ _ z => .inl (.inl z.2.1)) ?_ ?_
        · rintro i x H3 hxi ⟨sm, hp3, hD, hxk⟩
          have hi : i < ys.length := (List.getElem?_eq_some_iff.mp hxi).1
          have hi2 : i < ps.length := by omega
          obtain ⟨x2, e1, e2⟩ := hxk.at (List.getElem?_eq_getElem hi2)
          obtain rfl : x = x2 := Option.some.inj (hxi.symm.trans e1)
          have hm : ps[i] ∈ ps := List.getElem_mem hi2
          have hdp := dep_part (e := .op wd ps) hm
          obtain ⟨z, e3, e4⟩ := hz.at (List.getElem?_eq_getElem hi2)
          refine ⟨rfl, ?_⟩
          dsimp only [tYes]
          rw [if_pos rfl]
          refine ⟨_, rfl, _, rfl, _, rfl, _, rfl, x, s', pa, va, ps[i], ds, ts, pl, ws, z, rfl, e2, wf.part (e := .op wd ps) hm, by omega, hS.same sm, sm _ _ hpa, sm _ _ hva, e4, gk, fun H4 s4 => ⟨_, s4 _ _ hD, ?_, ?_⟩⟩
          · rw [List.length_take]
            exact small1000 (by omega)
          · refine ⟨same_put (sm.trans s4) nD0, ?_, ?_, (hxk.same s4).keep fun b r hb => ?_⟩
            · rw [upd_ne (ne_of_none hp nD)]
              exact s4 _ _ hp3
            · rw [upd_same, List.take_add_one, e3]
              rfl
            · rw [upd_ne]
              · exact hb
              · intro y
                rw [y, s4 _ _ hD] at hb
                cases hb
        · rintro H3 ⟨sm, hp3, hD, _⟩
          rw [ly, ← lz, List.take_length] at hD
          refine ⟨_, rfl, kk, _, rfl, .inr (r1 H3), rfl, flat_strs LW, _, rfl, ?_⟩
          cases hap with
          | loose hl =>
            exact iteB ((inV_str _ LW).trans (decide_eq_true hl.lw)) ⟨_, rfl, _, rfl, wd, D, zs, v, rfl, hD, hl, q _ sm⟩
          | gone nl hn =>
            refine iteBF ((inV_str _ LW).trans (decide_eq_false nl)) ⟨_, rfl, D, zs, rfl, .inl (.inl (.inl hD)), rfl, hf, _, rfl, iteB ((inV_non hf).trans (decide_eq_true hn)) (q _ sm)⟩
          | strict hn hs =>
            refine iteBF ((inV_str _ LW).trans (decide_eq_false hs.lw)) ⟨_, rfl, D, zs, rfl, .inl (.inl (.inl hD)), rfl, hf, _, rfl, iteBF ((inV_non hf).trans (decide_eq_false hn)) ⟨_, rfl, _, rfl, wd, D, zs, v, rfl, hD, hs, q _ sm⟩⟩
end
end K2

namespace K2
open PySem PySem.Spec PyProof.Rows L2
open PySem.W (dataLt dataLt_int dataLt_str dataLt_bool minD maxD AlikeAll min_list_data max_list_data)
/-! ### values of one kind, in their order -/
def ltV : V → V → Bool
  | .int a, .int b => decide (a < b)
  | .bl a, .bl b => decide (b2i a < b2i b)
  | .str a, .str b => decide (a.cps.toList < b.cps.toList)
  | _, _ => false
theorem ltV_k {k : Kd} {x y : V} (hx : OfK k x) (hy : OfK k y) : less k x y = ltV x y := by
  cases k with
  | i => obtain ⟨n, rfl⟩ := hx; obtain ⟨m, rfl⟩ := hy; rfl
  | f => obtain ⟨n, rfl⟩ := hx; obtain ⟨m, rfl⟩ := hy; rfl
  | t => obtain ⟨n, rfl, _⟩ := hx; obtain ⟨m, rfl, _⟩ := hy; rfl
def Bt (x y : V) : Prop := ∃ k, OfK k x ∧ OfK k y
def rCmp (g : V → V → Bool) : R2 := fun x y H Q => Bt x y ∧ Q (.bl (g x y)) H
section
variable {X : Cx}
theorem op_ltV : OpR X (compareOp .Lt) (rCmp fun x y => ltV x y) := fun pins s σ H x y v u Q I rx ry ⟨⟨k, hx, hy⟩, q⟩ => op_ltK pins s σ H x y v u Q I rx ry ⟨k, hx, hy, by rw [ltV_k hx hy]; exact q⟩
theorem op_gtV : OpR X (compareOp .Gt) (rCmp fun x y => ltV y x) := fun pins s σ H x y v u Q I rx ry ⟨⟨k, hx, hy⟩, q⟩ => op_gtK pins s σ H x y v u Q I rx ry ⟨k, hx, hy, by rw [ltV_k hy hx]; exact q⟩
theorem op_leV : OpR X (compareOp .LtE) (rCmp fun x y => !ltV y x) := fun pins s σ H x y v u Q I rx ry ⟨⟨k, hx, hy⟩, q⟩ => op_leK pins s σ H x y v u Q I rx ry ⟨k, hx, hy, by rw [ltV_k hy hx]; exact q⟩
theorem op_geV : OpR X (compareOp .GtE) (rCmp fun x y => !ltV x y) := fun pins s σ H x y v u Q I rx ry ⟨⟨k, hx, hy⟩, q⟩ => op_geK pins s σ H x y v u Q I rx ry ⟨k, hx, hy, by rw [ltV_k hx hy]; exact q⟩
theorem op_eqV' : OpR X (compareOp .Eq) (rCmp fun x y => decide (x = y)) := fun pins s σ H x y v u Q I rx ry ⟨⟨k, hx, hy⟩, q⟩ => op_eq pins s σ H x y v u Q I rx ry ⟨scal_k hx hy, q⟩
theorem op_neV' : OpR X (compareOp .NotEq) (rCmp fun x y => !decide (x = y)) := fun pins s σ H x y v u Q I rx ry ⟨⟨k, hx, hy⟩, q⟩ => op_ne pins s σ H x y v u Q I rx ry ⟨scal_k hx hy, q⟩
end
/-! ### min and max of a list of values of one kind -/
def pdV : V → PyData
  | .int a => .int a
  | .bl a => .bool a
  | .str a => .str a
  | _ => .none
def mnV (x : V) (xs : List V) : V := xs.foldl (fun a y => if ltV y a then y else a) x
def mxV (x : V) (xs : List V) : V := xs.foldl (fun a y => if ltV a y then y else a) x
theorem lt_pd {k : Kd} {x y : V} (hx : OfK k x) (hy : OfK k y) : dataLt (pdV x) (pdV y) = ltV x y := by
  cases k with
  | i =>
    obtain ⟨n, rfl⟩ := hx
    obtain ⟨m, rfl⟩ := hy
    exact dataLt_int n m
  | f =>
    obtain ⟨n, rfl⟩ := hx
    obtain ⟨m, rfl⟩ := hy
    cases n <;> cases m <;> decide +kernel
  | t =>
    obtain ⟨n, rfl, _⟩ := hx
    obtain ⟨m, rfl, _⟩ := hy
    exact dataLt_str n m
theorem mn_of {k : Kd} : ∀ (xs : List V) (x : V), OfK k x → (∀ y ∈ xs, OfK k y) → OfK k (mnV x xs) ∧ minD (pdV x) (xs.map pdV) = pdV (mnV x xs)
  | [], x, hx, _ => ⟨hx, rfl⟩
  | y :: r, x, hx, h => by
    have hy := h y List.mem_cons_self
    have hr : ∀ z ∈ r, OfK k z := fun z hz => h z (List.mem_cons_of_mem _ hz)
    have e : minD (pdV x) ((y :: r).map pdV) = minD (if dataLt (pdV y) (pdV x) then pdV y else pdV x) (r.map pdV) := rfl
    have e2 : mnV x (y :: r) = mnV (if ltV y x then y else x) r := rfl
    rw [e, e2, lt_pd hy hx]
    by_cases c : ltV y x = true
    · rw [if_pos c, if_pos c]; exact mn_of r y hy hr
    · rw [if_neg c, if_neg c]; exact mn_of r x hx hr
theorem mx_of {k : Kd} : ∀ (xs : List V) (x : V), OfK k x → (∀ y ∈ xs, OfK k y) → OfK k (mxV x xs) ∧ maxD (pdV x) (xs.map pdV) = pdV (mxV x xs)
  | [], x, hx, _ => ⟨hx, rfl⟩
  | y :: r, x, hx, h => by
    have hy := h y List.mem_cons_self
    have hr : ∀ z ∈ r, OfK k z := fun z hz => h z (List.mem_cons_of_mem _ hz)
    have e : maxD (pdV x) ((y :: r).map pdV) = maxD (if dataLt (pdV x) (pdV y) then pdV y else pdV x) (r.map pdV) := rfl
    have e2 : mxV x (y :: r) = mxV (if ltV x y then y else x) r := rfl
    rw [e, e2, lt_pd hx hy]
    by_cases c : ltV x y = true
    · rw [if_pos c, if_pos c]; exact mx_of r y hy hr
    · rw [if_neg c, if_neg c]; exact mx_of r x hx hr
theorem rd_v {k : Kd} {h : Heap} {x : V} {u : Value} (hx : OfK k x) (r : RelV x u) : Reads h u (pdV x) [] := by
  cases k with
  | i => obtain ⟨n, rfl⟩ := hx; obtain ⟨t, rfl⟩ := r; exact .int n t
  | f => obtain ⟨n, rfl⟩ := hx; cases (show u = Value.bool n from r); exact .bool n
  | t => obtain ⟨n, rfl, _⟩ := hx; obtain ⟨t, rfl⟩ := r; exact .str n t
theorem rd_back {k : Kd} {h : Heap} {x : V} {u : Value} {bs : List Addr} (hx : OfK k x) (r : Reads h u (pdV x) bs) : RelV x u := by
  cases k with
  | i => obtain ⟨n, rfl⟩ := hx; cases r; exact ⟨_, rfl⟩
  | f => obtain ⟨n, rfl⟩ := hx; cases r; rfl
  | t => obtain ⟨n, rfl, _⟩ := hx; cases r; exact ⟨_, rfl⟩
theorem rd_all {k : Kd} {h : Heap} : ∀ {xs : List V} {us : List Value}, (∀ x ∈ xs, OfK k x) → Vals xs us → ∃ as, ReadsAll h us (xs.map pdV) as
  | [], _, _, .nil => ⟨_, .nil⟩
  | x :: xs, _, hx, .cons r rs => by
    obtain ⟨as, e⟩ := rd_all (fun y hy => hx y (List.mem_cons_of_mem _ hy)) rs
    exact ⟨_, .cons (rd_v (hx x List.mem_cons_self) r) e⟩
theorem alike_v {k : Kd} {xs : List V} (hx : ∀ x ∈ xs, OfK k x) : AlikeAll (xs.map pdV) := by
  refine ⟨fun a ha b hb => ?_, fun a ha => ?_⟩
  · obtain ⟨x, h1, rfl⟩ := List.mem_map.mp ha
    obtain ⟨y, h2, rfl⟩ := List.mem_map.mp hb
    have h3 := hx x h1
    have h4 := hx y h2
    cases k with
    | i => obtain ⟨n, e1⟩ := h3; obtain ⟨m, e2⟩ := h4; rw [e1, e2]; rfl
    | f => obtain ⟨n, e1⟩ := h3; obtain ⟨m, e2⟩ := h4; rw [e1, e2]; rfl
    | t => obtain ⟨n, e1, _⟩ := h3; obtain ⟨m, e2, _⟩ := h4; rw [e1, e2]; rfl
  · obtain ⟨x, h1, rfl⟩ := List.mem_map.mp ha
    have h3 := hx x h1
    cases k with
    | i => obtain ⟨n, e1⟩ := h3; rw [e1]; exact fun z => nomatch z
    | f => obtain ⟨n, e1⟩ := h3; rw [e1]; exact fun z => nomatch z
    | t => obtain ⟨n, e1, _⟩ := h3; rw [e1]; exact fun z => nomatch z
theorem depth_v {xs : List V} : PyData.depthAll (xs.map pdV) ≤ 1 := by
  induction xs with
  | nil => exact Nat.zero_le _
  | cons x xs ih =>
    have : PyData.depth (pdV x) ≤ 1 := by cases x <;> simp [pdV, PyData.depth]
    show max _ _ ≤ 1
    exact Nat.max_le.mpr ⟨this, ih⟩
section
variable {X : Cx}
def rMnV (K : PySem.W.Frag) (f : V → List V → V) : List V → Hp → VK → Prop := fun vs H Q => ∃ (a : Addr) (k : Kd) (x : V) (xs : List V), vs = [.ref a] ∧ SqL K H a (x :: xs) ∧ (∀ y ∈ x :: xs, OfK k y) ∧ Q (f x xs) H
theorem cr_minV (hc : X.calm = true) (hu : X.A.units + 64 < cLine) : CallR X (.builtin "min") (rMnV X.K mnV) := by
  rintro pins s σ H vs us Q I r ⟨a, k, x, xs, rfl, hl, hk, q⟩
  obtain ⟨its, rv, p, _⟩ := I.list hl
  rw [Vals.ref1 r]
  obtain ⟨as, ra⟩ := rd_all (h := s.heap) hk rv
  have hm := mn_of xs x (hk x List.mem_cons_self) fun y hy => hk y (List.mem_cons_of_mem _ hy)
  have hd := depth_v (xs := x :: xs)
  refine min_list_data (I.ok.hd hc) p.isList ra (alike_v hk) (by show X.A.units + 1 + PyData.depthAll ((x :: xs).map pdV) < cLine; omega) fun i v h' tk bs _ hr hkp => ?_
  rw [hm.2] at hr
  exact ⟨_, H, I.kept (t' := tk) hkp, rd_back hm.1 hr, q⟩
theorem cr_maxV (hc : X.calm = true) (hu : X.A.units + 64 < cLine) : CallR X (.builtin "max") (rMnV X.K mxV) := by
  rintro pins s σ H vs us Q I r ⟨a, k, x, xs, rfl, hl, hk, q⟩
  obtain ⟨its, rv, p, _⟩ := I.list hl
  rw [Vals.ref1 r]
  obtain ⟨as, ra⟩ := rd_all (h := s.heap) hk rv
  have hm := mx_of xs x (hk x List.mem_cons_self) fun y hy => hk y (List.mem_cons_of_mem _ hy)
  have hd := depth_v (xs := x :: xs)
  refine max_list_data (I.ok.hd hc) p.isList ra (alike_v hk) (by show X.A.units + 1 + PyData.depthAll ((x :: xs).map pdV) < cLine; omega) fun i v h' tk bs _ hr hkp => ?_
  rw [hm.2] at hr
  exact ⟨_, H, I.kept (t' := tk) hkp, rd_back hm.1 hr, q⟩
end
end K2

namespace K2
open PySem PySem.Spec PyProof.Rows L2
open PySem.W (dataLt dataLe dataLe_eq AllAlike Sortable sorted_data EachIs)
/-! ### sorted([x, y]) -/
def srt2 (x y : V) : List V := if ltV y x = true then [y, x] else [x, y]
theorem each2 {R : Value → V → Prop} : ∀ {us : List Value} {xs : List V}, EachIs R us xs → (∀ u x, R u x → RelV x u) → Vals xs us
  | _, _, .nil, _ => .nil
  | _, _, .cons h t, k => .cons (k _ _ h) (each2 t k)
section
variable {X : Cx}
def rSort2 (K : PySem.W.Frag) : List V → Hp → VK → Prop := fun vs H Q => ∃ (a : Addr) (k : Kd) (x y : V), vs = [.ref a] ∧ SqL K H a [x, y] ∧ OfK k x ∧ OfK k y ∧ ∀ p, H p = none → Q (.ref p) (upd H p (.lst (srt2 x y)))
theorem cr_sort2 (hu : X.A.units + 64 < cLine) : CallR X (.builtin "sorted") (rSort2 X.K) := by
  rintro pins s σ H vs us Q I r ⟨a, k, x, y, rfl, hl, hx, hy, q⟩
  obtain ⟨its, rv, p, _⟩ := I.list hl
  rw [Vals.ref1 r]
  have e1 : EachIs (fun u z => RelV z u) its [x, y] := by
    cases rv with
    | cons r1 rv =>
      cases rv with
      | cons r2 rv =>
        cases rv
        exact .cons r1 (.cons r2 .nil)
  have e2 : EachIs (fun u z => ∃ as, Reads s.heap u (pdV z) as) its [x, y] := by
    cases e1 with
    | cons r1 e1 =>
      cases e1 with
      | cons r2 e1 =>
        cases e1
        exact .cons ⟨_, rd_v hx r1⟩ (.cons ⟨_, rd_v hy r2⟩ .nil)
  have al : ∀ z ∈ [x, y], OfK k z := fun z hz => by
    simp only [List.mem_cons, List.not_mem_nil, or_false] at hz
    rcases hz with rfl | rfl
    · exact hx
    · exact hy
  have hal : AllAlike ([x, y].map pdV) := fun d hd d' hd' => (alike_v al).1 d hd d' hd'
  have hsr : Sortable ([x, y].map pdV) := .inr fun d hd => by
    obtain ⟨z, hz, rfl⟩ := List.mem_map.mp hd
    have h3 := al z hz
    cases k with
    | i => obtain ⟨n, e1⟩ := h3; rw [e1]; exact ⟨(fun z => nomatch z), (fun _ z => nomatch z)⟩
    | f => obtain ⟨n, e1⟩ := h3; rw [e1]; exact ⟨(fun z => nomatch z), (fun _ z => nomatch z)⟩
    | t => obtain ⟨n, e1, _⟩ := h3; rw [e1]; exact ⟨(fun z => nomatch z), (fun _ z => nomatch z)⟩
  have pl : s.heap.IsList a its.toArray := p.isList
  have d1 : ∀ z : V, PyData.depth (pdV z) ≤ 1 := fun z => by cases z <;> simp [pdV, PyData.depth]
  refine sorted_data (R := fun u z => RelV z u) pl e1 e2 hal hsr (by show 2 ≤ sizeLine; decide) (fun b _ => by have := d1 b; omega) fun out hlen ho => ?_
  have em : [x, y].mergeSort (dataLe false pdV) = srt2 x y := by
    rw [dataLe_eq]
    have : ∀ le : V → V → Bool, [x, y].mergeSort le = if le x y = true then [x, y] else [y, x] := fun le => by
      by_cases c : le x y = true
      · rw [if_pos c]; simp [List.mergeSort, List.MergeSort.Internal.splitInTwo, List.merge, c]
      · rw [if_neg c]; simp [List.mergeSort, List.MergeSort.Internal.splitInTwo, List.merge, c]
    rw [this]
    show (if (!dataLt (pdV y) (pdV x)) = true then _ else _) = _
    rw [lt_pd hy hx]
    unfold srt2
    cases ltV y x <;> rfl
  rw [em] at ho
  have ov := each2 ho fun _ _ h => h
  obtain ⟨ep, he'⟩ := PyProof.Rows.sortedAll_at s.heap its out.toArray
  have hsz : (srt2 x y).length ≤ sizeLine := by
    unfold srt2
    split <;> (show 2 ≤ sizeLine; decide)
  exact ⟨.ref _, upd H (s.heap.objs.size + 1) (.lst (srt2 x y)), I.laid (t' := s.toks) (fun _ _ => PyProof.Rows.sortedAll_old) (Nat.le_succ _) ⟨hsz, out, ep, ov, he'⟩, rfl, q _ (I.hok.fresh (Nat.le_succ _))⟩
/-! ### a local that holds one of several defs, called with *xs -/
def tStarL (K : PySem.W.Frag) (i : Nat) (S : Addr → Sp → Prop) (te : TE) : TE := fun σ H Q => ∃ f sp, σ[i]? = some (some (.ref f)) ∧ S f sp ∧ te σ H fun y H1 => ∃ a xs, y = .ref a ∧ (SqT K H1 a xs ∨ SqL K H1 a xs) ∧ sp xs H1 Q (fun _ _ _ => False)
theorem pe_starL {k i : Nat} {x : Str} {p pos sp_ : Pos} {e : Expr} {te : TE} {S : Addr → Sp → Prop} (A : ∀ f sp, S f sp → FnR X.prog X.w X.K X.mg X.base CX0 k f sp ∧ PySem.W.keepIn X.K (.ref f) = true) (hr : Room k X.A) (hN : X.N[i]? = some x) (hv : Vis X.env.scope x) (he : PE X e te)
    (hdb : (x == ("__debug__" : Str)) = false := by decide) (hcd : (x == ("__classdict__" : Str)) = false := by decide) (hst : starEach [.Starred e sp_] X.env = [(true, eval e X.env)] := by rfl) :
    PE X (.Call (.Name x p) [.Starred e sp_] [] pos) (tStarL X.K i S te) := by
  refine ⟨fun pins s σ H Q I ⟨f, sp, hs, hS, ht⟩ => ?_⟩
  obtain ⟨F, hk⟩ := A f sp hS
  refine wpAny_Call_Name_kw (thn ((pe_var (pos := p) hN hv hdb hcd).run pins s σ H (fun v H1 => v = .ref f ∧ H1 = H) I ⟨.ref f, hs, rfl, rfl⟩) fun u s1 ⟨v, H1, I1, r1, q1⟩ => ?_)
  obtain ⟨rfl, rfl⟩ := q1
  cases r1
  refine PySem.W.callWith_S (h₀ := X.base) I.ok.mod.kin hk (thn (he.run pins s1 σ _ _ I1 ht) fun v s2 ⟨y, H2, I2, ry, a, xs, ey, hxs, q⟩ => ?_) hst
  subst ey
  obtain rfl : v = Value.ref a := ry
  exact StX.star_any I2 hxs fun us s3 I3 rv => ⟨I3.kIn, wpAny_call (run_fnR F hr (fun _ _ _ _ _ _ _ z => z.elim) I3 rv q)⟩
/-! ### rules within comprehensions -/
theorem ix_listK (K : PySem.W.Frag) (hK : X.K = K) : IxR X (rIxL K) := by subst hK; exact ix_list
theorem sl_tupAK (K : PySem.W.Frag) (hK : X.K = K) : SlR X (rSlA K) := by subst hK; exact sl_tupA
theorem op_in_seqK (K : PySem.W.Frag) (hK : X.K = K) : OpR X (compareOp .In) (rIn K false) := by subst hK; exact op_in_seq
theorem call_len_seqK (K : PySem.W.Frag) (hK : X.K = K) : CallR X (.builtin "len") (fun xs H Q => ∃ p ys, xs = [.ref p] ∧ (SqL K H p ys ∨ SqT K H p ys) ∧ Q (.int ys.length) H) := by subst hK; exact call_len_seq
end
end K2

namespace K2
open PySem L2
/-! ### spans -/
structure Spn where
  a : V
  b : V
  m : Bool
def Spn.v (s : Spn) : List V := [s.a, s.b, .bl s.m]
def AM : Spn := ⟨.non, .non, true⟩
def OkE (k : Kd) (v : V) : Prop := OfK k v ∧ isVal k v = true
inductive OkS (k : Kd) : Spn → Prop
  | am : OkS k AM
  | ends {a b : V} {m : Bool} : OkE k a → OkE k b → ltV b a = false → OkS k ⟨a, b, m⟩
def has (s : Spn) : Bool := !decide (s.a = .non)
theorem OkE.ne {k : Kd} {v : V} (h : OkE k v) : v ≠ .non := by
  obtain ⟨h, _⟩ := h
  cases k with
  | i => obtain ⟨n, rfl⟩ := h; exact fun z => nomatch z
  | f => obtain ⟨n, rfl⟩ := h; exact fun z => nomatch z
  | t => obtain ⟨n, rfl, _⟩ := h; exact fun z => nomatch z
theorem has_am : has AM = false := rfl
theorem has_ends {k : Kd} {a b : V} {m : Bool} (h : OkE k a) : has ⟨a, b, m⟩ = true := by
  unfold has
  rw [decide_eq_false h.ne]
  rfl
theorem OkS.ends_of {k : Kd} {s : Spn} (h : OkS k s) (e : has s = true) : OkE k s.a ∧ OkE k s.b ∧ ltV s.b s.a = false := by
  cases h with
  | am => cases e
  | ends h1 h2 h3 => exact ⟨h1, h2, h3⟩
theorem OkS.am_of {k : Kd} {s : Spn} (h : OkS k s) (e : has s = false) : s = AM := by
  cases h with
  | am => rfl
  | ends h1 h2 h3 => rw [has_ends h1] at e; cases e
def mx2 (i j : Int) : Int := if j > i then j else i
def mn2 (i j : Int) : Int := if j < i then j else i
def EB : Int := 10 ^ 30 - 1
def wb : Spn → Spn
  | ⟨.int a, .int b, m⟩ => if mn2 b EB < mx2 a (-EB) then AM else ⟨.int (mx2 a (-EB)), .int (mn2 b EB), m || !decide (mx2 a (-EB) = a) || !decide (mn2 b EB = b)⟩
  | s => s
def mnL (x : Int) (xs : List Int) : Int := xs.foldl (fun a y => if y < a then y else a) x
def mxL (x : Int) (xs : List Int) : Int := xs.foldl (fun a y => if a < y then y else a) x
theorem mnV_int : ∀ (xs : List Int) (x : Int), mnV (.int x) (xs.map V.int) = .int (mnL x xs)
  | [], x => rfl
  | y :: r, x => by
    show mnV (if decide (y < x) = true then V.int y else V.int x) (r.map V.int) = .int (mnL (if y < x then y else x) r)
    by_cases c : y < x
    · rw [if_pos (decide_eq_true c), if_pos c]; exact mnV_int r y
    · rw [if_neg (by simpa using c), if_neg c]; exact mnV_int r x
theorem mxV_int : ∀ (xs : List Int) (x : Int), mxV (.int x) (xs.map V.int) = .int (mxL x xs)
  | [], x => rfl
  | y :: r, x => by
    show mxV (if decide (x < y) = true then V.int y else V.int x) (r.map V.int) = .int (mxL (if x < y then y else x) r)
    by_cases c : x < y
    · rw [if_pos (decide_eq_true c), if_pos c]; exact mxV_int r y
    · rw [if_neg (by simpa using c), if_neg c]; exact mxV_int r x
theorem mnL_le : ∀ (xs : List Int) (x : Int), mnL x xs ≤ x
  | [], x => Int.le_refl _
  | y :: r, x => by
    have := mnL_le r (if y < x then y else x)
    show mnL (if y < x then y else x) r ≤ x
    by_cases c : y < x
    · rw [if_pos c] at this ⊢; omega
    · rw [if_neg c] at this ⊢; omega
theorem mxL_ge : ∀ (xs : List Int) (x : Int), x ≤ mxL x xs
  | [], x => Int.le_refl _
  | y :: r, x => by
    have := mxL_ge r (if x < y then y else x)
    show x ≤ mxL (if x < y then y else x) r
    by_cases c : x < y
    · rw [if_pos c] at this ⊢; omega
    · rw [if_neg c] at this ⊢; omega
/-- what / is by: the ends of what is not 0 -/
def ewz (l g : Int) : List Int := (if l < 0 then [l, mn2 g (-1)] else []) ++ if g > 0 then [mx2 l 1, g] else []
def quo (a b : Int) (ds : List Int) : List Int := ds.map (fun d => a.fdiv d) ++ ds.map (fun d => b.fdiv d)
def divS (a b c d : Int) : Spn := match quo a b (ewz c d) with
  | [] => AM
  | x :: xs => ⟨.int (mnL x xs), .int (mxL x xs), decide (c ≤ 0) && decide (0 ≤ d)⟩
def modS (c d : Int) : Spn := if c = 0 ∧ d = 0 then AM else ⟨.int (if c < 0 then c + 1 else 0), .int (if d > 0 then d - 1 else 0), decide (c ≤ 0) && decide (0 ≤ d)⟩
def TL : Str := Txt.mul ("~" : Str) 200
def joinS (x y z u : Str) : Spn := if ¬ x = y ∨ ¬ z = u then ⟨.str x, .str TL, true⟩ else if (x ++ z).length > 200 then AM else ⟨.str (x ++ z), .str (x ++ z), false⟩
def trS (t f : Bool) : Spn := ⟨.bl (!f), .bl t, false⟩
def allEq (s t : Spn) : Bool := decide (s.a = s.b) && (decide (t.a = t.b) && decide (s.a = t.a))
def share (s t : Spn) : Bool := !ltV t.b s.a && !ltV s.b t.a
def cmpS (w : Str) (s t : Spn) : Spn :=
  if w = "eq" then trS (share s t) (!allEq s t) else if w = "ne" then trS (!allEq s t) (share s t) else if w = "lt" then trS (ltV s.a t.b) (!ltV s.b t.a) else if w = "le" then trS (!ltV t.b s.a) (ltV t.a s.b)
  else if w = "gt" then trS (ltV t.a s.b) (!ltV t.b s.a) else trS (!ltV s.b t.a) (ltV s.a t.b)
def raw : Str → List Spn → Spn
  | w, [⟨.int a, .int b, _⟩] => if w = "neg" then ⟨.int (-b), .int (-a), false⟩ else if a ≥ 0 then ⟨.int a, .int b, false⟩ else if b < 0 then ⟨.int (-b), .int (-a), false⟩ else ⟨.int 0, .int (mx2 (-a) b), false⟩
  | _, [⟨.str x, .str y, _⟩] => if x = y then ⟨.int (x.length : Int), .int (x.length : Int), false⟩ else ⟨.int 0, .int 200, false⟩
  | _, [⟨.bl x, .bl y, _⟩] => ⟨.bl (!y), .bl (!x), false⟩
  | w, [⟨.int a, .int b, m⟩, ⟨.int c, .int d, n⟩] =>
    if w = "add" then ⟨.int (a + c), .int (b + d), false⟩ else if w = "sub" then ⟨.int (a - d), .int (b - c), false⟩
    else if w = "mul" then ⟨.int (mnL (a * c) [a * d, b * c, b * d]), .int (mxL (a * c) [a * d, b * c, b * d]), false⟩
    else if w = "div" then divS a b c d else if w = "mod" then modS c d else cmpS w ⟨.int a, .int b, m⟩ ⟨.int c, .int d, n⟩
  | w, [⟨.str x, .str y, m⟩, ⟨.str z, .str u, n⟩] => if w = "joined" then joinS x y z u else cmpS w ⟨.str x, .str y, m⟩ ⟨.str z, .str u, n⟩
  | w, [s, t] => cmpS w s t
  | _, _ => AM
def IW : List Str := ["neg", "abs", "length", "add", "sub", "mul", "div", "mod"]
def jS (w : Str) (ss : List Spn) : Spn :=
  if ss.all has = true then (let r := if w ∈ IW then wb (raw w ss) else raw w ss; ⟨r.a, r.b, r.m || ss.any (·.m)⟩) else AM
/-- of several: from the least to the greatest -/
def hold (ss : List Spn) : Spn := match ss.filter has with
  | [] => AM
  | s :: r => ⟨mnV s.a (r.map (·.a)), mxV s.b (r.map (·.b)), ss.any (·.m)⟩
def spv (v : V) : Spn := if v = .non then AM else ⟨v, v, false⟩
def oneK (v u : V) : Bool := (isVal .i v && isVal .i u) || ((isVal .f v && isVal .f u) || (isVal .t v && isVal .t u))
def alw (s : Spn) (v : V) : Bool := if v = .non then s.m else oneK v s.a && (!ltV v s.a && !ltV s.b v)
def OB3 : List (Option Bool) := [some false, some true, none]
def tru (s : Spn) : List (Option Bool) := OB3.filter fun o => alw s (ob o)
def sor (os : List (Option Bool)) : Spn := hold (os.map fun o => spv (ob o))
def jL (w : Str) (ss : List Spn) : Spn := match ss with
  | [s] => trS s.m (has s)
  | [s, t] => if w = "and" then sor ((tru s).flatMap fun x => (tru t).map fun y => and3 x y) else if w = "or" then sor ((tru s).flatMap fun x => (tru t).map fun y => or3 x y)
      else if s.m = true then ⟨(hold [s, t]).a, (hold [s, t]).b, t.m⟩ else s
  | [c, s, t] => hold ((if alw c (.bl true) then [s] else []) ++ (if alw c (.bl false) then [t] else []) ++ if c.m then [AM] else [])
  | _ => AM
def jn (w : Str) (ss : List Spn) : Spn := if w ∈ LW then jL w ss else jS w ss
/-! ### where a span stands -/
def SpnAt (K : PySem.W.Frag) (H : Hp) (x : V) (s : Spn) : Prop := ∃ p, x = .ref p ∧ SqT K H p s.v
theorem sqt_same {K : PySem.W.Frag} {H H' : Hp} {a : Addr} {xs : List V} (h : SqT K H a xs) (e : Same H H') : SqT K H' a xs := by
  rcases h with (h | ⟨o, h⟩) | h
  · exact .inl (.inl (e _ _ h))
  · exact .inl (.inr ⟨o, e _ _ h⟩)
  · exact .inr h
theorem SpnAt.same {K : PySem.W.Frag} {H H' : Hp} {x : V} {s : Spn} (h : SpnAt K H x s) (e : Same H H') : SpnAt K H' x s := let ⟨p, e1, e2⟩ := h; ⟨p, e1, sqt_same e2 e⟩
theorem SpnAt.new {K : PySem.W.Frag} {H : Hp} {p : Addr} {s : Spn} : SpnAt K (upd H p (.tup s.v)) (.ref p) s := ⟨p, rfl, SqT.of upd_same⟩
def sp1 (K : PySem.W.Frag) (C : Spn → Prop) (f : Spn → Spn) : Sp := fun vs H Q _ => ∃ x s, vs = [x] ∧ SpnAt K H x s ∧ C s ∧ ∀ H' r, Same H H' → SpnAt K H' r (f s) → Q r H'
def sp2 (K : PySem.W.Frag) (C : Spn → Spn → Prop) (f : Spn → Spn → Spn) : Sp := fun vs H Q _ => ∃ x s y t, vs = [x, y] ∧ SpnAt K H x s ∧ SpnAt K H y t ∧ C s t ∧ ∀ H' r, Same H H' → SpnAt K H' r (f s t) → Q r H'
/-- spans of ints, of texts, of truth values, with ends -/
def isI1 (s : Spn) : Prop := ∃ a b m, s = ⟨.int a, .int b, m⟩ ∧ NumOk a ∧ NumOk b ∧ a ≤ b
def isT1 (s : Spn) : Prop := ∃ a b m, s = ⟨.str a, .str b, m⟩ ∧ Txt95 a ∧ a.length ≤ 200 ∧ Txt95 b ∧ b.length ≤ 200
def isF1 (s : Spn) : Prop := ∃ a b m, s = ⟨.bl a, .bl b, m⟩
end K2

namespace K2
open PySem L2
def leastV : Kd → V
  | .i => .int (-EB) | .f => .bl false | .t => .str ""
def greatV : Kd → V
  | .i => .int EB | .f => .bl true | .t => .str TL
structure Ct7 (K : PySem.W.Frag) (mg : Str → Option Value) : Prop where
  am : ∃ kk, mg "ALWAYS_MISSING" = some (.ref kk) ∧ ∀ H : Hp, SqT K H kk AM.v
  kinds : ∃ kk, mg "KINDS" = some (.ref kk) ∧ ∀ H : Hp, SqT K H kk ((["int", "flag", "text"] : List Str).map V.str)
theorem ev1 : (1 : Int) - 10 ^ 30 = -EB := by unfold EB; omega
section
variable {P : Program} {w : World} {K : PySem.W.Frag} {mg : Str → Option Value} {base : Heap}
def spLeast : Sp := fun vs H Q _ => ∃ k : Kd, vs = [.str (kdS k)] ∧ Q (leastV k) H
def spGreat : Sp := fun vs H Q _ => ∃ k : Kd, vs = [.str (kdS k)] ∧ Q (greatV k) H
theorem sc_least : FnScope ["kind"] ["kind"] (defScope sLeastOf) := ⟨rfl, rfl, rfl, by decide +kernel, rfl, by decide +kernel, by decide +kernel⟩
theorem ok_least {f : Addr} {fd : FuncData} (F : Fun K "least_of" "least_of" sLeastOf f fd) (N2 : Ct mg) : FnOk P w K mg base CX0 1 f fd ["kind"] spLeast := by
  refine F.ok sc_least (fun vs H Q E h => ?_) (fun cdv A outer s0 H vs Q E hr h => ?_)
  · obtain ⟨k, rfl, q⟩ := h
    rfl
  · obtain ⟨k, rfl, q⟩ := h
    obtain ⟨uib, mib, rib⟩ := N2.ib
    obtain ⟨utb, mtb, rtb⟩ := N2.tb
    refine ⟨_, (pss_cons (ps_if (pt_cmpR op_eq (pv 0) pe_str (nomark _)) (pss_one (ps_ret (pe_op op_sub pe_int (pe_glob (by rfl) mib rib)))) pss_nil)
      (pss_cons (ps_if (pt_cmpR op_eq (pv 0) pe_str (nomark _)) (pss_one (ps_ret pe_bl)) pss_nil)
      (pss_one (ps_ret pe_str)))), ?_⟩
    refine ⟨_, rfl, rfl, _, rfl, ?_⟩
    rw [kd_int]
    cases k with
    | i =>
      refine iteT ⟨1, 10 ^ 30, rfl, rfl, ?_⟩
      show Q (.int (1 - 10 ^ 30)) H
      rw [ev1]
      exact q
    | f =>
      refine iteF ⟨_, rfl, rfl, _, rfl, ?_⟩
      exact iteB (by decide +kernel) q
    | t =>
      refine iteF ⟨_, rfl, rfl, _, rfl, ?_⟩
      exact iteBF (by decide +kernel) q
theorem sc_great : FnScope ["kind"] ["kind"] (defScope sGreatestOf) := ⟨rfl, rfl, rfl, by decide +kernel, rfl, by decide +kernel, by decide +kernel⟩
theorem ok_great {f : Addr} {fd : FuncData} (F : Fun K "greatest_of" "greatest_of" sGreatestOf f fd) (N2 : Ct mg) : FnOk P w K mg base CX0 1 f fd ["kind"] spGreat := by
  refine F.ok sc_great (fun vs H Q E h => ?_) (fun cdv A outer s0 H vs Q E hr h => ?_)
  · obtain ⟨k, rfl, q⟩ := h
    rfl
  · obtain ⟨k, rfl, q⟩ := h
    obtain ⟨uib, mib, rib⟩ := N2.ib
    obtain ⟨utb, mtb, rtb⟩ := N2.tb
    refine ⟨_, (pss_cons (ps_if (pt_cmpR op_eq (pv 0) pe_str (nomark _)) (pss_one (ps_ret (pe_op op_sub (pe_glob (by rfl) mib rib) pe_int))) pss_nil)
      (pss_cons (ps_if (pt_cmpR op_eq (pv 0) pe_str (nomark _)) (pss_one (ps_ret pe_bl)) pss_nil)
      (pss_one (ps_ret (pe_op op_mul_str pe_str (pe_glob (by rfl) mtb rtb)))))), ?_⟩
    refine ⟨_, rfl, rfl, _, rfl, ?_⟩
    rw [kd_int]
    cases k with
    | i => exact iteT ⟨10 ^ 30, 1, rfl, rfl, q⟩
    | f =>
      refine iteF ⟨_, rfl, rfl, _, rfl, ?_⟩
      exact iteB (by decide +kernel) q
    | t =>
      refine iteF ⟨_, rfl, rfl, _, rfl, ?_⟩
      exact iteBF (by decide +kernel) ⟨_, 200, rfl, rfl, mul_may (by decide) (by decide) (by decide +kernel), q⟩
def spBef : Sp := fun vs H Q _ => ∃ x y : V, vs = [x, y] ∧ Bt x y ∧ Q (.bl (ltV x y)) H
theorem sc_before : FnScope ["first", "second"] ["first", "second"] (defScope sIsBefore) := ⟨rfl, rfl, rfl, by decide +kernel, rfl, by decide +kernel, by decide +kernel⟩
theorem ok_before {f : Addr} {fd : FuncData} (F : Fun K "is_before" "is_before" sIsBefore f fd) : FnOk P w K mg base CX0 1 f fd ["first", "second"] spBef := by
  refine F.ok sc_before (fun vs H Q E h => ?_) (fun cdv A outer s0 H vs Q E hr h => ?_)
  · obtain ⟨x, y, rfl, h, q⟩ := h
    rfl
  · obtain ⟨x, y, rfl, h, q⟩ := h
    refine ⟨_, (pss_one (ps_ret (pe_cmpR op_ltV (pv 0) (pv 1) (nomark _)))), ?_⟩
    exact ⟨_, rfl, _, rfl, h, q⟩
def spBtw : Sp := fun vs H Q _ => ∃ l v g : V, vs = [l, v, g] ∧ Bt v l ∧ Bt g v ∧ Q (.bl (!ltV v l && !ltV g v)) H
theorem sc_between : FnScope ["least", "value", "greatest"] ["least", "value", "greatest"] (defScope sIsBetween) := ⟨rfl, rfl, rfl, by decide +kernel, rfl, by decide +kernel, by decide +kernel⟩
theorem ok_between {f : Addr} {fd : FuncData} {fB : Addr} {fdB : FuncData} (F : Fun K "is_between" "is_between" sIsBetween f fd) (GB : FnOk P w K mg base CX0 1 fB fdB ["first", "second"] spBef) (kB : PySem.W.keepIn K (.ref fB) = true) (bB : Binds K fdB ["first", "second"] []) (gB : mg "is_before" = some (.ref fB)) : FnOk P w K mg base CX0 2 f fd ["least", "value", "greatest"] spBtw := by
  refine F.ok sc_between (fun vs H Q E h => ?_) (fun cdv A outer s0 H vs Q E hr h => ?_)
  · obtain ⟨l, v, g, rfl, h1, h2, q⟩ := h
    rfl
  · obtain ⟨l, v, g, rfl, h1, h2, q⟩ := h
    refine ⟨_, (pss_one (ps_ret (pe_and (pe_not (pe_call GB hr (by rfl) gB kB bB .nil pass0 (pa_cons (pv 1) (pa_cons (pv 0) pa_nil)))) (pe_one (pe_not (pe_call GB hr (by rfl) gB kB bB .nil pass0 (pa_cons (pv 2) (pa_cons (pv 1) pa_nil)))))))), ?_⟩
    refine ⟨_, rfl, _, rfl, v, l, rfl, h1, _, rfl, _, rfl, ?_⟩
    cases e : ltV v l
    · rw [e] at q
      exact iteT ⟨_, rfl, _, rfl, g, v, rfl, h2, _, rfl, q⟩
    · rw [e] at q
      exact iteF q
def spHas (K : PySem.W.Frag) : Sp := fun vs H Q _ => ∃ x s, vs = [x] ∧ SpnAt K H x s ∧ Q (.bl (has s)) H
theorem sc_has : FnScope ["span"] ["span"] (defScope sHasEnds) := ⟨rfl, rfl, rfl, by decide +kernel, rfl, by decide +kernel, by decide +kernel⟩
theorem ok_has {f : Addr} {fd : FuncData} (F : Fun K "has_ends" "has_ends" sHasEnds f fd) : FnOk P w K mg base CX0 1 f fd ["span"] (spHas K) := by
  refine F.ok sc_has (fun vs H Q E h => ?_) (fun cdv A outer s0 H vs Q E hr h => ?_)
  · obtain ⟨_, s, rfl, ⟨p, rfl, hp⟩, q⟩ := h
    rfl
  · obtain ⟨_, s, rfl, ⟨p, rfl, hp⟩, q⟩ := h
    refine ⟨_, (pss_one (ps_ret (pe_cmpR op_notN (pe_ix ix_tup (pv 0) pe_int (fun _ _ => rfl)) pe_non (nomark _)))), ?_⟩
    exact ⟨_, rfl, p, _, 0, s.a, rfl, rfl, hp, rfl, rfl, q⟩
def spOne (K : PySem.W.Frag) : Sp := fun vs H Q _ => ∃ (v u : V) (T1 T2 : String), vs = [v, u] ∧ (∀ H : Hp, Thg K H v T1) ∧ (∀ H : Hp, Thg K H u T2) ∧ ∀ H', Same H H' → Q (.bl (oneK v u)) H'
theorem sc_one : FnScope ["first", "second", "kind"] ["first", "second"] (defScope sAreOfOneKind) := ⟨rfl, rfl, rfl, by decide +kernel, rfl, by decide +kernel, by decide +kernel⟩
theorem ok_one {f : Addr} {fd : FuncData} {kkk : Addr} {fV : Addr} {fdV : FuncData} (F : Fun K "are_of_one_kind" "are_of_one_kind" sAreOfOneKind f fd) (M : Nm mg) (hany : mg "any" = none) (mkk : mg "KINDS" = some (.ref kkk)) (hkk : ∀ H : Hp, SqT K H kkk ((["int", "flag", "text"] : List Str).map V.str)) (GV : FnOk P w K mg base CX0 2 fV fdV ["kind", "value"] (spVal K)) (kV : PySem.W.keepIn K (.ref fV) = true) (bV : Binds K fdV ["kind", "value"] []) (gV : mg "is_value" = some (.ref fV)) : FnOk P w K mg base CX0 3 f fd ["first", "second"] (spOne K) := by
  refine F.ok sc_one (fun vs H Q E h => ?_) (fun cdv A outer s0 H vs Q E hr h => ?_)
  · obtain ⟨v, u, T1, T2, rfl, h1, h2, q⟩ := h
    rfl
  · obtain ⟨v, u, T1, T2, rfl, h1, h2, q⟩ := h
    refine ⟨_, (pss_one (ps_ret (pe_callB (cr_any rfl) (by rfl) hany (by decide +kernel) (pa_cons (pe_lc (own := [("kind", 2)]) (g := (gName 2)) (tt := tYes) rfl sc_one.nd (pi_tup (pe_glob (v := .ref kkk) (by rfl) mkk rfl)) (blkOk_by (N := ["first", "second", "kind"]) (sc := defScope sAreOfOneKind) (by decide +kernel)) (fun _ _ _ _ _ => (pg_name (i := 2) sc_one.nd rfl (Or.inl rfl))) (fun _ _ _ _ _ => pts_nil) (fun _ _ _ _ _ => (pe_and (pe_call GV hr (by rfl) gV kV bV .nil pass0 (pa_cons (pv 2) (pa_cons (pv 0) pa_nil))) (pe_one (pe_call GV hr (by rfl) gV kV bV .nil pass0 (pa_cons (pv 2) (pa_cons (pv 1) pa_nil))))))) pa_nil)))), ?_⟩
    refine ⟨kkk, rfl, ⟨_, hkk _⟩, fun D nD => lc_tup (xs := (["int", "flag", "text"] : List Str).map V.str) (fun i H2 => Same H H2 ∧ H2 D = some (.lst ((([isVal .i v && isVal .i u, isVal .f v && isVal .f u, isVal .t v && isVal .t u] : List Bool).take i).map V.bl))) ⟨same_new nD, upd_same⟩ (fun i H2 _ _ => hkk _) ?_ ?_⟩
    · rintro i x H2 hx ⟨s2, eD⟩
      have hi : i < 3 := by
        have := (List.getElem?_eq_some_iff.mp hx).1
        rw [List.length_map] at this
        exact this
      obtain ⟨k, ek⟩ : ∃ k : Kd, x = .str (kdS k) ∧ ([isVal .i v && isVal .i u, isVal .f v && isVal .f u, isVal .t v && isVal .t u] : List Bool)[i]? = some (isVal k v && isVal k u) := by
        match i, hi, hx with
        | 0, _, hx => exact ⟨.i, (Option.some.inj hx).symm, rfl⟩
        | 1, _, hx => exact ⟨.f, (Option.some.inj hx).symm, rfl⟩
        | 2, _, hx => exact ⟨.t, (Option.some.inj hx).symm, rfl⟩
      obtain ⟨rfl, ek⟩ := ek
      refine ⟨rfl, ?_⟩
      dsimp only [tYes]
      rw [if_pos rfl]
      have fin : ∀ c : Bool, c = (isVal k v && isVal k u) → ∃ acc, H2 D = some (.lst acc) ∧ acc.length < sizeLine ∧ Same H (upd H2 D (.lst (acc ++ [V.bl c]))) ∧ (upd H2 D (.lst (acc ++ [V.bl c]))) D = some (.lst ((([isVal .i v && isVal .i u, isVal .f v && isVal .f u, isVal .t v && isVal .t u] : List Bool).take (i + 1)).map V.bl)) := fun c hc => by
        refine ⟨_, eD, ?_, fun z o e => ?_, ?_⟩
        · rw [List.length_map, List.length_take]
          exact Nat.lt_of_le_of_lt (Nat.min_le_right _ _) (by show 3 < sizeLine; decide)
        · rw [upd_ne (fun y => by rw [y, nD] at e; cases e)]
          exact s2 _ _ e
        · rw [upd_same, List.take_add_one, ek, List.map_append, hc]
          rfl
      refine ⟨_, rfl, _, rfl, k, v, T1, rfl, h1 _, isVal k v, rfl, ?_⟩
      cases e : isVal k v
      · rw [e] at fin
        exact iteF (fin false rfl)
      · rw [e] at fin
        exact iteT ⟨_, rfl, _, rfl, k, u, T2, rfl, h2 _, fin _ rfl⟩
    · rintro H2 ⟨s2, eD⟩
      refine ⟨D, _, rfl, .inl (.inl eD), ?_⟩
      have := q H2 s2
      unfold oneK at this
      show Q (.bl (isVal .i v && isVal .i u || (isVal .f v && isVal .f u || (isVal .t v && isVal .t u || false)))) H2
      rw [Bool.or_false]
      exact this
end
end K2

namespace K2
open PySem L2
theorem OkE.thg {k : Kd} {v : V} (h : OkE k v) : ∃ T, ∀ (K : PySem.W.Frag) (H : Hp), Thg K H v T := by
  obtain ⟨h, _⟩ := h
  cases k with
  | i => obtain ⟨n, rfl⟩ := h; exact ⟨_, fun _ _ => .int n⟩
  | f => obtain ⟨b, rfl⟩ := h; exact ⟨_, fun _ _ => .bl b⟩
  | t => obtain ⟨z, rfl, h1, h2⟩ := h; exact ⟨_, fun _ _ => .str z h1 (by omega)⟩
theorem isV_of {k q : Kd} {v : V} (h : OfK k v) (e : isVal q v = true) : q = k := by
  cases k with
  | i => obtain ⟨n, rfl⟩ := h; cases q with
    | i => rfl
    | f => cases e
    | t => cases e
  | f => obtain ⟨n, rfl⟩ := h; cases q with
    | i => cases e
    | f => rfl
    | t => cases e
  | t => obtain ⟨z, rfl, _⟩ := h; cases q with
    | i => cases e
    | f => cases e
    | t => rfl
theorem oneK_of {k q : Kd} {v u : V} (h1 : OfK k v) (h2 : OfK q u) (e : oneK v u = true) : k = q := by
  unfold oneK at e
  simp only [Bool.or_eq_true, Bool.and_eq_true] at e
  rcases e with ⟨a, b⟩ | ⟨a, b⟩ | ⟨a, b⟩ <;> exact (isV_of h1 a).symm.trans (isV_of h2 b)
theorem oneK_non (v : V) : oneK v .non = false := by
  unfold oneK
  rw [show isVal .i V.non = false from rfl, show isVal .f V.non = false from rfl, show isVal .t V.non = false from rfl]
  simp
theorem bt_k {k : Kd} {x y : V} (h1 : OkE k x) (h2 : OkE k y) : Bt x y := ⟨k, h1.1, h2.1⟩
theorem num_e {k : Kd} {n : Int} (h : OkE k (.int n)) : NumOk n := by
  have : k = .i := by
    obtain ⟨h, _⟩ := h
    cases k with
    | i => rfl
    | f => obtain ⟨b, e⟩ := h; cases e
    | t => obtain ⟨z, e, _⟩ := h; cases e
  subst this
  exact num_of h.2
theorem e_num {n : Int} (h : NumOk n) : OkE .i (.int n) := ⟨⟨n, rfl⟩, of_num h⟩
section
variable {P : Program} {w : World} {K : PySem.W.Frag} {mg : Str → Option Value} {base : Heap}
def spAlw (K : PySem.W.Frag) : Sp := fun vs H Q _ => ∃ (x v : V) (s : Spn) (k : Kd), vs = [x, v] ∧ SpnAt K H x s ∧ OkS k s ∧ (v = .non ∨ ∃ q, OkE q v) ∧ ∀ H', Same H H' → Q (.bl (alw s v)) H'
theorem sc_allows : FnScope ["span", "value", "least", "greatest", "missing"] ["span", "value"] (defScope sAllows) := ⟨rfl, rfl, rfl, by decide +kernel, rfl, by decide +kernel, by decide +kernel⟩
theorem ok_allows {f : Addr} {fd : FuncData} {fO fW : Addr} {fdO fdW : FuncData} (F : Fun K "allows" "allows" sAllows f fd) (GO : FnOk P w K mg base CX0 3 fO fdO ["first", "second"] (spOne K)) (kO : PySem.W.keepIn K (.ref fO) = true) (bO : Binds K fdO ["first", "second"] []) (gO : mg "are_of_one_kind" = some (.ref fO)) (GW : FnOk P w K mg base CX0 2 fW fdW ["least", "value", "greatest"] spBtw) (kW : PySem.W.keepIn K (.ref fW) = true) (bW : Binds K fdW ["least", "value", "greatest"] []) (gW : mg "is_between" = some (.ref fW)) : FnOk P w K mg base CX0 4 f fd ["span", "value"] (spAlw K) := by
  refine F.ok sc_allows (fun vs H Q E h => ?_) (fun cdv A outer s0 H vs Q E hr h => ?_)
  · obtain ⟨_, v, s, k, rfl, ⟨p, rfl, hp⟩, hk, hv, q⟩ := h
    rfl
  · obtain ⟨_, v, s, k, rfl, ⟨p, rfl, hp⟩, hk, hv, q⟩ := h
    have hr2 := hr.mono (j := 2) (by decide)
    refine ⟨_, (pss_cons (ps_asg (pv 0) (pg_tup (by rfl) (pgs_cons (pg_name (i := 2) sc_allows.nd rfl (.inl rfl)) (pgs_cons (pg_name (i := 3) sc_allows.nd rfl (.inl rfl)) (pgs_cons (pg_name (i := 4) sc_allows.nd rfl (.inl rfl)) pgs_nil)))))
      (pss_cons (ps_if (pt_cmpR op_isN (pv 1) pe_non (nomark _)) (pss_one (ps_ret (pv 4))) pss_nil)
      (pss_one (ps_ret (pe_and (pe_call GO hr (by rfl) gO kO bO .nil pass0 (pa_cons (pv 1) (pa_cons (pv 2) pa_nil))) (pe_one (pe_call GW hr2 (by rfl) gW kW bW .nil pass0 (pa_cons (pv 2) (pa_cons (pv 1) (pa_cons (pv 3) pa_nil)))))))))), ?_⟩
    refine ⟨_, rfl, p, s.v, rfl, hp, rfl, s.a, _, rfl, s.b, _, rfl, .bl s.m, _, rfl, rfl, ?_⟩
    refine ⟨_, rfl, rfl, _, rfl, ?_⟩
    rcases hv with rfl | ⟨qk, hv⟩
    · exact iteB (decide_eq_true rfl) ⟨_, rfl, q H fun _ _ e => e⟩
    · refine iteBF (decide_eq_false hv.ne) ?_
      have ea : alw s v = (oneK v s.a && (!ltV v s.a && !ltV s.b v)) := if_neg hv.ne
      rw [ea] at q
      obtain ⟨T1, h1⟩ := hv.thg
      obtain ⟨T2, h2⟩ : ∃ T, ∀ (K : PySem.W.Frag) (H : Hp), Thg K H s.a T := by
        cases hk with
        | am => exact ⟨_, fun _ _ => .non⟩
        | ends a b c => exact a.thg
      refine ⟨_, rfl, _, rfl, v, s.a, T1, T2, rfl, h1 K, h2 K, fun H1 s1 => ⟨_, rfl, ?_⟩⟩
      cases e : oneK v s.a
      · rw [e] at q
        exact iteF (q H1 s1)
      · rw [e, Bool.true_and] at q
        have hs : has s = true := by
          cases hk with
          | am => rw [show AM.a = .non from rfl, oneK_non] at e; cases e
          | ends a b c => exact has_ends a
        obtain ⟨ka, kb, _⟩ := hk.ends_of hs
        have := oneK_of hv.1 ka.1 e
        subst this
        exact iteT ⟨_, rfl, _, rfl, _, rfl, s.a, v, s.b, rfl, bt_k hv ka, bt_k kb hv, q H1 s1⟩
def spSpv (K : PySem.W.Frag) : Sp := fun vs H Q _ => ∃ v : V, vs = [v] ∧ ∀ H' r, Same H H' → SpnAt K H' r (spv v) → Q r H'
theorem sc_spv : FnScope ["value"] ["value"] (defScope sSpanOfValue) := ⟨rfl, rfl, rfl, by decide +kernel, rfl, by decide +kernel, by decide +kernel⟩
theorem ok_spv {f : Addr} {fd : FuncData} {kam : Addr} (F : Fun K "span_of_value" "span_of_value" sSpanOfValue f fd) (mam : mg "ALWAYS_MISSING" = some (.ref kam)) (ham : ∀ H : Hp, SqT K H kam AM.v) : FnOk P w K mg base CX0 1 f fd ["value"] (spSpv K) := by
  refine F.ok sc_spv (fun vs H Q E h => ?_) (fun cdv A outer s0 H vs Q E hr h => ?_)
  · obtain ⟨v, rfl, q⟩ := h
    rfl
  · obtain ⟨v, rfl, q⟩ := h
    refine ⟨_, (pss_cons (ps_if (pt_cmpR op_isN (pv 0) pe_non (nomark _)) (pss_one (ps_ret (pe_glob (v := .ref kam) (by rfl) mam rfl))) pss_nil)
      (pss_one (ps_ret (pe_tup (pa_cons (pv 0) (pa_cons (pv 0) (pa_cons pe_bl pa_nil))))))), ?_⟩
    refine ⟨_, rfl, rfl, _, rfl, ?_⟩
    by_cases e : v = .non
    · subst e
      exact iteB (decide_eq_true rfl) (q H _ (fun _ _ e => e) ⟨kam, rfl, ham _⟩)
    · refine iteBF (decide_eq_false e) ⟨_, rfl, _, rfl, (by show 3 ≤ sizeLine; decide), fun t nt => ?_⟩
      have e2 : spv v = ⟨v, v, false⟩ := if_neg e
      rw [e2] at q
      exact q _ _ (same_new nt) (SpnAt.new (s := ⟨v, v, false⟩))
def isW (s : Spn) : Prop := s = AM ∨ ∃ a b m, s = ⟨.int a, .int b, m⟩
theorem sc_wb : FnScope ["span", "least", "greatest"] ["span"] (defScope sWithinBounds) := ⟨rfl, rfl, rfl, by decide +kernel, rfl, by decide +kernel, by decide +kernel⟩
theorem ok_wb {f : Addr} {fd : FuncData} {kam : Addr} {fH fL fG : Addr} {fdH fdL fdG : FuncData} (F : Fun K "within_bounds" "within_bounds" sWithinBounds f fd) (mam : mg "ALWAYS_MISSING" = some (.ref kam)) (ham : ∀ H : Hp, SqT K H kam AM.v) (M : Nm mg) (GH : FnOk P w K mg base CX0 1 fH fdH ["span"] (spHas K)) (kH : PySem.W.keepIn K (.ref fH) = true) (bH : Binds K fdH ["span"] []) (gH : mg "has_ends" = some (.ref fH)) (GL : FnOk P w K mg base CX0 1 fL fdL ["kind"] spLeast) (kL : PySem.W.keepIn K (.ref fL) = true) (bL : Binds K fdL ["kind"] []) (gL : mg "least_of" = some (.ref fL)) (GG : FnOk P w K mg base CX0 1 fG fdG ["kind"] spGreat) (kG : PySem.W.keepIn K (.ref fG) = true) (bG : Binds K fdG ["kind"] []) (gG : mg "greatest_of" = some (.ref fG)) : FnOk P w K mg base CX0 2 f fd ["span"] (sp1 K isW wb) := by
  refine F.ok sc_wb (fun vs H Q E h => ?_) (fun cdv A outer s0 H vs Q E hr h => ?_)
  · obtain ⟨_, s, rfl, ⟨p, rfl, hp⟩, hc, q⟩ := h
    rfl
  · obtain ⟨_, s, rfl, ⟨p, rfl, hp⟩, hc, q⟩ := h
    refine ⟨_, (pss_cons (ps_if (pt_not (pt_val (pe_call GH hr (by rfl) gH kH bH .nil pass0 (pa_cons (pv 0) pa_nil)))) (pss_one (ps_ret (pv 0))) pss_nil)
      (pss_cons (ps_set (i := 1) sc_wb.nd rfl (.inl rfl) (pe_callB (call_max2 rfl) (by rfl) M.max (by decide +kernel) (pa_cons (pe_ix ix_tup (pv 0) pe_int (fun _ _ => rfl)) (pa_cons (pe_call GL hr (by rfl) gL kL bL .nil pass0 (pa_cons pe_str pa_nil)) pa_nil))))
      (pss_cons (ps_set (i := 2) sc_wb.nd rfl (.inl rfl) (pe_callB (call_min2 rfl) (by rfl) M.min (by decide +kernel) (pa_cons (pe_ix ix_tup (pv 0) pe_int (fun _ _ => rfl)) (pa_cons (pe_call GG hr (by rfl) gG kG bG .nil pass0 (pa_cons pe_str pa_nil)) pa_nil))))
      (pss_cons (ps_if (pt_cmpR op_gt (pv 1) (pv 2) (nomark _)) (pss_one (ps_ret (pe_glob (v := .ref kam) (by rfl) mam rfl))) pss_nil)
      (pss_one (ps_ret (pe_tup (pa_cons (pv 1) (pa_cons (pv 2) (pa_cons (pe_or (pe_ix ix_tup (pv 0) pe_int (fun _ _ => rfl)) (pe_or (pe_cmpR op_ne (pv 1) (pe_ix ix_tup (pv 0) pe_int (fun _ _ => rfl)) (nomark _)) (pe_one (pe_cmpR op_ne (pv 2) (pe_ix ix_tup (pv 0) pe_int (fun _ _ => rfl)) (nomark _))))) pa_nil)))))))))), ?_⟩
    refine ⟨_, rfl, _, s, rfl, ⟨p, rfl, hp⟩, _, rfl, ?_⟩
    rcases hc with rfl | ⟨a, b, m, rfl⟩
    · exact iteT ⟨_, rfl, q H _ (fun _ _ e => e) ⟨p, rfl, hp⟩⟩
    · refine iteF ?_
      refine ⟨_, rfl, p, _, 0, .int a, rfl, rfl, hp, rfl, .i, rfl, a, -EB, rfl, _, rfl, p, _, 1, .int b, rfl, rfl, hp, rfl, .i, rfl, b, EB, rfl, _, rfl, _, rfl, mx2 a (-EB), mn2 b EB, rfl, rfl, _, rfl, ?_⟩
      have ew : wb ⟨.int a, .int b, m⟩ = if mn2 b EB < mx2 a (-EB) then AM else ⟨.int (mx2 a (-EB)), .int (mn2 b EB), m || !decide (mx2 a (-EB) = a) || !decide (mn2 b EB = b)⟩ := rfl
      rw [ew] at q
      by_cases c : mn2 b EB < mx2 a (-EB)
      · rw [if_pos c] at q
        exact iteB (decide_eq_true c) (q H _ (fun _ _ e => e) ⟨kam, rfl, ham _⟩)
      · rw [if_neg c] at q
        refine iteBF (decide_eq_false c) ?_
        have fin : ∀ (m2 : Bool) (t : Addr), m2 = (m || !decide (mx2 a (-EB) = a) || !decide (mn2 b EB = b)) → H t = none → Q (.ref t) (upd H t (.tup [.int (mx2 a (-EB)), .int (mn2 b EB), .bl m2])) := fun m2 t e nt => by
          rw [← e] at q
          exact q _ _ (same_new nt) (SpnAt.new (s := ⟨.int (mx2 a (-EB)), .int (mn2 b EB), m2⟩))
        have i1 : ∀ x y : Int, (!decide (V.int x = V.int y)) = !decide (x = y) := fun x y => congrArg Bool.not (decide_eq_decide.mpr ⟨fun z => V.int.inj z, fun z => by rw [z]⟩)
        refine ⟨_, rfl, _, rfl, _, rfl, p, _, 2, .bl m, rfl, rfl, hp, rfl, m, rfl, ?_⟩
        cases m
        · refine iteF ⟨_, rfl, _, rfl, p, _, 0, .int a, rfl, rfl, hp, rfl, rfl, _, rfl, ?_⟩
          cases e1 : !decide (mx2 a (-EB) = a)
          · refine iteBF ((i1 _ _).trans e1) ⟨_, rfl, _, rfl, p, _, 1, .int b, rfl, rfl, hp, rfl, rfl, (by show 3 ≤ sizeLine; decide), fun t nt => fin _ t ?_ nt⟩
            rw [e1]
            exact i1 _ _
          · refine iteB ((i1 _ _).trans e1) ⟨(by show 3 ≤ sizeLine; decide), fun t nt => ?_⟩
            exact fin true t (by rw [e1]; rfl) nt
        · exact iteT ⟨(by show 3 ≤ sizeLine; decide), fun t nt => fin _ t rfl nt⟩
end
end K2

namespace K2
open PySem L2
/-! ### [e for x in xs for y in ys] over lists and tuples -/
def SqI (J : It) (xs : List V) (G : Hp → Prop) : Prop := ∀ i H, G H → (xs.length ≤ i → J.stop i H) ∧ (i < xs.length → J.go i H) ∧ ∀ x H', J.yld i H x H' → H' = H ∧ xs[i]? = some x
theorem sqi_list {K : PySem.W.Frag} {a : Addr} {xs : List V} : SqI (Itl K a) xs (fun H => SqL K H a xs) := fun i H q => ⟨fun h => ⟨xs, q, h⟩, fun h => ⟨xs, xs[i], q, by simp [h]⟩, fun x H' y => ⟨y.1, y.2 xs q⟩⟩
theorem sqi_tup {K : PySem.W.Frag} {a : Addr} {xs : List V} : SqI (Itt K a) xs (fun H => SqT K H a xs) := fun i H q => ⟨fun h => ⟨xs, q, h⟩, fun h => ⟨xs, xs[i], q, by simp [h]⟩, fun x H' y => ⟨y.1, y.2 xs q⟩⟩
def In2 (g1 : TG) (tt1 : TT) (te : TE) (D : Addr) (vs1 : List Nat) (σ2 : St) (Nx : Hp → Prop) (J1 : It) (H4 : Hp) : Prop := ∃ W1 : Nat → Nat → Hp → Prop, (∃ m, W1 0 m H4) ∧ ∀ j k H, W1 j k H →
  (J1.stop j H ∧ Nx H) ∨ (J1.go j H ∧ ∃ Nx1 : Hp → Prop, (∀ H', Nx1 H' → ∃ k', k' < k ∧ W1 (j + 1) k' H') ∧ ∀ x H', J1.yld j H x H' → g1 x (wipe σ2 vs1) H' fun σ3 H5 => wipe σ3 vs1 = wipe σ2 vs1 ∧ tt1 σ3 H5 fun b H6 =>
    if b = true then te σ3 H6 fun y H7 => ∃ acc, H7 D = some (.lst acc) ∧ acc.length < sizeLine ∧ Nx1 (upd H7 D (.lst (acc ++ [y]))) else Nx1 H6)
theorem in2 {J1 : It} {ys : List V} {G : Hp → Prop} {g1 : TG} {tt1 : TT} {te : TE} {D : Addr} {vs1 : List Nat} {σ2 : St} {Nx : Hp → Prop} {H4 : Hp} (S : SqI J1 ys G) (Pw : Nat → Hp → Prop) (h0 : Pw 0 H4) (hG : ∀ j H, Pw j H → G H) (hN : ∀ H, Pw ys.length H → Nx H)
    (hs : ∀ j y H, ys[j]? = some y → Pw j H → g1 y (wipe σ2 vs1) H fun σ3 H5 => wipe σ3 vs1 = wipe σ2 vs1 ∧ tt1 σ3 H5 fun b H6 =>
      if b = true then te σ3 H6 fun y H7 => ∃ acc, H7 D = some (.lst acc) ∧ acc.length < sizeLine ∧ Pw (j + 1) (upd H7 D (.lst (acc ++ [y]))) else Pw (j + 1) H6) : In2 g1 tt1 te D vs1 σ2 Nx J1 H4 := by
  refine ⟨fun i m H => m = ys.length - i ∧ i ≤ ys.length ∧ Pw i H, ⟨ys.length, by simp, Nat.zero_le _, h0⟩, ?_⟩
  rintro i m H ⟨rfl, hi, p⟩
  obtain ⟨a, b, c⟩ := S i H (hG i H p)
  by_cases hlt : i < ys.length
  · refine .inr ⟨b hlt, Pw (i + 1), fun H' p' => ⟨ys.length - (i + 1), by omega, rfl, hlt, p'⟩, fun x H' yy => ?_⟩
    obtain ⟨e, y2⟩ := c x H' yy
    subst e
    exact hs i x _ y2 p
  · have e : i = ys.length := by omega
    subst e
    exact .inl ⟨a (Nat.le_refl _), hN H p⟩
theorem out2 {J : It} {xs : List V} {G : Hp → Prop} {g g1 : TG} {tt tt1 : TT} {wi1 : TI} {te : TE} {D : Addr} {vs vs1 : List Nat} {σ : St} {H1 : Hp} {Qd : Hp → Prop} (S : SqI J xs G) (Pv : Nat → Hp → Prop) (h0 : Pv 0 (upd H1 D (.lst []))) (hG : ∀ i H, Pv i H → G H)
    (hs : ∀ i x H, xs[i]? = some x → Pv i H → g x (wipe σ vs) H fun σ2 H2 => wipe σ2 vs = wipe σ vs ∧ tt σ2 H2 fun b H3 => if b = true then wi1 σ2 H3 fun J1 H4 => In2 g1 tt1 te D vs1 σ2 (Pv (i + 1)) J1 H4 else Pv (i + 1) H3) (hd : ∀ H, Pv xs.length H → Qd H) :
    ∃ W : Nat → Nat → Hp → Prop, (∃ m, W 0 m (upd H1 D (.lst []))) ∧ ∀ i m H, W i m H →
      (J.stop i H ∧ Qd H) ∨ (J.go i H ∧ ∃ Nx : Hp → Prop, (∀ H', Nx H' → ∃ m', m' < m ∧ W (i + 1) m' H') ∧ ∀ x H', J.yld i H x H' → g x (wipe σ vs) H' fun σ2 H2 => wipe σ2 vs = wipe σ vs ∧ tt σ2 H2 fun b H3 =>
        if b = true then wi1 σ2 H3 fun J1 H4 => In2 g1 tt1 te D vs1 σ2 Nx J1 H4 else Nx H3) := by
  refine ⟨fun i m H => m = xs.length - i ∧ i ≤ xs.length ∧ Pv i H, ⟨xs.length, by simp, Nat.zero_le _, h0⟩, ?_⟩
  rintro i m H ⟨rfl, hi, p⟩
  obtain ⟨a, b, c⟩ := S i H (hG i H p)
  by_cases hlt : i < xs.length
  · refine .inr ⟨b hlt, Pv (i + 1), fun H' p' => ⟨xs.length - (i + 1), by omega, rfl, hlt, p'⟩, fun x H' yy => ?_⟩
    obtain ⟨e, y2⟩ := c x H' yy
    subst e
    exact hs i x _ y2 p
  · have e : i = xs.length := by omega
    subst e
    exact .inl ⟨a (Nat.le_refl _), hd H p⟩
section
variable {X : Cx}
theorem pi_tupK (K : PySem.W.Frag) (hK : X.K = K) {tg l : Expr} {tl : TE} (hl : PE X l tl) : PI X tg l (iTup K tl) := by subst hK; exact pi_tup hl
theorem pi_listK (K : PySem.W.Frag) (hK : X.K = K) {tg l : Expr} {tl : TE} (hl : PE X l tl) : PI X tg l (iList K tl) := by subst hK; exact pi_list hl
end
/-- what has come: f of the pairs of the first i of xs and, for the next, the first j of ys -/
def prs (f : V → V → V) (xs ys : List V) (i : Nat) : List V := (xs.take i).flatMap fun x => ys.map (f x)
theorem prs_step {f : V → V → V} {xs ys : List V} {i : Nat} {x : V} (h : xs[i]? = some x) : prs f xs ys (i + 1) = prs f xs ys i ++ ys.map (f x) := by
  unfold prs
  rw [List.take_add_one, h, List.flatMap_append]
  simp
theorem map_step {f : V → V} {ys : List V} {j : Nat} {y : V} (h : ys[j]? = some y) : (ys.take (j + 1)).map f = (ys.take j).map f ++ [f y] := by
  rw [List.take_add_one, h, List.map_append]
  rfl
theorem prs_len {f : V → V → V} {xs ys : List V} {i : Nat} : i ≤ xs.length → (prs f xs ys i).length = i * ys.length := by
  induction i with
  | zero => intro _; show 0 = _; omega
  | succ i ih =>
    intro h
    have h2 : xs[i]? = some xs[i] := by simp
    rw [prs_step h2, List.length_append, List.length_map, ih (by omega), Nat.add_mul, Nat.one_mul]
theorem prod2 {J : It} {xs ys : List V} {G : Hp → Prop} {i j : Nat} {wi1 : TI} {te : TE} {D : Addr} {vs vs1 : List Nat} {σ : St} {H0 : Hp} {Qd : Hp → Prop} {f : V → V → V} (S : SqI J xs G) (hG : ∀ H, Same H0 H → G H) (nD : H0 D = none)
    (w1 : ∀ x, wipe ((wipe σ vs).set i (some x)) vs = wipe σ vs) (w2 : ∀ x y, wipe ((wipe ((wipe σ vs).set i (some x)) vs1).set j (some y)) vs1 = wipe ((wipe σ vs).set i (some x)) vs1)
    (hw : ∀ x, x ∈ xs → ∀ H R, Same H0 H → (∃ acc, H D = some (.lst acc)) → (∀ J1 H4 G1, SqI J1 ys G1 → Same H H4 → (∀ H', (∀ a o, a ≠ D → H4 a = some o → H' a = some o) → G1 H') → R J1 H4) → wi1 ((wipe σ vs).set i (some x)) H R)
    (he : ∀ x y H Q, x ∈ xs → y ∈ ys → Same H0 H → Q (f x y) H → te ((wipe ((wipe σ vs).set i (some x)) vs1).set j (some y)) H Q)
    (hz : xs.length * ys.length < sizeLine) (hd : ∀ H, Same H0 H → H D = some (.lst (prs f xs ys xs.length)) → Qd H) :
    ∃ W : Nat → Nat → Hp → Prop, (∃ m, W 0 m (upd H0 D (.lst []))) ∧ ∀ i' m H, W i' m H →
      (J.stop i' H ∧ Qd H) ∨ (J.go i' H ∧ ∃ Nx : Hp → Prop, (∀ H', Nx H' → ∃ m', m' < m ∧ W (i' + 1) m' H') ∧ ∀ x H', J.yld i' H x H' → gName i x (wipe σ vs) H' fun σ2 H2 => wipe σ2 vs = wipe σ vs ∧ tYes σ2 H2 fun b H3 =>
        if b = true then wi1 σ2 H3 fun J1 H4 => In2 (gName j) tYes te D vs1 σ2 Nx J1 H4 else Nx H3) := by
  have nn : ∀ {H : Hp}, Same H0 H → ∀ o, Same H0 (upd H D o) := fun s o a o2 e => by
    rw [upd_ne (fun z => by rw [z, nD] at e; cases e)]
    exact s a o2 e
  refine out2 S (fun i' H => Same H0 H ∧ H D = some (.lst (prs f xs ys i'))) ⟨same_new nD, upd_same⟩ (fun _ H p => hG H p.1) (fun i' x H hx p => ?_) (fun H p => hd H p.1 p.2)
  refine ⟨w1 x, ?_⟩
  show wi1 _ H _
  refine hw x (List.mem_of_getElem? hx) H _ p.1 ⟨_, p.2⟩ fun J1 H4 G1 S1 s4 k1 => ?_
  have hi : i' < xs.length := (List.getElem?_eq_some_iff.mp hx).1
  have hl : (prs f xs ys i').length = i' * ys.length := prs_len (Nat.le_of_lt hi)
  refine in2 S1 (fun j' H => (∀ a o, a ≠ D → H4 a = some o → H a = some o) ∧ H D = some (.lst (prs f xs ys i' ++ (ys.take j').map (f x)))) ⟨fun a o _ e => e, ?_⟩ (fun _ H p => k1 H p.1) (fun H p2 => ⟨fun a o e => p2.1 a o (fun z => by rw [z, nD] at e; cases e) (s4 a o (p.1 a o e)), ?_⟩) (fun j' y H hy p2 => ?_)
  · rw [s4 _ _ p.2]
    simp
  · rw [p2.2, prs_step hx, List.take_length]
  · refine ⟨w2 x y, ?_⟩
    show te _ H _
    have s5 : Same H0 H := fun a o e => p2.1 a o (fun z => by rw [z, nD] at e; cases e) (s4 a o (p.1 a o e))
    refine he x y H _ (List.mem_of_getElem? hx) (List.mem_of_getElem? hy) s5 ⟨_, p2.2, ?_, fun a o h e => ?_, ?_⟩
    · have hj : j' < ys.length := (List.getElem?_eq_some_iff.mp hy).1
      rw [List.length_append, List.length_map, List.length_take, hl]
      have h3 : (i' + 1) * ys.length ≤ xs.length * ys.length := Nat.mul_le_mul_right _ hi
      rw [Nat.add_mul, Nat.one_mul] at h3
      omega
    · rw [upd_ne h]
      exact p2.1 a o h e
    · rw [upd_same, map_step hy, List.append_assoc]
theorem prs_all {f : V → V → V} {xs ys : List V} : prs f xs ys xs.length = xs.flatMap fun x => ys.map (f x) := by
  unfold prs
  rw [List.take_length]
end K2

namespace K2
open PySem L2
def isI2 (s t : Spn) : Prop := isI1 s ∧ isI1 t
def isT2 (s t : Spn) : Prop := isT1 s ∧ isT1 t
def isC (s t : Spn) : Prop := ∃ k, OkE k s.a ∧ OkE k s.b ∧ OkE k t.a ∧ OkE k t.b
theorem vi_dec (x y : Int) : decide (V.int x = V.int y) = decide (x = y) := decide_eq_decide.mpr ⟨fun z => V.int.inj z, fun z => by rw [z]⟩
theorem vs_dec (x y : Str) : decide (V.str x = V.str y) = decide (x = y) := decide_eq_decide.mpr ⟨fun z => V.str.inj z, fun z => by rw [z]⟩
theorem raw_ii (w : Str) (a b c d : Int) (m n : Bool) : raw w [⟨.int a, .int b, m⟩, ⟨.int c, .int d, n⟩] = if w = "add" then ⟨.int (a + c), .int (b + d), false⟩ else if w = "sub" then ⟨.int (a - d), .int (b - c), false⟩
    else if w = "mul" then ⟨.int (mnL (a * c) [a * d, b * c, b * d]), .int (mxL (a * c) [a * d, b * c, b * d]), false⟩
    else if w = "div" then divS a b c d else if w = "mod" then modS c d else cmpS w ⟨.int a, .int b, m⟩ ⟨.int c, .int d, n⟩ := rfl
theorem raw_tt (w : Str) (x y z u : Str) (m n : Bool) : raw w [⟨.str x, .str y, m⟩, ⟨.str z, .str u, n⟩] = if w = "joined" then joinS x y z u else cmpS w ⟨.str x, .str y, m⟩ ⟨.str z, .str u, n⟩ := rfl
theorem raw_i (w : Str) (a b : Int) (m : Bool) : raw w [⟨.int a, .int b, m⟩] = if w = "neg" then ⟨.int (-b), .int (-a), false⟩ else if a ≥ 0 then ⟨.int a, .int b, false⟩ else if b < 0 then ⟨.int (-b), .int (-a), false⟩ else ⟨.int 0, .int (mx2 (-a) b), false⟩ := rfl
theorem raw_add (a b c e : Int) (m n : Bool) : raw "add" [⟨.int a, .int b, m⟩, ⟨.int c, .int e, n⟩] = ⟨.int (a + c), .int (b + e), false⟩ := by
  rw [raw_ii, if_pos rfl]
theorem raw_sub (a b c e : Int) (m n : Bool) : raw "sub" [⟨.int a, .int b, m⟩, ⟨.int c, .int e, n⟩] = ⟨.int (a - e), .int (b - c), false⟩ := by
  rw [raw_ii, if_neg (by decide +kernel), if_pos rfl]
theorem raw_mul (a b c e : Int) (m n : Bool) : raw "mul" [⟨.int a, .int b, m⟩, ⟨.int c, .int e, n⟩] = ⟨.int (mnL (a * c) [a * e, b * c, b * e]), .int (mxL (a * c) [a * e, b * c, b * e]), false⟩ := by
  rw [raw_ii, if_neg (by decide +kernel), if_neg (by decide +kernel), if_pos rfl]
theorem raw_div (a b c e : Int) (m n : Bool) : raw "div" [⟨.int a, .int b, m⟩, ⟨.int c, .int e, n⟩] = divS a b c e := by
  rw [raw_ii, if_neg (by decide +kernel), if_neg (by decide +kernel), if_neg (by decide +kernel), if_pos rfl]
theorem raw_mod (a b c e : Int) (m n : Bool) : raw "mod" [⟨.int a, .int b, m⟩, ⟨.int c, .int e, n⟩] = modS c e := by
  rw [raw_ii, if_neg (by decide +kernel), if_neg (by decide +kernel), if_neg (by decide +kernel), if_neg (by decide +kernel), if_pos rfl]
theorem raw_joined (x y z u : Str) (m n : Bool) : raw "joined" [⟨.str x, .str y, m⟩, ⟨.str z, .str u, n⟩] = joinS x y z u := by
  rw [raw_tt, if_pos rfl]
theorem cmp_pre : ∀ w ∈ CMP, w ≠ "add" ∧ w ≠ "sub" ∧ w ≠ "mul" ∧ w ≠ "div" ∧ w ≠ "mod" ∧ w ≠ "joined" := by decide +kernel
theorem raw_cmp {w : Str} {s t : Spn} (hw : w ∈ CMP) : raw w [s, t] = cmpS w s t := by
  obtain ⟨h1, h2, h3, h4, h5, h6⟩ := cmp_pre w hw
  obtain ⟨a, b, m⟩ := s
  obtain ⟨c, e, n⟩ := t
  have ii : ∀ a b c d m n, raw w [⟨.int a, .int b, m⟩, ⟨.int c, .int d, n⟩] = cmpS w ⟨.int a, .int b, m⟩ ⟨.int c, .int d, n⟩ := fun a b c d m n => by
    rw [raw_ii, if_neg h1, if_neg h2, if_neg h3, if_neg h4, if_neg h5]
  have tt : ∀ a b c d m n, raw w [⟨.str a, .str b, m⟩, ⟨.str c, .str d, n⟩] = cmpS w ⟨.str a, .str b, m⟩ ⟨.str c, .str d, n⟩ := fun a b c d m n => by
    rw [raw_tt, if_neg h6]
  cases a <;> cases b <;> cases c <;> cases e <;> first | rfl | exact ii _ _ _ _ _ _ | exact tt _ _ _ _ _ _
section
variable {P : Program} {w : World} {K : PySem.W.Frag} {mg : Str → Option Value} {base : Heap}
theorem sc_neg : FnScope ["part"] ["part"] (defScope sNegSpan) := ⟨rfl, rfl, rfl, by decide +kernel, rfl, by decide +kernel, by decide +kernel⟩
theorem ok_neg {f : Addr} {fd : FuncData} (F : Fun K "neg_span" "neg_span" sNegSpan f fd) : FnOk P w K mg base CX0 1 f fd ["part"] (sp1 K isI1 fun s => raw "neg" [s]) := by
  refine F.ok sc_neg (fun vs H Q E h => ?_) (fun cdv A outer s0 H vs Q E hr h => ?_)
  · obtain ⟨_, _, rfl, ⟨p, rfl, hp⟩, ⟨a, b, m, rfl, ha, hb, hab⟩, q⟩ := h
    rfl
  · obtain ⟨_, _, rfl, ⟨p, rfl, hp⟩, ⟨a, b, m, rfl, ha, hb, hab⟩, q⟩ := h
    refine ⟨_, (pss_one (ps_ret (pe_tup (pa_cons (pe_un un_neg (pe_ix ix_tup (pv 0) pe_int (fun _ _ => rfl))) (pa_cons (pe_un un_neg (pe_ix ix_tup (pv 0) pe_int (fun _ _ => rfl))) (pa_cons pe_bl pa_nil)))))), ?_⟩
    exact ⟨_, rfl, p, _, 1, .int b, rfl, rfl, hp, rfl, b, rfl, _, rfl, p, _, 0, .int a, rfl, rfl, hp, rfl, a, rfl, (by show 3 ≤ sizeLine; decide), fun t nt => q _ _ (same_new nt) (SpnAt.new (s := ⟨.int (-b), .int (-a), false⟩))⟩
theorem sc_abs : FnScope ["part"] ["part"] (defScope sAbsSpan) := ⟨rfl, rfl, rfl, by decide +kernel, rfl, by decide +kernel, by decide +kernel⟩
theorem ok_abs {f : Addr} {fd : FuncData} (F : Fun K "abs_span" "abs_span" sAbsSpan f fd) (M : Nm mg) : FnOk P w K mg base CX0 1 f fd ["part"] (sp1 K isI1 fun s => raw "abs" [s]) := by
  refine F.ok sc_abs (fun vs H Q E h => ?_) (fun cdv A outer s0 H vs Q E hr h => ?_)
  · obtain ⟨_, _, rfl, ⟨p, rfl, hp⟩, ⟨a, b, m, rfl, ha, hb, hab⟩, q⟩ := h
    rfl
  · obtain ⟨_, _, rfl, ⟨p, rfl, hp⟩, ⟨a, b, m, rfl, ha, hb, hab⟩, q⟩ := h
    refine ⟨_, (pss_cons (ps_if (pt_cmpR op_ge (pe_ix ix_tup (pv 0) pe_int (fun _ _ => rfl)) pe_int (nomark _)) (pss_one (ps_ret (pe_tup (pa_cons (pe_ix ix_tup (pv 0) pe_int (fun _ _ => rfl)) (pa_cons (pe_ix ix_tup (pv 0) pe_int (fun _ _ => rfl)) (pa_cons pe_bl pa_nil)))))) pss_nil)
      (pss_cons (ps_if (pt_cmpR op_lt (pe_ix ix_tup (pv 0) pe_int (fun _ _ => rfl)) pe_int (nomark _)) (pss_one (ps_ret (pe_tup (pa_cons (pe_un un_neg (pe_ix ix_tup (pv 0) pe_int (fun _ _ => rfl))) (pa_cons (pe_un un_neg (pe_ix ix_tup (pv 0) pe_int (fun _ _ => rfl))) (pa_cons pe_bl pa_nil)))))) pss_nil)
      (pss_one (ps_ret (pe_tup (pa_cons pe_int (pa_cons (pe_callB (call_max2 rfl) (by rfl) M.max (by decide +kernel) (pa_cons (pe_un un_neg (pe_ix ix_tup (pv 0) pe_int (fun _ _ => rfl))) (pa_cons (pe_ix ix_tup (pv 0) pe_int (fun _ _ => rfl)) pa_nil))) (pa_cons pe_bl pa_nil)))))))), ?_⟩
    have er : raw "abs" [⟨.int a, .int b, m⟩] = if a ≥ 0 then ⟨.int a, .int b, false⟩ else if b < 0 then ⟨.int (-b), .int (-a), false⟩ else ⟨.int 0, .int (mx2 (-a) b), false⟩ := by
      rw [raw_i, if_neg (by decide +kernel)]
    dsimp only at q
    rw [er] at q
    refine ⟨_, rfl, p, _, 0, .int a, rfl, rfl, hp, rfl, a, 0, rfl, rfl, _, rfl, ?_⟩
    by_cases c : a ≥ 0
    · rw [if_pos c] at q
      exact iteB (decide_eq_true c) ⟨_, rfl, p, _, 0, .int a, rfl, rfl, hp, rfl, _, rfl, p, _, 1, .int b, rfl, rfl, hp, rfl, (by show 3 ≤ sizeLine; decide), fun t nt => q _ _ (same_new nt) (SpnAt.new (s := ⟨.int a, .int b, false⟩))⟩
    · rw [if_neg c] at q
      refine iteBF (decide_eq_false c) ⟨_, rfl, p, _, 1, .int b, rfl, rfl, hp, rfl, b, 0, rfl, rfl, _, rfl, ?_⟩
      by_cases c2 : b < 0
      · rw [if_pos c2] at q
        exact iteB (decide_eq_true c2) ⟨_, rfl, p, _, 1, .int b, rfl, rfl, hp, rfl, b, rfl, _, rfl, p, _, 0, .int a, rfl, rfl, hp, rfl, a, rfl, (by show 3 ≤ sizeLine; decide), fun t nt => q _ _ (same_new nt) (SpnAt.new (s := ⟨.int (-b), .int (-a), false⟩))⟩
      · rw [if_neg c2] at q
        exact iteBF (decide_eq_false c2) ⟨_, rfl, p, _, 0, .int a, rfl, rfl, hp, rfl, a, rfl, _, rfl, p, _, 1, .int b, rfl, rfl, hp, rfl, -a, b, rfl, (by show 3 ≤ sizeLine; decide), fun t nt => q _ _ (same_new nt) (SpnAt.new (s := ⟨.int 0, .int (mx2 (-a) b), false⟩))⟩
theorem sc_len : FnScope ["part"] ["part"] (defScope sLengthSpan) := ⟨rfl, rfl, rfl, by decide +kernel, rfl, by decide +kernel, by decide +kernel⟩
theorem ok_len {f : Addr} {fd : FuncData} (F : Fun K "length_span" "length_span" sLengthSpan f fd) (M : Nm mg) (N2 : Ct mg) : FnOk P w K mg base CX0 1 f fd ["part"] (sp1 K isT1 fun s => raw "length" [s]) := by
  refine F.ok sc_len (fun vs H Q E h => ?_) (fun cdv A outer s0 H vs Q E hr h => ?_)
  · obtain ⟨_, _, rfl, ⟨p, rfl, hp⟩, ⟨x, y, m, rfl, hx, hx2, hy, hy2⟩, q⟩ := h
    rfl
  · obtain ⟨_, _, rfl, ⟨p, rfl, hp⟩, ⟨x, y, m, rfl, hx, hx2, hy, hy2⟩, q⟩ := h
    obtain ⟨uib, mib, rib⟩ := N2.ib
    obtain ⟨utb, mtb, rtb⟩ := N2.tb
    refine ⟨_, (pss_cons (ps_if (pt_cmpR op_eq (pe_ix ix_tup (pv 0) pe_int (fun _ _ => rfl)) (pe_ix ix_tup (pv 0) pe_int (fun _ _ => rfl)) (nomark _)) (pss_one (ps_ret (pe_tup (pa_cons (pe_callB call_len_str (by rfl) M.len PySem.boot_len (pa_cons (pe_ix ix_tup (pv 0) pe_int (fun _ _ => rfl)) pa_nil)) (pa_cons (pe_callB call_len_str (by rfl) M.len PySem.boot_len (pa_cons (pe_ix ix_tup (pv 0) pe_int (fun _ _ => rfl)) pa_nil)) (pa_cons pe_bl pa_nil)))))) pss_nil)
      (pss_one (ps_ret (pe_tup (pa_cons pe_int (pa_cons (pe_glob (by rfl) mtb rtb) (pa_cons pe_bl pa_nil))))))), ?_⟩
    have er : raw "length" [⟨.str x, .str y, m⟩] = if x = y then ⟨.int (x.length : Int), .int (x.length : Int), false⟩ else ⟨.int 0, .int 200, false⟩ := rfl
    dsimp only at q
    rw [er] at q
    have hl : x.length ≤ sizeLine := Nat.le_trans hx2 (by decide)
    refine ⟨_, rfl, p, _, 0, .str x, rfl, rfl, hp, rfl, _, rfl, p, _, 1, .str y, rfl, rfl, hp, rfl, rfl, _, rfl, ?_⟩
    by_cases c : x = y
    · rw [if_pos c] at q
      exact iteB ((vs_dec _ _).trans (decide_eq_true c)) ⟨_, rfl, p, _, 0, .str x, rfl, rfl, hp, rfl, x, rfl, hl, _, rfl, p, _, 0, .str x, rfl, rfl, hp, rfl, x, rfl, hl, (by show 3 ≤ sizeLine; decide), fun t nt => q _ _ (same_new nt) (SpnAt.new (s := ⟨.int x.length, .int x.length, false⟩))⟩
    · rw [if_neg c] at q
      exact iteBF ((vs_dec _ _).trans (decide_eq_false c)) ⟨(by show 3 ≤ sizeLine; decide), fun t nt => q _ _ (same_new nt) (SpnAt.new (s := ⟨.int 0, .int 200, false⟩))⟩
theorem sc_addS : FnScope ["first", "second"] ["first", "second"] (defScope sAddSpan) := ⟨rfl, rfl, rfl, by decide +kernel, rfl, by decide +kernel, by decide +kernel⟩
theorem ok_addS {f : Addr} {fd : FuncData} (F : Fun K "add_span" "add_span" sAddSpan f fd) : FnOk P w K mg base CX0 1 f fd ["first", "second"] (sp2 K isI2 fun s t => raw "add" [s, t]) := by
  refine F.ok sc_addS (fun vs H Q E h => ?_) (fun cdv A outer s0 H vs Q E hr h => ?_)
  · obtain ⟨_, _, _, _, rfl, ⟨p, rfl, hp⟩, ⟨p2, rfl, hp2⟩, ⟨⟨a, b, m, rfl, ha, hb, hab⟩, ⟨c, e, n, rfl, hc, he, hce⟩⟩, q⟩ := h
    rfl
  · obtain ⟨_, _, _, _, rfl, ⟨p, rfl, hp⟩, ⟨p2, rfl, hp2⟩, ⟨⟨a, b, m, rfl, ha, hb, hab⟩, ⟨c, e, n, rfl, hc, he, hce⟩⟩, q⟩ := h
    refine ⟨_, (pss_one (ps_ret (pe_tup (pa_cons (pe_op op_add (pe_ix ix_tup (pv 0) pe_int (fun _ _ => rfl)) (pe_ix ix_tup (pv 1) pe_int (fun _ _ => rfl))) (pa_cons (pe_op op_add (pe_ix ix_tup (pv 0) pe_int (fun _ _ => rfl)) (pe_ix ix_tup (pv 1) pe_int (fun _ _ => rfl))) (pa_cons pe_bl pa_nil)))))), ?_⟩
    dsimp only at q
    rw [raw_add] at q
    exact ⟨_, rfl, p, _, 0, .int a, rfl, rfl, hp, rfl, _, rfl, p2, _, 0, .int c, rfl, rfl, hp2, rfl, a, c, rfl, rfl, _, rfl, p, _, 1, .int b, rfl, rfl, hp, rfl, _, rfl, p2, _, 1, .int e, rfl, rfl, hp2, rfl, b, e, rfl, rfl, (by show 3 ≤ sizeLine; decide), fun t nt => q _ _ (same_new nt) (SpnAt.new (s := ⟨.int (a + c), .int (b + e), false⟩))⟩
theorem sc_subS : FnScope ["first", "second"] ["first", "second"] (defScope sSubSpan) := ⟨rfl, rfl, rfl, by decide +kernel, rfl, by decide +kernel, by decide +kernel⟩
theorem ok_subS {f : Addr} {fd : FuncData} (F : Fun K "sub_span" "sub_span" sSubSpan f fd) : FnOk P w K mg base CX0 1 f fd ["first", "second"] (sp2 K isI2 fun s t => raw "sub" [s, t]) := by
  refine F.ok sc_subS (fun vs H Q E h => ?_) (fun cdv A outer s0 H vs Q E hr h => ?_)
  · obtain ⟨_, _, _, _, rfl, ⟨p, rfl, hp⟩, ⟨p2, rfl, hp2⟩, ⟨⟨a, b, m, rfl, ha, hb, hab⟩, ⟨c, e, n, rfl, hc, he, hce⟩⟩, q⟩ := h
    rfl
  · obtain ⟨_, _, _, _, rfl, ⟨p, rfl, hp⟩, ⟨p2, rfl, hp2⟩, ⟨⟨a, b, m, rfl, ha, hb, hab⟩, ⟨c, e, n, rfl, hc, he, hce⟩⟩, q⟩ := h
    refine ⟨_, (pss_one (ps_ret (pe_tup (pa_cons (pe_op op_sub (pe_ix ix_tup (pv 0) pe_int (fun _ _ => rfl)) (pe_ix ix_tup (pv 1) pe_int (fun _ _ => rfl))) (pa_cons (pe_op op_sub (pe_ix ix_tup (pv 0) pe_int (fun _ _ => rfl)) (pe_ix ix_tup (pv 1) pe_int (fun _ _ => rfl))) (pa_cons pe_bl pa_nil)))))), ?_⟩
    dsimp only at q
    rw [raw_sub] at q
    exact ⟨_, rfl, p, _, 0, .int a, rfl, rfl, hp, rfl, _, rfl, p2, _, 1, .int e, rfl, rfl, hp2, rfl, a, e, rfl, rfl, _, rfl, p, _, 1, .int b, rfl, rfl, hp, rfl, _, rfl, p2, _, 0, .int c, rfl, rfl, hp2, rfl, b, c, rfl, rfl, (by show 3 ≤ sizeLine; decide), fun t nt => q _ _ (same_new nt) (SpnAt.new (s := ⟨.int (a - e), .int (b - c), false⟩))⟩
theorem sc_not : FnScope ["part"] ["part"] (defScope sNotSpan) := ⟨rfl, rfl, rfl, by decide +kernel, rfl, by decide +kernel, by decide +kernel⟩
theorem ok_not {f : Addr} {fd : FuncData} (F : Fun K "not_span" "not_span" sNotSpan f fd) : FnOk P w K mg base CX0 1 f fd ["part"] (sp1 K isF1 fun s => raw "not" [s]) := by
  refine F.ok sc_not (fun vs H Q E h => ?_) (fun cdv A outer s0 H vs Q E hr h => ?_)
  · obtain ⟨_, _, rfl, ⟨p, rfl, hp⟩, ⟨a, b, m, rfl⟩, q⟩ := h
    rfl
  · obtain ⟨_, _, rfl, ⟨p, rfl, hp⟩, ⟨a, b, m, rfl⟩, q⟩ := h
    refine ⟨_, (pss_one (ps_ret (pe_tup (pa_cons (pe_not (pe_ix ix_tup (pv 0) pe_int (fun _ _ => rfl))) (pa_cons (pe_not (pe_ix ix_tup (pv 0) pe_int (fun _ _ => rfl))) (pa_cons pe_bl pa_nil)))))), ?_⟩
    exact ⟨_, rfl, p, _, 1, .bl b, rfl, rfl, hp, rfl, b, rfl, _, rfl, p, _, 0, .bl a, rfl, rfl, hp, rfl, a, rfl, (by show 3 ≤ sizeLine; decide), fun t nt => q _ _ (same_new nt) (SpnAt.new (s := ⟨.bl (!b), .bl (!a), false⟩))⟩
theorem sc_mod : FnScope ["first", "second", "least", "greatest"] ["first", "second"] (defScope sModSpan) := ⟨rfl, rfl, rfl, by decide +kernel, rfl, by decide +kernel, by decide +kernel⟩
theorem ok_mod {f : Addr} {fd : FuncData} {kam : Addr} (F : Fun K "mod_span" "mod_span" sModSpan f fd) (mam : mg "ALWAYS_MISSING" = some (.ref kam)) (ham : ∀ H : Hp, SqT K H kam AM.v) : FnOk P w K mg base CX0 1 f fd ["first", "second"] (sp2 K isI2 fun s t => raw "mod" [s, t]) := by
  refine F.ok sc_mod (fun vs H Q E h => ?_) (fun cdv A outer s0 H vs Q E hr h => ?_)
  · obtain ⟨_, _, _, _, rfl, ⟨p, rfl, hp⟩, ⟨p2, rfl, hp2⟩, ⟨⟨a, b, m, rfl, ha, hb, hab⟩, ⟨c, e, n, rfl, hc, he, hce⟩⟩, q⟩ := h
    rfl
  · obtain ⟨_, _, _, _, rfl, ⟨p, rfl, hp⟩, ⟨p2, rfl, hp2⟩, ⟨⟨a, b, m, rfl, ha, hb, hab⟩, ⟨c, e, n, rfl, hc, he, hce⟩⟩, q⟩ := h
    refine ⟨_, (Evl.pss_cut (ps_if (PW.pt (pw_and (pt_cmpR op_eq (pe_ix ix_tup (pv 1) pe_int (fun _ _ => rfl)) pe_int (nomark _)) (pw_and1 (pt_cmpR op_eq (pe_ix ix_tup (pv 1) pe_int (fun _ _ => rfl)) pe_int (nomark _))))) (pss_one (ps_ret (pe_glob (v := .ref kam) (by rfl) mam rfl))) pss_nil)
      (Evl.pss_cut (ps_set (i := 2) sc_mod.nd rfl (.inl rfl) (pe_ifExp (pt_cmpR op_lt (pe_ix ix_tup (pv 1) pe_int (fun _ _ => rfl)) pe_int (nomark _)) (pe_op op_add (pe_ix ix_tup (pv 1) pe_int (fun _ _ => rfl)) pe_int) pe_int))
      (Evl.pss_cut (ps_set (i := 3) sc_mod.nd rfl (.inl rfl) (pe_ifExp (pt_cmpR op_gt (pe_ix ix_tup (pv 1) pe_int (fun _ _ => rfl)) pe_int (nomark _)) (pe_op op_sub (pe_ix ix_tup (pv 1) pe_int (fun _ _ => rfl)) pe_int) pe_int))
      (pss_one (ps_ret (pe_tup (pa_cons (pv 2) (pa_cons (pv 3) (pa_cons (pe_chain op_le op_le (pe_ix ix_tup (pv 1) pe_int (fun _ _ => rfl)) pe_int (pe_ix ix_tup (pv 1) pe_int (fun _ _ => rfl))) pa_nil))))))))), ?_⟩
    dsimp only at q
    rw [raw_mod] at q
    unfold modS at q
    refine ⟨fun σ' H' => σ' = [some (.ref p), some (.ref p2), none, none] ∧ H = H' ∧ ¬ (c = 0 ∧ e = 0), ?_, ?_⟩
    · refine ⟨_, rfl, p2, _, 0, .int c, rfl, rfl, hp2, rfl, rfl, _, rfl, ?_⟩
      by_cases c0 : c = 0
      · refine iteB ((vi_dec _ _).trans (decide_eq_true c0)) ⟨_, rfl, p2, _, 1, .int e, rfl, rfl, hp2, rfl, rfl, _, rfl, ?_⟩
        by_cases e0 : e = 0
        · rw [if_pos ⟨c0, e0⟩] at q
          exact iteB ((vi_dec _ _).trans (decide_eq_true e0)) (q H _ (fun _ _ e => e) ⟨kam, rfl, ham _⟩)
        · exact iteBF ((vi_dec _ _).trans (decide_eq_false e0)) ⟨rfl, rfl, fun z => e0 z.2⟩
      · exact iteBF ((vi_dec _ _).trans (decide_eq_false c0)) (iteF ⟨rfl, rfl, fun z => c0 z.1⟩)
    · rintro _ _ ⟨rfl, rfl, hn⟩
      rw [if_neg hn] at q
      refine ⟨fun σ' H' => σ' = [some (.ref p), some (.ref p2), some (.int (if c < 0 then c + 1 else 0)), none] ∧ H = H', ?_, ?_⟩
      · refine ⟨_, rfl, p2, _, 0, .int c, rfl, rfl, hp2, rfl, c, 0, rfl, rfl, _, rfl, ?_⟩
        by_cases c1 : c < 0
        · rw [if_pos c1]
          exact iteB (decide_eq_true c1) ⟨_, rfl, p2, _, 0, .int c, rfl, rfl, hp2, rfl, c, 1, rfl, rfl, rfl, rfl⟩
        · rw [if_neg c1]
          exact iteBF (decide_eq_false c1) ⟨rfl, rfl⟩
      · rintro _ _ ⟨rfl, rfl⟩
        refine ⟨fun σ' H' => σ' = [some (.ref p), some (.ref p2), some (.int (if c < 0 then c + 1 else 0)), some (.int (if e > 0 then e - 1 else 0))] ∧ H = H', ?_, ?_⟩
        · refine ⟨_, rfl, p2, _, 1, .int e, rfl, rfl, hp2, rfl, e, 0, rfl, rfl, _, rfl, ?_⟩
          by_cases c1 : e > 0
          · rw [if_pos c1]
            exact iteB (decide_eq_true c1) ⟨_, rfl, p2, _, 1, .int e, rfl, rfl, hp2, rfl, e, 1, rfl, rfl, rfl, rfl⟩
          · rw [if_neg c1]
            exact iteBF (decide_eq_false c1) ⟨rfl, rfl⟩
        · rintro _ _ ⟨rfl, rfl⟩
          refine ⟨_, rfl, _, rfl, _, rfl, p2, _, 0, .int c, rfl, rfl, hp2, rfl, c, 0, rfl, rfl, _, rfl, ?_⟩
          by_cases c1 : c ≤ 0
          · rw [decide_eq_true c1, Bool.true_and] at q
            exact iteB (decide_eq_true c1) ⟨_, rfl, p2, _, 1, .int e, rfl, rfl, hp2, rfl, 0, e, rfl, rfl, (by show 3 ≤ sizeLine; decide), fun t nt => q _ _ (same_new nt) (SpnAt.new (s := ⟨_, _, _⟩))⟩
          · rw [decide_eq_false c1, Bool.false_and] at q
            exact iteBF (decide_eq_false c1) ⟨(by show 3 ≤ sizeLine; decide), fun t nt => q _ _ (same_new nt) (SpnAt.new (s := ⟨_, _, _⟩))⟩
theorem sc_joined : FnScope ["first", "second", "text"] ["first", "second"] (defScope sJoinedSpan) := ⟨rfl, rfl, rfl, by decide +kernel, rfl, by decide +kernel, by decide +kernel⟩
theorem ok_joined {f : Addr} {fd : FuncData} {kam : Addr} {fG : Addr} {fdG : FuncData} (F : Fun K "joined_span" "joined_span" sJoinedSpan f fd) (M : Nm mg) (N2 : Ct mg) (mam : mg "ALWAYS_MISSING" = some (.ref kam)) (ham : ∀ H : Hp, SqT K H kam AM.v) (GG : FnOk P w K mg base CX0 1 fG fdG ["kind"] spGreat) (kG : PySem.W.keepIn K (.ref fG) = true) (bG : Binds K fdG ["kind"] []) (gG : mg "greatest_of" = some (.ref fG)) : FnOk P w K mg base CX0 2 f fd ["first", "second"] (sp2 K isT2 fun s t => raw "joined" [s, t]) := by
  refine F.ok sc_joined (fun vs H Q E h => ?_) (fun cdv A outer s0 H vs Q E hr h => ?_)
  · obtain ⟨_, _, _, _, rfl, ⟨p, rfl, hp⟩, ⟨p2, rfl, hp2⟩, ⟨⟨x, y, m, rfl, hx, hx2, hy, hy2⟩, ⟨z, u, n, rfl, hz, hz2, hu, hu2⟩⟩, q⟩ := h
    rfl
  · obtain ⟨_, _, _, _, rfl, ⟨p, rfl, hp⟩, ⟨p2, rfl, hp2⟩, ⟨⟨x, y, m, rfl, hx, hx2, hy, hy2⟩, ⟨z, u, n, rfl, hz, hz2, hu, hu2⟩⟩, q⟩ := h
    obtain ⟨uib, mib, rib⟩ := N2.ib
    obtain ⟨utb, mtb, rtb⟩ := N2.tb
    refine ⟨_, (Evl.pss_cut (ps_if (PW.pt (pw_or (pt_cmpR op_ne (pe_ix ix_tup (pv 0) pe_int (fun _ _ => rfl)) (pe_ix ix_tup (pv 0) pe_int (fun _ _ => rfl)) (nomark _)) (pw_or1 (pt_cmpR op_ne (pe_ix ix_tup (pv 1) pe_int (fun _ _ => rfl)) (pe_ix ix_tup (pv 1) pe_int (fun _ _ => rfl)) (nomark _))))) (pss_one (ps_ret (pe_tup (pa_cons (pe_ix ix_tup (pv 0) pe_int (fun _ _ => rfl)) (pa_cons (pe_call GG hr (by rfl) gG kG bG .nil pass0 (pa_cons pe_str pa_nil)) (pa_cons pe_bl pa_nil)))))) pss_nil)
      (pss_cons (ps_set (i := 2) sc_joined.nd rfl (.inl rfl) (pe_op op_add_str (pe_ix ix_tup (pv 0) pe_int (fun _ _ => rfl)) (pe_ix ix_tup (pv 1) pe_int (fun _ _ => rfl))))
      (pss_cons (ps_if (pt_cmpR op_gt (pe_callB call_len_str (by rfl) M.len PySem.boot_len (pa_cons (pv 2) pa_nil)) (pe_glob (by rfl) mtb rtb) (nomark _)) (pss_one (ps_ret (pe_glob (v := .ref kam) (by rfl) mam rfl))) pss_nil)
      (pss_one (ps_ret (pe_tup (pa_cons (pv 2) (pa_cons (pv 2) (pa_cons pe_bl pa_nil))))))))), ?_⟩
    dsimp only at q
    rw [raw_joined] at q
    unfold joinS at q
    have hs : (10000 : Nat) ≤ sizeLine := by decide
    refine ⟨fun σ' H' => σ' = [some (.ref p), some (.ref p2), none] ∧ H = H' ∧ x = y ∧ z = u, ?_, ?_⟩
    · refine ⟨_, rfl, p, _, 0, .str x, rfl, rfl, hp, rfl, _, rfl, p, _, 1, .str y, rfl, rfl, hp, rfl, rfl, _, rfl, ?_⟩
      by_cases c0 : x = y
      · refine iteBF (by rw [vs_dec, decide_eq_true c0]; rfl) ⟨_, rfl, p2, _, 0, .str z, rfl, rfl, hp2, rfl, _, rfl, p2, _, 1, .str u, rfl, rfl, hp2, rfl, rfl, _, rfl, ?_⟩
        by_cases e0 : z = u
        · exact iteBF (by rw [vs_dec, decide_eq_true e0]; rfl) ⟨rfl, rfl, c0, e0⟩
        · rw [if_pos (.inr e0)] at q
          exact iteB (by rw [vs_dec, decide_eq_false e0]; rfl) ⟨_, rfl, p, _, 0, .str x, rfl, rfl, hp, rfl, .t, rfl, (by show 3 ≤ sizeLine; decide), fun t nt => q _ _ (same_new nt) (SpnAt.new (s := ⟨.str x, .str TL, true⟩))⟩
      · rw [if_pos (.inl c0)] at q
        exact iteB (by rw [vs_dec, decide_eq_false c0]; rfl) (iteT ⟨_, rfl, p, _, 0, .str x, rfl, rfl, hp, rfl, .t, rfl, (by show 3 ≤ sizeLine; decide), fun t nt => q _ _ (same_new nt) (SpnAt.new (s := ⟨.str x, .str TL, true⟩))⟩)
    · rintro _ _ ⟨rfl, rfl, c0, e0⟩
      rw [if_neg (fun z => z.elim (fun z => z c0) (fun z => z e0))] at q
      have hl : (x ++ z).length = x.length + z.length := Array.size_append
      refine ⟨_, rfl, p, _, 0, .str x, rfl, rfl, hp, rfl, _, rfl, p2, _, 0, .str z, rfl, rfl, hp2, rfl, x, z, rfl, rfl, by omega, ?_⟩
      refine ⟨_, rfl, _, rfl, by omega, _, _, rfl, rfl, _, rfl, ?_⟩
      by_cases c1 : (x ++ z).length > 200
      · rw [if_pos c1] at q
        exact iteB (decide_eq_true (by omega)) (q H _ (fun _ _ e => e) ⟨kam, rfl, ham _⟩)
      · rw [if_neg c1] at q
        exact iteBF (decide_eq_false (by omega)) ⟨_, rfl, _, rfl, (by show 3 ≤ sizeLine; decide), fun t nt => q _ _ (same_new nt) (SpnAt.new (s := ⟨.str (x ++ z), .str (x ++ z), false⟩))⟩
end
end K2

namespace K2
open PySem L2
theorem cs_eq (s t : Spn) : cmpS "eq" s t = trS (share s t) (!allEq s t) := if_pos rfl
theorem cs_ne (s t : Spn) : cmpS "ne" s t = trS (!allEq s t) (share s t) := by
  unfold cmpS
  rw [if_neg (by decide +kernel), if_pos rfl]
theorem cs_lt (s t : Spn) : cmpS "lt" s t = trS (ltV s.a t.b) (!ltV s.b t.a) := by
  unfold cmpS
  rw [if_neg (by decide +kernel), if_neg (by decide +kernel), if_pos rfl]
theorem cs_le (s t : Spn) : cmpS "le" s t = trS (!ltV t.b s.a) (ltV t.a s.b) := by
  unfold cmpS
  rw [if_neg (by decide +kernel), if_neg (by decide +kernel), if_neg (by decide +kernel), if_pos rfl]
theorem cs_gt (s t : Spn) : cmpS "gt" s t = trS (ltV t.a s.b) (!ltV t.b s.a) := by
  unfold cmpS
  rw [if_neg (by decide +kernel), if_neg (by decide +kernel), if_neg (by decide +kernel), if_neg (by decide +kernel), if_pos rfl]
theorem cs_ge (s t : Spn) : cmpS "ge" s t = trS (!ltV s.b t.a) (ltV s.a t.b) := by
  unfold cmpS
  rw [if_neg (by decide +kernel), if_neg (by decide +kernel), if_neg (by decide +kernel), if_neg (by decide +kernel), if_neg (by decide +kernel)]
theorem isC.symm {s t : Spn} (h : isC s t) : isC t s := let ⟨k, a, b, c, e⟩ := h; ⟨k, c, e, a, b⟩
def spTr (K : PySem.W.Frag) : Sp := fun vs H Q _ => ∃ t f : Bool, vs = [.bl t, .bl f] ∧ ∀ H' r, Same H H' → SpnAt K H' r (trS t f) → Q r H'
def spB2 (K : PySem.W.Frag) (g : Spn → Spn → Bool) : Sp := fun vs H Q _ => ∃ x s y t, vs = [x, y] ∧ SpnAt K H x s ∧ SpnAt K H y t ∧ isC s t ∧ Q (.bl (g s t)) H
section
variable {P : Program} {w : World} {K : PySem.W.Frag} {mg : Str → Option Value} {base : Heap}
theorem sc_truth : FnScope ["can_be_true", "can_be_false"] ["can_be_true", "can_be_false"] (defScope sTruthSpan) := ⟨rfl, rfl, rfl, by decide +kernel, rfl, by decide +kernel, by decide +kernel⟩
theorem ok_truth {f : Addr} {fd : FuncData} (F : Fun K "truth_span" "truth_span" sTruthSpan f fd) : FnOk P w K mg base CX0 1 f fd ["can_be_true", "can_be_false"] (spTr K) := by
  refine F.ok sc_truth (fun vs H Q E h => ?_) (fun cdv A outer s0 H vs Q E hr h => ?_)
  · obtain ⟨t, f, rfl, q⟩ := h
    rfl
  · obtain ⟨t, f, rfl, q⟩ := h
    refine ⟨_, (pss_one (ps_ret (pe_tup (pa_cons (pe_not (pv 1)) (pa_cons (pv 0) (pa_cons pe_bl pa_nil)))))), ?_⟩
    exact ⟨_, rfl, f, rfl, _, rfl, (by show 3 ≤ sizeLine; decide), fun a nt => q _ _ (same_new nt) (SpnAt.new (s := trS t f))⟩
theorem sc_allEq : FnScope ["first", "second"] ["first", "second"] (defScope sAreAllEqual) := ⟨rfl, rfl, rfl, by decide +kernel, rfl, by decide +kernel, by decide +kernel⟩
theorem ok_allEq {f : Addr} {fd : FuncData} (F : Fun K "are_all_equal" "are_all_equal" sAreAllEqual f fd) : FnOk P w K mg base CX0 1 f fd ["first", "second"] (spB2 K allEq) := by
  refine F.ok sc_allEq (fun vs H Q E h => ?_) (fun cdv A outer s0 H vs Q E hr h => ?_)
  · obtain ⟨_, s, _, t, rfl, ⟨p, rfl, hp⟩, ⟨p2, rfl, hp2⟩, ⟨k, sa, sb, ta, tb⟩, q⟩ := h
    rfl
  · obtain ⟨_, s, _, t, rfl, ⟨p, rfl, hp⟩, ⟨p2, rfl, hp2⟩, ⟨k, sa, sb, ta, tb⟩, q⟩ := h
    refine ⟨_, (pss_one (ps_ret (pe_and (pe_cmpR op_eqV' (pe_ix ix_tup (pv 0) pe_int (fun _ _ => rfl)) (pe_ix ix_tup (pv 0) pe_int (fun _ _ => rfl)) (nomark _)) (pe_and (pe_cmpR op_eqV' (pe_ix ix_tup (pv 1) pe_int (fun _ _ => rfl)) (pe_ix ix_tup (pv 1) pe_int (fun _ _ => rfl)) (nomark _)) (pe_one (pe_cmpR op_eqV' (pe_ix ix_tup (pv 0) pe_int (fun _ _ => rfl)) (pe_ix ix_tup (pv 1) pe_int (fun _ _ => rfl)) (nomark _))))))), ?_⟩
    unfold allEq at q
    refine ⟨_, rfl, p, _, 0, s.a, rfl, rfl, hp, rfl, _, rfl, p, _, 1, s.b, rfl, rfl, hp, rfl, ⟨k, sa.1, sb.1⟩, _, rfl, ?_⟩
    by_cases e1 : s.a = s.b
    · rw [decide_eq_true e1, Bool.true_and] at q
      refine iteB (decide_eq_true e1) ⟨_, rfl, p2, _, 0, t.a, rfl, rfl, hp2, rfl, _, rfl, p2, _, 1, t.b, rfl, rfl, hp2, rfl, ⟨k, ta.1, tb.1⟩, _, rfl, ?_⟩
      by_cases e2 : t.a = t.b
      · rw [decide_eq_true e2, Bool.true_and] at q
        exact iteB (decide_eq_true e2) ⟨_, rfl, p, _, 0, s.a, rfl, rfl, hp, rfl, _, rfl, p2, _, 0, t.a, rfl, rfl, hp2, rfl, ⟨k, sa.1, ta.1⟩, q⟩
      · rw [decide_eq_false e2, Bool.false_and] at q
        exact iteBF (decide_eq_false e2) q
    · rw [decide_eq_false e1, Bool.false_and] at q
      exact iteBF (decide_eq_false e1) q
theorem sc_share : FnScope ["first", "second"] ["first", "second"] (defScope sShareValues) := ⟨rfl, rfl, rfl, by decide +kernel, rfl, by decide +kernel, by decide +kernel⟩
theorem ok_share {f : Addr} {fd : FuncData} (F : Fun K "share_values" "share_values" sShareValues f fd) : FnOk P w K mg base CX0 1 f fd ["first", "second"] (spB2 K share) := by
  refine F.ok sc_share (fun vs H Q E h => ?_) (fun cdv A outer s0 H vs Q E hr h => ?_)
  · obtain ⟨_, s, _, t, rfl, ⟨p, rfl, hp⟩, ⟨p2, rfl, hp2⟩, ⟨k, sa, sb, ta, tb⟩, q⟩ := h
    rfl
  · obtain ⟨_, s, _, t, rfl, ⟨p, rfl, hp⟩, ⟨p2, rfl, hp2⟩, ⟨k, sa, sb, ta, tb⟩, q⟩ := h
    refine ⟨_, (pss_one (ps_ret (pe_and (pe_cmpR op_leV (pe_ix ix_tup (pv 0) pe_int (fun _ _ => rfl)) (pe_ix ix_tup (pv 1) pe_int (fun _ _ => rfl)) (nomark _)) (pe_one (pe_cmpR op_leV (pe_ix ix_tup (pv 1) pe_int (fun _ _ => rfl)) (pe_ix ix_tup (pv 0) pe_int (fun _ _ => rfl)) (nomark _)))))), ?_⟩
    unfold share at q
    refine ⟨_, rfl, p, _, 0, s.a, rfl, rfl, hp, rfl, _, rfl, p2, _, 1, t.b, rfl, rfl, hp2, rfl, ⟨k, sa.1, tb.1⟩, _, rfl, ?_⟩
    by_cases e1 : (!ltV t.b s.a) = true
    · rw [e1, Bool.true_and] at q
      exact iteB e1 ⟨_, rfl, p2, _, 0, t.a, rfl, rfl, hp2, rfl, _, rfl, p, _, 1, s.b, rfl, rfl, hp, rfl, ⟨k, ta.1, sb.1⟩, q⟩
    · have e2 := Bool.eq_false_iff.mpr e1
      rw [e2, Bool.false_and] at q
      exact iteBF e2 q
theorem sc_eq : FnScope ["first", "second"] ["first", "second"] (defScope sEqSpan) := ⟨rfl, rfl, rfl, by decide +kernel, rfl, by decide +kernel, by decide +kernel⟩
theorem ok_eq {f : Addr} {fd : FuncData} {fR fS fE : Addr} {fdR fdS fdE : FuncData} (F : Fun K "eq_span" "eq_span" sEqSpan f fd) (GR : FnOk P w K mg base CX0 1 fR fdR ["can_be_true", "can_be_false"] (spTr K)) (kR : PySem.W.keepIn K (.ref fR) = true) (bR : Binds K fdR ["can_be_true", "can_be_false"] []) (gR : mg "truth_span" = some (.ref fR)) (GS : FnOk P w K mg base CX0 1 fS fdS ["first", "second"] (spB2 K share)) (kS : PySem.W.keepIn K (.ref fS) = true) (bS : Binds K fdS ["first", "second"] []) (gS : mg "share_values" = some (.ref fS)) (GE : FnOk P w K mg base CX0 1 fE fdE ["first", "second"] (spB2 K allEq)) (kE : PySem.W.keepIn K (.ref fE) = true) (bE : Binds K fdE ["first", "second"] []) (gE : mg "are_all_equal" = some (.ref fE)) : FnOk P w K mg base CX0 2 f fd ["first", "second"] (sp2 K isC fun s t => raw "eq" [s, t]) := by
  refine F.ok sc_eq (fun vs H Q E h => ?_) (fun cdv A outer s0 H vs Q E hr h => ?_)
  · obtain ⟨_, s, _, t, rfl, ⟨p, rfl, hp⟩, ⟨p2, rfl, hp2⟩, ⟨k, sa, sb, ta, tb⟩, q⟩ := h
    rfl
  · obtain ⟨_, s, _, t, rfl, ⟨p, rfl, hp⟩, ⟨p2, rfl, hp2⟩, ⟨k, sa, sb, ta, tb⟩, q⟩ := h
    refine ⟨_, (pss_one (ps_ret (pe_call GR hr (by rfl) gR kR bR .nil pass0 (pa_cons (pe_call GS hr (by rfl) gS kS bS .nil pass0 (pa_cons (pv 0) (pa_cons (pv 1) pa_nil))) (pa_cons (pe_not (pe_call GE hr (by rfl) gE kE bE .nil pass0 (pa_cons (pv 0) (pa_cons (pv 1) pa_nil)))) pa_nil))))), ?_⟩
    dsimp only at q
    rw [raw_cmp (by decide +kernel), cs_eq] at q
    exact ⟨_, rfl, _, rfl, _, s, _, t, rfl, ⟨p, rfl, hp⟩, ⟨p2, rfl, hp2⟩, ⟨k, sa, sb, ta, tb⟩, _, rfl, _, rfl, _, s, _, t, rfl, ⟨p, rfl, hp⟩, ⟨p2, rfl, hp2⟩, ⟨k, sa, sb, ta, tb⟩, _, rfl, _, _, rfl, q⟩
theorem sc_ne : FnScope ["first", "second"] ["first", "second"] (defScope sNeSpan) := ⟨rfl, rfl, rfl, by decide +kernel, rfl, by decide +kernel, by decide +kernel⟩
theorem ok_ne {f : Addr} {fd : FuncData} {fR fS fE : Addr} {fdR fdS fdE : FuncData} (F : Fun K "ne_span" "ne_span" sNeSpan f fd) (GR : FnOk P w K mg base CX0 1 fR fdR ["can_be_true", "can_be_false"] (spTr K)) (kR : PySem.W.keepIn K (.ref fR) = true) (bR : Binds K fdR ["can_be_true", "can_be_false"] []) (gR : mg "truth_span" = some (.ref fR)) (GS : FnOk P w K mg base CX0 1 fS fdS ["first", "second"] (spB2 K share)) (kS : PySem.W.keepIn K (.ref fS) = true) (bS : Binds K fdS ["first", "second"] []) (gS : mg "share_values" = some (.ref fS)) (GE : FnOk P w K mg base CX0 1 fE fdE ["first", "second"] (spB2 K allEq)) (kE : PySem.W.keepIn K (.ref fE) = true) (bE : Binds K fdE ["first", "second"] []) (gE : mg "are_all_equal" = some (.ref fE)) : FnOk P w K mg base CX0 2 f fd ["first", "second"] (sp2 K isC fun s t => raw "ne" [s, t]) := by
  refine F.ok sc_ne (fun vs H Q E h => ?_) (fun cdv A outer s0 H vs Q E hr h => ?_)
  · obtain ⟨_, s, _, t, rfl, ⟨p, rfl, hp⟩, ⟨p2, rfl, hp2⟩, ⟨k, sa, sb, ta, tb⟩, q⟩ := h
    rfl
  · obtain ⟨_, s, _, t, rfl, ⟨p, rfl, hp⟩, ⟨p2, rfl, hp2⟩, ⟨k, sa, sb, ta, tb⟩, q⟩ := h
    refine ⟨_, (pss_one (ps_ret (pe_call GR hr (by rfl) gR kR bR .nil pass0 (pa_cons (pe_not (pe_call GE hr (by rfl) gE kE bE .nil pass0 (pa_cons (pv 0) (pa_cons (pv 1) pa_nil)))) (pa_cons (pe_call GS hr (by rfl) gS kS bS .nil pass0 (pa_cons (pv 0) (pa_cons (pv 1) pa_nil))) pa_nil))))), ?_⟩
    dsimp only at q
    rw [raw_cmp (by decide +kernel), cs_ne] at q
    exact ⟨_, rfl, _, rfl, _, s, _, t, rfl, ⟨p, rfl, hp⟩, ⟨p2, rfl, hp2⟩, ⟨k, sa, sb, ta, tb⟩, _, rfl, _, rfl, _, rfl, _, s, _, t, rfl, ⟨p, rfl, hp⟩, ⟨p2, rfl, hp2⟩, ⟨k, sa, sb, ta, tb⟩, _, _, rfl, q⟩
theorem sc_lt : FnScope ["first", "second"] ["first", "second"] (defScope sLtSpan) := ⟨rfl, rfl, rfl, by decide +kernel, rfl, by decide +kernel, by decide +kernel⟩
theorem ok_lt {f : Addr} {fd : FuncData} {fR : Addr} {fdR : FuncData} (F : Fun K "lt_span" "lt_span" sLtSpan f fd) (GR : FnOk P w K mg base CX0 1 fR fdR ["can_be_true", "can_be_false"] (spTr K)) (kR : PySem.W.keepIn K (.ref fR) = true) (bR : Binds K fdR ["can_be_true", "can_be_false"] []) (gR : mg "truth_span" = some (.ref fR)) : FnOk P w K mg base CX0 2 f fd ["first", "second"] (sp2 K isC fun s t => raw "lt" [s, t]) := by
  refine F.ok sc_lt (fun vs H Q E h => ?_) (fun cdv A outer s0 H vs Q E hr h => ?_)
  · obtain ⟨_, s, _, t, rfl, ⟨p, rfl, hp⟩, ⟨p2, rfl, hp2⟩, ⟨k, sa, sb, ta, tb⟩, q⟩ := h
    rfl
  · obtain ⟨_, s, _, t, rfl, ⟨p, rfl, hp⟩, ⟨p2, rfl, hp2⟩, ⟨k, sa, sb, ta, tb⟩, q⟩ := h
    refine ⟨_, (pss_one (ps_ret (pe_call GR hr (by rfl) gR kR bR .nil pass0 (pa_cons (pe_cmpR op_ltV (pe_ix ix_tup (pv 0) pe_int (fun _ _ => rfl)) (pe_ix ix_tup (pv 1) pe_int (fun _ _ => rfl)) (nomark _)) (pa_cons (pe_cmpR op_geV (pe_ix ix_tup (pv 0) pe_int (fun _ _ => rfl)) (pe_ix ix_tup (pv 1) pe_int (fun _ _ => rfl)) (nomark _)) pa_nil))))), ?_⟩
    dsimp only at q
    rw [raw_cmp (by decide +kernel), cs_lt] at q
    exact ⟨_, rfl, p, _, 0, s.a, rfl, rfl, hp, rfl, _, rfl, p2, _, 1, t.b, rfl, rfl, hp2, rfl, ⟨k, sa.1, tb.1⟩, _, rfl, p, _, 1, s.b, rfl, rfl, hp, rfl, _, rfl, p2, _, 0, t.a, rfl, rfl, hp2, rfl, ⟨k, sb.1, ta.1⟩, _, _, rfl, q⟩
theorem sc_le : FnScope ["first", "second"] ["first", "second"] (defScope sLeSpan) := ⟨rfl, rfl, rfl, by decide +kernel, rfl, by decide +kernel, by decide +kernel⟩
theorem ok_le {f : Addr} {fd : FuncData} {fR : Addr} {fdR : FuncData} (F : Fun K "le_span" "le_span" sLeSpan f fd) (GR : FnOk P w K mg base CX0 1 fR fdR ["can_be_true", "can_be_false"] (spTr K)) (kR : PySem.W.keepIn K (.ref fR) = true) (bR : Binds K fdR ["can_be_true", "can_be_false"] []) (gR : mg "truth_span" = some (.ref fR)) : FnOk P w K mg base CX0 2 f fd ["first", "second"] (sp2 K isC fun s t => raw "le" [s, t]) := by
  refine F.ok sc_le (fun vs H Q E h => ?_) (fun cdv A outer s0 H vs Q E hr h => ?_)
  · obtain ⟨_, s, _, t, rfl, ⟨p, rfl, hp⟩, ⟨p2, rfl, hp2⟩, ⟨k, sa, sb, ta, tb⟩, q⟩ := h
    rfl
  · obtain ⟨_, s, _, t, rfl, ⟨p, rfl, hp⟩, ⟨p2, rfl, hp2⟩, ⟨k, sa, sb, ta, tb⟩, q⟩ := h
    refine ⟨_, (pss_one (ps_ret (pe_call GR hr (by rfl) gR kR bR .nil pass0 (pa_cons (pe_cmpR op_leV (pe_ix ix_tup (pv 0) pe_int (fun _ _ => rfl)) (pe_ix ix_tup (pv 1) pe_int (fun _ _ => rfl)) (nomark _)) (pa_cons (pe_cmpR op_gtV (pe_ix ix_tup (pv 0) pe_int (fun _ _ => rfl)) (pe_ix ix_tup (pv 1) pe_int (fun _ _ => rfl)) (nomark _)) pa_nil))))), ?_⟩
    dsimp only at q
    rw [raw_cmp (by decide +kernel), cs_le] at q
    exact ⟨_, rfl, p, _, 0, s.a, rfl, rfl, hp, rfl, _, rfl, p2, _, 1, t.b, rfl, rfl, hp2, rfl, ⟨k, sa.1, tb.1⟩, _, rfl, p, _, 1, s.b, rfl, rfl, hp, rfl, _, rfl, p2, _, 0, t.a, rfl, rfl, hp2, rfl, ⟨k, sb.1, ta.1⟩, _, _, rfl, q⟩
theorem sc_gt : FnScope ["first", "second"] ["first", "second"] (defScope sGtSpan) := ⟨rfl, rfl, rfl, by decide +kernel, rfl, by decide +kernel, by decide +kernel⟩
theorem ok_gt {f : Addr} {fd : FuncData} {fT : Addr} {fdT : FuncData} (F : Fun K "gt_span" "gt_span" sGtSpan f fd) (GT : FnOk P w K mg base CX0 2 fT fdT ["first", "second"] (sp2 K isC fun s t => raw "lt" [s, t])) (kT : PySem.W.keepIn K (.ref fT) = true) (bT : Binds K fdT ["first", "second"] []) (gT : mg "lt_span" = some (.ref fT)) : FnOk P w K mg base CX0 3 f fd ["first", "second"] (sp2 K isC fun s t => raw "gt" [s, t]) := by
  refine F.ok sc_gt (fun vs H Q E h => ?_) (fun cdv A outer s0 H vs Q E hr h => ?_)
  · obtain ⟨_, s, _, t, rfl, ⟨p, rfl, hp⟩, ⟨p2, rfl, hp2⟩, ⟨k, sa, sb, ta, tb⟩, q⟩ := h
    rfl
  · obtain ⟨_, s, _, t, rfl, ⟨p, rfl, hp⟩, ⟨p2, rfl, hp2⟩, ⟨k, sa, sb, ta, tb⟩, q⟩ := h
    refine ⟨_, (pss_one (ps_ret (pe_call GT hr (by rfl) gT kT bT .nil pass0 (pa_cons (pv 1) (pa_cons (pv 0) pa_nil))))), ?_⟩
    dsimp only at q
    rw [raw_cmp (by decide +kernel), cs_gt] at q
    exact ⟨_, rfl, _, rfl, _, t, _, s, rfl, ⟨p2, rfl, hp2⟩, ⟨p, rfl, hp⟩, ⟨k, ta, tb, sa, sb⟩, fun H1 r s1 h => q H1 r s1 (by dsimp only at h; rw [raw_cmp (by decide +kernel), cs_lt] at h; exact h)⟩
theorem sc_ge : FnScope ["first", "second"] ["first", "second"] (defScope sGeSpan) := ⟨rfl, rfl, rfl, by decide +kernel, rfl, by decide +kernel, by decide +kernel⟩
theorem ok_ge {f : Addr} {fd : FuncData} {fU : Addr} {fdU : FuncData} (F : Fun K "ge_span" "ge_span" sGeSpan f fd) (GU : FnOk P w K mg base CX0 2 fU fdU ["first", "second"] (sp2 K isC fun s t => raw "le" [s, t])) (kU : PySem.W.keepIn K (.ref fU) = true) (bU : Binds K fdU ["first", "second"] []) (gU : mg "le_span" = some (.ref fU)) : FnOk P w K mg base CX0 3 f fd ["first", "second"] (sp2 K isC fun s t => raw "ge" [s, t]) := by
  refine F.ok sc_ge (fun vs H Q E h => ?_) (fun cdv A outer s0 H vs Q E hr h => ?_)
  · obtain ⟨_, s, _, t, rfl, ⟨p, rfl, hp⟩, ⟨p2, rfl, hp2⟩, ⟨k, sa, sb, ta, tb⟩, q⟩ := h
    rfl
  · obtain ⟨_, s, _, t, rfl, ⟨p, rfl, hp⟩, ⟨p2, rfl, hp2⟩, ⟨k, sa, sb, ta, tb⟩, q⟩ := h
    refine ⟨_, (pss_one (ps_ret (pe_call GU hr (by rfl) gU kU bU .nil pass0 (pa_cons (pv 1) (pa_cons (pv 0) pa_nil))))), ?_⟩
    dsimp only at q
    rw [raw_cmp (by decide +kernel), cs_ge] at q
    exact ⟨_, rfl, _, rfl, _, t, _, s, rfl, ⟨p2, rfl, hp2⟩, ⟨p, rfl, hp⟩, ⟨k, ta, tb, sa, sb⟩, fun H1 r s1 h => q H1 r s1 (by dsimp only at h; rw [raw_cmp (by decide +kernel), cs_le] at h; exact h)⟩
theorem sc_ismis : FnScope ["part"] ["part"] (defScope sIsMissingSpan) := ⟨rfl, rfl, rfl, by decide +kernel, rfl, by decide +kernel, by decide +kernel⟩
theorem ok_ismis {f : Addr} {fd : FuncData} {fR fH : Addr} {fdR fdH : FuncData} (F : Fun K "is_missing_span" "is_missing_span" sIsMissingSpan f fd) (GR : FnOk P w K mg base CX0 1 fR fdR ["can_be_true", "can_be_false"] (spTr K)) (kR : PySem.W.keepIn K (.ref fR) = true) (bR : Binds K fdR ["can_be_true", "can_be_false"] []) (gR : mg "truth_span" = some (.ref fR)) (GH : FnOk P w K mg base CX0 1 fH fdH ["span"] (spHas K)) (kH : PySem.W.keepIn K (.ref fH) = true) (bH : Binds K fdH ["span"] []) (gH : mg "has_ends" = some (.ref fH)) : FnOk P w K mg base CX0 2 f fd ["part"] (sp1 K (fun _ => True) fun s => trS s.m (has s)) := by
  refine F.ok sc_ismis (fun vs H Q E h => ?_) (fun cdv A outer s0 H vs Q E hr h => ?_)
  · obtain ⟨_, s, rfl, ⟨p, rfl, hp⟩, _, q⟩ := h
    rfl
  · obtain ⟨_, s, rfl, ⟨p, rfl, hp⟩, _, q⟩ := h
    refine ⟨_, (pss_one (ps_ret (pe_call GR hr (by rfl) gR kR bR .nil pass0 (pa_cons (pe_ix ix_tup (pv 0) pe_int (fun _ _ => rfl)) (pa_cons (pe_call GH hr (by rfl) gH kH bH .nil pass0 (pa_cons (pv 0) pa_nil)) pa_nil))))), ?_⟩
    exact ⟨_, rfl, p, _, 2, .bl s.m, rfl, rfl, hp, rfl, _, rfl, _, s, rfl, ⟨p, rfl, hp⟩, _, _, rfl, q⟩
end
end K2

namespace K2
open PySem L2
def spEwz : Sp := fun vs H Q _ => ∃ l g : Int, vs = [.int l, .int g] ∧ ∀ H' p, Same H H' → H p = none → H' p = some (.lst ((ewz l g).map V.int)) → Q (.ref p) H'
theorem mx2_ok {i j : Int} (h1 : NumOk i) (h2 : NumOk j) : NumOk (mx2 i j) := by unfold mx2; split <;> assumption
theorem mn2_ok {i j : Int} (h1 : NumOk i) (h2 : NumOk j) : NumOk (mn2 i j) := by unfold mn2; split <;> assumption
theorem onek : NumOk 1 := by unfold NumOk; omega
theorem mone_ok : NumOk (-1) := by unfold NumOk; omega
theorem ewz_ok {l g : Int} (h1 : NumOk l) (h2 : NumOk g) : ∀ d ∈ ewz l g, NumOk d ∧ d ≠ 0 := by
  intro d hd
  unfold ewz at hd
  rcases List.mem_append.mp hd with h | h
  · by_cases c : l < 0
    · rw [if_pos c] at h
      simp only [List.mem_cons, List.not_mem_nil, or_false] at h
      rcases h with rfl | rfl
      · exact ⟨h1, by omega⟩
      · exact ⟨mn2_ok h2 mone_ok, by unfold mn2; split <;> omega⟩
    · rw [if_neg c] at h; cases h
  · by_cases c : g > 0
    · rw [if_pos c] at h
      simp only [List.mem_cons, List.not_mem_nil, or_false] at h
      rcases h with rfl | rfl
      · exact ⟨mx2_ok h1 onek, by unfold mx2; split <;> omega⟩
      · exact ⟨h2, by omega⟩
    · rw [if_neg c] at h; cases h
theorem ewz_len (l g : Int) : (ewz l g).length ≤ 4 := by
  unfold ewz
  rw [List.length_append]
  have a : ∀ (c : Prop) [Decidable c] (x y : Int), (if c then [x, y] else []).length ≤ 2 := fun c _ x y => by split <;> simp
  have := a (l < 0) l (mn2 g (-1))
  have := a (g > 0) (mx2 l 1) g
  omega
theorem mul_log {i j : Int} (h1 : NumOk i) (h2 : NumOk j) : CMulW i j := by
  have a := num_log h1
  have b := num_log h2
  show _ + _ < 1000000
  omega
theorem prs_ints (f : V → V → V) (g : Int → Int → Int) (h : ∀ x y, f (.int x) (.int y) = .int (g x y)) (xs ys : List Int) : prs f (xs.map V.int) (ys.map V.int) (xs.map V.int).length = (xs.flatMap fun x => ys.map (g x)).map V.int := by
  rw [prs_all]
  induction xs with
  | nil => rfl
  | cons x r ih =>
    rw [List.map_cons, List.flatMap_cons, List.flatMap_cons, List.map_append, ih]
    congr 1
    rw [List.map_map, List.map_map]
    exact List.map_congr_left fun y _ => h x y
section
variable {P : Program} {w : World} {K : PySem.W.Frag} {mg : Str → Option Value} {base : Heap}
theorem sc_ewz : FnScope ["least", "greatest", "ends"] ["least", "greatest"] (defScope sEndsWithoutZero) := ⟨rfl, rfl, rfl, by decide +kernel, rfl, by decide +kernel, by decide +kernel⟩
theorem ok_ewz {f : Addr} {fd : FuncData} (F : Fun K "ends_without_zero" "ends_without_zero" sEndsWithoutZero f fd) (M : Nm mg) : FnOk P w K mg base CX0 1 f fd ["least", "greatest"] spEwz := by
  refine F.ok sc_ewz (fun vs H Q E h => ?_) (fun cdv A outer s0 H vs Q E hr h => ?_)
  · obtain ⟨l, g, rfl, q⟩ := h
    rfl
  · obtain ⟨l, g, rfl, q⟩ := h
    refine ⟨_, (pss_cons (ps_set (i := 2) sc_ewz.nd rfl (.inl rfl) (pe_lst pa_nil))
      (Evl.pss_cut (ps_if (pt_cmpR op_lt (pv 0) pe_int (nomark _)) (pss_one (ps_expr (pe_bm PySem.F.plainAttrs_list PySem.F.slot_list_extend PySem.F.type_list_extend mt_extend (pv 2) (pa_cons (pe_lst (pa_cons (pv 0) (pa_cons (pe_callB (call_min2 rfl) (by rfl) M.min (by decide +kernel) (pa_cons (pv 1) (pa_cons (pe_un un_neg pe_int) pa_nil))) pa_nil))) pa_nil)))) pss_nil)
      (Evl.pss_cut (ps_if (pt_cmpR op_gt (pv 1) pe_int (nomark _)) (pss_one (ps_expr (pe_bm PySem.F.plainAttrs_list PySem.F.slot_list_extend PySem.F.type_list_extend mt_extend (pv 2) (pa_cons (pe_lst (pa_cons (pe_callB (call_max2 rfl) (by rfl) M.max (by decide +kernel) (pa_cons (pv 0) (pa_cons pe_int pa_nil))) (pa_cons (pv 1) pa_nil))) pa_nil)))) pss_nil)
      (pss_one (ps_ret (pv 2)))))), ?_⟩
    have hz : ∀ n : Nat, n ≤ 100 → n ≤ sizeLine := fun n h => Nat.le_trans h (by decide)
    refine ⟨hz _ (by decide), fun D nD => ?_⟩
    refine ⟨fun σ' H' => σ' = [some (.int l), some (.int g), some (.ref D)] ∧ Same H H' ∧ H' D = some (.lst ((if l < 0 then [l, mn2 g (-1)] else []).map V.int)), ?_, ?_⟩
    · refine ⟨_, rfl, l, 0, rfl, rfl, _, rfl, ?_⟩
      by_cases c : l < 0
      · rw [if_pos c]
        refine iteB (decide_eq_true c) ⟨_, rfl, .inl ⟨rfl, _, .inl (.inl upd_same)⟩, _, rfl, _, rfl, 1, rfl, g, -1, rfl, hz 2 (by decide), fun E nE => ⟨D, E, [], _, rfl, rfl, ?_, upd_same, hz 2 (by decide), rfl, fun a o e => ?_, upd_same⟩⟩
        · rw [upd_ne (fun z => by rw [z, upd_same] at nE; cases nE), upd_same]
        · have h1 : a ≠ D := fun z => by rw [z, nD] at e; cases e
          have h2 : a ≠ E := fun z => by rw [← z, upd_ne h1, e] at nE; cases nE
          rw [upd_ne h1, upd_ne h2, upd_ne h1]
          exact e
      · rw [if_neg c]
        exact iteBF (decide_eq_false c) ⟨rfl, same_new nD, upd_same⟩
    · rintro _ H1 ⟨rfl, s1, e1⟩
      refine ⟨fun σ' H' => σ' = [some (.int l), some (.int g), some (.ref D)] ∧ Same H H' ∧ H' D = some (.lst ((ewz l g).map V.int)), ?_, ?_⟩
      · refine ⟨_, rfl, g, 0, rfl, rfl, _, rfl, ?_⟩
        by_cases c : g > 0
        · have eq : ewz l g = (if l < 0 then [l, mn2 g (-1)] else []) ++ [mx2 l 1, g] := by unfold ewz; rw [if_pos c]
          refine iteB (decide_eq_true c) ⟨_, rfl, .inl ⟨rfl, _, .inl (.inl e1)⟩, _, rfl, l, 1, rfl, _, rfl, hz 2 (by decide), fun E nE => ⟨D, E, (if l < 0 then [l, mn2 g (-1)] else []).map V.int, _, rfl, rfl, ?_, upd_same, ?_, rfl, fun a o e => ?_, ?_⟩⟩
          · rw [upd_ne (fun z => by rw [z, nE] at e1; cases e1), e1]
          · refine hz _ ?_
            rw [List.length_map]
            show (if l < 0 then [l, mn2 g (-1)] else []).length + 2 ≤ 100
            split <;> (show _ + 2 ≤ 100; simp)
          · have h1 : a ≠ D := fun z => by rw [z, nD] at e; cases e
            have h2 : a ≠ E := fun z => by rw [← z, s1 _ _ e] at nE; cases nE
            rw [upd_ne h1, upd_ne h2]
            exact s1 _ _ e
          · rw [upd_same, eq, List.map_append]
            rfl
        · have eq : ewz l g = if l < 0 then [l, mn2 g (-1)] else [] := by unfold ewz; rw [if_neg c, List.append_nil]
          rw [eq]
          exact iteBF (decide_eq_false c) ⟨rfl, s1, e1⟩
      · rintro _ H2 ⟨rfl, s2, e2⟩
        exact ⟨_, rfl, q _ _ s2 nD e2⟩
theorem sc_mul : FnScope ["first", "second", "products", "one", "other"] ["first", "second"] (defScope sMulSpan) := ⟨rfl, rfl, rfl, by decide +kernel, rfl, by decide +kernel, by decide +kernel⟩
theorem ok_mul {f : Addr} {fd : FuncData} (F : Fun K "mul_span" "mul_span" sMulSpan f fd) (M : Nm mg) : FnOk P w K mg base CX0 1 f fd ["first", "second"] (sp2 K isI2 fun s t => raw "mul" [s, t]) := by
  refine F.ok sc_mul (fun vs H Q E h => ?_) (fun cdv A outer s0 H vs Q E hr h => ?_)
  · obtain ⟨_, _, _, _, rfl, ⟨p, rfl, hp⟩, ⟨p2, rfl, hp2⟩, ⟨⟨a, b, m, rfl, ha, hb, hab⟩, ⟨c, e, n, rfl, hc, he, hce⟩⟩, q⟩ := h
    rfl
  · obtain ⟨_, _, _, _, rfl, ⟨p, rfl, hp⟩, ⟨p2, rfl, hp2⟩, ⟨⟨a, b, m, rfl, ha, hb, hab⟩, ⟨c, e, n, rfl, hc, he, hce⟩⟩, q⟩ := h
    refine ⟨_, (Evl.pss_cut (ps_setLc2 (i := 2) (own := [("one", 3), ("other", 4)]) (vs1 := [4]) (g := (gName 3)) (g1 := (gName 4)) (tt := tYes) (tt1 := tYes) rfl sc_mul.nd rfl rfl (sw_true rfl rfl rfl (by decide +kernel)) (pi_tup (pe_slice sl_tupA (pv 0) po_none (po_some pe_int))) (blkOk_by (N := ["first", "second", "products", "one", "other"]) (sc := defScope sMulSpan) (by decide +kernel)) (by decide) (fun _ _ _ _ _ => (pg_name (i := 3) sc_mul.nd rfl (Or.inl rfl))) (fun _ _ _ _ _ => pts_nil) (fun _ _ _ _ _ => (pi_tupK K rfl (pe_slice (sl_tupAK K rfl) (pv 1) po_none (po_some pe_int)))) (fun _ _ _ _ _ => (pg_name (i := 4) sc_mul.nd rfl (Or.inl rfl))) (fun _ _ _ _ _ => pts_nil) (fun _ _ _ _ _ => (pe_op op_mulW (pv 3) (pv 4))))
      (pss_one (ps_ret (pe_tup (pa_cons (pe_callB (cr_minV rfl hr.units) (by rfl) M.min (by decide +kernel) (pa_cons (pv 2) pa_nil)) (pa_cons (pe_callB (cr_maxV rfl hr.units) (by rfl) M.max (by decide +kernel) (pa_cons (pv 2) pa_nil)) (pa_cons pe_bl pa_nil))))))), ?_⟩
    dsimp only at q
    rw [raw_mul] at q
    refine ⟨fun σ' H' => ∃ D, σ' = [some (.ref p), some (.ref p2), some (.ref D), none, none] ∧ Same H H' ∧ H' D = some (.lst (([a * c, a * e, b * c, b * e] : List Int).map V.int)), ?_, ?_⟩
    · refine ⟨_, rfl, 2, rfl, p, _, rfl, hp, (fun z => absurd z.2 (by show ¬ (2 = 3); decide)), fun _ t nt => ⟨t, rfl, ⟨_, .inl (.inl upd_same)⟩, fun D nD => ?_⟩⟩
      have st : Same H (upd H t (.tup (cutV [V.int a, V.int b, V.bl m] none (some 2)))) := same_new nt
      refine prod2 (xs := ([a, b] : List Int).map V.int) (ys := ([c, e] : List Int).map V.int) (f := fun x y => match x, y with | .int i, .int j => .int (i * j) | _, _ => .non) sqi_tup (fun H1 s1 => .inl (.inl (s1 _ _ upd_same))) nD (fun _ => rfl) (fun _ _ => rfl) ?_ ?_ (by show 4 < sizeLine; decide) ?_
      · intro x hx H1 R s1 hD h
        refine ⟨_, rfl, 2, rfl, p2, _, rfl, sqt_same hp2 (fun a o e => s1 _ _ (st _ _ e)), (fun z => absurd z.2 (by show ¬ (2 = 3); decide)), fun _ t2 nt2 => ⟨t2, rfl, ⟨_, .inl (.inl upd_same)⟩, ?_⟩⟩
        refine h _ _ _ sqi_tup (same_new nt2) fun H2 k2 => .inl (.inl (k2 _ _ (fun z => ?_) upd_same))
        obtain ⟨acc, eD⟩ := hD
        rw [z, eD] at nt2
        cases nt2
      · intro x y H1 Q1 hx hy s1 q1
        obtain ⟨i, hi, rfl⟩ := List.mem_map.mp hx
        obtain ⟨j, hj, rfl⟩ := List.mem_map.mp hy
        have ni : NumOk i := by
          simp only [List.mem_cons, List.not_mem_nil, or_false] at hi
          rcases hi with rfl | rfl <;> assumption
        have nj : NumOk j := by
          simp only [List.mem_cons, List.not_mem_nil, or_false] at hj
          rcases hj with rfl | rfl <;> assumption
        exact ⟨_, rfl, _, rfl, i, j, rfl, rfl, mul_log ni nj, q1⟩
      · intro H1 s1 e1
        rw [prs_ints _ (fun i j => i * j) (fun _ _ => rfl)] at e1
        exact ⟨D, rfl, fun a o e => s1 _ _ (st _ _ e), e1⟩
    · rintro _ H1 ⟨D, rfl, s1, e1⟩
      have kk : ∀ y ∈ ([a * c, a * e, b * c, b * e] : List Int).map V.int, OfK .i y := fun y hy => by
        obtain ⟨i, _, rfl⟩ := List.mem_map.mp hy
        exact ⟨i, rfl⟩
      refine ⟨_, rfl, D, .i, _, _, rfl, .inl (.inl e1), kk, _, rfl, D, .i, _, _, rfl, .inl (.inl e1), kk, (by show 3 ≤ sizeLine; decide), fun t nt => ?_⟩
      have m1 := mnV_int [a * e, b * c, b * e] (a * c)
      have m2 := mxV_int [a * e, b * c, b * e] (a * c)
      refine q _ _ (fun a o e => same_new nt _ _ (s1 _ _ e)) ?_
      rw [m1, m2]
      exact SpnAt.new (s := ⟨_, _, _⟩)
theorem sc_div : FnScope ["first", "second", "divisors", "quotients", "end", "divisor"] ["first", "second"] (defScope sDivSpan) := ⟨rfl, rfl, rfl, by decide +kernel, rfl, by decide +kernel, by decide +kernel⟩
theorem ok_div {f : Addr} {fd : FuncData} {kam : Addr} {fZ : Addr} {fdZ : FuncData} (F : Fun K "div_span" "div_span" sDivSpan f fd) (M : Nm mg) (mam : mg "ALWAYS_MISSING" = some (.ref kam)) (ham : ∀ H : Hp, SqT K H kam AM.v) (GZ : FnOk P w K mg base CX0 1 fZ fdZ ["least", "greatest"] spEwz) (kZ : PySem.W.keepIn K (.ref fZ) = true) (bZ : Binds K fdZ ["least", "greatest"] []) (gZ : mg "ends_without_zero" = some (.ref fZ)) : FnOk P w K mg base CX0 2 f fd ["first", "second"] (sp2 K isI2 fun s t => raw "div" [s, t]) := by
  refine F.ok sc_div (fun vs H Q E h => ?_) (fun cdv A outer s0 H vs Q E hr h => ?_)
  · obtain ⟨_, _, _, _, rfl, ⟨p, rfl, hp⟩, ⟨p2, rfl, hp2⟩, ⟨⟨a, b, m, rfl, ha, hb, hab⟩, ⟨c, e, n, rfl, hc, he, hce⟩⟩, q⟩ := h
    rfl
  · obtain ⟨_, _, _, _, rfl, ⟨p, rfl, hp⟩, ⟨p2, rfl, hp2⟩, ⟨⟨a, b, m, rfl, ha, hb, hab⟩, ⟨c, e, n, rfl, hc, he, hce⟩⟩, q⟩ := h
    refine ⟨_, (Evl.pss_cut (ps_set (i := 2) sc_div.nd rfl (.inr rfl) (pe_call GZ hr (by rfl) gZ kZ bZ .nil pass0 (pa_cons (pe_ix ix_tup (pv 1) pe_int (fun _ _ => rfl)) (pa_cons (pe_ix ix_tup (pv 1) pe_int (fun _ _ => rfl)) pa_nil))))
      (Evl.pss_cut (ps_if (pt_not (pt_truth (pv 2) (by intro _; rfl))) (pss_one (ps_ret (pe_glob (v := .ref kam) (by rfl) mam rfl))) pss_nil)
      (Evl.pss_cut (ps_setLc2 (i := 3) (own := [("end", 4), ("divisor", 5)]) (vs1 := [5]) (g := (gName 4)) (g1 := (gName 5)) (tt := tYes) (tt1 := tYes) rfl sc_div.nd rfl rfl (sw_true rfl rfl rfl (by decide +kernel)) (pi_tup (pe_slice sl_tupA (pv 0) po_none (po_some pe_int))) (blkOk_by (N := ["first", "second", "divisors", "quotients", "end", "divisor"]) (sc := defScope sDivSpan) (by decide +kernel)) (by decide) (fun _ _ _ _ _ => (pg_name (i := 4) sc_div.nd rfl (Or.inl rfl))) (fun _ _ _ _ _ => pts_nil) (fun _ _ _ _ _ => (pi_listK K rfl (pv 2))) (fun _ _ _ _ _ => (pg_name (i := 5) sc_div.nd rfl (Or.inl rfl))) (fun _ _ _ _ _ => pts_nil) (fun _ _ _ _ _ => (pe_op op_fdivZ (pv 4) (pv 5))))
      (pss_one (ps_ret (pe_tup (pa_cons (pe_callB (cr_minV rfl hr.units) (by rfl) M.min (by decide +kernel) (pa_cons (pv 3) pa_nil)) (pa_cons (pe_callB (cr_maxV rfl hr.units) (by rfl) M.max (by decide +kernel) (pa_cons (pv 3) pa_nil)) (pa_cons (pe_chain op_le op_le (pe_ix ix_tup (pv 1) pe_int (fun _ _ => rfl)) pe_int (pe_ix ix_tup (pv 1) pe_int (fun _ _ => rfl))) pa_nil))))))))), ?_⟩
    dsimp only at q
    rw [raw_div] at q
    have wl := ewz_len c e
    have wk := ewz_ok hc he
    refine ⟨fun σ' H' => ∃ D, σ' = [some (.ref p), some (.ref p2), some (.ref D), none, none, none] ∧ Same H H' ∧ H' D = some (.lst ((ewz c e).map V.int)), ?_, ?_⟩
    · exact ⟨_, rfl, p2, _, 0, .int c, rfl, rfl, hp2, rfl, _, rfl, p2, _, 1, .int e, rfl, rfl, hp2, rfl, _, _, rfl, fun H1 D s1 _ e1 => ⟨D, rfl, s1, e1⟩⟩
    rintro _ H1 ⟨D, rfl, s1, e1⟩
    refine ⟨fun σ' H' => σ' = [some (.ref p), some (.ref p2), some (.ref D), none, none, none] ∧ H1 = H' ∧ ewz c e ≠ [], ?_, ?_⟩
    · refine ⟨_, rfl, !((ewz c e).map V.int).isEmpty, .inl ⟨_, .inl (.inl e1), rfl⟩, ?_⟩
      by_cases hne : ewz c e = []
      · have qe : divS a b c e = AM := by unfold divS quo; rw [hne]; rfl
        rw [qe] at q
        rw [hne]
        exact iteT (q H1 _ s1 ⟨kam, rfl, ham _⟩)
      · refine iteBF ?_ ⟨rfl, rfl, hne⟩
        cases h : ewz c e with
        | nil => exact absurd h hne
        | cons _ _ => rfl
    rintro _ _ ⟨rfl, rfl, hne⟩
    refine ⟨fun σ' H' => ∃ E, σ' = [some (.ref p), some (.ref p2), some (.ref D), some (.ref E), none, none] ∧ Same H1 H' ∧ H' E = some (.lst ((quo a b (ewz c e)).map V.int)), ?_, ?_⟩
    · refine ⟨_, rfl, 2, rfl, p, _, rfl, sqt_same hp s1, (fun z => absurd z.2 (by show ¬ (2 = 3); decide)), fun _ t nt => ⟨t, rfl, ⟨_, .inl (.inl upd_same)⟩, fun E nE => ?_⟩⟩
      have st : Same H1 (upd H1 t (.tup (cutV [V.int a, V.int b, V.bl m] none (some 2)))) := same_new nt
      have nDE : D ≠ E := fun z => by
        have h1 := st _ _ e1
        rw [z] at h1
        exact nomatch (nE.symm.trans h1)
      refine prod2 (xs := ([a, b] : List Int).map V.int) (ys := (ewz c e).map V.int) (f := fun x y => match x, y with | .int i, .int j => .int (i.fdiv j) | _, _ => .non) sqi_tup (fun H1 s1 => .inl (.inl (s1 _ _ upd_same))) nE (fun _ => rfl) (fun _ _ => rfl) ?_ ?_ ?_ ?_
      · intro x hx H2 R s2 hD h
        exact ⟨_, rfl, D, rfl, ⟨_, .inl (.inl (s2 _ _ (st _ _ e1)))⟩, h _ _ _ sqi_list (fun a o e => e) fun H3 k3 => .inl (.inl (k3 _ _ nDE (s2 _ _ (st _ _ e1))))⟩
      · intro x y H2 Q1 hx hy s2 q1
        obtain ⟨i, hi, rfl⟩ := List.mem_map.mp hx
        obtain ⟨j, hj, rfl⟩ := List.mem_map.mp hy
        have nj := wk j hj
        exact ⟨_, rfl, _, rfl, i, j, rfl, rfl, ⟨nj.2, num_log nj.1⟩, q1⟩
      · rw [List.length_map, List.length_map]
        have : 2 * (ewz c e).length ≤ 8 := by omega
        exact Nat.lt_of_le_of_lt this (by decide)
      · intro H2 s2 e2
        rw [prs_ints _ (fun i j => i.fdiv j) (fun _ _ => rfl)] at e2
        refine ⟨E, rfl, fun a o e => s2 _ _ (st _ _ e), ?_⟩
        rw [e2]
        unfold quo
        simp
    rintro _ H2 ⟨E, rfl, s2, e2⟩
    have ex : ∃ x xs, quo a b (ewz c e) = x :: xs := by
      unfold quo
      cases h : ewz c e with
      | nil => exact absurd h hne
      | cons d r => exact ⟨_, _, rfl⟩
    obtain ⟨x, xs, eq⟩ := ex
    have qe : divS a b c e = ⟨.int (mnL x xs), .int (mxL x xs), decide (c ≤ 0) && decide (0 ≤ e)⟩ := by unfold divS; rw [eq]
    rw [qe] at q
    rw [eq] at e2
    have kk : ∀ y ∈ (x :: xs).map V.int, OfK .i y := fun y hy => by
      obtain ⟨i, _, rfl⟩ := List.mem_map.mp hy
      exact ⟨i, rfl⟩
    have m1 := mnV_int xs x
    have m2 := mxV_int xs x
    have hq : Same H H2 := fun a o e => s2 _ _ (s1 _ _ e)
    have hp3 : SqT K H2 p2 (Spn.v ⟨.int c, .int e, n⟩) := sqt_same hp2 hq
    refine ⟨_, rfl, E, .i, _, _, rfl, .inl (.inl e2), kk, _, rfl, E, .i, _, _, rfl, .inl (.inl e2), kk, _, rfl, p2, _, 0, .int c, rfl, rfl, hp3, rfl, c, 0, rfl, rfl, _, rfl, ?_⟩
    have fin : ∀ (bo : Bool), bo = (decide (c ≤ 0) && decide (0 ≤ e)) → ∀ t, H2 t = none → Q (.ref t) (upd H2 t (.tup [mnV (.int x) (xs.map V.int), mxV (.int x) (xs.map V.int), .bl bo])) := fun bo eb t nt => by
      rw [m1, m2]
      rw [← eb] at q
      exact q _ _ (fun a o e => same_new nt _ _ (hq _ _ e)) (SpnAt.new (s := ⟨_, _, _⟩))
    by_cases c1 : c ≤ 0
    · exact iteB (decide_eq_true c1) ⟨_, rfl, p2, _, 1, .int e, rfl, rfl, hp3, rfl, 0, e, rfl, rfl, (by show 3 ≤ sizeLine; decide), fun t nt => fin _ (by rw [decide_eq_true c1, Bool.true_and]) t nt⟩
    · exact iteBF (decide_eq_false c1) ⟨(by show 3 ≤ sizeLine; decide), fun t nt => fin _ (by rw [decide_eq_false c1, Bool.false_and]) t nt⟩
end
end K2

namespace K2
open PySem L2
/-! ### one list beside another -/
inductive F2 {α : Type} (R : V → α → Prop) : List V → List α → Prop
  | nil : F2 R [] []
  | cons {x : V} {s : α} {xs : List V} {ss : List α} : R x s → F2 R xs ss → F2 R (x :: xs) (s :: ss)
theorem F2.len {α : Type} {R : V → α → Prop} : ∀ {xs : List V} {ss : List α}, F2 R xs ss → xs.length = ss.length
  | _, _, .nil => rfl
  | _, _, .cons _ t => by rw [List.length_cons, List.length_cons, t.len]
theorem F2.imp {α : Type} {R R' : V → α → Prop} (h : ∀ x s, R x s → R' x s) : ∀ {xs : List V} {ss : List α}, F2 R xs ss → F2 R' xs ss
  | _, _, .nil => .nil
  | _, _, .cons a t => .cons (h _ _ a) (t.imp h)
theorem F2.snoc {α : Type} {R : V → α → Prop} {y : V} {s : α} (h : R y s) : ∀ {xs : List V} {ss : List α}, F2 R xs ss → F2 R (xs ++ [y]) (ss ++ [s])
  | _, _, .nil => .cons h .nil
  | _, _, .cons a t => .cons a (t.snoc h)
theorem F2.get {α : Type} {R : V → α → Prop} : ∀ {xs : List V} {ss : List α} {i : Nat} {x : V} {s : α}, F2 R xs ss → xs[i]? = some x → ss[i]? = some s → R x s
  | _, _, 0, _, _, .cons a t, h, g => by cases h; cases g; exact a
  | _, _, i + 1, _, _, .cons a t, h, g => F2.get (i := i) t h g
theorem F2.eq {α : Type} {f : α → V} : ∀ {xs : List V} {ss : List α}, F2 (fun y s => y = f s) xs ss → xs = ss.map f
  | _, _, .nil => rfl
  | _, _, .cons a t => by rw [a, t.eq]; rfl
theorem F2.of_map {α : Type} {R : V → α → Prop} {f : α → V} : ∀ {ss : List α}, (∀ s ∈ ss, R (f s) s) → F2 R (ss.map f) ss
  | [], _ => .nil
  | _ :: _, h => .cons (h _ List.mem_cons_self) (F2.of_map fun s hs => h s (List.mem_cons_of_mem _ hs))
def tru1 {α : Type} : α → Bool := fun _ => true
theorem filter_tru {α : Type} (ss : List α) : ss.filter tru1 = ss := List.filter_eq_self.mpr fun _ _ => rfl
theorem lcF {α : Type} {J : It} {xs : List V} {G : Hp → Prop} {g : TG} {tt : TT} {te : TE} {D : Addr} {vs : List Nat} {σ : St} {H0 : Hp} {Qd : Hp → Prop} (S : SqI J xs G) (hG : ∀ H, Same H0 H → G H) (nD : H0 D = none)
    (ss : List α) (hl : xs.length = ss.length) (p : α → Bool) (R : Hp → V → α → Prop) (hR : ∀ H H' y s l, R H y s → H D = some (.lst l) → (∀ a o, a ≠ D → H a = some o → H' a = some o) → R H' y s)
    (hs : ∀ (i : Nat) (x : V) (s : α) (H : Hp), xs[i]? = some x → ss[i]? = some s → Same H0 H → ∀ Qs : V → Hp → Prop, ∀ Qn : Hp → Prop, (p s = true → ∀ H' y, Same H H' → R H' y s → Qs y H') → (p s = false → ∀ H', Same H H' → Qn H') → g x (wipe σ vs) H fun σ2 H2 => wipe σ2 vs = wipe σ vs ∧ tt σ2 H2 fun b H3 => if b = true then te σ2 H3 Qs else Qn H3)
    (hz : ss.length < sizeLine) (hd : ∀ H ys, Same H0 H → H D = some (.lst ys) → F2 (R H) ys (ss.filter p) → Qd H) :
    ∃ W : Nat → Nat → Hp → Prop, (∃ m, W 0 m (upd H0 D (.lst []))) ∧ ∀ i m H, W i m H →
      (J.stop i H ∧ Qd H) ∨ (J.go i H ∧ ∃ Nx : Hp → Prop, (∀ H', Nx H' → ∃ m', m' < m ∧ W (i + 1) m' H') ∧ ∀ x H', J.yld i H x H' → g x (wipe σ vs) H' fun σ2 H2 => wipe σ2 vs = wipe σ vs ∧ tt σ2 H2 fun b H3 =>
        if b = true then te σ2 H3 fun y H4 => ∃ acc, H4 D = some (.lst acc) ∧ acc.length < sizeLine ∧ Nx (upd H4 D (.lst (acc ++ [y]))) else Nx H3) := by
  have nn : ∀ {H : Hp}, Same H0 H → ∀ o, Same H0 (upd H D o) := fun s o a o2 e => by
    rw [upd_ne (fun z => by rw [z, nD] at e; cases e)]
    exact s a o2 e
  refine ⟨fun i m H => m = xs.length - i ∧ i ≤ xs.length ∧ Same H0 H ∧ ∃ ys, H D = some (.lst ys) ∧ F2 (R H) ys ((ss.take i).filter p), ⟨xs.length, by simp, Nat.zero_le _, same_new nD, [], upd_same, .nil⟩, ?_⟩
  rintro i m H ⟨rfl, hi, s0, ys, eD, hy⟩
  obtain ⟨a, b, c⟩ := S i H (hG H s0)
  by_cases hlt : i < xs.length
  · refine .inr ⟨b hlt, fun H' => Same H0 H' ∧ ∃ ys, H' D = some (.lst ys) ∧ F2 (R H') ys ((ss.take (i + 1)).filter p), fun H' p' => ⟨xs.length - (i + 1), by omega, rfl, hlt, p'⟩, fun x H' yy => ?_⟩
    obtain ⟨e, hx⟩ := c x H' yy
    subst e
    have hsx : ss[i]? = some ss[i] := by simp
    have et : ss.take (i + 1) = ss.take i ++ [ss[i]] := by rw [List.take_add_one, hsx]; rfl
    refine hs i x _ _ hx hsx s0 _ _ (fun hp H2 y s2 ry => ⟨ys, s2 _ _ eD, ?_, nn (fun a o e => s2 _ _ (s0 _ _ e)) _, ys ++ [y], upd_same, ?_⟩) (fun hp H2 s2 => ⟨fun a o e => s2 _ _ (s0 _ _ e), ys, s2 _ _ eD, ?_⟩)
    · rw [hy.len]
      refine Nat.lt_of_le_of_lt (Nat.le_trans (List.length_filter_le _ _) ?_) hz
      rw [List.length_take]
      exact Nat.min_le_right _ _
    · rw [et, List.filter_append]
      have e1 : [ss[i]].filter p = [ss[i]] := by rw [List.filter_cons, if_pos hp]; rfl
      rw [e1]
      have ku : ∀ a o, a ≠ D → H2 a = some o → (upd H2 D (.lst (ys ++ [y]))) a = some o := fun a o h e => by rw [upd_ne h]; exact e
      exact F2.snoc (hR _ _ _ _ _ ry (s2 _ _ eD) ku) (hy.imp fun z t r => hR _ _ _ _ _ (hR _ _ _ _ _ r eD (fun a o _ e => s2 _ _ e)) (s2 _ _ eD) ku)
    · rw [et, List.filter_append]
      have e1 : [ss[i]].filter p = [] := by rw [List.filter_cons, if_neg (by rw [hp]; decide)]; rfl
      rw [e1, List.append_nil]
      exact hy.imp fun z t r => hR _ _ _ _ _ r eD (fun a o _ e => s2 _ _ e)
  · have e : i = xs.length := by omega
    subst e
    refine .inl ⟨a (Nat.le_refl _), hd H ys s0 eD ?_⟩
    rw [hl, List.take_length] at hy
    exact hy
theorem SpnAt.but {K : PySem.W.Frag} {H H' : Hp} {D : Addr} {y : V} {s : Spn} {l : List V} (h : SpnAt K H y s) (eD : H D = some (.lst l)) (k : ∀ a o, a ≠ D → H a = some o → H' a = some o) : SpnAt K H' y s := by
  obtain ⟨p, rfl, h⟩ := h
  refine ⟨p, rfl, ?_⟩
  rcases h with (h | ⟨o, h⟩) | h
  · exact .inl (.inl (k _ _ (fun z => by rw [z, eD] at h; cases h) h))
  · exact .inl (.inr ⟨o, k _ _ (fun z => by rw [z, eD] at h; cases h) h⟩)
  · exact .inr h
end K2

namespace K2
open PySem L2
def spHold (K : PySem.W.Frag) : Sp := fun vs H Q _ => ∃ (a : Addr) (xs : List V) (ss : List Spn) (k : Kd), vs = [.ref a] ∧ H a = some (.lst xs) ∧ F2 (SpnAt K H) xs ss ∧ (∀ s ∈ ss, OkS k s) ∧ ss.length ≤ 100 ∧ ∀ H' r, Same H H' → SpnAt K H' r (hold ss) → Q r H'
theorem hold_ok {k : Kd} {ss : List Spn} (h : ∀ s ∈ ss, OkS k s) : ∀ s ∈ ss.filter has, OkE k s.a ∧ OkE k s.b := fun s hs => by
  obtain ⟨h1, h2⟩ := List.mem_filter.mp hs
  obtain ⟨a, b, _⟩ := (h s h1).ends_of h2
  exact ⟨a, b⟩
theorem yesT {σ : St} {H : Hp} {te : TE} {Qs : VK} {Qn : Hp → Prop} (h : te σ H Qs) : tYes σ H fun b H3 => if b = true then te σ H3 Qs else Qn H3 := by
  dsimp only [tYes]
  rw [if_pos rfl]
  exact h
theorem same_refl {H : Hp} : Same H H := fun _ _ e => e
theorem same_trans {A B C : Hp} (x : Same A B) (y : Same B C) : Same A C := fun a o e => y _ _ (x _ _ e)
section
variable {P : Program} {w : World} {K : PySem.W.Frag} {mg : Str → Option Value} {base : Heap}
theorem sc_hold : FnScope ["spans", "ends", "missing", "span"] ["spans"] (defScope sHolding) := ⟨rfl, rfl, rfl, by decide +kernel, rfl, by decide +kernel, by decide +kernel⟩
theorem ok_hold {f : Addr} {fd : FuncData} {kam : Addr} {fE : Addr} {fdE : FuncData} (F : Fun K "holding" "holding" sHolding f fd) (M : Nm mg) (hany : mg "any" = none) (mam : mg "ALWAYS_MISSING" = some (.ref kam)) (ham : ∀ H : Hp, SqT K H kam AM.v) (GE : FnOk P w K mg base CX0 1 fE fdE ["span"] (spHas K)) (kE : PySem.W.keepIn K (.ref fE) = true) (bE : Binds K fdE ["span"] []) (gE : mg "has_ends" = some (.ref fE)) : FnOk P w K mg base CX0 2 f fd ["spans"] (spHold K) := by
  refine F.ok sc_hold (fun vs H Q E h => ?_) (fun cdv A outer s0 H vs Q E hr h => ?_)
  · obtain ⟨a, xs, ss, k, rfl, ha, hx, hk, hl, q⟩ := h
    rfl
  · obtain ⟨a, xs, ss, k, rfl, ha, hx, hk, hl, q⟩ := h
    refine ⟨_, (Evl.pss_cut (ps_setLc (i := 1) (own := [("span", 3)]) (g := (gName 3)) rfl sc_hold.nd rfl rfl (sw_true rfl rfl rfl (by decide +kernel)) (pi_list (pv 0)) (blkOk_by (N := ["spans", "ends", "missing", "span"]) (sc := defScope sHolding) (by decide +kernel)) (fun _ _ _ _ _ => (pg_name (i := 3) sc_hold.nd rfl (Or.inl rfl))) (fun _ _ _ _ _ => (pts_one (pt_val (pe_call GE hr (by rfl) gE kE bE .nil pass0 (pa_cons (pv 3) pa_nil))))) (fun _ _ _ _ _ => (pv 3)))
      (Evl.pss_cut (ps_if (pt_not (pt_truth (pv 1) (by intro _; rfl))) (pss_one (ps_ret (pe_glob (v := .ref kam) (by rfl) mam rfl))) pss_nil)
      (Evl.pss_cut (ps_set (i := 2) sc_hold.nd rfl (.inl rfl) (pe_callB (cr_any rfl) (by rfl) hany (by decide +kernel) (pa_cons (pe_lc (own := [("span", 3)]) (g := (gName 3)) (tt := tYes) rfl sc_hold.nd (pi_list (pv 0)) (blkOk_by (N := ["spans", "ends", "missing", "span"]) (sc := defScope sHolding) (by decide +kernel)) (fun _ _ _ _ _ => (pg_name (i := 3) sc_hold.nd rfl (Or.inl rfl))) (fun _ _ _ _ _ => pts_nil) (fun _ _ _ _ _ => (pe_ix (ix_tupK K rfl) (pv 3) pe_int (fun _ _ => rfl)))) pa_nil)))
      (pss_one (ps_ret (pe_tup (pa_cons (pe_callB (cr_minV rfl hr.units) (by rfl) M.min (by decide +kernel) (pa_cons (pe_lc (own := [("span", 3)]) (g := (gName 3)) (tt := tYes) rfl sc_hold.nd (pi_list (pv 1)) (blkOk_by (N := ["spans", "ends", "missing", "span"]) (sc := defScope sHolding) (by decide +kernel)) (fun _ _ _ _ _ => (pg_name (i := 3) sc_hold.nd rfl (Or.inl rfl))) (fun _ _ _ _ _ => pts_nil) (fun _ _ _ _ _ => (pe_ix (ix_tupK K rfl) (pv 3) pe_int (fun _ _ => rfl)))) pa_nil)) (pa_cons (pe_callB (cr_maxV rfl hr.units) (by rfl) M.max (by decide +kernel) (pa_cons (pe_lc (own := [("span", 3)]) (g := (gName 3)) (tt := tYes) rfl sc_hold.nd (pi_list (pv 1)) (blkOk_by (N := ["spans", "ends", "missing", "span"]) (sc := defScope sHolding) (by decide +kernel)) (fun _ _ _ _ _ => (pg_name (i := 3) sc_hold.nd rfl (Or.inl rfl))) (fun _ _ _ _ _ => pts_nil) (fun _ _ _ _ _ => (pe_ix (ix_tupK K rfl) (pv 3) pe_int (fun _ _ => rfl)))) pa_nil)) (pa_cons (pv 2) pa_nil))))))))), ?_⟩
    have hz : ss.length < sizeLine := Nat.lt_of_le_of_lt hl (by decide)
    have hkk := hold_ok hk
    have hl2 : (ss.filter has).length < sizeLine := Nat.lt_of_le_of_lt (List.length_filter_le _ _) hz
    refine ⟨fun σ' H' => ∃ D ys, σ' = [some (.ref a), some (.ref D), none, none] ∧ Same H H' ∧ H' D = some (.lst ys) ∧ F2 (SpnAt K H') ys (ss.filter has), ?_, ?_⟩
    · refine ⟨_, rfl, a, rfl, ⟨_, .inl (.inl ha)⟩, fun D nD => ?_⟩
      refine lcF sqi_list (fun H1 s1 => .inl (.inl (s1 _ _ ha))) nD ss hx.len has (fun H y s => SpnAt K H y s) (fun H H' y s l r e1 e2 => r.but e1 e2) (fun i x s H1 hi hs s1 Qs Qn q1 q2 => ?_) hz (fun H1 ys s1 e1 f1 => ⟨D, ys, rfl, s1, e1, f1⟩)
      have hsp : SpnAt K H1 x s := (hx.get hi hs).same s1
      refine ⟨rfl, _, rfl, _, s, rfl, hsp, _, rfl, ?_⟩
      by_cases e : has s = true
      · exact iteB e ⟨_, rfl, q1 e H1 _ same_refl hsp⟩
      · have e := Bool.eq_false_iff.mpr e
        exact iteBF e (q2 e H1 same_refl)
    rintro _ H1 ⟨D, ys, rfl, s1, e1, f1⟩
    refine ⟨fun σ' H' => σ' = [some (.ref a), some (.ref D), none, none] ∧ H1 = H' ∧ ss.filter has ≠ [], ?_, ?_⟩
    · refine ⟨_, rfl, !ys.isEmpty, .inl ⟨_, .inl (.inl e1), rfl⟩, ?_⟩
      by_cases hne : ss.filter has = []
      · have qe : hold ss = AM := by unfold hold; rw [hne]
        rw [qe] at q
        rw [hne] at f1
        cases f1
        exact iteT (q H1 _ s1 ⟨kam, rfl, ham _⟩)
      · refine iteBF ?_ ⟨rfl, rfl, hne⟩
        generalize ss.filter has = fs at f1 hne
        cases f1 with
        | nil => exact absurd rfl hne
        | cons _ _ => rfl
    rintro _ _ ⟨rfl, rfl, hne⟩
    refine ⟨fun σ' H' => σ' = [some (.ref a), some (.ref D), some (.bl (ss.any (·.m))), none] ∧ Same H1 H', ?_, ?_⟩
    · refine ⟨_, rfl, a, rfl, ⟨_, .inl (.inl (s1 _ _ ha))⟩, fun E nE => ?_⟩
      refine lcF sqi_list (fun H2 s2 => .inl (.inl (s2 _ _ (s1 _ _ ha)))) nE ss hx.len tru1 (fun _ y s => y = .bl s.m) (fun _ _ _ _ _ r _ _ => r) (fun i x s H2 hi hs s2 Qs Qn q1 q2 => ?_) hz (fun H2 zs s2 e2 f2 => ?_)
      · obtain ⟨p, rfl, hp⟩ := ((hx.get hi hs).same s1).same s2
        exact ⟨rfl, yesT ⟨_, rfl, p, _, 2, .bl s.m, rfl, rfl, hp, rfl, q1 rfl H2 _ same_refl rfl⟩⟩
      · rw [filter_tru] at f2
        have ez : zs = (ss.map (·.m)).map V.bl := by rw [f2.eq, List.map_map]; rfl
        refine ⟨E, ss.map (·.m), rfl, .inl (.inl (by rw [e2, ez])), ?_⟩
        have ea : (ss.map (·.m)).any id = ss.any (·.m) := by rw [List.any_map]; rfl
        rw [ea]
        exact ⟨rfl, s2⟩
    rintro _ H2 ⟨rfl, s2⟩
    obtain ⟨s, r, er⟩ : ∃ s r, ss.filter has = s :: r := by
      cases h : ss.filter has with
      | nil => exact absurd h hne
      | cons s r => exact ⟨s, r, rfl⟩
    have qe : hold ss = ⟨mnV s.a (r.map (·.a)), mxV s.b (r.map (·.b)), ss.any (·.m)⟩ := by unfold hold; rw [er]
    rw [qe] at q
    have f2 : F2 (SpnAt K H2) ys (ss.filter has) := f1.imp fun _ _ h => h.same s2
    have e2 := s2 _ _ e1
    refine ⟨_, rfl, D, rfl, ⟨_, .inl (.inl e2)⟩, fun E nE => ?_⟩
    refine lcF sqi_list (fun H3 s3 => .inl (.inl (s3 _ _ e2))) nE (ss.filter has) f2.len tru1 (fun _ y s => y = s.a) (fun _ _ _ _ _ r _ _ => r) (fun i x t H3 hi hs s3 Qs Qn q1 q2 => ?_) hl2 (fun H3 zs s3 e3 f3 => ?_)
    · obtain ⟨p, rfl, hp⟩ := (f2.get hi hs).same s3
      exact ⟨rfl, yesT ⟨_, rfl, p, _, 0, t.a, rfl, rfl, hp, rfl, q1 rfl H3 _ same_refl rfl⟩⟩
    rw [filter_tru] at f3
    have ez : zs = s.a :: r.map (·.a) := by rw [f3.eq, er]; rfl
    rw [ez] at e3
    refine ⟨E, k, s.a, r.map (·.a), rfl, .inl (.inl e3), fun y hy => ?_, ?_⟩
    · have hy2 : y ∈ (ss.filter has).map (·.a) := by rw [er]; exact hy
      obtain ⟨t, ht, rfl⟩ := List.mem_map.mp hy2
      exact (hkk t ht).1.1
    have e4 := s3 _ _ e2
    have f4 : F2 (SpnAt K H3) ys (ss.filter has) := f2.imp fun _ _ h => h.same s3
    refine ⟨_, rfl, D, rfl, ⟨_, .inl (.inl e4)⟩, fun G nG => ?_⟩
    refine lcF sqi_list (fun H5 s5 => .inl (.inl (s5 _ _ e4))) nG (ss.filter has) f4.len tru1 (fun _ y s => y = s.b) (fun _ _ _ _ _ r _ _ => r) (fun i x t H5 hi hs s5 Qs Qn q1 q2 => ?_) hl2 (fun H5 zs s5 e5 f5 => ?_)
    · obtain ⟨p, rfl, hp⟩ := (f4.get hi hs).same s5
      exact ⟨rfl, yesT ⟨_, rfl, p, _, 1, t.b, rfl, rfl, hp, rfl, q1 rfl H5 _ same_refl rfl⟩⟩
    rw [filter_tru] at f5
    have ez : zs = s.b :: r.map (·.b) := by rw [f5.eq, er]; rfl
    rw [ez] at e5
    refine ⟨G, k, s.b, r.map (·.b), rfl, .inl (.inl e5), fun y hy => ?_, ?_⟩
    · have hy2 : y ∈ (ss.filter has).map (·.b) := by rw [er]; exact hy
      obtain ⟨t, ht, rfl⟩ := List.mem_map.mp hy2
      exact (hkk t ht).2.1
    refine ⟨_, rfl, (by show 3 ≤ sizeLine; decide), fun t nt => ?_⟩
    exact q _ _ (same_trans (same_trans s1 (same_trans s2 (same_trans s3 s5))) (same_new nt)) (SpnAt.new (s := ⟨_, _, _⟩))
end
end K2

namespace K2
open PySem L2
theorem ob_ok2 (o : Option Bool) : ob o = .non ∨ ∃ q, OkE q (ob o) := by
  cases o with
  | none => exact .inl rfl
  | some b => exact .inr ⟨.f, ⟨b, rfl⟩, rfl⟩
theorem free_of {H H1 : Hp} {D : Addr} (s : Same H H1) (n : H1 D = none) : H D = none := by
  cases h : H D with
  | none => rfl
  | some o => rw [s _ _ h] at n; cases n
theorem tru_len (s : Spn) : (tru s).length ≤ 3 := List.length_filter_le _ _
theorem spv_ok (o : Option Bool) : OkS .f (spv (ob o)) := by
  cases o with
  | none => exact .am
  | some b =>
    refine .ends ⟨⟨b, rfl⟩, rfl⟩ ⟨⟨b, rfl⟩, rfl⟩ ?_
    cases b <;> rfl
theorem F2.map {α β : Type} {R : V → β → Prop} {f : α → β} : ∀ {xs : List V} {ss : List α}, F2 (fun x s => R x (f s)) xs ss → F2 R xs (ss.map f)
  | _, _, .nil => .nil
  | _, _, .cons a t => .cons a t.map
theorem prs_obs (f : V → V → V) (g : Option Bool → Option Bool → Option Bool) (h : ∀ x y, f (ob x) (ob y) = ob (g x y)) (xs ys : List (Option Bool)) : prs f (xs.map ob) (ys.map ob) (xs.map ob).length = (xs.flatMap fun x => ys.map (g x)).map ob := by
  rw [prs_all]
  induction xs with
  | nil => rfl
  | cons x r ih =>
    rw [List.map_cons, List.flatMap_cons, List.flatMap_cons, List.map_append, ih]
    congr 1
    rw [List.map_map, List.map_map]
    exact List.map_congr_left fun y _ => h x y
def bo : V → Option Bool
  | .bl b => some b
  | _ => none
theorem bo_ob (o : Option Bool) : bo (ob o) = o := by cases o <;> rfl
theorem fm_len {α β : Type} (f : α → List β) (n : Nat) : ∀ xs : List α, (∀ x ∈ xs, (f x).length ≤ n) → (xs.flatMap f).length ≤ xs.length * n
  | [], _ => Nat.zero_le _
  | x :: r, h => by
    have := fm_len f n r fun y hy => h y (List.mem_cons_of_mem _ hy)
    have h2 := h x List.mem_cons_self
    rw [List.flatMap_cons, List.length_append, List.length_cons, Nat.add_mul, Nat.one_mul]
    omega
def spTru (K : PySem.W.Frag) : Sp := fun vs H Q _ => ∃ x s, vs = [x] ∧ SpnAt K H x s ∧ OkS .f s ∧ ∀ H' p, Same H H' → H p = none → H' p = some (.lst ((tru s).map ob)) → Q (.ref p) H'
def spSor (K : PySem.W.Frag) : Sp := fun vs H Q _ => ∃ (a : Addr) (os : List (Option Bool)), vs = [.ref a] ∧ H a = some (.lst (os.map ob)) ∧ os.length ≤ 9 ∧ ∀ H' r, Same H H' → SpnAt K H' r (sor os) → Q r H'
def spIf (K : PySem.W.Frag) : Sp := fun vs H Q _ => ∃ x c y s z t k, vs = [x, y, z] ∧ SpnAt K H x c ∧ SpnAt K H y s ∧ SpnAt K H z t ∧ OkS .f c ∧ OkS k s ∧ OkS k t ∧ ∀ H' r, Same H H' → SpnAt K H' r (jL "if" [c, s, t]) → Q r H'
theorem jL_2 (w : Str) (s t : Spn) : jL w [s, t] = if w = "and" then sor ((tru s).flatMap fun x => (tru t).map fun y => and3 x y) else if w = "or" then sor ((tru s).flatMap fun x => (tru t).map fun y => or3 x y) else if s.m = true then ⟨(hold [s, t]).a, (hold [s, t]).b, t.m⟩ else s := rfl
def isF2 (s t : Spn) : Prop := OkS .f s ∧ OkS .f t
def isK2 (s t : Spn) : Prop := ∃ k, OkS k s ∧ OkS k t
section
variable {P : Program} {w : World} {K : PySem.W.Frag} {mg : Str → Option Value} {base : Heap}
theorem sc_tru : FnScope ["span", "truth"] ["span"] (defScope sTruthsIn) := ⟨rfl, rfl, rfl, by decide +kernel, rfl, by decide +kernel, by decide +kernel⟩
theorem ok_tru {f : Addr} {fd : FuncData} {fA : Addr} {fdA : FuncData} (F : Fun K "truths_in" "truths_in" sTruthsIn f fd) (GA : FnOk P w K mg base CX0 4 fA fdA ["span", "value"] (spAlw K)) (kA : PySem.W.keepIn K (.ref fA) = true) (bA : Binds K fdA ["span", "value"] []) (gA : mg "allows" = some (.ref fA)) : FnOk P w K mg base CX0 5 f fd ["span"] (spTru K) := by
  refine F.ok sc_tru (fun vs H Q E h => ?_) (fun cdv A outer s0 H vs Q E hr h => ?_)
  · obtain ⟨_, s, rfl, hs, hk, q⟩ := h
    rfl
  · obtain ⟨_, s, rfl, hs, hk, q⟩ := h
    refine ⟨_, (pss_one (ps_ret (pe_lc (own := [("truth", 1)]) (g := (gName 1)) rfl sc_tru.nd (pi_tup (pe_tup (pa_cons pe_bl (pa_cons pe_bl (pa_cons pe_non pa_nil))))) (blkOk_by (N := ["span", "truth"]) (sc := defScope sTruthsIn) (by decide +kernel)) (fun _ _ _ _ _ => (pg_name (i := 1) sc_tru.nd rfl (Or.inl rfl))) (fun _ _ _ _ _ => (pts_one (pt_val (pe_call GA (hr.mono (by decide)) (by rfl) gA kA bA .nil pass0 (pa_cons (pv 0) (pa_cons (pv 1) pa_nil)))))) (fun _ _ _ _ _ => (pv 1))))), ?_⟩
    refine ⟨(by show 3 ≤ sizeLine; decide), fun t nt => ⟨t, rfl, ⟨_, .inl (.inl upd_same)⟩, fun D nD => ?_⟩⟩
    have st : Same H (upd H t (.tup [.bl false, .bl true, .non])) := same_new nt
    refine lcF sqi_tup (fun H1 s1 => .inl (.inl (s1 _ _ upd_same))) nD OB3 rfl (fun o => alw s (ob o)) (fun _ y o => y = ob o) (fun _ _ _ _ _ r _ _ => r) (fun i x o H1 hi ho s1 Qs Qn q1 q2 => ?_) (by show 3 < sizeLine; decide) (fun H1 ys s1 e1 f1 => ?_)
    · have ex : x = ob o := (F2.of_map (f := ob) (ss := OB3) (R := fun y o => y = ob o) fun _ _ => rfl).get hi ho
      subst ex
      refine ⟨rfl, _, rfl, _, rfl, _, ob o, s, .f, rfl, (hs.same st).same s1, hk, ob_ok2 o, fun H2 s2 => ⟨_, rfl, ?_⟩⟩
      by_cases e : alw s (ob o) = true
      · exact iteB e ⟨_, rfl, q1 e H2 _ s2 rfl⟩
      · have e := Bool.eq_false_iff.mpr e
        exact iteBF e (q2 e H2 s2)
    · rw [f1.eq] at e1
      exact q _ _ (same_trans st s1) (free_of st nD) e1
theorem sc_sor : FnScope ["truths", "truth"] ["truths"] (defScope sSpanOfResults) := ⟨rfl, rfl, rfl, by decide +kernel, rfl, by decide +kernel, by decide +kernel⟩
theorem ok_sor {f : Addr} {fd : FuncData} {fO fV : Addr} {fdO fdV : FuncData} (F : Fun K "span_of_results" "span_of_results" sSpanOfResults f fd) (GO : FnOk P w K mg base CX0 2 fO fdO ["spans"] (spHold K)) (kO : PySem.W.keepIn K (.ref fO) = true) (bO : Binds K fdO ["spans"] []) (gO : mg "holding" = some (.ref fO)) (GV : FnOk P w K mg base CX0 1 fV fdV ["value"] (spSpv K)) (kV : PySem.W.keepIn K (.ref fV) = true) (bV : Binds K fdV ["value"] []) (gV : mg "span_of_value" = some (.ref fV)) : FnOk P w K mg base CX0 3 f fd ["truths"] (spSor K) := by
  refine F.ok sc_sor (fun vs H Q E h => ?_) (fun cdv A outer s0 H vs Q E hr h => ?_)
  · obtain ⟨a, os, rfl, ha, hl, q⟩ := h
    rfl
  · obtain ⟨a, os, rfl, ha, hl, q⟩ := h
    refine ⟨_, (pss_one (ps_ret (pe_call GO (hr.mono (by decide)) (by rfl) gO kO bO .nil pass0 (pa_cons (pe_lc (own := [("truth", 1)]) (g := (gName 1)) (tt := tYes) rfl sc_sor.nd (pi_list (pv 0)) (blkOk_by (N := ["truths", "truth"]) (sc := defScope sSpanOfResults) (by decide +kernel)) (fun _ _ _ _ _ => (pg_name (i := 1) sc_sor.nd rfl (Or.inl rfl))) (fun _ _ _ _ _ => pts_nil) (fun _ _ _ _ _ => (pe_call GV (hr.mono (by decide)) (by rfl) gV kV bV .nil pass0 (pa_cons (pv 1) pa_nil)))) pa_nil)))), ?_⟩
    refine ⟨_, rfl, a, rfl, ⟨_, .inl (.inl ha)⟩, fun D nD => ?_⟩
    refine lcF sqi_list (fun H1 s1 => .inl (.inl (s1 _ _ ha))) nD os (List.length_map ..) tru1 (fun H y o => SpnAt K H y (spv (ob o))) (fun H H' y s l r e1 e2 => r.but e1 e2) (fun i x o H1 hi ho s1 Qs Qn q1 q2 => ?_) (Nat.lt_of_le_of_lt hl (by decide)) (fun H1 ys s1 e1 f1 => ?_)
    · have ex : x = ob o := (F2.of_map (f := ob) (ss := os) (R := fun y o => y = ob o) fun _ _ => rfl).get hi ho
      subst ex
      exact ⟨rfl, yesT ⟨_, rfl, ob o, rfl, fun H2 r s2 h => q1 rfl H2 _ s2 h⟩⟩
    · rw [filter_tru] at f1
      refine ⟨D, ys, os.map (fun o => spv (ob o)), .f, rfl, e1, f1.map, fun s hs => ?_, ?_, fun H2 r s2 h => q H2 r (same_trans s1 s2) h⟩
      · obtain ⟨o, _, rfl⟩ := List.mem_map.mp hs
        exact spv_ok o
      · rw [List.length_map]
        omega
theorem sc_andS : FnScope ["first", "second", "one", "other"] ["first", "second"] (defScope sAndSpan) := ⟨rfl, rfl, rfl, by decide +kernel, rfl, by decide +kernel, by decide +kernel⟩
theorem ok_andS {f : Addr} {fd : FuncData} {fR fT fB : Addr} {fdR fdT fdB : FuncData} (F : Fun K "and_span" "and_span" sAndSpan f fd) (GR : FnOk P w K mg base CX0 3 fR fdR ["truths"] (spSor K)) (kR : PySem.W.keepIn K (.ref fR) = true) (bR : Binds K fdR ["truths"] []) (gR : mg "span_of_results" = some (.ref fR)) (GT : FnOk P w K mg base CX0 5 fT fdT ["span"] (spTru K)) (kT : PySem.W.keepIn K (.ref fT) = true) (bT : Binds K fdT ["span"] []) (gT : mg "truths_in" = some (.ref fT)) (GB : FnOk P w K mg base CX0 1 fB fdB ["first", "second"] spBoth) (kB : PySem.W.keepIn K (.ref fB) = true) (bB : Binds K fdB ["first", "second"] []) (gB : mg "both" = some (.ref fB)) : FnOk P w K mg base CX0 6 f fd ["first", "second"] (sp2 K isF2 fun s t => jL "and" [s, t]) := by
  refine F.ok sc_andS (fun vs H Q E h => ?_) (fun cdv A outer s0 H vs Q E hr h => ?_)
  · obtain ⟨x, s, y, t, rfl, hs, ht, ⟨ks, kt⟩, q⟩ := h
    rfl
  · obtain ⟨x, s, y, t, rfl, hs, ht, ⟨ks, kt⟩, q⟩ := h
    refine ⟨_, (pss_one (ps_ret (pe_call GR (hr.mono (by decide)) (by rfl) gR kR bR .nil pass0 (pa_cons (pe_lc2 (own := [("one", 2), ("other", 3)]) (vs1 := [3]) (g := (gName 2)) (g1 := (gName 3)) (tt := tYes) (tt1 := tYes) rfl sc_andS.nd (pi_list (pe_call GT (hr.mono (by decide)) (by rfl) gT kT bT .nil pass0 (pa_cons (pv 0) pa_nil))) (blkOk_by (N := ["first", "second", "one", "other"]) (sc := defScope sAndSpan) (by decide +kernel)) (by decide) (fun _ _ _ _ _ => (pg_name (i := 2) sc_andS.nd rfl (Or.inl rfl))) (fun _ _ _ _ _ => pts_nil) (fun _ _ _ _ _ => (pi_listK K rfl (pe_call GT (hr.mono (by decide)) (by rfl) gT kT bT .nil pass0 (pa_cons (pv 1) pa_nil)))) (fun _ _ _ _ _ => (pg_name (i := 3) sc_andS.nd rfl (Or.inl rfl))) (fun _ _ _ _ _ => pts_nil) (fun _ _ _ _ _ => (pe_call GB (hr.mono (by decide)) (by rfl) gB kB bB .nil pass0 (pa_cons (pv 2) (pa_cons (pv 3) pa_nil))))) pa_nil)))), ?_⟩
    dsimp only at q
    have ej : jL "and" [s, t] = sor ((tru s).flatMap fun x => (tru t).map fun y => and3 x y) := (jL_2 _ _ _).trans (if_pos rfl)
    rw [ej] at q
    have ls := tru_len s
    have lt := tru_len t
    refine ⟨_, rfl, _, s, rfl, hs, ks, fun H1 a s1 n1 e1 => ⟨a, rfl, ⟨_, .inl (.inl e1)⟩, fun D nD => ?_⟩⟩
    refine prod2 (xs := (tru s).map ob) (ys := (tru t).map ob) (f := fun x y => ob (and3 (bo x) (bo y))) sqi_list (fun H2 s2 => .inl (.inl (s2 _ _ e1))) nD (fun _ => rfl) (fun _ _ => rfl) ?_ ?_ ?_ ?_
    · intro x hx H2 R s2 hD h
      refine ⟨_, rfl, _, t, rfl, (ht.same s1).same s2, kt, fun H3 b s3 n3 e3 => ⟨b, rfl, ⟨_, .inl (.inl e3)⟩, ?_⟩⟩
      refine h _ _ _ sqi_list s3 fun H4 k4 => .inl (.inl (k4 _ _ (fun z => ?_) e3))
      obtain ⟨acc, eD⟩ := hD
      rw [z, eD] at n3
      cases n3
    · intro x y H2 Q1 hx hy s2 q1
      obtain ⟨o, _, rfl⟩ := List.mem_map.mp hx
      obtain ⟨u, _, rfl⟩ := List.mem_map.mp hy
      rw [bo_ob, bo_ob] at q1
      exact ⟨_, rfl, _, rfl, o, u, rfl, q1⟩
    · rw [List.length_map, List.length_map]
      exact Nat.lt_of_le_of_lt (Nat.mul_le_mul ls lt) (by decide)
    · intro H2 s2 e2
      rw [prs_obs _ and3 (fun x y => by rw [bo_ob, bo_ob])] at e2
      refine ⟨D, _, rfl, e2, ?_, fun H3 r s3 h => q H3 r (same_trans (same_trans s1 s2) s3) h⟩
      refine Nat.le_trans (fm_len _ 3 _ fun z _ => by rw [List.length_map]; exact lt) ?_
      omega
theorem sc_orS : FnScope ["first", "second", "one", "other"] ["first", "second"] (defScope sOrSpan) := ⟨rfl, rfl, rfl, by decide +kernel, rfl, by decide +kernel, by decide +kernel⟩
theorem ok_orS {f : Addr} {fd : FuncData} {fR fT fB : Addr} {fdR fdT fdB : FuncData} (F : Fun K "or_span" "or_span" sOrSpan f fd) (GR : FnOk P w K mg base CX0 3 fR fdR ["truths"] (spSor K)) (kR : PySem.W.keepIn K (.ref fR) = true) (bR : Binds K fdR ["truths"] []) (gR : mg "span_of_results" = some (.ref fR)) (GT : FnOk P w K mg base CX0 5 fT fdT ["span"] (spTru K)) (kT : PySem.W.keepIn K (.ref fT) = true) (bT : Binds K fdT ["span"] []) (gT : mg "truths_in" = some (.ref fT)) (GB : FnOk P w K mg base CX0 1 fB fdB ["first", "second"] spEither) (kB : PySem.W.keepIn K (.ref fB) = true) (bB : Binds K fdB ["first", "second"] []) (gB : mg "either" = some (.ref fB)) : FnOk P w K mg base CX0 6 f fd ["first", "second"] (sp2 K isF2 fun s t => jL "or" [s, t]) := by
  refine F.ok sc_orS (fun vs H Q E h => ?_) (fun cdv A outer s0 H vs Q E hr h => ?_)
  · obtain ⟨x, s, y, t, rfl, hs, ht, ⟨ks, kt⟩, q⟩ := h
    rfl
  · obtain ⟨x, s, y, t, rfl, hs, ht, ⟨ks, kt⟩, q⟩ := h
    refine ⟨_, (pss_one (ps_ret (pe_call GR (hr.mono (by decide)) (by rfl) gR kR bR .nil pass0 (pa_cons (pe_lc2 (own := [("one", 2), ("other", 3)]) (vs1 := [3]) (g := (gName 2)) (g1 := (gName 3)) (tt := tYes) (tt1 := tYes) rfl sc_orS.nd (pi_list (pe_call GT (hr.mono (by decide)) (by rfl) gT kT bT .nil pass0 (pa_cons (pv 0) pa_nil))) (blkOk_by (N := ["first", "second", "one", "other"]) (sc := defScope sOrSpan) (by decide +kernel)) (by decide) (fun _ _ _ _ _ => (pg_name (i := 2) sc_orS.nd rfl (Or.inl rfl))) (fun _ _ _ _ _ => pts_nil) (fun _ _ _ _ _ => (pi_listK K rfl (pe_call GT (hr.mono (by decide)) (by rfl) gT kT bT .nil pass0 (pa_cons (pv 1) pa_nil)))) (fun _ _ _ _ _ => (pg_name (i := 3) sc_orS.nd rfl (Or.inl rfl))) (fun _ _ _ _ _ => pts_nil) (fun _ _ _ _ _ => (pe_call GB (hr.mono (by decide)) (by rfl) gB kB bB .nil pass0 (pa_cons (pv 2) (pa_cons (pv 3) pa_nil))))) pa_nil)))), ?_⟩
    dsimp only at q
    have ej : jL "or" [s, t] = sor ((tru s).flatMap fun x => (tru t).map fun y => or3 x y) := (jL_2 _ _ _).trans ((if_neg (by decide +kernel)).trans (if_pos rfl))
    rw [ej] at q
    have ls := tru_len s
    have lt := tru_len t
    refine ⟨_, rfl, _, s, rfl, hs, ks, fun H1 a s1 n1 e1 => ⟨a, rfl, ⟨_, .inl (.inl e1)⟩, fun D nD => ?_⟩⟩
    refine prod2 (xs := (tru s).map ob) (ys := (tru t).map ob) (f := fun x y => ob (or3 (bo x) (bo y))) sqi_list (fun H2 s2 => .inl (.inl (s2 _ _ e1))) nD (fun _ => rfl) (fun _ _ => rfl) ?_ ?_ ?_ ?_
    · intro x hx H2 R s2 hD h
      refine ⟨_, rfl, _, t, rfl, (ht.same s1).same s2, kt, fun H3 b s3 n3 e3 => ⟨b, rfl, ⟨_, .inl (.inl e3)⟩, ?_⟩⟩
      refine h _ _ _ sqi_list s3 fun H4 k4 => .inl (.inl (k4 _ _ (fun z => ?_) e3))
      obtain ⟨acc, eD⟩ := hD
      rw [z, eD] at n3
      cases n3
    · intro x y H2 Q1 hx hy s2 q1
      obtain ⟨o, _, rfl⟩ := List.mem_map.mp hx
      obtain ⟨u, _, rfl⟩ := List.mem_map.mp hy
      rw [bo_ob, bo_ob] at q1
      exact ⟨_, rfl, _, rfl, o, u, rfl, q1⟩
    · rw [List.length_map, List.length_map]
      exact Nat.lt_of_le_of_lt (Nat.mul_le_mul ls lt) (by decide)
    · intro H2 s2 e2
      rw [prs_obs _ or3 (fun x y => by rw [bo_ob, bo_ob])] at e2
      refine ⟨D, _, rfl, e2, ?_, fun H3 r s3 h => q H3 r (same_trans (same_trans s1 s2) s3) h⟩
      refine Nat.le_trans (fm_len _ 3 _ fun z _ => by rw [List.length_map]; exact lt) ?_
      omega
theorem sc_if : FnScope ["condition", "first", "second", "spans"] ["condition", "first", "second"] (defScope sIfSpan) := ⟨rfl, rfl, rfl, by decide +kernel, rfl, by decide +kernel, by decide +kernel⟩
theorem ok_if {f : Addr} {fd : FuncData} {kam : Addr} {fA fO : Addr} {fdA fdO : FuncData} (F : Fun K "if_span" "if_span" sIfSpan f fd) (M : Nm mg) (mam : mg "ALWAYS_MISSING" = some (.ref kam)) (ham : ∀ H : Hp, SqT K H kam AM.v) (GA : FnOk P w K mg base CX0 4 fA fdA ["span", "value"] (spAlw K)) (kA : PySem.W.keepIn K (.ref fA) = true) (bA : Binds K fdA ["span", "value"] []) (gA : mg "allows" = some (.ref fA)) (GO : FnOk P w K mg base CX0 2 fO fdO ["spans"] (spHold K)) (kO : PySem.W.keepIn K (.ref fO) = true) (bO : Binds K fdO ["spans"] []) (gO : mg "holding" = some (.ref fO)) : FnOk P w K mg base CX0 5 f fd ["condition", "first", "second"] (spIf K) := by
  refine F.ok sc_if (fun vs H Q E h => ?_) (fun cdv A outer s0 H vs Q E hr h => ?_)
  · obtain ⟨_, c, y, s, z, t, k, rfl, ⟨p, rfl, hp⟩, hs, ht, kc, ks, kt, q⟩ := h
    rfl
  · obtain ⟨_, c, y, s, z, t, k, rfl, ⟨p, rfl, hp⟩, hs, ht, kc, ks, kt, q⟩ := h
    refine ⟨_, (pss_cons (ps_set (i := 3) sc_if.nd rfl (.inl rfl) (pe_lst pa_nil))
      (Evl.pss_cut (ps_if (pt_val (pe_call GA (hr.mono (by decide)) (by rfl) gA kA bA .nil pass0 (pa_cons (pv 0) (pa_cons pe_bl pa_nil)))) (pss_one (ps_expr (pe_bm PySem.F.plainAttrs_list PySem.F.slot_list_append PySem.F.type_list_append mt_append (pv 3) (pa_cons (pv 1) pa_nil)))) pss_nil)
      (Evl.pss_cut (ps_if (pt_val (pe_call GA (hr.mono (by decide)) (by rfl) gA kA bA .nil pass0 (pa_cons (pv 0) (pa_cons pe_bl pa_nil)))) (pss_one (ps_expr (pe_bm PySem.F.plainAttrs_list PySem.F.slot_list_append PySem.F.type_list_append mt_append (pv 3) (pa_cons (pv 2) pa_nil)))) pss_nil)
      (Evl.pss_cut (ps_if (pt_val (pe_ix ix_tup (pv 0) pe_int (fun _ _ => rfl))) (pss_one (ps_expr (pe_bm PySem.F.plainAttrs_list PySem.F.slot_list_append PySem.F.type_list_append mt_append (pv 3) (pa_cons (pe_glob (v := .ref kam) (by rfl) mam rfl) pa_nil)))) pss_nil)
      (pss_one (ps_ret (pe_call GO (hr.mono (by decide)) (by rfl) gO kO bO .nil pass0 (pa_cons (pv 3) pa_nil)))))))), ?_⟩
    have hz : ∀ n : Nat, n ≤ 100 → n ≤ sizeLine := fun n h => Nat.le_trans h (by decide)
    have ok : ∀ (b : Bool), V.bl b = .non ∨ ∃ q, OkE q (.bl b) := fun b => .inr ⟨.f, ⟨b, rfl⟩, rfl⟩
    refine ⟨hz 0 (by decide), fun D nD => ?_⟩
    have keep : ∀ {H1 : Hp}, Same H H1 → ∀ o, Same H (upd H1 D o) := fun s o a o2 e => by
      rw [upd_ne (fun z => by rw [z, nD] at e; cases e)]
      exact s a o2 e
    have bt : ∀ {H1 : Hp} {xs : List V} {ss : List Spn} (l : List V) {y : V} {u : Spn}, H1 D = some (.lst l) → F2 (SpnAt K H1) xs ss → SpnAt K H1 y u → F2 (SpnAt K (upd H1 D (.lst (xs ++ [y])))) (xs ++ [y]) (ss ++ [u]) := fun {H1 xs ss} l {y u} eD f h => by
      have ku : ∀ a o, a ≠ D → H1 a = some o → (upd H1 D (.lst (xs ++ [y]))) a = some o := fun a o h e => by rw [upd_ne h]; exact e
      exact F2.snoc (h.but eD ku) (f.imp fun _ _ r => r.but eD ku)
    refine ⟨fun σ' H' => σ' = [some (.ref p), some y, some z, some (.ref D)] ∧ Same H H' ∧ ∃ xs, H' D = some (.lst xs) ∧ F2 (SpnAt K H') xs (if alw c (.bl true) = true then [s] else []), ?_, ?_⟩
    · have s1 : Same H (upd H D (.lst [])) := same_new nD
      refine ⟨_, rfl, _, .bl true, c, .f, rfl, ⟨p, rfl, sqt_same hp s1⟩, kc, ok true, fun H2 s2 => ⟨_, rfl, ?_⟩⟩
      have e2 := s2 _ _ (upd_same : (upd H D (.lst [])) D = some (.lst []))
      by_cases e : alw c (.bl true) = true
      · rw [if_pos e]
        refine iteB e ⟨_, rfl, .inl ⟨rfl, _, .inl (.inl e2)⟩, _, rfl, D, [], y, rfl, rfl, e2, (by show 0 < sizeLine; decide), rfl, keep (same_trans s1 s2) _, [y], upd_same, ?_⟩
        exact bt (ss := []) [] e2 .nil ((hs.same s1).same s2)
      · rw [if_neg e]
        exact iteBF (Bool.eq_false_iff.mpr e) ⟨rfl, same_trans s1 s2, [], e2, .nil⟩
    rintro _ H1 ⟨rfl, s1, xs, e1, f1⟩
    have l1 : xs.length ≤ 1 := by rw [f1.len]; split <;> simp
    refine ⟨fun σ' H' => σ' = [some (.ref p), some y, some z, some (.ref D)] ∧ Same H H' ∧ ∃ xs, H' D = some (.lst xs) ∧ F2 (SpnAt K H') xs ((if alw c (.bl true) = true then [s] else []) ++ if alw c (.bl false) = true then [t] else []), ?_, ?_⟩
    · refine ⟨_, rfl, _, .bl false, c, .f, rfl, ⟨p, rfl, sqt_same hp s1⟩, kc, ok false, fun H2 s2 => ⟨_, rfl, ?_⟩⟩
      have e2 := s2 _ _ e1
      have f2 : F2 (SpnAt K H2) xs (if alw c (.bl true) = true then [s] else []) := f1.imp fun _ _ h => h.same s2
      by_cases e : alw c (.bl false) = true
      · rw [if_pos (c := alw c (.bl false) = true) e]
        refine iteB e ⟨_, rfl, .inl ⟨rfl, _, .inl (.inl e2)⟩, _, rfl, D, xs, z, rfl, rfl, e2, Nat.lt_of_le_of_lt l1 (by decide), rfl, keep (same_trans s1 s2) _, _, upd_same, ?_⟩
        exact bt xs e2 f2 ((ht.same s1).same s2)
      · rw [if_neg (c := alw c (.bl false) = true) e, List.append_nil]
        exact iteBF (Bool.eq_false_iff.mpr e) ⟨rfl, same_trans s1 s2, xs, e2, f2⟩
    rintro _ H3 ⟨rfl, s3, xs3, e3, f3⟩
    have l3 : xs3.length ≤ 2 := by
      rw [f3.len, List.length_append]
      have : ∀ (b : Prop) [Decidable b] (u : Spn), (if b then [u] else []).length ≤ 1 := fun b _ u => by split <;> simp
      have h1 := this (alw c (.bl true) = true) s
      have h2 := this (alw c (.bl false) = true) t
      omega
    refine ⟨fun σ' H' => σ' = [some (.ref p), some y, some z, some (.ref D)] ∧ Same H H' ∧ ∃ xs, H' D = some (.lst xs) ∧ F2 (SpnAt K H') xs ((if alw c (.bl true) = true then [s] else []) ++ (if alw c (.bl false) = true then [t] else []) ++ if c.m = true then [AM] else []), ?_, ?_⟩
    · have hp3 : SqT K H3 p c.v := sqt_same hp s3
      refine ⟨_, rfl, p, _, 2, .bl c.m, rfl, rfl, hp3, rfl, _, rfl, ?_⟩
      by_cases e : c.m = true
      · rw [if_pos (c := c.m = true) e]
        refine iteB e ⟨_, rfl, .inl ⟨rfl, _, .inl (.inl e3)⟩, D, xs3, .ref kam, rfl, rfl, e3, Nat.lt_of_le_of_lt l3 (by decide), rfl, keep s3 _, _, upd_same, ?_⟩
        exact bt xs3 e3 f3 ⟨kam, rfl, ham _⟩
      · rw [if_neg (c := c.m = true) e, List.append_nil]
        exact iteBF (Bool.eq_false_iff.mpr e) ⟨rfl, s3, xs3, e3, f3⟩
    rintro _ H4 ⟨rfl, s4, xs4, e4, f4⟩
    refine ⟨_, rfl, D, xs4, _, k, rfl, e4, f4, fun u hu => ?_, ?_, fun H5 r s5 h => q H5 r (same_trans s4 s5) ?_⟩
    · rcases List.mem_append.mp hu with hu | hu
      · rcases List.mem_append.mp hu with hu | hu
        · split at hu
          · rw [List.mem_singleton.mp hu]; exact ks
          · cases hu
        · split at hu
          · rw [List.mem_singleton.mp hu]; exact kt
          · cases hu
      · split at hu
        · rw [List.mem_singleton.mp hu]; exact .am
        · cases hu
    · have : ∀ (b : Prop) [Decidable b] (u : Spn), (if b then [u] else []).length ≤ 1 := fun b _ u => by split <;> simp
      have h1 := this (alw c (.bl true) = true) s
      have h2 := this (alw c (.bl false) = true) t
      have h3 := this (c.m = true) AM
      rw [List.length_append, List.length_append]
      omega
    · exact h
theorem sc_orElse : FnScope ["first", "second", "least", "greatest", "_"] ["first", "second"] (defScope sOrElseSpan) := ⟨rfl, rfl, rfl, by decide +kernel, rfl, by decide +kernel, by decide +kernel⟩
theorem ok_orElse {f : Addr} {fd : FuncData} {fO : Addr} {fdO : FuncData} (F : Fun K "or_else_span" "or_else_span" sOrElseSpan f fd) (GO : FnOk P w K mg base CX0 2 fO fdO ["spans"] (spHold K)) (kO : PySem.W.keepIn K (.ref fO) = true) (bO : Binds K fdO ["spans"] []) (gO : mg "holding" = some (.ref fO)) : FnOk P w K mg base CX0 3 f fd ["first", "second"] (sp2 K isK2 fun s t => jL "or else" [s, t]) := by
  refine F.ok sc_orElse (fun vs H Q E h => ?_) (fun cdv A outer s0 H vs Q E hr h => ?_)
  · obtain ⟨_, s, _, t, rfl, ⟨p, rfl, hp⟩, ⟨p2, rfl, hp2⟩, ⟨k, ks, kt⟩, q⟩ := h
    rfl
  · obtain ⟨_, s, _, t, rfl, ⟨p, rfl, hp⟩, ⟨p2, rfl, hp2⟩, ⟨k, ks, kt⟩, q⟩ := h
    refine ⟨_, (Evl.pss_cut (ps_if (pt_not (pt_val (pe_ix ix_tup (pv 0) pe_int (fun _ _ => rfl)))) (pss_one (ps_ret (pv 0))) pss_nil)
      (pss_cons (ps_asg (pe_call GO (hr.mono (by decide)) (by rfl) gO kO bO .nil pass0 (pa_cons (pe_lst (pa_cons (pv 0) (pa_cons (pv 1) pa_nil))) pa_nil)) (pg_tup (by rfl) (pgs_cons (pg_name (i := 2) sc_orElse.nd rfl (.inl rfl)) (pgs_cons (pg_name (i := 3) sc_orElse.nd rfl (.inl rfl)) (pgs_cons (pg_name (i := 4) sc_orElse.nd rfl (.inl rfl)) pgs_nil)))))
      (pss_one (ps_ret (pe_tup (pa_cons (pv 2) (pa_cons (pv 3) (pa_cons (pe_ix ix_tup (pv 1) pe_int (fun _ _ => rfl)) pa_nil)))))))), ?_⟩
    dsimp only at q
    have ej : jL "or else" [s, t] = if s.m = true then ⟨(hold [s, t]).a, (hold [s, t]).b, t.m⟩ else s := (jL_2 _ _ _).trans ((if_neg (by decide +kernel)).trans (if_neg (by decide +kernel)))
    rw [ej] at q
    refine ⟨fun σ' H' => σ' = [some (.ref p), some (.ref p2), none, none, none] ∧ H = H' ∧ s.m = true, ?_, ?_⟩
    · refine ⟨_, rfl, p, _, 2, .bl s.m, rfl, rfl, hp, rfl, _, rfl, ?_⟩
      by_cases e : s.m = true
      · exact iteBF (by rw [e]; rfl) ⟨rfl, rfl, e⟩
      · rw [if_neg e] at q
        exact iteB (by rw [Bool.eq_false_iff.mpr e]; rfl) ⟨_, rfl, q H _ same_refl ⟨p, rfl, hp⟩⟩
    rintro _ _ ⟨rfl, rfl, e⟩
    rw [if_pos e] at q
    refine ⟨_, rfl, _, rfl, (by show 2 ≤ sizeLine; decide), fun D nD => ⟨D, [.ref p, .ref p2], [s, t], k, rfl, upd_same, ?_, ?_, (by show 2 ≤ 100; decide), fun H1 r s1 h => ?_⟩⟩
    · have s0 : Same H (upd H D (.lst [.ref p, .ref p2])) := same_new nD
      exact .cons ⟨p, rfl, sqt_same hp s0⟩ (.cons ⟨p2, rfl, sqt_same hp2 s0⟩ .nil)
    · intro u hu
      simp only [List.mem_cons, List.not_mem_nil, or_false] at hu
      rcases hu with rfl | rfl
      · exact ks
      · exact kt
    · obtain ⟨p3, rfl, h3⟩ := h
      have hp4 : SqT K H1 p2 t.v := sqt_same (sqt_same hp2 (same_new nD)) s1
      refine ⟨p3, _, rfl, h3, rfl, _, _, rfl, _, _, rfl, _, _, rfl, rfl, ?_⟩
      refine ⟨_, rfl, _, rfl, _, rfl, p2, _, 2, .bl t.m, rfl, rfl, hp4, rfl, (by show 3 ≤ sizeLine; decide), fun b nb => ?_⟩
      exact q _ _ (same_trans (same_trans (same_new nD) s1) (same_new nb)) (SpnAt.new (s := ⟨(hold [s, t]).a, (hold [s, t]).b, t.m⟩))
end
end K2

namespace K2
open PySem L2
/-! ### the order of values of one kind -/
theorem ltV_irr {k : Kd} {x : V} (hx : OfK k x) : ltV x x = false := by
  cases k with
  | i => obtain ⟨n, rfl⟩ := hx; exact decide_eq_false (Int.lt_irrefl n)
  | f => obtain ⟨n, rfl⟩ := hx; cases n <;> rfl
  | t => obtain ⟨n, rfl, _⟩ := hx; exact decide_eq_false (List.lt_irrefl _)
theorem ltV_asym {k : Kd} {x y : V} (hx : OfK k x) (hy : OfK k y) (h : ltV x y = true) : ltV y x = false := by
  cases k with
  | i =>
    obtain ⟨n, rfl⟩ := hx
    obtain ⟨m, rfl⟩ := hy
    have h : n < m := of_decide_eq_true h
    exact decide_eq_false (by omega)
  | f => obtain ⟨n, rfl⟩ := hx; obtain ⟨m, rfl⟩ := hy; cases n <;> cases m <;> first | rfl | cases h
  | t =>
    obtain ⟨n, rfl, _⟩ := hx
    obtain ⟨m, rfl, _⟩ := hy
    have h : n.cps.toList < m.cps.toList := of_decide_eq_true h
    exact decide_eq_false (List.lt_asymm h)
/-- ≤ is told as: not the other way < -/
theorem leV_trans {k : Kd} {x y z : V} (hx : OfK k x) (hy : OfK k y) (hz : OfK k z) (h1 : ltV y x = false) (h2 : ltV z y = false) : ltV z x = false := by
  cases k with
  | i =>
    obtain ⟨n, rfl⟩ := hx
    obtain ⟨m, rfl⟩ := hy
    obtain ⟨p, rfl⟩ := hz
    have h1 : ¬ m < n := of_decide_eq_false h1
    have h2 : ¬ p < m := of_decide_eq_false h2
    exact decide_eq_false (by omega)
  | f => obtain ⟨n, rfl⟩ := hx; obtain ⟨m, rfl⟩ := hy; obtain ⟨p, rfl⟩ := hz; cases n <;> cases m <;> cases p <;> first | rfl | exact h1 | exact h2 | (cases h1; done) | (cases h2; done)
  | t =>
    obtain ⟨n, rfl, _⟩ := hx
    obtain ⟨m, rfl, _⟩ := hy
    obtain ⟨p, rfl, _⟩ := hz
    have h1 : ¬ m.cps.toList < n.cps.toList := of_decide_eq_false h1
    have h2 : ¬ p.cps.toList < m.cps.toList := of_decide_eq_false h2
    exact decide_eq_false (fun h => List.le_trans (List.not_lt.mp h1) (List.not_lt.mp h2) h)
theorem mnV_le {k : Kd} : ∀ (xs : List V) (x : V), OfK k x → (∀ y ∈ xs, OfK k y) → ltV x (mnV x xs) = false
  | [], x, hx, _ => ltV_irr hx
  | y :: r, x, hx, h => by
    have hy := h y List.mem_cons_self
    have hr : ∀ z ∈ r, OfK k z := fun z hz => h z (List.mem_cons_of_mem _ hz)
    show ltV x (mnV (if ltV y x = true then y else x) r) = false
    by_cases c : ltV y x = true
    · rw [if_pos c]
      exact leV_trans (mn_of r y hy hr).1 hy hx (mnV_le r y hy hr) (ltV_asym hy hx c)
    · rw [if_neg c]
      exact mnV_le r x hx hr
theorem mxV_ge {k : Kd} : ∀ (xs : List V) (x : V), OfK k x → (∀ y ∈ xs, OfK k y) → ltV (mxV x xs) x = false
  | [], x, hx, _ => ltV_irr hx
  | y :: r, x, hx, h => by
    have hy := h y List.mem_cons_self
    have hr : ∀ z ∈ r, OfK k z := fun z hz => h z (List.mem_cons_of_mem _ hz)
    show ltV (mxV (if ltV x y = true then y else x) r) x = false
    by_cases c : ltV x y = true
    · rw [if_pos c]
      exact leV_trans hx hy (mx_of r y hy hr).1 (ltV_asym hx hy c) (mxV_ge r y hy hr)
    · rw [if_neg c]
      exact mxV_ge r x hx hr
theorem mnV_mem : ∀ (xs : List V) (x : V), mnV x xs ∈ x :: xs
  | [], x => List.mem_singleton.mpr rfl
  | y :: r, x => by
    show mnV (if ltV y x = true then y else x) r ∈ _
    have := mnV_mem r (if ltV y x = true then y else x)
    split at this <;> rename_i h
    · rw [if_pos h]; exact List.mem_cons_of_mem _ this
    · rw [if_neg h]
      rcases List.mem_cons.mp this with e | e
      · rw [e]; exact List.mem_cons_self
      · exact List.mem_cons_of_mem _ (List.mem_cons_of_mem _ e)
theorem mxV_mem : ∀ (xs : List V) (x : V), mxV x xs ∈ x :: xs
  | [], x => List.mem_singleton.mpr rfl
  | y :: r, x => by
    show mxV (if ltV x y = true then y else x) r ∈ _
    have := mxV_mem r (if ltV x y = true then y else x)
    split at this <;> rename_i h
    · rw [if_pos h]; exact List.mem_cons_of_mem _ this
    · rw [if_neg h]
      rcases List.mem_cons.mp this with e | e
      · rw [e]; exact List.mem_cons_self
      · exact List.mem_cons_of_mem _ (List.mem_cons_of_mem _ e)
/-! ### spans that words make are spans again -/
theorem hold_oks {k : Kd} {ss : List Spn} (h : ∀ s ∈ ss, OkS k s) : OkS k (hold ss) := by
  have hh := hold_ok h
  have hl : ∀ s ∈ ss.filter has, ltV s.b s.a = false := fun s hs => by
    obtain ⟨h1, h2⟩ := List.mem_filter.mp hs
    exact ((h s h1).ends_of h2).2.2
  unfold hold
  generalize ss.filter has = fs at hh hl
  cases fs with
  | nil => exact .am
  | cons s r =>
    have ha : ∀ y ∈ s.a :: r.map (·.a), OkE k y := fun y hy => by
      have hy2 : y ∈ (s :: r).map (·.a) := hy
      obtain ⟨t, ht, rfl⟩ := List.mem_map.mp hy2
      exact (hh t ht).1
    have hb : ∀ y ∈ s.b :: r.map (·.b), OkE k y := fun y hy => by
      have hy2 : y ∈ (s :: r).map (·.b) := hy
      obtain ⟨t, ht, rfl⟩ := List.mem_map.mp hy2
      exact (hh t ht).2
    have ma := ha _ (mnV_mem (r.map (·.a)) s.a)
    have mb := hb _ (mxV_mem (r.map (·.b)) s.b)
    have sa := ha s.a List.mem_cons_self
    have sb := hb s.b List.mem_cons_self
    have l1 := mnV_le (r.map (·.a)) s.a sa.1 fun y hy => (ha y (List.mem_cons_of_mem _ hy)).1
    have l2 := mxV_ge (r.map (·.b)) s.b sb.1 fun y hy => (hb y (List.mem_cons_of_mem _ hy)).1
    have l3 := hl s List.mem_cons_self
    exact .ends ma mb (leV_trans ma.1 sa.1 mb.1 l1 (leV_trans sa.1 sb.1 mb.1 l3 l2))
theorem okb (b : Bool) : OkE .f (.bl b) := ⟨⟨b, rfl⟩, rfl⟩
theorem tr_oks {t f : Bool} (h : t = true ∨ f = true) : OkS .f (trS t f) := by
  refine .ends (okb _) (okb _) ?_
  rcases h with rfl | rfl
  · cases f <;> rfl
  · cases t <;> rfl
theorem OkS.le {k : Kd} {s : Spn} (h : OkS k s) (e : has s = true) : ltV s.b s.a = false := (h.ends_of e).2.2
theorem lt_or {k : Kd} {s t : Spn} (hs : OkS k s) (ht : OkS k t) (es : has s = true) (et : has t = true) : ltV s.a t.b = true ∨ (!ltV s.b t.a) = true := by
  obtain ⟨sa, sb, s3⟩ := hs.ends_of es
  obtain ⟨ta, tb, t3⟩ := ht.ends_of et
  cases e : ltV s.a t.b with
  | true => exact .inl rfl
  | false =>
    refine .inr ?_
    have h1 := leV_trans tb.1 sa.1 sb.1 e s3
    rw [leV_trans ta.1 tb.1 sb.1 t3 h1]
    rfl
theorem wb_oks (a b : Int) (m : Bool) : OkS .i (wb ⟨.int a, .int b, m⟩) := by
  show OkS .i (if mn2 b EB < mx2 a (-EB) then AM else ⟨.int (mx2 a (-EB)), .int (mn2 b EB), m || !decide (mx2 a (-EB) = a) || !decide (mn2 b EB = b)⟩)
  by_cases c : mn2 b EB < mx2 a (-EB)
  · rw [if_pos c]; exact .am
  · rw [if_neg c]
    have h1 : -EB ≤ mx2 a (-EB) := by unfold mx2; split <;> omega
    have h2 : mn2 b EB ≤ EB := by unfold mn2; split <;> omega
    have e : EB = 10 ^ 30 - 1 := rfl
    exact .ends (e_num ⟨by omega, by omega⟩) (e_num ⟨by omega, by omega⟩) (decide_eq_false c)
theorem okI1 {s : Spn} (h : OkS .i s) (e : has s = true) : isI1 s := by
  cases h with
  | am => cases e
  | @ends a b m ha hb hab =>
    obtain ⟨⟨x, rfl⟩, hx⟩ := ha
    obtain ⟨⟨y, rfl⟩, hy⟩ := hb
    have h3 : ¬ y < x := of_decide_eq_false hab
    exact ⟨x, y, m, rfl, num_of hx, num_of hy, by omega⟩
theorem okF1 {s : Spn} (h : OkS .f s) (e : has s = true) : isF1 s := by
  cases h with
  | am => cases e
  | @ends a b m ha hb hab =>
    obtain ⟨⟨x, rfl⟩, hx⟩ := ha
    obtain ⟨⟨y, rfl⟩, hy⟩ := hb
    exact ⟨x, y, m, rfl⟩
theorem okT1 {s : Spn} (h : OkS .t s) (e : has s = true) : isT1 s := by
  cases h with
  | am => cases e
  | @ends a b m ha hb hab =>
    obtain ⟨⟨x, rfl, x1, _⟩, hx⟩ := ha
    obtain ⟨⟨y, rfl, y1, _⟩, hy⟩ := hb
    have h1 : ((x.length : Int) ≤ 200) := of_decide_eq_true hx
    have h2 : ((y.length : Int) ≤ 200) := of_decide_eq_true hy
    exact ⟨x, y, m, rfl, x1, by omega, y1, by omega⟩
inductive OkSs : List Kd → List Spn → Prop
  | nil : OkSs [] []
  | cons {k : Kd} {s : Spn} {ks : List Kd} {ss : List Spn} : OkS k s → OkSs ks ss → OkSs (k :: ks) (s :: ss)
theorem OkSs.len {ks : List Kd} {ss : List Spn} (h : OkSs ks ss) : ss.length = ks.length := by
  induction h with
  | nil => rfl
  | cons _ _ ih => rw [List.length_cons, List.length_cons, ih]
def CWr (w : Str) (k : Kd) (ss : List Spn) : Prop :=
  (w = "not" ∧ k = .f ∧ ∃ s, ss = [s] ∧ OkS .f s ∧ has s = true) ∨ (w = "neg" ∧ k = .i ∧ ∃ s, ss = [s] ∧ OkS .i s ∧ has s = true) ∨ (w = "abs" ∧ k = .i ∧ ∃ s, ss = [s] ∧ OkS .i s ∧ has s = true) ∨ (w = "length" ∧ k = .i ∧ ∃ s, ss = [s] ∧ OkS .t s ∧ has s = true) ∨
  (w = "joined" ∧ k = .t ∧ ∃ s t, ss = [s, t] ∧ OkS .t s ∧ OkS .t t ∧ has s = true ∧ has t = true) ∨ (w ∈ CMP ∧ k = .f ∧ ∃ s t q, ss = [s, t] ∧ OkS q s ∧ OkS q t ∧ has s = true ∧ has t = true) ∨ (w ∈ A5 ∧ k = .i ∧ ∃ s t, ss = [s, t] ∧ OkS .i s ∧ OkS .i t ∧ has s = true ∧ has t = true)
theorem cw_inv {w : Str} {qs : List Kd} {k : Kd} {ss : List Spn} (hj : JT w qs k) (nw : w ∉ LW) (hs : OkSs qs ss) (ha : ss.all has = true) : CWr w k ss := by
  rcases hj with ⟨rfl, rfl, rfl⟩ | ⟨rfl, rfl, rfl⟩ | ⟨rfl, rfl, rfl⟩ | ⟨rfl, rfl, rfl⟩ | ⟨rfl, rfl, rfl⟩ | ⟨hw, rfl, a, _, rfl⟩ | ⟨hw, rfl, rfl⟩ | ⟨rfl, _⟩ | ⟨rfl, _⟩ | ⟨rfl, _⟩ | ⟨rfl, _⟩ | ⟨rfl, _⟩
  · cases hs with | cons h g => cases g with | nil =>
    simp only [List.all_cons, List.all_nil, Bool.and_true] at ha
    exact .inl ⟨rfl, rfl, _, rfl, h, ha⟩
  · cases hs with | cons h g => cases g with | nil =>
    simp only [List.all_cons, List.all_nil, Bool.and_true] at ha
    exact .inr (.inl ⟨rfl, rfl, _, rfl, h, ha⟩)
  · cases hs with | cons h g => cases g with | nil =>
    simp only [List.all_cons, List.all_nil, Bool.and_true] at ha
    exact .inr (.inr (.inl ⟨rfl, rfl, _, rfl, h, ha⟩))
  · cases hs with | cons h g => cases g with | nil =>
    simp only [List.all_cons, List.all_nil, Bool.and_true] at ha
    exact .inr (.inr (.inr (.inl ⟨rfl, rfl, _, rfl, h, ha⟩)))
  · cases hs with | cons h g => cases g with | cons h2 g => cases g with | nil =>
    simp only [List.all_cons, List.all_nil, Bool.and_true, Bool.and_eq_true] at ha
    exact .inr (.inr (.inr (.inr (.inl ⟨rfl, rfl, _, _, rfl, h, h2, ha.1, ha.2⟩))))
  · cases hs with | cons h g => cases g with | cons h2 g => cases g with | nil =>
    simp only [List.all_cons, List.all_nil, Bool.and_true, Bool.and_eq_true] at ha
    exact .inr (.inr (.inr (.inr (.inr (.inl ⟨hw, rfl, _, _, _, rfl, h, h2, ha.1, ha.2⟩)))))
  · cases hs with | cons h g => cases g with | cons h2 g => cases g with | nil =>
    simp only [List.all_cons, List.all_nil, Bool.and_true, Bool.and_eq_true] at ha
    exact .inr (.inr (.inr (.inr (.inr (.inr ⟨hw, rfl, _, _, rfl, h, h2, ha.1, ha.2⟩)))))
  all_goals exact absurd (by decide +kernel) nw
theorem oks_m {k : Kd} {r : Spn} (h : OkS k r) (b : Bool) : OkS k ⟨r.a, r.b, r.m || b⟩ := by
  cases h with
  | am => exact .am
  | ends h1 h2 h3 => exact .ends h1 h2 h3
/-- what comes of the words that make ints -/
theorem raw_isW {w : Str} {k : Kd} {ss : List Spn} (h : CWr w k ss) (hw : w ∈ IW) : isW (raw w ss) := by
  rcases h with ⟨rfl, _⟩ | ⟨rfl, _, s, rfl, h, e⟩ | ⟨rfl, _, s, rfl, h, e⟩ | ⟨rfl, _, s, rfl, h, e⟩ | ⟨rfl, _⟩ | ⟨hc, _⟩ | ⟨hc, _, s, t, rfl, h, h2, e, e2⟩
  · exact absurd hw (by decide +kernel)
  · obtain ⟨a, b, m, rfl, _⟩ := okI1 h e
    exact .inr ⟨-b, -a, false, by rw [raw_i, if_pos rfl]⟩
  · obtain ⟨a, b, m, rfl, _⟩ := okI1 h e
    rw [raw_i, if_neg (by decide +kernel)]
    split
    · exact .inr ⟨_, _, _, rfl⟩
    · split
      · exact .inr ⟨_, _, _, rfl⟩
      · exact .inr ⟨_, _, _, rfl⟩
  · obtain ⟨a, b, m, rfl, _⟩ := okT1 h e
    show isW (if a = b then _ else _)
    split
    · exact .inr ⟨_, _, _, rfl⟩
    · exact .inr ⟨_, _, _, rfl⟩
  · exact absurd hw (by decide +kernel)
  · exact absurd hw ((by decide +kernel : ∀ w ∈ CMP, w ∉ IW) w hc)
  · obtain ⟨a, b, m, rfl, _⟩ := okI1 h e
    obtain ⟨c, d, n, rfl, _⟩ := okI1 h2 e2
    rcases (by simpa [A5] using hc : w = "add" ∨ w = "sub" ∨ w = "mul" ∨ w = "div" ∨ w = "mod") with rfl | rfl | rfl | rfl | rfl
    · rw [raw_add]; exact .inr ⟨_, _, _, rfl⟩
    · rw [raw_sub]; exact .inr ⟨_, _, _, rfl⟩
    · rw [raw_mul]; exact .inr ⟨_, _, _, rfl⟩
    · rw [raw_div]
      unfold divS
      split
      · exact .inl rfl
      · exact .inr ⟨_, _, _, rfl⟩
    · rw [raw_mod]
      unfold modS
      split
      · exact .inl rfl
      · exact .inr ⟨_, _, _, rfl⟩
theorem isW_oks {s : Spn} (h : isW s) : OkS .i (wb s) := by
  rcases h with rfl | ⟨a, b, m, rfl⟩
  · exact .am
  · exact wb_oks a b m
theorem tl_list : TL.cps.toList = List.replicate 200 126 := by decide +kernel
theorem rep_ge : ∀ (n : Nat) (l : List Nat), (∀ c ∈ l, c ≤ 126) → l.length ≤ n → ¬ List.replicate n 126 < l
  | _, [], _, _ => fun h => List.not_lt_nil _ h
  | 0, _ :: _, _, h => absurd h (by simp)
  | n + 1, c :: l, hc, hl => fun h => by
    rw [List.replicate_succ] at h
    rcases List.cons_lt_cons_iff.mp h with h | ⟨_, h⟩
    · have := hc c List.mem_cons_self
      omega
    · exact rep_ge n l (fun z hz => hc z (List.mem_cons_of_mem _ hz)) (by simpa using hl) h
theorem txt_e {z : Str} (h : Txt95 z) (l : z.length ≤ 200) : OkE .t (.str z) := ⟨⟨z, rfl, h, by omega⟩, decide_eq_true (by omega)⟩
theorem tl_txt : Txt95 TL := by
  intro c hc
  rw [tl_list] at hc
  rw [List.eq_of_mem_replicate hc]
  decide
theorem tl_len : TL.length = 200 := by decide +kernel
theorem tl_ge {z : Str} (h : Txt95 z) (l : z.length ≤ 200) : ltV (.str TL) (.str z) = false := by
  refine decide_eq_false ?_
  rw [tl_list]
  refine rep_ge 200 _ (fun c hc => ?_) (by rw [Array.length_toList]; exact l)
  have := okc_lt (h c hc)
  omega
theorem raw_oks {w : Str} {k : Kd} {ss : List Spn} (h : CWr w k ss) : OkS k (if w ∈ IW then wb (raw w ss) else raw w ss) := by
  by_cases hw : w ∈ IW
  · rw [if_pos hw]
    have hk : k = .i := by
      rcases h with ⟨rfl, _⟩ | ⟨_, e, _⟩ | ⟨_, e, _⟩ | ⟨_, e, _⟩ | ⟨rfl, _⟩ | ⟨hc, _⟩ | ⟨_, e, _⟩
      · exact absurd hw (by decide +kernel)
      · exact e
      · exact e
      · exact e
      · exact absurd hw (by decide +kernel)
      · exact absurd hw ((by decide +kernel : ∀ w ∈ CMP, w ∉ IW) w hc)
      · exact e
    subst hk
    exact isW_oks (raw_isW h hw)
  · rw [if_neg hw]
    rcases h with ⟨rfl, rfl, s, rfl, h, e⟩ | ⟨rfl, _⟩ | ⟨rfl, _⟩ | ⟨rfl, _⟩ | ⟨rfl, rfl, s, t, rfl, h, h2, e, e2⟩ | ⟨hc, rfl, s, t, q, rfl, h, h2, e, e2⟩ | ⟨hc, _⟩
    · cases h with
      | am => cases e
      | @ends a b m ha hb hab =>
        obtain ⟨⟨x, rfl⟩, _⟩ := ha
        obtain ⟨⟨y, rfl⟩, _⟩ := hb
        refine .ends (okb (!y)) (okb (!x)) ?_
        cases x <;> cases y <;> first | rfl | cases hab
    · exact absurd (by decide +kernel) hw
    · exact absurd (by decide +kernel) hw
    · exact absurd (by decide +kernel) hw
    · obtain ⟨x, y, m, rfl, hx, hx2, _⟩ := okT1 h e
      obtain ⟨z, u, n, rfl, hz, hz2, _⟩ := okT1 h2 e2
      rw [raw_joined]
      unfold joinS
      split
      · exact .ends (txt_e hx hx2) (txt_e tl_txt (by rw [tl_len]; omega)) (tl_ge hx hx2)
      · split
        · exact .am
        · rename_i h5
          have o := txt_e (cat_ok hx hz) (by omega)
          exact .ends o o (ltV_irr o.1)
    · rw [raw_cmp hc]
      have hcc : ∀ w ∈ CMP, w = "eq" ∨ w = "ne" ∨ w = "lt" ∨ w = "le" ∨ w = "gt" ∨ w = "ge" := by decide +kernel
      have heq : share s t = true ∨ (!allEq s t) = true := by
        cases ea : allEq s t with
        | false => exact .inr rfl
        | true =>
          refine .inl ?_
          unfold allEq at ea
          simp only [Bool.and_eq_true, decide_eq_true_eq] at ea
          obtain ⟨e1, e3, e4⟩ := ea
          have sa := (h.ends_of e).1
          unfold share
          rw [← e3, ← e1, ← e4, ltV_irr sa.1]
          rfl
      have l1 := lt_or h h2 e e2
      have l2 := lt_or h2 h e2 e
      rcases hcc w hc with rfl | rfl | rfl | rfl | rfl | rfl
      · rw [cs_eq]; exact tr_oks heq
      · rw [cs_ne]; exact tr_oks heq.symm
      · rw [cs_lt]; exact tr_oks l1
      · rw [cs_le]; exact tr_oks l2.symm
      · rw [cs_gt]; exact tr_oks l2
      · rw [cs_ge]; exact tr_oks l1.symm
    · exact absurd ((by decide +kernel : ∀ w ∈ A5, w ∈ IW) w hc) hw
theorem sor_oks (os : List (Option Bool)) : OkS .f (sor os) := hold_oks fun s hs => by
  obtain ⟨o, _, rfl⟩ := List.mem_map.mp hs
  exact spv_ok o
theorem orElse_oks {k : Kd} {s t : Spn} (hs : OkS k s) (ht : OkS k t) : OkS k (if s.m = true then ⟨(hold [s, t]).a, (hold [s, t]).b, t.m⟩ else s) := by
  split
  · have hh : OkS k (hold [s, t]) := hold_oks fun u hu => by
      simp only [List.mem_cons, List.not_mem_nil, or_false] at hu
      rcases hu with rfl | rfl
      · exact hs
      · exact ht
    generalize e : hold [s, t] = r at hh
    cases hh with
    | am =>
      have : has t = false := by
        cases h : has t with
        | false => rfl
        | true =>
          unfold hold at e
          have hm : t ∈ [s, t].filter has := List.mem_filter.mpr ⟨by simp, h⟩
          cases hf : [s, t].filter has with
          | nil => rw [hf] at hm; cases hm
          | cons u v =>
            rw [hf] at e
            have hu : u ∈ [s, t].filter has := by rw [hf]; exact List.mem_cons_self
            have ka := (hold_ok (k := k) (ss := [s, t]) (fun u hu => by
              simp only [List.mem_cons, List.not_mem_nil, or_false] at hu
              rcases hu with rfl | rfl
              · exact hs
              · exact ht))
            have e2 : mnV u.a (v.map (·.a)) = .non := congrArg Spn.a e
            have hmm := mnV_mem (v.map (·.a)) u.a
            rw [e2] at hmm
            have hy2 : V.non ∈ (u :: v).map (·.a) := hmm
            obtain ⟨z, hz, ez⟩ := List.mem_map.mp hy2
            exact absurd ez (ka z (by rw [hf]; exact hz)).1.ne
      rw [ht.am_of this]
      exact .am
    | ends h1 h2 h3 => exact .ends h1 h2 h3
  · exact hs
theorem jn_oks {w : Str} {qs : List Kd} {k : Kd} {ss : List Spn} (hj : JT w qs k) (hs : OkSs qs ss) : OkS k (jn w ss) := by
  unfold jn
  by_cases lw : w ∈ LW
  · rw [if_pos lw]
    rcases hj with ⟨rfl, _⟩ | ⟨rfl, _⟩ | ⟨rfl, _⟩ | ⟨rfl, _⟩ | ⟨rfl, _⟩ | ⟨hw, _⟩ | ⟨hw, _⟩ | ⟨rfl, rfl, a, _, rfl⟩ | ⟨rfl, rfl, rfl⟩ | ⟨rfl, rfl, rfl⟩ | ⟨rfl, rfl⟩ | ⟨rfl, rfl⟩
    · exact absurd lw (by decide +kernel)
    · exact absurd lw (by decide +kernel)
    · exact absurd lw (by decide +kernel)
    · exact absurd lw (by decide +kernel)
    · exact absurd lw (by decide +kernel)
    · exact absurd lw ((by decide +kernel : ∀ w ∈ CMP, w ∉ LW) w hw)
    · exact absurd lw ((by decide +kernel : ∀ w ∈ A5, w ∉ LW) w hw)
    · cases hs with | @cons _ s _ _ h g => cases g with | nil =>
      show OkS .f (trS s.m (has s))
      cases h with
      | am => exact tr_oks (.inl rfl)
      | ends h1 _ _ => exact tr_oks (.inr (has_ends h1))
    · cases hs with | @cons _ s _ _ h g => cases g with | @cons _ t _ _ h2 g => cases g with | nil =>
      rw [jL_2, if_pos rfl]
      exact sor_oks _
    · cases hs with | @cons _ s _ _ h g => cases g with | @cons _ t _ _ h2 g => cases g with | nil =>
      rw [jL_2, if_neg (by decide +kernel), if_pos rfl]
      exact sor_oks _
    · cases hs with | @cons _ c _ _ h g => cases g with | @cons _ s _ _ h2 g => cases g with | @cons _ t _ _ h3 g => cases g with | nil =>
      refine hold_oks fun u hu => ?_
      rcases List.mem_append.mp hu with hu | hu
      · rcases List.mem_append.mp hu with hu | hu
        · split at hu
          · rw [List.mem_singleton.mp hu]; exact h2
          · cases hu
        · split at hu
          · rw [List.mem_singleton.mp hu]; exact h3
          · cases hu
      · split at hu
        · rw [List.mem_singleton.mp hu]; exact .am
        · cases hu
    · cases hs with | @cons _ s _ _ h g => cases g with | @cons _ t _ _ h2 g => cases g with | nil =>
      rw [jL_2, if_neg (by decide +kernel), if_neg (by decide +kernel)]
      exact orElse_oks h h2
  · rw [if_neg lw]
    unfold jS
    by_cases e : ss.all has = true
    · rw [if_pos e]
      exact oks_m (raw_oks (cw_inv hj lw hs e)) _
    · rw [if_neg e]
      exact .am
end K2

namespace K2
open PySem L2
def SW : List Str := (["neg", "abs", "not", "length", "joined"] : List Str) ++ CMP ++ A5
theorem CWr.sw {w : Str} {k : Kd} {ss : List Spn} (h : CWr w k ss) : w ∈ SW := by
  rcases h with ⟨rfl, _⟩ | ⟨rfl, _⟩ | ⟨rfl, _⟩ | ⟨rfl, _⟩ | ⟨rfl, _⟩ | ⟨hc, _⟩ | ⟨hc, _⟩
  · decide +kernel
  · decide +kernel
  · decide +kernel
  · decide +kernel
  · decide +kernel
  · exact List.mem_append.mpr (.inl (List.mem_append.mpr (.inr hc)))
  · exact List.mem_append.mpr (.inr hc)
def spW (K : PySem.W.Frag) (wd : Str) : Sp := fun vs H Q _ => ∃ k ss, F2 (SpnAt K H) vs ss ∧ CWr wd k ss ∧ ∀ H' r, Same H H' → SpnAt K H' r (raw wd ss) → Q r H'
def StrT (P : Program) (w : World) (K : PySem.W.Frag) (mg : Str → Option Value) (base : Heap) (kst : Addr) : Prop := ∀ wd ∈ SW, ∃ f, KDct K w kst wd (.ref f) ∧ FnR P w K mg base CX0 6 f (spW K wd) ∧ PySem.W.keepIn K (.ref f) = true
def StS (P : Program) (w : World) (K : PySem.W.Frag) (mg : Str → Option Value) (base : Heap) (f : Addr) (sp : Sp) : Prop := ∃ wd ∈ SW, sp = spW K wd ∧ FnR P w K mg base CX0 6 f (spW K wd) ∧ PySem.W.keepIn K (.ref f) = true
theorem StS.ok {P : Program} {w : World} {K : PySem.W.Frag} {mg : Str → Option Value} {base : Heap} (f : Addr) (sp : Sp) (h : StS P w K mg base f sp) : FnR P w K mg base CX0 6 f sp ∧ PySem.W.keepIn K (.ref f) = true := by
  obtain ⟨_, _, rfl, h⟩ := h
  exact h
def spStr (K : PySem.W.Frag) : Sp := fun vs H Q _ => ∃ (wd : Str) (a : Addr) (xs : List V) (ss : List Spn) (qs : List Kd) (k : Kd), vs = [.str wd, .ref a] ∧ H a = some (.lst xs) ∧ F2 (SpnAt K H) xs ss ∧ JT wd qs k ∧ wd ∉ LW ∧ OkSs qs ss ∧ ss.length ≤ 3 ∧ ∀ H' r, Same H H' → SpnAt K H' r (jS wd ss) → Q r H'
section
variable {P : Program} {w : World} {K : PySem.W.Frag} {mg : Str → Option Value} {base : Heap}
theorem sc_strictS : FnScope ["word", "spans", "span", "strict", "least", "greatest", "missing", "part"] ["word", "spans"] (defScope sStrictSpan) := ⟨rfl, rfl, rfl, by decide +kernel, rfl, by decide +kernel, by decide +kernel⟩
theorem ok_strictS {f : Addr} {fd : FuncData} {kst kiw : Addr} {kam : Addr} {fE fW : Addr} {fdE fdW : FuncData} (F : Fun K "strict_span" "strict_span" sStrictSpan f fd) (M : Nm mg) (hany : mg "any" = none) (hall : mg "all" = none) (mst : mg "STRICT_SPANS" = some (.ref kst)) (T : StrT P w K mg base kst) (miw : mg "INT_WORDS" = some (.ref kiw)) (hiw : ∀ H : Hp, SqT K H kiw (IW.map V.str)) (mam : mg "ALWAYS_MISSING" = some (.ref kam)) (ham : ∀ H : Hp, SqT K H kam AM.v) (GE : FnOk P w K mg base CX0 1 fE fdE ["span"] (spHas K)) (kE : PySem.W.keepIn K (.ref fE) = true) (bE : Binds K fdE ["span"] []) (gE : mg "has_ends" = some (.ref fE)) (GW : FnOk P w K mg base CX0 2 fW fdW ["span"] (sp1 K isW wb)) (kW : PySem.W.keepIn K (.ref fW) = true) (bW : Binds K fdW ["span"] []) (gW : mg "within_bounds" = some (.ref fW)) : FnOk P w K mg base CX0 7 f fd ["word", "spans"] (spStr K) := by
  refine F.ok sc_strictS (fun vs H Q E h => ?_) (fun cdv A outer s0 H vs Q E hr h => ?_)
  · obtain ⟨wd, a, xs, ss, qs, k, rfl, ha, hx, hj, nl, hs, hl, q⟩ := h
    rfl
  · obtain ⟨wd, a, xs, ss, qs, k, rfl, ha, hx, hj, nl, hs, hl, q⟩ := h
    refine ⟨_, (Evl.pss_cut (ps_if (pt_not (pt_val (pe_callB (cr_all rfl) (by rfl) hall (by decide +kernel) (pa_cons (pe_lc (own := [("span", 2)]) (g := (gName 2)) (tt := tYes) rfl sc_strictS.nd (pi_list (pv 1)) (blkOk_by (N := ["word", "spans", "span", "strict", "least", "greatest", "missing", "part"]) (sc := defScope sStrictSpan) (by decide +kernel)) (fun _ _ _ _ _ => (pg_name (i := 2) sc_strictS.nd rfl (Or.inl rfl))) (fun _ _ _ _ _ => pts_nil) (fun _ _ _ _ _ => (pe_call GE (hr.mono (by decide)) (by rfl) gE kE bE .nil pass0 (pa_cons (pv 2) pa_nil)))) pa_nil)))) (pss_one (ps_ret (pe_glob (v := .ref kam) (by rfl) mam rfl))) pss_nil)
      (pss_cons (ps_set (i := 3) sc_strictS.nd rfl (.inl rfl) (pe_ix ix_kdict (pe_glob (v := .ref kst) (by rfl) mst rfl) (pv 0) (fun _ _ => rfl)))
      (pss_cons (ps_set (i := 2) sc_strictS.nd rfl (.inl rfl) (pe_starL (i := 3) (S := StS P w K mg base) StS.ok (hr.mono (by decide)) rfl (.inl rfl) (pv 1)))
      (Evl.pss_cut (ps_asg (pe_ifExp (pt_cmpR op_in_seq (pv 0) (pe_glob (v := .ref kiw) (by rfl) miw rfl) (by rfl)) (pe_call GW (hr.mono (by decide)) (by rfl) gW kW bW .nil pass0 (pa_cons (pv 2) pa_nil)) (pv 2)) (pg_tup (by rfl) (pgs_cons (pg_name (i := 4) sc_strictS.nd rfl (.inl rfl)) (pgs_cons (pg_name (i := 5) sc_strictS.nd rfl (.inl rfl)) (pgs_cons (pg_name (i := 6) sc_strictS.nd rfl (.inl rfl)) pgs_nil)))))
      (pss_one (ps_ret (pe_tup (pa_cons (pv 4) (pa_cons (pv 5) (pa_cons (pe_or (pv 6) (pe_one (pe_callB (cr_any rfl) (by rfl) hany (by decide +kernel) (pa_cons (pe_lc (own := [("part", 7)]) (g := (gName 7)) (tt := tYes) rfl sc_strictS.nd (pi_list (pv 1)) (blkOk_by (N := ["word", "spans", "span", "strict", "least", "greatest", "missing", "part"]) (sc := defScope sStrictSpan) (by decide +kernel)) (fun _ _ _ _ _ => (pg_name (i := 7) sc_strictS.nd rfl (Or.inl rfl))) (fun _ _ _ _ _ => pts_nil) (fun _ _ _ _ _ => (pe_ix (ix_tupK K rfl) (pv 7) pe_int (fun _ _ => rfl)))) pa_nil)))) pa_nil)))))))))), ?_⟩
    have hz : ss.length < sizeLine := Nat.lt_of_le_of_lt hl (by decide)
    unfold jS at q
    refine ⟨fun σ' H' => σ' = [some (.str wd), some (.ref a), none, none, none, none, none, none] ∧ Same H H' ∧ ss.all has = true, ?_, ?_⟩
    · refine ⟨_, rfl, a, rfl, ⟨_, .inl (.inl ha)⟩, fun D nD => ?_⟩
      refine lcF sqi_list (fun H1 s1 => .inl (.inl (s1 _ _ ha))) nD ss hx.len tru1 (fun _ y s => y = .bl (has s)) (fun _ _ _ _ _ r _ _ => r) (fun i x s H1 hi hs s1 Qs Qn q1 q2 => ?_) hz (fun H1 ys s1 e1 f1 => ?_)
      · exact ⟨rfl, yesT ⟨_, rfl, _, s, rfl, (hx.get hi hs).same s1, q1 rfl H1 _ same_refl rfl⟩⟩
      · rw [filter_tru] at f1
        have ez : ys = (ss.map has).map V.bl := by rw [f1.eq, List.map_map]; rfl
        rw [ez] at e1
        have eb : (ss.map has).all id = ss.all has := by rw [List.all_map]; rfl
        refine ⟨D, ss.map has, rfl, .inl (.inl e1), _, rfl, ?_⟩
        rw [eb]
        by_cases ea : ss.all has = true
        · exact iteBF (by rw [ea]; rfl) ⟨rfl, s1, ea⟩
        · rw [if_neg ea] at q
          exact iteB (by rw [Bool.eq_false_iff.mpr ea]; rfl) (q H1 _ s1 ⟨kam, rfl, ham _⟩)
    rintro _ H1 ⟨rfl, s1, ea⟩
    rw [if_pos ea] at q
    have cw := cw_inv hj nl hs ea
    obtain ⟨f0, hkd, hF, hk⟩ := T wd cw.sw
    have f1 : F2 (SpnAt K H1) xs ss := hx.imp fun _ _ h => h.same s1
    refine ⟨_, rfl, kst, wd, .ref f0, rfl, rfl, hkd, f0, _, rfl, ⟨wd, cw.sw, rfl, hF, hk⟩, _, rfl, a, xs, rfl, .inr (.inl (.inl (s1 _ _ ha))), k, ss, f1, cw, fun H2 r s2 hr2 => ?_⟩
    refine ⟨fun σ' H' => ∃ x2, σ' = [some (.str wd), some (.ref a), x2, some (.ref f0), some (if wd ∈ IW then wb (raw wd ss) else raw wd ss).a, some (if wd ∈ IW then wb (raw wd ss) else raw wd ss).b, some (.bl (if wd ∈ IW then wb (raw wd ss) else raw wd ss).m), none] ∧ Same H H', ?_, ?_⟩
    · refine ⟨_, rfl, kiw, _, rfl, .inr (hiw _), rfl, (by decide +kernel), _, rfl, ?_⟩
      have ei : inV (.str wd) (IW.map V.str) = decide (wd ∈ IW) := inV_str wd IW
      by_cases hw : wd ∈ IW
      · rw [if_pos hw]
        refine iteB (ei.trans (decide_eq_true hw)) ⟨_, rfl, _, _, rfl, hr2, raw_isW cw hw, fun H3 r3 s3 h3 => ?_⟩
        obtain ⟨p3, rfl, h3⟩ := h3
        exact ⟨p3, _, rfl, h3, rfl, _, _, rfl, _, _, rfl, _, _, rfl, rfl, _, rfl, same_trans s1 (same_trans s2 s3)⟩
      · rw [if_neg hw]
        refine iteBF (ei.trans (decide_eq_false hw)) ⟨_, rfl, ?_⟩
        obtain ⟨p3, rfl, h3⟩ := hr2
        exact ⟨p3, _, rfl, h3, rfl, _, _, rfl, _, _, rfl, _, _, rfl, rfl, _, rfl, same_trans s1 s2⟩
    rintro _ H4 ⟨x2, rfl, s4⟩
    dsimp only at q
    generalize (if wd ∈ IW then wb (raw wd ss) else raw wd ss) = R at q
    have fin : ∀ (b : Bool) (H5 : Hp), Same H4 H5 → b = (R.m || ss.any (·.m)) → ∀ t, H5 t = none → Q (.ref t) (upd H5 t (.tup [R.a, R.b, .bl b])) := fun b H5 s5 eb t nt => by
      rw [← eb] at q
      exact q _ _ (same_trans s4 (same_trans s5 (same_new nt))) (SpnAt.new (s := ⟨R.a, R.b, b⟩))
    refine ⟨_, rfl, _, rfl, _, rfl, R.m, rfl, ?_⟩
    by_cases em : R.m = true
    · refine iteB em ⟨(by show 3 ≤ sizeLine; decide), fun t nt => ?_⟩
      exact fin true H4 same_refl (by rw [em]; rfl) t nt
    · have em := Bool.eq_false_iff.mpr em
      refine iteBF em ⟨_, rfl, a, rfl, ⟨_, .inl (.inl (s4 _ _ ha))⟩, fun E nE => ?_⟩
      refine lcF sqi_list (fun H2 s2 => .inl (.inl (s2 _ _ (s4 _ _ ha)))) nE ss hx.len tru1 (fun _ y s => y = .bl s.m) (fun _ _ _ _ _ r _ _ => r) (fun i x s H2 hi hs s2 Qs Qn q1 q2 => ?_) hz (fun H2 zs s2 e2 f2 => ?_)
      · obtain ⟨p, rfl, hp⟩ := ((hx.get hi hs).same s4).same s2
        exact ⟨rfl, yesT ⟨_, rfl, p, _, 2, .bl s.m, rfl, rfl, hp, rfl, q1 rfl H2 _ same_refl rfl⟩⟩
      · rw [filter_tru] at f2
        have ez : zs = (ss.map (·.m)).map V.bl := by rw [f2.eq, List.map_map]; rfl
        rw [ez] at e2
        have eb : (ss.map (·.m)).any id = ss.any (·.m) := by rw [List.any_map]; rfl
        refine ⟨E, ss.map (·.m), rfl, .inl (.inl e2), (by show 3 ≤ sizeLine; decide), fun t nt => ?_⟩
        exact fin _ H2 s2 (by rw [eb, em]; rfl) t nt
end
end K2

namespace K2
open PySem L2
structure Mk where
  n : Int
  a : V
  b : V
def BoxAt (K : PySem.W.Frag) (H : Hp) (x : V) (bx : List (Int × Int)) : Prop := ∃ p xs, x = .ref p ∧ SqT K H p xs ∧ F2 (fun y b => ∃ q, y = .ref q ∧ SqT K H q [.int b.1, .int b.2]) xs bx
def MkAt (K : PySem.W.Frag) (H : Hp) (x : V) (mk : List Mk) : Prop := ∃ p q n xs, x = .ref p ∧ SqT K H p [n, .ref q] ∧ SqT K H q xs ∧ F2 (fun y c => ∃ q, y = .ref q ∧ SqT K H q [.int c.n, c.a, c.b]) xs mk
theorem BoxAt.same {K : PySem.W.Frag} {H H' : Hp} {x : V} {bx : List (Int × Int)} (h : BoxAt K H x bx) (s : Same H H') : BoxAt K H' x bx := by
  obtain ⟨p, xs, e, h1, h2⟩ := h
  exact ⟨p, xs, e, sqt_same h1 s, h2.imp fun _ _ ⟨q, e, h⟩ => ⟨q, e, sqt_same h s⟩⟩
theorem MkAt.same {K : PySem.W.Frag} {H H' : Hp} {x : V} {mk : List Mk} (h : MkAt K H x mk) (s : Same H H') : MkAt K H' x mk := by
  obtain ⟨p, q, n, xs, e, h1, h2, h3⟩ := h
  exact ⟨p, q, n, xs, e, sqt_same h1 s, sqt_same h2 s, h3.imp fun _ _ ⟨q, e, h⟩ => ⟨q, e, sqt_same h s⟩⟩
theorem F2.at {α : Type} {R : V → α → Prop} : ∀ {xs : List V} {ss : List α} {i : Nat} {s : α}, F2 R xs ss → ss[i]? = some s → ∃ x, xs[i]? = some x ∧ R x s
  | _, _, 0, _, .cons a t, g => by cases g; exact ⟨_, rfl, a⟩
  | _, _, i + 1, _, .cons a t, g => F2.at (i := i) t g
def Mk.s (c : Mk) : Spn := ⟨c.a, c.b, decide (0 < c.n)⟩
inductive Pp where
  | mk (s : Spn) (ps : List Pp)
def Pp.s : Pp → Spn
  | .mk s _ => s
def Pp.ps : Pp → List Pp
  | .mk _ p => p
mutual
inductive Pr (ds : List D) (ts : List T) (bx : List (Int × Int)) (mk : List Mk) : Ex → Pp → Kd → Prop
  | val {k : Str} {v : V} {q : Kd} : OkS q (spv v) → (v = .non ∨ OkE q v) → Pr ds ts bx mk (.val k v) (.mk (spv v) []) q
  | attr {n : Str} {i : Nat} {c : Mk} {q : Kd} : IsIdx (ts.map (·.n)) n (some i) → mk[i]? = some c → OkS q c.s → Pr ds ts bx mk (.attr n) (.mk c.s []) q
  | dim {n : Str} {i : Nat} {b : Int × Int} : IsIdx (ds.map (·.n)) n (some i) → bx[i]? = some b → OkS .i ⟨.int b.1, .int b.2, false⟩ → Pr ds ts bx mk (.dim n) (.mk ⟨.int b.1, .int b.2, false⟩ []) .i
  | op {w : Str} {ps : List Ex} {pps : List Pp} {qs : List Kd} {k : Kd} : PrAll ds ts bx mk ps pps qs → JT w qs k → ps.length ≤ 3 → Pr ds ts bx mk (.op w ps) (.mk (jn w (pps.map Pp.s)) pps) k
inductive PrAll (ds : List D) (ts : List T) (bx : List (Int × Int)) (mk : List Mk) : List Ex → List Pp → List Kd → Prop
  | nil : PrAll ds ts bx mk [] [] []
  | cons {e : Ex} {es : List Ex} {p : Pp} {pp : List Pp} {q : Kd} {qs : List Kd} : Pr ds ts bx mk e p q → PrAll ds ts bx mk es pp qs → PrAll ds ts bx mk (e :: es) (p :: pp) (q :: qs)
end
mutual
theorem Pr.oks {ds : List D} {ts : List T} {bx : List (Int × Int)} {mk : List Mk} : ∀ {e : Ex} {p : Pp} {k : Kd}, Pr ds ts bx mk e p k → OkS k p.s
  | _, _, _, .val h _ => h
  | _, _, _, .attr _ _ h => h
  | _, _, _, .dim _ _ h => h
  | _, _, _, .op h j _ => jn_oks j h.oks
theorem PrAll.oks {ds : List D} {ts : List T} {bx : List (Int × Int)} {mk : List Mk} : ∀ {es : List Ex} {pp : List Pp} {qs : List Kd}, PrAll ds ts bx mk es pp qs → OkSs qs (pp.map Pp.s)
  | _, _, _, .nil => .nil
  | _, _, _, .cons h g => .cons h.oks g.oks
end
theorem PrAll.len {ds : List D} {ts : List T} {bx : List (Int × Int)} {mk : List Mk} : ∀ {es : List Ex} {pp : List Pp} {qs : List Kd}, PrAll ds ts bx mk es pp qs → pp.length = es.length
  | _, _, _, .nil => rfl
  | _, _, _, .cons _ g => by rw [List.length_cons, List.length_cons, g.len]
theorem PrAll.at {ds : List D} {ts : List T} {bx : List (Int × Int)} {mk : List Mk} : ∀ {es : List Ex} {pp : List Pp} {qs : List Kd} {i : Nat} {e : Ex} {p : Pp}, PrAll ds ts bx mk es pp qs → es[i]? = some e → pp[i]? = some p → ∃ q, Pr ds ts bx mk e p q
  | _, _, _, 0, _, _, .cons h _, a, b => by cases a; cases b; exact ⟨_, h⟩
  | _, _, _, i + 1, _, _, .cons _ g, a, b => PrAll.at (i := i) g a b
mutual
inductive PpAt (K : PySem.W.Frag) (H : Hp) : V → Pp → Prop
  | mk {a q : Addr} {u : V} {s : Spn} {xs : List V} {ps : List Pp} : SqT K H a [u, .ref q] → SpnAt K H u s → SqT K H q xs → PpAll K H xs ps → PpAt K H (.ref a) (.mk s ps)
inductive PpAll (K : PySem.W.Frag) (H : Hp) : List V → List Pp → Prop
  | nil : PpAll K H [] []
  | cons {x : V} {xs : List V} {p : Pp} {ps : List Pp} : PpAt K H x p → PpAll K H xs ps → PpAll K H (x :: xs) (p :: ps)
end
def spWL (K : PySem.W.Frag) (wd : Str) : Sp := fun vs H Q _ => ∃ qs k ss, F2 (SpnAt K H) vs ss ∧ JT wd qs k ∧ OkSs qs ss ∧ ∀ H' r, Same H H' → SpnAt K H' r (jL wd ss) → Q r H'
structure LooT (P : Program) (w : World) (K : PySem.W.Frag) (mg : Str → Option Value) (base : Heap) (klo : Addr) (es : Array DictEntry) (n : Nat) : Prop where
  d : KDict K w klo es n
  yes : ∀ wd ∈ LW, ∃ f, KDct K w klo wd (.ref f) ∧ FnR P w K mg base CX0 6 f (spWL K wd) ∧ PySem.W.keepIn K (.ref f) = true
  no : ∀ wd ∈ SW, PySem.W.nsIn K klo wd = some none
def LoS (P : Program) (w : World) (K : PySem.W.Frag) (mg : Str → Option Value) (base : Heap) (f : Addr) (sp : Sp) : Prop := ∃ wd, sp = spWL K wd ∧ FnR P w K mg base CX0 6 f (spWL K wd) ∧ PySem.W.keepIn K (.ref f) = true
theorem LoS.ok {P : Program} {w : World} {K : PySem.W.Frag} {mg : Str → Option Value} {base : Heap} (f : Addr) (sp : Sp) (h : LoS P w K mg base f sp) : FnR P w K mg base CX0 6 f sp ∧ PySem.W.keepIn K (.ref f) = true := by
  obtain ⟨_, rfl, h⟩ := h
  exact h
theorem JT.sw {w : Str} {qs : List Kd} {k : Kd} (h : JT w qs k) (nl : w ∉ LW) : w ∈ SW := by
  rcases h with ⟨rfl, _⟩ | ⟨rfl, _⟩ | ⟨rfl, _⟩ | ⟨rfl, _⟩ | ⟨rfl, _⟩ | ⟨hc, _⟩ | ⟨hc, _⟩ | ⟨rfl, _⟩ | ⟨rfl, _⟩ | ⟨rfl, _⟩ | ⟨rfl, _⟩ | ⟨rfl, _⟩
  · decide +kernel
  · decide +kernel
  · decide +kernel
  · decide +kernel
  · decide +kernel
  · exact List.mem_append.mpr (.inl (List.mem_append.mpr (.inr hc)))
  · exact List.mem_append.mpr (.inr hc)
  all_goals exact absurd (by decide +kernel) nl
def spSF (K : PySem.W.Frag) (C : Addr) : Sp := fun vs H Q _ => ∃ (r x y : V) (s a : Addr) (e : Ex) (ds : List D) (ts : List T) (bx : List (Int × Int)) (mk : List Mk) (xs : List V) (sp : Spn) (pps : List Pp) (k : Kd), vs = [r, .ref s, x, y, .ref a] ∧ ExAt H r e ∧ ShapeAt H C s ds ts ∧ BoxAt K H x bx ∧ MkAt K H y mk ∧
  Pr ds ts bx mk e (.mk sp pps) k ∧ H a = some (.lst xs) ∧ F2 (SpnAt K H) xs (pps.map Pp.s) ∧ ∀ H' z, Same H H' → SpnAt K H' z sp → Q z H'
section
variable {P : Program} {w : World} {K : PySem.W.Frag} {mg : Str → Option Value} {base : Heap}
theorem sc_sf : FnScope ["expression", "shape", "box", "marks", "spans", "word", "missing", "least", "greatest", "loose"] ["expression", "shape", "box", "marks", "spans"] (defScope sSpanFrom) := ⟨rfl, rfl, rfl, by decide +kernel, rfl, by decide +kernel, by decide +kernel⟩
theorem ok_sf {f : Addr} {fd : FuncData} {klo C : Addr} {des : Array DictEntry} {dn : Nat} {fV fA fD fS : Addr} {fdV fdA fdD fdS : FuncData} (F : Fun K "span_from" "span_from" sSpanFrom f fd) (M : Nm mg) (mlo : mg "LOOSE_SPANS" = some (.ref klo)) (L : LooT P w K mg base klo des dn) (GV : FnOk P w K mg base CX0 1 fV fdV ["value"] (spSpv K)) (kV : PySem.W.keepIn K (.ref fV) = true) (bV : Binds K fdV ["value"] []) (gV : mg "span_of_value" = some (.ref fV)) (GA : FnOk P w K mg base CX0 2 fA fdA ["shape", "name"] (spAttrIx C)) (kA : PySem.W.keepIn K (.ref fA) = true) (bA : Binds K fdA ["shape", "name"] []) (gA : mg "attr_index" = some (.ref fA)) (GD : FnOk P w K mg base CX0 2 fD fdD ["shape", "name"] (spDimIx C)) (kD : PySem.W.keepIn K (.ref fD) = true) (bD : Binds K fdD ["shape", "name"] []) (gD : mg "dim_index" = some (.ref fD)) (GS : FnOk P w K mg base CX0 7 fS fdS ["word", "spans"] (spStr K)) (kS : PySem.W.keepIn K (.ref fS) = true) (bS : Binds K fdS ["word", "spans"] []) (gS : mg "strict_span" = some (.ref fS)) : FnOk P w K mg base CX0 8 f fd ["expression", "shape", "box", "marks", "spans"] (spSF K C) := by
  refine F.ok sc_sf (fun vs H Q E h => ?_) (fun cdv A outer s0 H vs Q E hr h => ?_)
  · obtain ⟨r, x, y, s, a, e, ds, ts, bx, mk, xs, sp, pps, k, rfl, he, hS, hB, hM, hP, ha, hx, q⟩ := h
    rfl
  · obtain ⟨r, x, y, s, a, e, ds, ts, bx, mk, xs, sp, pps, k, rfl, he, hS, hB, hM, hP, ha, hx, q⟩ := h
    refine ⟨_, (pss_cons (ps_set (i := 5) sc_sf.nd rfl (.inl rfl) (pe_ix ix_tup (pv 0) pe_int (fun _ _ => rfl)))
      (pss_cons (ps_if (pt_cmpR op_eq (pv 5) pe_str (nomark _)) (pss_one (ps_ret (pe_call GV (hr.mono (by decide)) (by rfl) gV kV bV .nil pass0 (pa_cons (pe_ix ix_tup (pv 0) pe_int (fun _ _ => rfl)) pa_nil)))) pss_nil)
      (pss_cons (ps_if (pt_cmpR op_eq (pv 5) pe_str (nomark _)) (pss_cons (ps_asg (pe_ix ix_tup (pe_ix ix_tup (pv 3) pe_int (fun _ _ => rfl)) (pe_call GA (hr.mono (by decide)) (by rfl) gA kA bA .nil pass0 (pa_cons (pv 1) (pa_cons (pe_ix ix_tup (pv 0) pe_int (fun _ _ => rfl)) pa_nil))) (fun _ _ => rfl)) (pg_tup (by rfl) (pgs_cons (pg_name (i := 6) sc_sf.nd rfl (.inl rfl)) (pgs_cons (pg_name (i := 7) sc_sf.nd rfl (.inl rfl)) (pgs_cons (pg_name (i := 8) sc_sf.nd rfl (.inl rfl)) pgs_nil)))))
      (pss_one (ps_ret (pe_tup (pa_cons (pv 7) (pa_cons (pv 8) (pa_cons (pe_cmpR op_gt (pv 6) pe_int (nomark _)) pa_nil))))))) pss_nil)
      (pss_cons (ps_if (pt_cmpR op_eq (pv 5) pe_str (nomark _)) (pss_cons (ps_asg (pe_ix ix_tup (pv 2) (pe_call GD (hr.mono (by decide)) (by rfl) gD kD bD .nil pass0 (pa_cons (pv 1) (pa_cons (pe_ix ix_tup (pv 0) pe_int (fun _ _ => rfl)) pa_nil))) (fun _ _ => rfl)) (pg_tup (by rfl) (pgs_cons (pg_name (i := 7) sc_sf.nd rfl (.inl rfl)) (pgs_cons (pg_name (i := 8) sc_sf.nd rfl (.inl rfl)) pgs_nil))))
      (pss_one (ps_ret (pe_tup (pa_cons (pv 7) (pa_cons (pv 8) (pa_cons pe_bl pa_nil))))))) pss_nil)
      (pss_cons (ps_if (pt_cmpR (op_in_kd L.d) (pv 5) (pe_glob (v := .ref klo) (by rfl) mlo rfl) (by rfl)) (pss_cons (ps_set (i := 9) sc_sf.nd rfl (.inl rfl) (pe_ix ix_kdict (pe_glob (v := .ref klo) (by rfl) mlo rfl) (pv 5) (fun _ _ => rfl)))
      (pss_one (ps_ret (pe_starL (i := 9) (S := LoS P w K mg base) LoS.ok (hr.mono (by decide)) rfl (.inl rfl) (pv 4))))) pss_nil)
      (pss_one (ps_ret (pe_call GS (hr.mono (by decide)) (by rfl) gS kS bS .nil pass0 (pa_cons (pv 5) (pa_cons (pv 4) pa_nil)))))))))), ?_⟩
    have he0 := he
    obtain ⟨ea, zs, rfl, hea, hex, _⟩ := he.tup
    refine ⟨_, rfl, ea, _, 0, _, rfl, rfl, SqT.of hea, atI_nat (j := 0) rfl, ?_⟩
    cases he with
    | @val _ kk v hv =>
      cases hP with
      | val h1 h2 => exact ⟨_, rfl, rfl, _, rfl, iteB (by show decide (V.str "value" = V.str "value") = true; decide +kernel) ⟨_, rfl, ea, _, 2, v, rfl, rfl, SqT.of hv, atI_nat (j := 2) rfl, v, rfl, q⟩⟩
    | @attr _ nm hv =>
      cases hP with
      | @attr _ i c _ hi hc ho =>
        refine ⟨_, rfl, rfl, _, rfl, iteBF (by show decide (V.str "attr" = V.str "value") = false; decide +kernel) ⟨_, rfl, rfl, _, rfl, iteB (by show decide (V.str "attr" = V.str "attr") = true; decide +kernel) ?_⟩⟩
        obtain ⟨p, p2, n, ms, rfl, hp, hp2, hms⟩ := hM
        refine ⟨_, rfl, p, _, 1, .ref p2, rfl, rfl, hp, atI_nat (j := 1) rfl, _, rfl, _, rfl, ea, _, 1, .str nm, rfl, rfl, SqT.of hv, atI_nat (j := 1) rfl, s, nm, ds, ts, rfl, hS, fun r hr H' sm => ?_⟩
        obtain rfl := idx_one hi hr
        obtain ⟨y2, e1, p3, rfl, h3⟩ := hms.at hc
        refine ⟨p2, ms, i, .ref p3, rfl, rfl, sqt_same hp2 sm, atI_nat e1, p3, _, rfl, sqt_same h3 sm, rfl, _, _, rfl, _, _, rfl, _, _, rfl, rfl, ?_⟩
        exact ⟨_, rfl, _, rfl, _, rfl, c.n, 0, rfl, rfl, (by show 3 ≤ sizeLine; decide), fun t nt => q _ _ (same_trans sm (same_new nt)) (SpnAt.new (s := c.s))⟩
    | @dim _ nm hv =>
      cases hP with
      | @dim _ i c hi hc ho =>
        refine ⟨_, rfl, rfl, _, rfl, iteBF (by show decide (V.str "dim" = V.str "value") = false; decide +kernel) ⟨_, rfl, rfl, _, rfl, iteBF (by show decide (V.str "dim" = V.str "attr") = false; decide +kernel) ⟨_, rfl, rfl, _, rfl, iteB (by show decide (V.str "dim" = V.str "dim") = true; decide +kernel) ?_⟩⟩⟩
        obtain ⟨p, ms, rfl, hp, hms⟩ := hB
        refine ⟨_, rfl, _, rfl, _, rfl, ea, _, 1, .str nm, rfl, rfl, SqT.of hv, atI_nat (j := 1) rfl, s, nm, ds, ts, rfl, hS, fun r hr H' sm => ?_⟩
        obtain rfl := idx_one hi hr
        obtain ⟨y2, e1, p3, rfl, h3⟩ := hms.at hc
        refine ⟨p, ms, i, .ref p3, rfl, rfl, sqt_same hp sm, atI_nat e1, p3, _, rfl, sqt_same h3 sm, rfl, _, _, rfl, _, _, rfl, rfl, ?_⟩
        exact ⟨_, rfl, _, rfl, (by show 3 ≤ sizeLine; decide), fun t nt => q _ _ (same_trans sm (same_new nt)) (SpnAt.new (s := ⟨_, _, _⟩))⟩
    | @op _ wd xs2 ps hv g nw ne =>
      cases hP with
      | @op _ _ _ qs _ hA hJ h3 =>
        obtain ⟨n1, n2, n3⟩ := lv_ne nw
        refine ⟨_, rfl, rfl, _, rfl, iteBF n1 ⟨_, rfl, rfl, _, rfl, iteBF n2 ⟨_, rfl, rfl, _, rfl, iteBF n3 ?_⟩⟩⟩
        have ok := hA.oks
        by_cases lw : wd ∈ LW
        · obtain ⟨f0, hkd, hF, hk⟩ := L.yes wd lw
          obtain ⟨es2, n4, u4, l4, k4, e4, r4⟩ := id hkd
          have ej : jn wd (pps.map Pp.s) = jL wd (pps.map Pp.s) := if_pos lw
          rw [ej] at q
          exact ⟨_, rfl, wd, _, rfl, rfl, e4, _, rfl, iteT ⟨_, rfl, klo, wd, .ref f0, rfl, rfl, hkd, f0, _, rfl, ⟨wd, rfl, hF, hk⟩, _, rfl, a, xs, rfl, .inr (.inl (.inl ha)), qs, k, _, hx, hJ, ok, q⟩⟩
        · have ej : jn wd (pps.map Pp.s) = jS wd (pps.map Pp.s) := if_neg lw
          rw [ej] at q
          refine ⟨_, rfl, wd, _, rfl, rfl, L.no wd (hJ.sw lw), _, rfl, iteF ⟨_, rfl, _, rfl, wd, a, xs, _, qs, k, rfl, ha, hx, hJ, lw, ok, ?_, q⟩⟩
          rw [List.length_map, hA.len]
          exact h3
end
end K2

namespace K2
open PySem L2
theorem sqt_but {K : PySem.W.Frag} {H H' : Hp} {D p : Addr} {l xs : List V} (h : SqT K H p xs) (eD : H D = some (.lst l)) (k : ∀ a o, a ≠ D → H a = some o → H' a = some o) : SqT K H' p xs := by
  rcases h with (h | ⟨o, h⟩) | h
  · exact .inl (.inl (k _ _ (fun z => by rw [z, eD] at h; cases h) h))
  · exact .inl (.inr ⟨o, k _ _ (fun z => by rw [z, eD] at h; cases h) h⟩)
  · exact .inr h
mutual
theorem PpAt.but {K : PySem.W.Frag} {H H' : Hp} {D : Addr} {l : List V} (eD : H D = some (.lst l)) (k : ∀ a o, a ≠ D → H a = some o → H' a = some o) : ∀ {x : V} {p : Pp}, PpAt K H x p → PpAt K H' x p
  | _, _, .mk h1 h2 h3 h4 => .mk (sqt_but h1 eD k) (h2.but eD k) (sqt_but h3 eD k) (PpAll.but eD k h4)
theorem PpAll.but {K : PySem.W.Frag} {H H' : Hp} {D : Addr} {l : List V} (eD : H D = some (.lst l)) (k : ∀ a o, a ≠ D → H a = some o → H' a = some o) : ∀ {x : List V} {p : List Pp}, PpAll K H x p → PpAll K H' x p
  | _, _, .nil => .nil
  | _, _, .cons h g => .cons (PpAt.but eD k h) (PpAll.but eD k g)
end
mutual
theorem PpAt.same {K : PySem.W.Frag} {H H' : Hp} (k : Same H H') : ∀ {x : V} {p : Pp}, PpAt K H x p → PpAt K H' x p
  | _, _, .mk h1 h2 h3 h4 => .mk (sqt_same h1 k) (h2.same k) (sqt_same h3 k) (PpAll.same k h4)
theorem PpAll.same {K : PySem.W.Frag} {H H' : Hp} (k : Same H H') : ∀ {x : List V} {p : List Pp}, PpAll K H x p → PpAll K H' x p
  | _, _, .nil => .nil
  | _, _, .cons h g => .cons (PpAt.same k h) (PpAll.same k g)
end
theorem PpAll.of_f2 {K : PySem.W.Frag} {H : Hp} : ∀ {x : List V} {p : List Pp}, F2 (PpAt K H) x p → PpAll K H x p
  | _, _, .nil => .nil
  | _, _, .cons h g => .cons h (PpAll.of_f2 g)
theorem PpAt.span {K : PySem.W.Frag} {H : Hp} {x : V} {p : Pp} (h : PpAt K H x p) : ∃ a u q, x = .ref a ∧ SqT K H a [u, .ref q] ∧ SpnAt K H u p.s := by
  cases h with
  | mk h1 h2 h3 h4 => exact ⟨_, _, _, rfl, h1, h2⟩
theorem Pr.parts {ds : List D} {ts : List T} {bx : List (Int × Int)} {mk : List Mk} {e : Ex} {p : Pp} {k : Kd} (h : Pr ds ts bx mk e p k) : ∃ qs, PrAll ds ts bx mk e.parts p.ps qs ∧ e.parts.length ≤ 3 := by
  cases h with
  | val _ _ => exact ⟨[], .nil, (by show 0 ≤ 3; omega)⟩
  | attr _ _ _ => exact ⟨[], .nil, (by show 0 ≤ 3; omega)⟩
  | dim _ _ _ => exact ⟨[], .nil, (by show 0 ≤ 3; omega)⟩
  | op h j l => exact ⟨_, h, l⟩
def spPaper (K : PySem.W.Frag) (C : Addr) (n : Nat) : Sp := fun vs H Q _ => ∃ (r x y : V) (s : Addr) (e : Ex) (ds : List D) (ts : List T) (bx : List (Int × Int)) (mk : List Mk) (p : Pp) (k : Kd), vs = [r, .ref s, x, y] ∧ ExAt H r e ∧ e.dep < n ∧ ShapeAt H C s ds ts ∧ BoxAt K H x bx ∧ MkAt K H y mk ∧
  Pr ds ts bx mk e p k ∧ ∀ H' z, Same H H' → PpAt K H' z p → Q z H'
section
variable {P : Program} {w : World} {K : PySem.W.Frag} {mg : Str → Option Value} {base : Heap}
theorem sc_paper : FnScope ["expression", "shape", "box", "marks", "papers", "spans", "part", "paper"] ["expression", "shape", "box", "marks"] (defScope sPaperOf) := ⟨rfl, rfl, rfl, by decide +kernel, rfl, by decide +kernel, by decide +kernel⟩
theorem ok_paper {f C fP fF : Addr} {fd fdP fdF : FuncData} (F : Fun K "paper_of" "paper_of" sPaperOf f fd) (M : Nm mg) (gY : mg "paper_of" = some (.ref f)) (bY : Binds K fd ["expression", "shape", "box", "marks"] []) (GP : FnOk P w K mg base CX0 1 fP fdP ["expression"] spParts) (kP : PySem.W.keepIn K (.ref fP) = true) (bP : Binds K fdP ["expression"] []) (gP : mg "parts_of" = some (.ref fP)) (GF : FnOk P w K mg base CX0 8 fF fdF ["expression", "shape", "box", "marks", "spans"] (spSF K C)) (kF : PySem.W.keepIn K (.ref fF) = true) (bF : Binds K fdF ["expression", "shape", "box", "marks", "spans"] []) (gF : mg "span_from" = some (.ref fF)) :
    ∀ n : Nat, FnOk P w K mg base CX0 (9 + n) f fd ["expression", "shape", "box", "marks"] (spPaper K C n) := by
  intro n
  induction n with
  | zero =>
    refine F.ok sc_paper (fun vs H Q E h => ?_) (fun cdv A outer s H vs Q E hr h => ?_)
    · obtain ⟨r, x, y, s, e, ds, ts, bx, mk, p, k, rfl, _⟩ := h
      rfl
    · obtain ⟨r, x, y, s, e, ds, ts, bx, mk, p, k, rfl, he, hd, _⟩ := h
      exact absurd hd (Nat.not_lt_zero _)
  | succ n ih =>
    refine F.ok sc_paper (fun vs H Q E h => ?_) (fun cdv A outer s0 H vs Q E hr h => ?_)
    · obtain ⟨r, x, y, s, e, ds, ts, bx, mk, p, k, rfl, _⟩ := h
      rfl
    · obtain ⟨r, x, y, s, e, ds, ts, bx, mk, p, k, rfl, he, hd, hS, hB, hM, hP, q⟩ := h
      have hr1 := hr.mono (j := 1) (by show 1 ≤ 9 + n; omega)
      have hr8 := hr.mono (j := 8) (by show 8 ≤ 9 + n; omega)
      have hrn := hr.mono (j := 9 + n) (by show 9 + n ≤ 9 + n; omega)
      have GY := ih
      have kY := F.kp
      obtain ⟨qs, hA, hl3⟩ := hP.parts
      have hpl : p.ps.length ≤ 3 := by rw [hA.len]; exact hl3
      have hz : p.ps.length < sizeLine := Nat.lt_of_le_of_lt hpl (by decide)
      refine ⟨_, (pss_cons (ps_set (i := 4) sc_paper.nd rfl (.inl rfl) (pe_callTy call_tuple_of (by rfl) M.tuple (by decide +kernel) (pa_cons (pe_lc (own := [("part", 6)]) (g := (gName 6)) (tt := tYes) rfl sc_paper.nd (pi_list (pe_call GP hr1 (by rfl) gP kP bP .nil pass0 (pa_cons (pv 0) pa_nil))) (blkOk_by (N := ["expression", "shape", "box", "marks", "papers", "spans", "part", "paper"]) (sc := defScope sPaperOf) (by decide +kernel)) (fun _ _ _ _ _ => (pg_name (i := 6) sc_paper.nd rfl (Or.inl rfl))) (fun _ _ _ _ _ => pts_nil) (fun _ _ _ _ _ => (pe_call GY hrn (by rfl) gY kY bY .nil pass0 (pa_cons (pv 6) (pa_cons (pv 1) (pa_cons (pv 2) (pa_cons (pv 3) pa_nil))))))) pa_nil)))
      (pss_cons (ps_setLc (i := 5) (own := [("paper", 7)]) (g := (gName 7)) (tt := tYes) rfl sc_paper.nd rfl rfl (sw_true rfl rfl rfl (by decide +kernel)) (pi_tup (pv 4)) (blkOk_by (N := ["expression", "shape", "box", "marks", "papers", "spans", "part", "paper"]) (sc := defScope sPaperOf) (by decide +kernel)) (fun _ _ _ _ _ => (pg_name (i := 7) sc_paper.nd rfl (Or.inl rfl))) (fun _ _ _ _ _ => pts_nil) (fun _ _ _ _ _ => (pe_ix (ix_tupK K rfl) (pv 7) pe_int (fun _ _ => rfl))))
      (pss_one (ps_ret (pe_tup (pa_cons (pe_call GF hr8 (by rfl) gF kF bF .nil pass0 (pa_cons (pv 0) (pa_cons (pv 1) (pa_cons (pv 2) (pa_cons (pv 3) (pa_cons (pv 5) pa_nil)))))) (pa_cons (pv 4) pa_nil))))))), ?_⟩
      refine ⟨_, rfl, _, e, rfl, he, fun H1 a ys s1 na ha hx1 => ⟨a, rfl, ⟨_, .inl (.inl ha)⟩, fun D nD => ?_⟩⟩
      have lys : ys.length = p.ps.length := hx1.len.trans hA.len.symm
      refine lcF sqi_list (fun H2 s2 => .inl (.inl (s2 _ _ ha))) nD p.ps lys tru1 (fun H z u => PpAt K H z u) (fun H H' z u l r e1 e2 => r.but e1 e2) (fun i z u H2 hi hu s2 Qs Qn q1 q2 => ?_) hz (fun H2 zs s2 e2 f2 => ?_)
      · have hi2 : i < e.parts.length := by
          have := (List.getElem?_eq_some_iff.mp hi).1
          rw [hx1.len] at this
          exact this
        obtain ⟨z2, e1, e2⟩ := hx1.at (List.getElem?_eq_getElem hi2)
        obtain rfl : z = z2 := Option.some.inj (hi.symm.trans e1)
        obtain ⟨q0, hq⟩ := hA.at (List.getElem?_eq_getElem hi2) hu
        have hdp := dep_part (e := e) (List.getElem_mem hi2)
        have ss := same_trans s1 s2
        exact ⟨rfl, yesT ⟨_, rfl, _, rfl, _, rfl, _, rfl, z, x, y, s, _, ds, ts, bx, mk, u, q0, rfl, e2.same s2, by omega, hS.same ss, hB.same ss, hM.same ss, hq, fun H3 v s3 h3 => q1 rfl H3 _ s3 h3⟩⟩
      · rw [filter_tru] at f2
        refine ⟨D, zs, rfl, .inl ⟨.inl (.inl e2), fun t nt => ?_⟩⟩
        have s3 : Same H (upd H2 t (.tup zs)) := same_trans s1 (same_trans s2 (same_new nt))
        have f3 : F2 (PpAt K (upd H2 t (.tup zs))) zs p.ps := f2.imp fun _ _ h => h.same (same_new nt)
        refine ⟨_, rfl, t, rfl, ⟨_, .inl (.inl upd_same)⟩, fun E nE => ?_⟩
        refine lcF sqi_tup (fun H4 s4 => .inl (.inl (s4 _ _ upd_same))) nE p.ps f3.len tru1 (fun H z u => SpnAt K H z u.s) (fun H H' z u l r e1 e2 => r.but e1 e2) (fun i z u H4 hi hu s4 Qs Qn q1 q2 => ?_) hz (fun H4 ws s4 e4 f4 => ?_)
        · obtain ⟨b, v, c, rfl, h1, h2⟩ := ((f3.get hi hu).same s4).span
          exact ⟨rfl, yesT ⟨_, rfl, b, _, 0, v, rfl, rfl, h1, rfl, q1 rfl H4 _ same_refl h2⟩⟩
        · rw [filter_tru] at f4
          have s5 := same_trans s3 s4
          obtain ⟨sp, pps⟩ := p
          refine ⟨_, rfl, _, rfl, _, rfl, _, rfl, _, rfl, r, x, y, s, E, e, ds, ts, bx, mk, ws, sp, pps, k, rfl, he.same s5, hS.same s5, hB.same s5, hM.same s5, hP, e4, f4.map, fun H6 z s6 h6 => ?_⟩
          refine ⟨_, rfl, (by show 2 ≤ sizeLine; decide), fun b nb => q _ _ (same_trans s5 (same_trans s6 (same_new nb))) ?_⟩
          have s7 := same_trans s4 (same_trans s6 (same_new (o := .tup [z, .ref t]) nb))
          exact .mk (SqT.of upd_same) (h6.same (same_new nb)) (SqT.of (s7 _ _ upd_same)) (PpAll.of_f2 (f3.imp fun _ _ h => h.same s7))
theorem sc_spanOf : FnScope ["expression", "shape", "box", "marks"] ["expression", "shape", "box", "marks"] (defScope sSpanOf) := ⟨rfl, rfl, rfl, by decide +kernel, rfl, by decide +kernel, by decide +kernel⟩
theorem ok_spanOf {f : Addr} {fd : FuncData} {C : Addr} {fY : Addr} {fdY : FuncData} (F : Fun K "span_of" "span_of" sSpanOf f fd) (GY : FnOk P w K mg base CX0 (9 + 5) fY fdY ["expression", "shape", "box", "marks"] (spPaper K C 5)) (kY : PySem.W.keepIn K (.ref fY) = true) (bY : Binds K fdY ["expression", "shape", "box", "marks"] []) (gY : mg "paper_of" = some (.ref fY)) : FnOk P w K mg base CX0 16 f fd ["expression", "shape", "box", "marks"] (fun vs H Q E => ∃ (r x y : V) (s : Addr) (e : Ex) (ds : List D) (ts : List T) (bx : List (Int × Int)) (mk : List Mk) (p : Pp) (k : Kd), vs = [r, .ref s, x, y] ∧ ExAt H r e ∧ e.dep < 5 ∧ ShapeAt H C s ds ts ∧ BoxAt K H x bx ∧ MkAt K H y mk ∧ Pr ds ts bx mk e p k ∧ ∀ H' z, Same H H' → SpnAt K H' z p.s → Q z H') := by
  refine F.ok sc_spanOf (fun vs H Q E h => ?_) (fun cdv A outer s0 H vs Q E hr h => ?_)
  · obtain ⟨r, x, y, s, e, ds, ts, bx, mk, p, k, rfl, he, hd, hS, hB, hM, hP, q⟩ := h
    rfl
  · obtain ⟨r, x, y, s, e, ds, ts, bx, mk, p, k, rfl, he, hd, hS, hB, hM, hP, q⟩ := h
    refine ⟨_, (pss_one (ps_ret (pe_ix ix_tup (pe_call GY (hr.mono (by decide)) (by rfl) gY kY bY .nil pass0 (pa_cons (pv 0) (pa_cons (pv 1) (pa_cons (pv 2) (pa_cons (pv 3) pa_nil))))) pe_int (fun _ _ => rfl)))), ?_⟩
    refine ⟨_, rfl, _, rfl, _, rfl, _, rfl, r, x, y, s, e, ds, ts, bx, mk, p, k, rfl, he, hd, hS, hB, hM, hP, fun H1 z s1 h1 => ?_⟩
    obtain ⟨a, u, c, rfl, h2, h3⟩ := h1.span
    exact ⟨a, _, 0, u, rfl, rfl, h2, rfl, q _ _ s1 h3⟩
theorem sc_canPass : FnScope ["paper"] ["paper"] (defScope sCanPass) := ⟨rfl, rfl, rfl, by decide +kernel, rfl, by decide +kernel, by decide +kernel⟩
theorem ok_canPass {f : Addr} {fd : FuncData} {fA : Addr} {fdA : FuncData} (F : Fun K "can_pass" "can_pass" sCanPass f fd) (GA : FnOk P w K mg base CX0 4 fA fdA ["span", "value"] (spAlw K)) (kA : PySem.W.keepIn K (.ref fA) = true) (bA : Binds K fdA ["span", "value"] []) (gA : mg "allows" = some (.ref fA)) : FnOk P w K mg base CX0 6 f fd ["paper"] (fun vs H Q E => ∃ (x : V) (p : Pp), vs = [x] ∧ PpAt K H x p ∧ OkS .f p.s ∧ ∀ H', Same H H' → Q (.bl (!alw p.s (.bl true))) H') := by
  refine F.ok sc_canPass (fun vs H Q E h => ?_) (fun cdv A outer s0 H vs Q E hr h => ?_)
  · obtain ⟨_, p, rfl, h1, hk, q⟩ := h
    rfl
  · obtain ⟨_, p, rfl, h1, hk, q⟩ := h
    refine ⟨_, (pss_one (ps_ret (pe_not (pe_call GA (hr.mono (by decide)) (by rfl) gA kA bA .nil pass0 (pa_cons (pe_ix ix_tup (pv 0) pe_int (fun _ _ => rfl)) (pa_cons pe_bl pa_nil)))))), ?_⟩
    obtain ⟨a, u, c, rfl, h2, h3⟩ := h1.span
    exact ⟨_, rfl, a, _, 0, u, rfl, rfl, h2, rfl, u, .bl true, p.s, .f, rfl, h3, hk, .inr ⟨.f, okb true⟩, fun H1 s1 => ⟨_, rfl, q _ s1⟩⟩
end
end K2

namespace K2
open PySem L2
def BxFit (ds : List D) (bx : List (Int × Int)) : Prop := bx.length = ds.length ∧ ∀ b ∈ bx, NumOk b.1 ∧ NumOk b.2 ∧ b.1 ≤ b.2
def MkFit (ts : List T) (mk : List Mk) : Prop := mk.length = ts.length ∧ ∀ (i : Nat) (t : T) (c : Mk), ts[i]? = some t → mk[i]? = some c → ∃ k, t.k = kdS k ∧ OkS k c.s
theorem tup_isi {K : PySem.W.Frag} {H : Hp} {p : Addr} {xs : List V} (h : SqT K H p xs) : ∃ t : Value, TyX K H (.ref p) t ∧ PySem.W.kitOne K t (.type "tuple") = some true := by
  rcases h with (h | ⟨o, h⟩) | ⟨o, its, n, h, c, _⟩
  · exact ⟨_, .base (.tup h), kit_ty (by decide +kernel)⟩
  · exact ⟨_, .fTuple h, kit_ty (by decide +kernel)⟩
  · exact ⟨_, .kTuple h c, kit_ty (by decide +kernel)⟩
theorem OkS.flat {k : Kd} {s : Spn} (h : OkS k s) : flatV s.a = true := by
  cases h with
  | am => rfl
  | ends h1 _ _ => exact OkV.flat (.inr h1)
theorem alw_eq {k : Kd} {s : Spn} {v : V} (h : OkS k s) (hv : OkE k v) : alw s v = (has s && (!ltV v s.a && !ltV s.b v)) := by
  have ea : alw s v = (oneK v s.a && (!ltV v s.a && !ltV s.b v)) := if_neg hv.ne
  rw [ea]
  cases h with
  | am => rw [show AM.a = .non from rfl, oneK_non]; rfl
  | @ends a b m ha hb hab =>
    rw [has_ends ha]
    have : oneK v a = true := by
      have h1 := hv.2
      have h2 := ha.2
      unfold oneK
      cases k with
      | i => rw [h1, h2]; rfl
      | f => rw [h1, h2]; simp
      | t => rw [h1, h2]; simp
    rw [this]
end K2

/-! ### t != u of tuples that are equal item by item -/
namespace K2
open PySem PySem.SeqAt
open AutoSeq1 (wpAny_loadPart')
open MeetsSeq MeetsSeq2 MeetsSeq3 SeqRoads2
section
variable {prog : Program} {w : World} {A : Around} {R : Result → Shared → Prop}
theorem tup_neG (p q : Addr) (xs ys : Array Value) (n1 n2 : Nat) (d1 d2 : Option Addr) (sl1 sl2 : Array (Option Value)) (hxy : xs.size = ys.size) (J : Nat → Shared → Prop)
    (step : ∀ k (g1 : k < xs.size) (g2 : k < ys.size) s, J k s → wpAny (model prog w) A.in1 (eqBool xs[k] ys[k]) (fun r s' => r = true ∧ J (k + 1) s') (fun e s' => R (.error e) s') s)
    (last : ∀ s, J xs.size s → R (.ok (.ret (.bool false))) s) {s : Shared} (e1 : s.heap.get? p = some { cls := .type "tuple", dict := d1, data := .seq xs n1, slots := sl1 }) (e2 : s.heap.get? q = some { cls := .type "tuple", dict := d2, data := .seq ys n2, slots := sl2 }) (j0 : J 0 s) :
    wpAny (model prog w) A.in1 (Builtin.«tuple.__ne__» ⟨[.ref p, .ref q], []⟩) (GQ.FinOf prog w A R) (fun e s' => R (.error e) s') s := by
  have tt := AutoSeq1.sub_tuple_tuple
  have zl : (xs.toList.zip ys.toList).length = xs.size := by simp [hxy]
  have j1 := j0
  obtain ⟨h0, g0, dr0, tk0, os0⟩ := s
  wp_walk using wpAny_loadPart' e1, wpAny_loadPart' e2, wpAny_forIn_list _ (fun left c s' => c.1 = none ∧ ∃ k, left = (xs.toList.zip ys.toList).drop k ∧ k ≤ xs.size ∧ J k s') _
  case turn =>
    rintro ⟨u, v⟩ left c s' ⟨hc, k, hk, hle, jk⟩
    have kl : k < (xs.toList.zip ys.toList).length := by
      apply Classical.byContradiction
      intro z
      rw [List.drop_of_length_le (by omega)] at hk
      cases hk
    have g1 : k < xs.size := zl ▸ kl
    have g2 : k < ys.size := hxy ▸ g1
    rw [List.drop_eq_getElem_cons kl] at hk
    injection hk with huv hl
    have eu : u = xs[k] := by have := congrArg Prod.fst huv; simpa using this
    have ev : v = ys[k] := by have := congrArg Prod.snd huv; simpa using this
    subst eu ev
    refine wpAny_bind (wpAny_mono (step k g1 g2 s' jk) (fun r s2 z => ?_) fun _ _ x => x)
    obtain ⟨rfl, j2⟩ := z
    wp_walk
    exact ⟨rfl, k + 1, hl, g1, j2⟩
  case fin =>
    rintro ⟨c1, c2⟩ s' ⟨hc, k, hk, hle, jk⟩
    simp only at hc
    subst hc
    have hge : ¬ k < xs.size := fun z => by
      rw [List.drop_eq_getElem_cons (by omega)] at hk
      cases hk
    have ek : k = xs.size := by omega
    have hR := last s' (ek ▸ jk)
    wp_walk
    simpa [Builtin.Tuple.tupleCompareSizes, hxy] using hR
  case h =>
    exact ⟨rfl, 0, rfl, Nat.zero_le _, j1⟩
theorem rn_tupG {E : Value → Shared → Prop} {s : Shared} {p q : Addr} {xs ys : Array Value} {Q : Value → Shared → Prop} (hxy : xs.size = ys.size) (hu : A.units < cLine) (J : Nat → Shared → Prop) (h1 : s.heap.IsTuple p xs) (h2 : s.heap.IsTuple q ys)
    (step : ∀ k (g1 : k < xs.size) (g2 : k < ys.size) s, J k s → wpAny (model prog w) A.in1 (eqBool xs[k] ys[k]) (fun r s' => r = true ∧ J (k + 1) s') E s)
    (last : ∀ s, J xs.size s → Q (.bool false) s) (j0 : J 0 s) : wpAny (model prog w) A (richCompare .NotEq (.ref p) (.ref q)) Q E s := by
  obtain ⟨⟨c1, d1, dt1, sl1⟩, o1, k1, n1, f1⟩ := id h1
  obtain ⟨⟨c2, d2, dt2, sl2⟩, o2, k2, n2, f2⟩ := id h2
  simp only at k1 f1 k2 f2
  subst k1 f1 k2 f2
  refine wpAny_richCompare_same_room (op := .NotEq) ⟨_, o1, rfl⟩ ⟨_, o2, rfl⟩ F.slot_tuple_ne (GQ.call_here F.slot_tuple_ne ⟨_, o1, rfl⟩ F.entry_tuple_ne (F.args_tuple_ne_2 _ _) ?_) hu
  exact tup_neG (R := wants (fun v s' => v ≠ .notImplemented ∧ Q v s') E) p q xs ys n1 n2 d1 d2 sl1 sl2 hxy J step (fun s' z => ⟨(fun x => nomatch x), last s' z⟩) o1 o2 j0
end
open L2 PySem.Spec PyProof.Rows
def rNeG (D : Eqv) : R2 := fun x y H Q => D x y H ∧ ∀ H', Ext H H' → Q (.bl false) H'
theorem op_neTup {X : Cx} {n : Nat} {D : Eqv} (hD : Mon D) (h : EqG X n D) (hr : Room (n + 1) X.A) : OpR X (compareOp .NotEq) (rNeG (DTup X.K D)) := by
  rintro pins s σ H x y u v Q I rx ry ⟨⟨a, b, xs, ys, rfl, rfl, ha, hb, p⟩, q⟩
  cases rx
  cases ry
  obtain ⟨its, r1, t1, _⟩ := I.tuple ha
  obtain ⟨jts, r2, t2, _⟩ := I.tuple hb
  have hxy : its.toArray.size = jts.toArray.size := by rw [List.size_toArray, List.size_toArray, ← r1.length, ← r2.length]; exact p.1
  have sb : Sub X (n + 1) X.A := ⟨hr, rfl⟩
  show wpAny (model X.prog X.w) X.A (richCompare .NotEq (.ref a) (.ref b)) (EP X pins σ Q) X.xe s
  exact rn_tupG hxy hr.units0 (fun _ s' => LoopI X pins σ H s') t1 t2 (fun i g1 g2 s' z => turnG hD h sb p r1 r2 i g1 g2 s' z) (fun s' z => by
    obtain ⟨H', I', e⟩ := z
    exact ⟨.bl false, H', I', rfl, q H' e⟩) ⟨H, I, Ext.rfl'⟩
end K2

namespace K2
open PySem L2
theorem val_pr {ds : List D} {ts : List T} {bx : List (Int × Int)} {mk : List Mk} {kz : Str} {v : V} {q : Kd} (h : v = .non ∨ OkE q v) : ∃ p, Pr ds ts bx mk (.val kz v) p q := by
  refine ⟨_, .val ?_ h⟩
  rcases h with rfl | h
  · exact .am
  · have e : spv v = ⟨v, v, false⟩ := if_neg h.ne
    rw [e]
    exact .ends h h (ltV_irr h.1)
mutual
theorem pr_of {ds : List D} {ts : List T} {bx : List (Int × Int)} {mk : List Mk} (FB : BxFit ds bx) (FM : MkFit ts mk) : ∀ (e : Ex) {m : Nat} {k : Kd}, WF e → ck ds ts e m = .ok k → ∃ p, Pr ds ts bx mk e p k
  | .val kz v, m, k, wf, h => by
    rw [ck] at h
    cases e : leafK ds ts (.val kz v) with
    | none => rw [e] at h; cases h
    | some k2 =>
      rw [e] at h
      injection h with h
      subst h
      have e : ((kdOf kz).bind fun q => if v = .non ∨ isVal q v = true then some q else none) = some k2 := e
      cases e3 : kdOf kz with
      | none => rw [e3] at e; cases e
      | some q =>
        rw [e3] at e
        have e : (if v = .non ∨ isVal q v = true then some q else none) = some k2 := e
        split at e
        · rename_i c
          have := Option.some.inj e
          subst this
          refine val_pr ?_
          rcases c with c | c
          · exact .inl c
          · refine .inr ⟨?_, c⟩
            rcases wf.1 with rfl | ⟨n, rfl⟩ | ⟨b, rfl⟩ | ⟨z, rfl, z1, z2⟩
            · cases q <;> cases c
            · cases q with
              | i => exact ⟨n, rfl⟩
              | f => cases c
              | t => cases c
            · cases q with
              | i => cases c
              | f => exact ⟨b, rfl⟩
              | t => cases c
            · cases q with
              | i => cases c
              | f => cases c
              | t => exact ⟨z, rfl, z1, by omega⟩
        · cases e
  | .attr n, m, k, wf, h => by
    rw [ck] at h
    cases e : leafK ds ts (.attr n) with
    | none => rw [e] at h; cases h
    | some k2 =>
      rw [e] at h
      injection h with h
      subst h
      have e : (ts.find? fun t => decide (t.n = n)).bind (fun t => kdOf t.k) = some k2 := e
      cases e3 : ts.find? fun t => decide (t.n = n) with
      | none => rw [e3] at e; cases e
      | some t =>
        rw [e3] at e
        have e : kdOf t.k = some k2 := e
        have hm := List.mem_of_find?_eq_some e3
        have hn := of_decide_eq_true (List.find?_some (p := fun t : T => decide (t.n = n)) e3)
        obtain ⟨i, hi⟩ := idx_of (ns := ts.map (·.n)) (n := n) (List.mem_map.mpr ⟨t, hm, hn⟩)
        have hfs := find_some hi.1 hi.2
        rw [e3] at hfs
        have hil : i < ts.length := (List.getElem?_eq_some_iff.mp hfs.symm).1
        have hlv : i < mk.length := by rw [FM.1]; exact hil
        have hv : mk[i]? = some mk[i] := List.getElem?_eq_getElem hlv
        obtain ⟨q, hq, ho⟩ := FM.2 i t _ hfs.symm hv
        rw [hq, kdOf_S] at e
        have := Option.some.inj e
        subst this
        exact ⟨_, .attr hi hv ho⟩
  | .dim n, m, k, wf, h => by
    rw [ck] at h
    cases e : leafK ds ts (.dim n) with
    | none => rw [e] at h; cases h
    | some k2 =>
      rw [e] at h
      injection h with h
      subst h
      have e : (if n ∈ ds.map (·.n) then some Kd.i else none) = some k2 := e
      split at e
      · rename_i hm
        have := Option.some.inj e
        subst this
        obtain ⟨i, hi⟩ := idx_of hm
        have hil : i < ds.length := by
          have := (List.getElem?_eq_some_iff.mp hi.1).1
          rwa [List.length_map] at this
        have hlp : i < bx.length := by rw [FB.1]; exact hil
        have hp : bx[i]? = some bx[i] := List.getElem?_eq_getElem hlp
        obtain ⟨n1, n2, n3⟩ := FB.2 _ (List.getElem_mem hlp)
        exact ⟨_, .dim hi hp (.ends (e_num n1) (e_num n2) (decide_eq_false (by omega)))⟩
      · cases e
  | .op wd ps, m, k, wf, h => by
    rw [ck] at h
    cases h1 : cks ds ts ps (m + 1) with
    | error j => rw [h1] at h; cases h
    | ok qs =>
      rw [h1] at h
      have h : (match joint wd qs with | some k => Except.ok k | none => .error m) = Except.ok k := h
      cases h2 : joint wd qs with
      | none => rw [h2] at h; cases h
      | some k2 =>
        rw [h2] at h
        injection h with h
        subst h
        rw [WF] at wf
        obtain ⟨xs, hx⟩ := prs_of FB FM ps wf.2 h1
        have ha : ar wd = some qs.length := by rw [wf.1, cks_len h1]
        have hj : JT wd qs k2 := jt wd (ar_in ha) qs (la_in (ar_le ha)) k2 (qs_in k2) ha h2
        exact ⟨_, .op hx hj (ar_le wf.1)⟩
theorem prs_of {ds : List D} {ts : List T} {bx : List (Int × Int)} {mk : List Mk} (FB : BxFit ds bx) (FM : MkFit ts mk) : ∀ (es : List Ex) {m : Nat} {qs : List Kd}, WFs es → cks ds ts es m = .ok qs → ∃ pp, PrAll ds ts bx mk es pp qs
  | [], m, qs, wf, h => by
    rw [cks] at h
    injection h with h
    subst h
    exact ⟨[], .nil⟩
  | e :: r, m, qs, wf, h => by
    rw [cks] at h
    rw [WFs] at wf
    cases h1 : ck ds ts e m with
    | error j => rw [h1] at h; cases h
    | ok k =>
      rw [h1] at h
      cases h2 : cks ds ts r (m + e.size) with
      | error j => simp only [h2] at h; cases h
      | ok ks =>
        simp only [h2] at h
        injection h with h
        subst h
        obtain ⟨v, h3⟩ := pr_of FB FM e wf.1 h1
        obtain ⟨xs, h5⟩ := prs_of FB FM r wf.2 h2
        exact ⟨v :: xs, .cons h3 h5⟩
end
theorem eqV_refl {x : V} (h : flatV x = true) : eqV x x = true := by
  cases x <;> first | rfl | cases h | skip
  all_goals first | exact beq_self_eq_true _ | exact decide_eq_true rfl
theorem dflat {x : V} {H : Hp} (h : flatV x = true) : DFlat x x H := ⟨h, h, eqV_refl h⟩
theorem prs_self {D : Eqv} {H : Hp} : ∀ {xs : List V}, (∀ x ∈ xs, D x x H) → Prs D xs xs H := fun {xs} h => ⟨rfl, fun i x y e1 e2 => by
  rw [e1] at e2
  obtain rfl := Option.some.inj e2
  exact h _ (List.mem_of_getElem? e1)⟩

/-! ### papers are equal, level by level -/
def PL (K : PySem.W.Frag) : Nat → Eqv
  | 0 => DFlat
  | n + 1 => DTup K (fun x y H => DTup K DFlat x y H ∨ DTup K (PL K n) x y H)
theorem mon_PL {K : PySem.W.Frag} : ∀ n, Mon (PL K n)
  | 0 => mon_flat
  | n + 1 => mon_tup ((mon_tup mon_flat).or (mon_tup (mon_PL n)))
theorem eqG_PL {X : Cx} : ∀ n, EqG X (2 * n) (PL X.K n)
  | 0 => eqG_flat
  | n + 1 => eqG_tup ((mon_tup mon_flat).or (mon_tup (mon_PL n))) (((eqG_tup mon_flat eqG_flat).mono (by omega)).or (eqG_tup (mon_PL n) (eqG_PL n)))
theorem spn_eq {K : PySem.W.Frag} {k : Kd} {H : Hp} {x y : V} {s : Spn} (hk : OkS k s) (a : SpnAt K H x s) (b : SpnAt K H y s) : DTup K DFlat x y H := by
  obtain ⟨p, rfl, h1⟩ := a
  obtain ⟨q, rfl, h2⟩ := b
  refine ⟨p, q, _, _, rfl, rfl, h1, h2, prs_self fun z hz => dflat ?_⟩
  have hz : z ∈ [s.a, s.b, .bl s.m] := hz
  simp only [List.mem_cons, List.not_mem_nil, or_false] at hz
  rcases hz with rfl | rfl | rfl
  · exact hk.flat
  · cases hk with
    | am => rfl
    | ends _ h _ => exact OkV.flat (.inr h)
  · rfl
theorem PpAll.at {K : PySem.W.Frag} {H : Hp} : ∀ {xs : List V} {ps : List Pp} {i : Nat} {x : V}, PpAll K H xs ps → xs[i]? = some x → ∃ p, ps[i]? = some p ∧ PpAt K H x p
  | _, _, 0, _, .cons a t, h => by cases h; exact ⟨_, rfl, a⟩
  | _, _, i + 1, _, .cons a t, h => PpAll.at (i := i) t h
theorem PpAll.len {K : PySem.W.Frag} {H : Hp} : ∀ {xs : List V} {ps : List Pp}, PpAll K H xs ps → xs.length = ps.length
  | _, _, .nil => rfl
  | _, _, .cons _ t => by rw [List.length_cons, List.length_cons, t.len]
theorem pp_eq {K : PySem.W.Frag} {H : Hp} {ds : List D} {ts : List T} {bx : List (Int × Int)} {mk : List Mk} : ∀ (n : Nat) {e : Ex} {p : Pp} {k : Kd} {x y : V}, Pr ds ts bx mk e p k → e.dep ≤ n → PpAt K H x p → PpAt K H y p → PL K (n + 1) x y H := by
  intro n
  induction n with
  | zero =>
    intro e p k x y hP hd hx hy
    obtain ⟨qs, hA, _⟩ := hP.parts
    have ok := hP.oks
    cases hx with | @mk a q u s xs ps h1 h2 h3 h4 =>
    cases hy with | @mk a' q' u' _ xs' _ h1' h2' h3' h4' =>
    refine ⟨_, _, _, _, rfl, rfl, h1, h1', Prs.cons (.inl (spn_eq ok h2 h2')) (Prs.cons (.inr ⟨_, _, _, _, rfl, rfl, h3, h3', ⟨h4.len.trans h4'.len.symm, fun i z z' e1 e2 => ?_⟩⟩) Prs.nil)⟩
    have hi : i < e.parts.length := by
      have := (List.getElem?_eq_some_iff.mp e1).1
      have l := hA.len
      rw [h4.len] at this
      have l : ps.length = e.parts.length := l
      omega
    have := dep_part (e := e) (List.getElem_mem hi)
    omega
  | succ n ih =>
    intro e p k x y hP hd hx hy
    obtain ⟨qs, hA, _⟩ := hP.parts
    have ok := hP.oks
    cases hx with | @mk a q u s xs ps h1 h2 h3 h4 =>
    cases hy with | @mk a' q' u' _ xs' _ h1' h2' h3' h4' =>
    refine ⟨_, _, _, _, rfl, rfl, h1, h1', Prs.cons (.inl (spn_eq ok h2 h2')) (Prs.cons (.inr ⟨_, _, _, _, rfl, rfl, h3, h3', ⟨h4.len.trans h4'.len.symm, fun i z z' e1 e2 => ?_⟩⟩) Prs.nil)⟩
    have hi : i < e.parts.length := by
      have := (List.getElem?_eq_some_iff.mp e1).1
      have l := hA.len
      rw [h4.len] at this
      have l : ps.length = e.parts.length := l
      omega
    obtain ⟨p1, ep1, hp1⟩ := h4.at e1
    obtain ⟨p2, ep2, hp2⟩ := h4'.at e2
    obtain rfl : p1 = p2 := Option.some.inj (ep1.symm.trans ep2)
    obtain ⟨q0, hq⟩ := hA.at (List.getElem?_eq_getElem hi) ep1
    have := dep_part (e := e) (List.getElem_mem hi)
    exact ih hq (by omega) hp1 hp2
/-! ### what stays when the state moves -/
theorem sqt_kp {K : PySem.W.Frag} {d l p : Addr} {H H' : Hp} {xs : List V} (h : SqT K H p xs) (S : StAt H d l) (k : Kp d l H H') : SqT K H' p xs := by
  rcases h with (h | ⟨o, h⟩) | h
  · exact .inl (.inl (k.at S h (fun _ z => nomatch z)))
  · exact .inl (.inr ⟨o, k.at S h (fun _ z => nomatch z)⟩)
  · exact .inr h
theorem SpnAt.kp {K : PySem.W.Frag} {d l : Addr} {H H' : Hp} {x : V} {s : Spn} (h : SpnAt K H x s) (S : StAt H d l) (k : Kp d l H H') : SpnAt K H' x s := let ⟨p, e, h⟩ := h; ⟨p, e, sqt_kp h S k⟩
end K2

namespace K2
open PySem L2
structure Nk (K : PySem.W.Frag) (mg : Str → Option Value) : Prop where
  tuple : mg "tuple" = none
  leaves : ∃ kk, mg "LEAVES" = some (.ref kk) ∧ ∀ H : Hp, SqT K H kk ((["value", "attr", "dim"] : List Str).map V.str)
  kinds : ∃ kk, mg "KINDS" = some (.ref kk) ∧ ∀ H : Hp, SqT K H kk ((["int", "flag", "text"] : List Str).map V.str)
  cmps : ∃ kk, mg "COMPARISONS" = some (.ref kk) ∧ ∀ H : Hp, SqT K H kk ((["eq", "ne", "lt", "le", "gt", "ge"] : List Str).map V.str)
structure Sg (K : PySem.W.Frag) (w : World) (mg : Str → Option Value) : Prop where
  sig : ∃ sd, mg "SIGNATURES" = some (.ref sd) ∧ ∀ p ∈ SIG, ∃ a b, KDct K w sd p.1 (.ref a) ∧ (∀ H, SqT K H a [.ref b, ks p.2.2]) ∧ ∀ H, SqT K H b (p.2.1.map ks)
section
variable {P : Program} {w : World} {K : PySem.W.Frag} {mg : Str → Option Value} {base : Heap}
def spLeafKind (C : Addr) : Sp := fun vs H Q _ => ∃ (r : V) (s : Addr) (e : Ex) (ds : List D) (ts : List T), vs = [r, .ref s] ∧ ExAt H r e ∧ e.word ∈ LV ∧ WF e ∧ ShapeAt H C s ds ts ∧ GoodK ds ts ∧ ∀ H', Same H H' → Q (kv (leafK ds ts e)) H'
theorem scLeafKind : FnScope ["expression", "shape", "word", "index", "kind", "value"] ["expression", "shape"] (defScope sLeafKind) := ⟨rfl, rfl, rfl, by decide +kernel, rfl, by decide +kernel, by decide +kernel⟩
theorem ok_leafKind {f fA fD fI fV fT C f1 f2 : Addr} {fd fdA fdD fdI fdV fdT : FuncData} (F : Fun K "leaf_kind" "leaf_kind" sLeafKind f fd) (N : Nk K mg) (M : Nm mg) (N2 : Ct mg) (S : ShC K C f1 f2)
    (FA : Fun K "attr_index" "attr_index" sAttrIx fA fdA) (bA : Binds K fdA ["shape", "name"] []) (gA : mg "attr_index" = some (.ref fA)) (FD : Fun K "dim_index" "dim_index" sDimIx fD fdD) (bD : Binds K fdD ["shape", "name"] []) (gD : mg "dim_index" = some (.ref fD))
    (FI : Fun K "index_of" "index_of" sIndex fI fdI) (bI : Binds K fdI ["rows", "name"] []) (gI : mg "index_of" = some (.ref fI)) (FV : Fun K "is_value" "is_value" sIsValue fV fdV) (bV : Binds K fdV ["kind", "value"] []) (gV : mg "is_value" = some (.ref fV))
    (FT : Fun K "is_text" "is_text" sIsText fT fdT) (bT : Binds K fdT ["text"] []) (gT : mg "is_text" = some (.ref fT)) : FnOk P w K mg base CX0 3 f fd ["expression", "shape"] (spLeafKind C) := by
  have GA : FnOk P w K mg base CX0 2 fA fdA ["shape", "name"] (spAttrIx C) := ok_attrIx FA M S FI bI gI
  have GD : FnOk P w K mg base CX0 2 fD fdD ["shape", "name"] (spDimIx C) := ok_dimIx FD M S FI bI gI
  have GV : FnOk P w K mg base CX0 2 fV fdV ["kind", "value"] (spVal K) := ok_isValue FV M N2 FT bT gT
  refine F.ok scLeafKind (fun vs H Q E h => ?_) (fun cdv A outer s H vs Q E hr h => ?_)
  · obtain ⟨r, s, e, ds, ts, rfl, _⟩ := h
    rfl
  · obtain ⟨r, s', e, ds, ts, rfl, he, hw, wf, hS, gk, q⟩ := h
    obtain ⟨kk, m1, r1⟩ := N.kinds
    refine ⟨_, pss_cons (ps_set (i := 2) scLeafKind.nd rfl (.inl rfl) (pe_ix ix_tup (pv 0) pe_int (fun _ _ => rfl)))
      (pss_cons (ps_if (pt_cmpR op_eq (pv 2) pe_str (nomark _))
          (pss_cons (ps_set (i := 3) scLeafKind.nd rfl (.inl rfl) (pe_call GA hr (by rfl) gA FA.kp bA .nil pass0 (pa_cons (pv 1) (pa_cons (pe_ix ix_tup (pv 0) pe_int (fun _ _ => rfl)) pa_nil))))
          (pss_one (ps_ret (pe_ifExp (pt_cmpR op_isN (pv 3) pe_non (nomark _)) pe_non (pe_ix ix_tup (pe_ix ix_tup (pe_fld (pv 1) rfl) (pv 3) (fun _ _ => rfl)) pe_int (fun _ _ => rfl)))))) pss_nil)
      (pss_cons (ps_if (pt_cmpR op_eq (pv 2) pe_str (nomark _))
          (pss_one (ps_ret (pe_ifExp (pt_cmpR op_isN (pe_call GD hr (by rfl) gD FD.kp bD .nil pass0 (pa_cons (pv 1) (pa_cons (pe_ix ix_tup (pv 0) pe_int (fun _ _ => rfl)) pa_nil))) pe_non (nomark _)) pe_non pe_str))) pss_nil)
      (pss_cons (ps_asg (pe_slice sl_tup (pv 0) (po_some pe_int) po_none) (pg_tup (by rfl) (pgs_cons (pg_name (i := 4) scLeafKind.nd rfl (.inl rfl)) (pgs_cons (pg_name (i := 5) scLeafKind.nd rfl (.inl rfl)) pgs_nil))))
      (pss_one (ps_ret (pe_ifExp (PW.pt (pw_and (pt_cmpR op_in_seq (pv 4) (pe_glob (v := .ref kk) (by rfl) m1 rfl) (by rfl)) (pw_and1 (PW.pt (pw_or (pt_cmpR op_isN (pv 5) pe_non (nomark _)) (pw_or1 (pt_val (pe_call GV hr (by rfl) gV FV.kp bV .nil pass0 (pa_cons (pv 4) (pa_cons (pv 5) pa_nil)))))))))) (pv 4) pe_non)))))), ?_⟩
    cases he with
    | op h g nw ne => exact absurd hw nw
    | @attr a n ha =>
      refine ⟨_, rfl, a, _, 0, _, rfl, rfl, SqT.of ha, atI_nat (j := 0) rfl, _, rfl, rfl, _, rfl, iteB (by decide +kernel) ?_⟩
      refine ⟨_, rfl, _, rfl, a, _, 1, _, rfl, rfl, SqT.of ha, atI_nat (j := 1) rfl, s', n, ds, ts, rfl, hS, fun r hi H1 e1 => ?_⟩
      refine ⟨_, rfl, rfl, _, rfl, ?_⟩
      cases r with
      | none =>
        have : leafK ds ts (.attr n) = none := by
          show (ts.find? _).bind _ = none
          rw [find_none hi]
          rfl
        rw [this] at q
        exact iteB (decide_eq_true rfl) (q _ e1)
      | some i =>
        refine iteBF (by rfl) ?_
        obtain ⟨hi1, hi2⟩ := hi
        have hl : i < ts.length := by
          have := (List.getElem?_eq_some_iff.mp hi1).1
          rwa [List.length_map] at this
        obtain ⟨qk, hq⟩ := gk.2.2 _ (List.getElem_mem hl)
        have e2 : leafK ds ts (.attr n) = some qk := by
          show (ts.find? _).bind _ = some qk
          rw [find_some hi1 hi2, List.getElem?_eq_getElem hl]
          show kdOf ts[i].k = some qk
          rw [hq, kdOf_S]
        rw [e2] at q
        obtain ⟨dx, td, ta, xs, ys, h1, h2, h3, h4, h5⟩ := hS.same e1
        obtain ⟨b, e3, e4⟩ := h5.2 i ts[i].v (by rw [List.getElem?_map, List.getElem?_eq_getElem hl]; rfl)
        refine ⟨_, rfl, s', C, dx, _, .ref ta, rfl, h1, S.cl, S.nA, rfl, _, rfl, ta, ys, _, .ref b, rfl, rfl, SqT.of h4, atI_nat e3, b, _, 1, .str ts[i].k, rfl, rfl, SqT.of e4, atI_nat (j := 1) rfl, ?_⟩
        rw [hq]
        exact q _ e1
    | @dim a n ha =>
      refine ⟨_, rfl, a, _, 0, _, rfl, rfl, SqT.of ha, atI_nat (j := 0) rfl, _, rfl, rfl, _, rfl, iteBF (by decide +kernel) ?_⟩
      refine ⟨_, rfl, rfl, _, rfl, iteB (by decide +kernel) ?_⟩
      refine ⟨_, rfl, _, rfl, a, _, 1, _, rfl, rfl, SqT.of ha, atI_nat (j := 1) rfl, s', n, ds, ts, rfl, hS, fun r hi H1 e1 => ?_⟩
      refine ⟨rfl, _, rfl, ?_⟩
      cases r with
      | none =>
        have : leafK ds ts (.dim n) = none := if_neg hi
        rw [this] at q
        exact iteB (decide_eq_true rfl) (q _ e1)
      | some i =>
        have : leafK ds ts (.dim n) = some .i := if_pos (List.mem_of_getElem? hi.1)
        rw [this] at q
        exact iteBF (by rfl) (q _ e1)
    | @val a k v ha =>
      refine ⟨_, rfl, a, _, 0, _, rfl, rfl, SqT.of ha, atI_nat (j := 0) rfl, _, rfl, rfl, _, rfl, iteBF (by decide +kernel) ?_⟩
      refine ⟨_, rfl, rfl, _, rfl, iteBF (by decide +kernel) ?_⟩
      refine ⟨_, rfl, 1, rfl, a, _, rfl, SqT.of ha, cut1_not _ _, fun p np => ?_⟩
      have s1 := same_new (o := .tup (cutV [.str "value", .str k, v] (some 1) none)) np
      refine ⟨p, [.str k, v], rfl, SqT.of (by rw [upd_same, cut1]), rfl, _, _, rfl, _, _, rfl, rfl, ?_⟩
      refine ⟨_, rfl, kk, _, rfl, .inr (r1 _), rfl, flat_strs KS, _, rfl, ?_⟩
      by_cases hk : k ∈ KS
      case neg =>
        have : leafK ds ts (.val k v) = none := by
          show (kdOf k).bind _ = none
          rw [kdOf_not hk]
          rfl
        rw [this] at q
        exact iteBF ((inV_str _ KS).trans (decide_eq_false hk)) (iteF (q _ s1))
      obtain ⟨qk, rfl, hq⟩ := kdOf_in hk
      have e2 : leafK ds ts (.val (kdS qk) v) = if v = .non ∨ isVal qk v = true then some qk else none := by
        show (kdOf (kdS qk)).bind _ = _
        rw [hq]
        rfl
      rw [e2] at q
      refine iteB ((inV_str _ KS).trans (decide_eq_true hk)) ⟨_, rfl, rfl, _, rfl, ?_⟩
      by_cases hv : v = .non
      · rw [if_pos (.inl hv)] at q
        exact iteB (decide_eq_true hv) (iteT ⟨_, rfl, q _ s1⟩)
      refine iteBF (decide_eq_false hv) ?_
      obtain ⟨Tt, ht⟩ := OfK.any (K := K) (H := upd H p (.tup (cutV [.str "value", .str (kdS qk), v] (some 1) none))) wf.1
      refine ⟨_, rfl, _, rfl, qk, v, Tt, rfl, ht, _, rfl, ?_⟩
      by_cases hb : isVal qk v = true
      · rw [if_pos (.inr hb)] at q
        exact iteB hb ⟨_, rfl, q _ s1⟩
      · rw [if_neg fun z => z.elim hv hb] at q
        exact iteBF (Bool.eq_false_iff.mpr hb) (q _ s1)
def spOver : Sp := fun vs H Q _ => ∃ (wd : Str) (p : Addr) (qs : List Kd), vs = [.str wd, .ref p] ∧ H p = some (.lst (qs.map ks)) ∧ ar wd = some qs.length ∧ ∀ H', Same H H' → Q (kv (joint wd qs)) H'
theorem scOver : FnScope ["word", "kinds", "needed", "kind"] ["word", "kinds"] (defScope sKindOver) := ⟨rfl, rfl, rfl, by decide +kernel, rfl, by decide +kernel, by decide +kernel⟩
theorem ok_over {f : Addr} {fd : FuncData} (F : Fun K "kind_over" "kind_over" sKindOver f fd) (N : Nk K mg) (G : Sg K w mg) : FnOk P w K mg base CX0 1 f fd ["word", "kinds"] spOver := by
  refine F.ok scOver (fun vs H Q E h => ?_) (fun cdv A outer s H vs Q E hr h => ?_)
  · obtain ⟨wd, p, qs, rfl, _⟩ := h
    rfl
  · obtain ⟨wd, p, qs, rfl, hp, har, q⟩ := h
    obtain ⟨kk, m1, r1⟩ := N.cmps
    obtain ⟨sd, m2, r2⟩ := G.sig
    refine ⟨_, pss_cons (ps_if (pt_cmpR op_eq (pv 0) pe_str (nomark _)) (pss_one (ps_ret pe_str)) pss_nil)
      (pss_cons (ps_if (pt_cmpR op_in_seq (pv 0) (pe_glob (v := .ref kk) (by rfl) m1 rfl) (by rfl)) (pss_one (ps_ret (pe_ifExp (pt_cmpR op_eq (pe_ix ix_list (pv 1) pe_int (fun _ _ => rfl)) (pe_ix ix_list (pv 1) pe_int (fun _ _ => rfl)) (nomark _)) pe_str pe_non))) pss_nil)
      (pss_cons (ps_if (pt_cmpR op_eq (pv 0) pe_str (nomark _)) (pss_one (ps_ret (pe_ifExp (PW.pt (pw_and (pt_cmpR op_eq (pe_ix ix_list (pv 1) pe_int (fun _ _ => rfl)) pe_str (nomark _)) (pw_and1 (pt_cmpR op_eq (pe_ix ix_list (pv 1) pe_int (fun _ _ => rfl)) (pe_ix ix_list (pv 1) pe_int (fun _ _ => rfl)) (nomark _))))) (pe_ix ix_list (pv 1) pe_int (fun _ _ => rfl)) pe_non))) pss_nil)
      (pss_cons (ps_if (pt_cmpR op_eq (pv 0) pe_str (nomark _)) (pss_one (ps_ret (pe_ifExp (pt_cmpR op_eq (pe_ix ix_list (pv 1) pe_int (fun _ _ => rfl)) (pe_ix ix_list (pv 1) pe_int (fun _ _ => rfl)) (nomark _)) (pe_ix ix_list (pv 1) pe_int (fun _ _ => rfl)) pe_non))) pss_nil)
      (pss_cons (ps_asg (pe_ix ix_kdict (pe_glob (v := .ref sd) (by rfl) m2 rfl) (pv 0) (fun _ _ => rfl)) (pg_tup (by rfl) (pgs_cons (pg_name (i := 2) scOver.nd rfl (.inl rfl)) (pgs_cons (pg_name (i := 3) scOver.nd rfl (.inl rfl)) pgs_nil))))
      (pss_one (ps_ret (pe_ifExp (pt_cmpR (op_eqD hr.units) (pe_callTy call_tuple_of (by rfl) N.tuple (by decide +kernel) (pa_cons (pv 1) pa_nil)) (pv 2) (nomark _)) (pv 3) pe_non))))))), ?_⟩
    have sp : SqL K H p (qs.map ks) := .inl (.inl hp)
    unfold joint at q
    unfold ar at har
    refine ⟨_, rfl, rfl, _, rfl, ?_⟩
    rw [str_eq]
    by_cases w1 : wd = "is missing"
    · rw [if_pos w1] at q
      exact iteB (decide_eq_true w1) (q _ (Same.refl _))
    rw [if_neg w1] at q har
    refine iteBF (decide_eq_false w1) ⟨_, rfl, kk, _, rfl, .inr (r1 H), rfl, flat_strs CMP, _, rfl, ?_⟩
    by_cases w2 : wd ∈ CMP
    · rw [if_pos w2] at q har
      obtain ⟨a, b, rfl⟩ := two (Option.some.inj har).symm
      simp only [List.getElem?_cons_zero, List.getElem?_cons_succ] at q
      refine iteB ((inV_str _ CMP).trans (decide_eq_true w2)) ⟨_, rfl, p, _, 0, ks a, rfl, rfl, sp, atI_nat (j := 0) rfl, _, rfl, p, _, 1, ks b, rfl, rfl, sp, atI_nat (j := 1) rfl, rfl, _, rfl, ?_⟩
      rw [ks_eq]
      by_cases e : a = b
      · subst e
        rw [if_pos rfl] at q
        exact iteB (decide_eq_true rfl) (q _ (Same.refl _))
      · rw [if_neg fun z => e (Option.some.inj z)] at q
        exact iteBF (decide_eq_false e) (q _ (Same.refl _))
    rw [if_neg w2] at q har
    refine iteBF ((inV_str _ CMP).trans (decide_eq_false w2)) ⟨_, rfl, rfl, _, rfl, ?_⟩
    rw [str_eq]
    by_cases w3 : wd = "if"
    · rw [if_pos w3] at q har
      obtain ⟨a, b, c, rfl⟩ := three (Option.some.inj har).symm
      simp only [List.getElem?_cons_zero, List.getElem?_cons_succ] at q
      refine iteB (decide_eq_true w3) ⟨_, rfl, p, _, 0, ks a, rfl, rfl, sp, atI_nat (j := 0) rfl, rfl, _, rfl, ?_⟩
      have ef : decide (ks a = .str ("flag" : Str)) = decide (a = .f) := ks_eq a .f
      rw [ef]
      by_cases e : a = .f
      case neg =>
        rw [if_neg fun z => e (Option.some.inj z)] at q
        exact iteBF (decide_eq_false e) (iteF (q _ (Same.refl _)))
      subst e
      refine iteB (decide_eq_true rfl) ⟨_, rfl, p, _, 1, ks b, rfl, rfl, sp, atI_nat (j := 1) rfl, _, rfl, p, _, 2, ks c, rfl, rfl, sp, atI_nat (j := 2) rfl, rfl, _, rfl, ?_⟩
      rw [ks_eq]
      by_cases e : b = c
      · subst e
        rw [if_pos rfl, if_pos rfl] at q
        exact iteB (decide_eq_true rfl) ⟨_, rfl, p, _, 1, ks b, rfl, rfl, sp, atI_nat (j := 1) rfl, q _ (Same.refl _)⟩
      · rw [if_pos rfl, if_neg fun z => e (Option.some.inj z)] at q
        exact iteBF (decide_eq_false e) (q _ (Same.refl _))
    rw [if_neg w3] at q har
    refine iteBF (decide_eq_false w3) ⟨_, rfl, rfl, _, rfl, ?_⟩
    rw [str_eq]
    by_cases w4 : wd = "or else"
    · rw [if_pos w4] at q har
      obtain ⟨a, b, rfl⟩ := two (Option.some.inj har).symm
      simp only [List.getElem?_cons_zero, List.getElem?_cons_succ] at q
      refine iteB (decide_eq_true w4) ⟨_, rfl, p, _, 0, ks a, rfl, rfl, sp, atI_nat (j := 0) rfl, _, rfl, p, _, 1, ks b, rfl, rfl, sp, atI_nat (j := 1) rfl, rfl, _, rfl, ?_⟩
      rw [ks_eq]
      by_cases e : a = b
      · subst e
        rw [if_pos rfl] at q
        exact iteB (decide_eq_true rfl) ⟨_, rfl, p, _, 0, ks a, rfl, rfl, sp, atI_nat (j := 0) rfl, q _ (Same.refl _)⟩
      · rw [if_neg fun z => e (Option.some.inj z)] at q
        exact iteBF (decide_eq_false e) (q _ (Same.refl _))
    rw [if_neg w4] at q har
    refine iteBF (decide_eq_false w4) ?_
    cases hl : SIG.lookup wd with
    | none =>
      rw [hl] at har
      cases har
    | some pr =>
      obtain ⟨need, kd⟩ := pr
      rw [hl] at q
      obtain ⟨a, b, k1, k2, k3⟩ := r2 _ (lookup_in hl)
      refine ⟨_, rfl, sd, wd, .ref a, rfl, rfl, k1, a, _, rfl, k2 H, rfl, _, _, rfl, _, _, rfl, rfl, ?_⟩
      refine ⟨_, rfl, p, _, rfl, .inl ⟨sp, fun t nt => ?_⟩⟩
      have s1 := same_new (o := .tup (qs.map ks)) nt
      refine ⟨_, rfl, TK qs, TK need, .tup (SqT.of upd_same) (TK_dp qs), .tup (k3 _) (TK_dp need), TK_shp _, TK_shp _, _, rfl, ?_⟩
      rw [TK_eqv]
      have q2 : ∀ H', Same H H' → Q (kv (if qs = need then some kd else none)) H' := q
      by_cases e : qs = need
      · rw [if_pos e] at q2
        exact iteB (decide_eq_true e) ⟨_, rfl, q2 _ s1⟩
      · rw [if_neg e] at q2
        exact iteBF (decide_eq_false e) (q2 _ s1)
end
end K2

namespace K2
open PySem L2
theorem ps_dead {X : Cx} {st : Stmt} : PS X st (fun _ _ _ => False) := ⟨fun _ _ _ _ _ _ h => h.elim⟩
theorem pss_dead {X : Cx} {l : List Stmt} : PSs X l (fun _ _ _ => False) := ⟨fun _ _ _ _ _ _ h => h.elim⟩
section
variable {P : Program} {w : World} {K : PySem.W.Frag} {mg : Str → Option Value} {base : Heap}
def spKF (C : Addr) (n : Nat) : Sp := fun vs H Q E => ∃ (r : V) (s : Addr) (m : Nat) (e : Ex) (ds : List D) (ts : List T) (k : Kd), vs = [r, .ref s, .int (m : Int)] ∧ ExAt H r e ∧ WF e ∧ e.dep < n ∧ ShapeAt H C s ds ts ∧ GoodK ds ts ∧ ck ds ts e m = .ok k ∧
  ∀ H' p, Same H H' → H p = none → H' p = some (.tup [ks k, .int ((m + e.size : Nat) : Int)]) → Q (.ref p) H'
theorem scKF : FnScope ["expression", "shape", "number", "kinds", "upcoming", "part", "kind", "own"] ["expression", "shape", "number"] (defScope sKindFrom) := ⟨rfl, rfl, rfl, by decide +kernel, rfl, by decide +kernel, by decide +kernel⟩
theorem kv_non (o : Option Kd) : decide (kv o = .non) = o.isNone := by cases o <;> rfl
theorem ok_kf {f fP fL fO C : Addr} {fd fdP fdL fdO : FuncData} (F : Fun K "kind_from" "kind_from" sKindFrom f fd) (gF : mg "kind_from" = some (.ref f)) (bF : Binds K fd ["expression", "shape", "number"] []) (N : Nk K mg)
    (GP : FnOk P w K mg base CX0 1 fP fdP ["expression"] spParts) (kP : PySem.W.keepIn K (.ref fP) = true) (bP : Binds K fdP ["expression"] []) (gP : mg "parts_of" = some (.ref fP))
    (GL : FnOk P w K mg base CX0 3 fL fdL ["expression", "shape"] (spLeafKind C)) (kL : PySem.W.keepIn K (.ref fL) = true) (bL : Binds K fdL ["expression", "shape"] []) (gL : mg "leaf_kind" = some (.ref fL))
    (GO : FnOk P w K mg base CX0 1 fO fdO ["word", "kinds"] spOver) (kO : PySem.W.keepIn K (.ref fO) = true) (bO : Binds K fdO ["word", "kinds"] []) (gO : mg "kind_over" = some (.ref fO)) :
    ∀ n : Nat, FnOk P w K mg base CX0 (5 + n) f fd ["expression", "shape", "number"] (spKF C n) := by
  intro n
  induction n with
  | zero =>
    refine F.ok scKF (fun vs H Q E h => ?_) (fun cdv A outer s H vs Q E hr h => ?_)
    · obtain ⟨r, s, m, e, ds, ts, k0, rfl, _⟩ := h
      rfl
    · obtain ⟨r, s', m, e, ds, ts, k0, rfl, he, wf, hd, _⟩ := h
      exact absurd hd (Nat.not_lt_zero _)
  | succ n ih =>
    refine F.ok scKF (fun vs H Q E h => ?_) (fun cdv A outer s H vs Q E hr h => ?_)
    · obtain ⟨r, s, m, e, ds, ts, k0, rfl, _⟩ := h
      rfl
    · obtain ⟨r, s', m, e, ds, ts, k0, rfl, he, wf, hd, hS, gk, hck0, q⟩ := h
      have hr1 := hr.mono (j := 1) (by show 1 ≤ 5 + n; omega)
      have hr2 := hr.mono (j := 2) (by show 2 ≤ 5 + n; omega)
      have hr3 := hr.mono (j := 3) (by show 3 ≤ 5 + n; omega)
      have hrn := hr.mono (j := 5 + n) (by show 5 + n ≤ 5 + n; omega)
      obtain ⟨kk, m1, r1⟩ := N.leaves
      refine ⟨_, pss_cons (ps_set (i := 3) scKF.nd rfl (.inl rfl) (pe_lst pa_nil)) (pss_cons (ps_set (i := 4) scKF.nd rfl (.inl rfl) (pe_op op_add (pv 2) pe_int))
        (pss_cons (ps_for PassesOwn.never rfl (pi_list (pe_call GP hr1 (by rfl) gP kP bP .nil pass0 (pa_cons (pv 0) pa_nil))) (pg_name (i := 5) scKF.nd rfl (.inl rfl))
          (pss_cons (ps_asg (pe_call ih hrn (by rfl) gF F.kp bF .nil pass0 (pa_cons (pv 5) (pa_cons (pv 1) (pa_cons (pv 4) pa_nil)))) (pg_tup (by rfl) (pgs_cons (pg_name (i := 6) scKF.nd rfl (.inl rfl)) (pgs_cons (pg_name (i := 4) scKF.nd rfl (.inl rfl)) pgs_nil))))
          (pss_one (ps_expr (pe_bm PySem.F.plainAttrs_list PySem.F.slot_list_append PySem.F.type_list_append mt_append (pv 3) (pa_cons (pv 6) pa_nil))))))
        (Evl.pss_cut (ps_set (i := 7) scKF.nd rfl (.inl rfl) (pe_ifExp (pt_cmpR op_in_seq (pe_ix ix_tup (pv 0) pe_int (fun _ _ => rfl)) (pe_glob (v := .ref kk) (by rfl) m1 rfl) (by rfl)) (pe_call GL hr3 (by rfl) gL kL bL .nil pass0 (pa_cons (pv 0) (pa_cons (pv 1) pa_nil)))
            (pe_call GO hr1 (by rfl) gO kO bO .nil pass0 (pa_cons (pe_ix ix_tup (pv 0) pe_int (fun _ _ => rfl)) (pa_cons (pv 3) pa_nil)))))
        (pss_cons (ps_if (pt_cmpR op_isN (pv 7) pe_non (nomark _)) pss_dead pss_nil)
        (pss_one (ps_ret (pe_tup (pa_cons (pv 7) (pa_cons (pv 4) pa_nil))))))))), ?_⟩
      have hS0 := hS
      refine ⟨Nat.zero_le _, fun nl nn => ?_⟩
      refine ⟨_, rfl, (m : Int), 1, rfl, rfl, ?_⟩
      refine ⟨_, rfl, r, e, rfl, he.same (same_new nn), fun H1 p xs s1 np hp hx => ?_⟩
      have s01 : Same H H1 := (same_new nn).trans s1
      have hnl1 := s1 _ _ upd_same
      have npl : nl ≠ p := ne_of_none upd_same np
      have lx := hx.len
      refine ⟨p, rfl, ⟨_, .inl (.inl hp)⟩, ?_⟩
      refine for_list (xs := xs) (fun i σ H3 => ∃ (qs : List Kd) (y5 y6 : Option V), σ = [some r, some (.ref s'), some (.int (m : Int)), some (.ref nl), some (.int ((m + 1 + Ex.sizes (e.parts.take i) : Nat) : Int)), y5, y6, none] ∧ Same H H3 ∧ H3 p = some (.lst xs) ∧
        H3 nl = some (.lst (qs.map ks)) ∧ qs.length = i ∧ cks ds ts (e.parts.take i) (m + 1) = .ok qs ∧ ExAll H3 xs e.parts) ?_ ?_ ?_ ?_
      · exact ⟨[], _, _, rfl, s01, hp, hnl1, rfl, by rw [List.take_zero, cks], hx⟩
      · rintro i σ H3 hi ⟨qs, y5, y6, rfl, sm, hp3, _⟩
        exact .inl (.inl hp3)
      · rintro i x σ H3 hxi ⟨qs, y5, y6, rfl, sm, hp3, hnl3, hq, hck, hx3⟩
        have hi : i < xs.length := (List.getElem?_eq_some_iff.mp hxi).1
        have hi2 : i < e.parts.length := by omega
        obtain ⟨v, e1, e2⟩ := hx3.at (List.getElem?_eq_getElem hi2)
        obtain rfl : x = v := Option.some.inj (hxi.symm.trans e1)
        have hm : e.parts[i] ∈ e.parts := List.getElem_mem hi2
        have hdp := dep_part hm
        obtain ⟨k, hk⟩ : ∃ k, ck ds ts e.parts[i] (m + 1 + Ex.sizes (e.parts.take i)) = .ok k := by
          cases hc : ck ds ts e.parts[i] (m + 1 + Ex.sizes (e.parts.take i)) with
          | ok k => exact ⟨k, rfl⟩
          | error j =>
            have hbad := cks_bad hi2 hck hc
            have nw : e.word ∉ LV := fun z => by
              obtain ⟨_, _, _, _, _, g⟩ := he.tup
              rw [g z] at hi2
              exact absurd hi2 (Nat.not_lt_zero _)
            rw [ck_op nw he, hbad] at hck0
            cases hck0
        refine ⟨_, rfl, _, rfl, _, rfl, x, s', m + 1 + Ex.sizes (e.parts.take i), e.parts[i], ds, ts, k, rfl, e2, wf.part hm, by omega, hS.same sm, gk, hk, fun H4 t s4 nt ht => ?_⟩
        · refine ⟨t, _, rfl, SqT.of ht, rfl, _, _, rfl, _, _, rfl, rfl, ?_⟩
          have hnl4 := s4 _ _ hnl3
          refine ⟨_, rfl, .inl ⟨rfl, _, .inl (.inl hnl4)⟩, _, rfl, nl, _, _, rfl, rfl, hnl4, ?_, ?_⟩
          · have : e.parts.length ≤ 3 := by
              by_cases nw : e.word ∈ LV
              · obtain ⟨_, _, _, _, _, g⟩ := he.tup
                rw [g nw] at hi2
                exact absurd hi2 (Nat.not_lt_zero _)
              · exact ar_le (wf.ar he nw)
            rw [List.length_map]
            exact small1000 (by omega)
          · refine ⟨qs ++ [k], some x, some (ks k), ?_, same_put (sm.trans s4) nn, ?_, ?_, ?_, cks_ok hi2 hck hk, ?_⟩
            · have : m + 1 + Ex.sizes (e.parts.take i) + e.parts[i].size = m + 1 + Ex.sizes (e.parts.take (i + 1)) := by
                rw [take_at hi2, sizes_app, Ex.sizes, Ex.sizes]
                omega
              rw [← this]
              rfl
            · rw [upd_ne npl.symm]
              exact s4 _ _ hp3
            · rw [upd_same, List.map_append]
              rfl
            · rw [List.length_append, hq]
              rfl
            · refine (hx3.same s4).keep fun b r hb => ?_
              rw [upd_ne]
              · exact hb
              · intro z
                rw [z, hnl4] at hb
                cases hb
      · rintro σ H3 ⟨qs, y5, y6, rfl, sm, hp3, hnl3, hq, hck, hx3⟩
        rw [lx, List.take_length] at hck
        have hup : m + 1 + Ex.sizes (e.parts.take xs.length) = m + e.size := by
          rw [lx, List.take_length, size_parts]
          omega
        rw [hup]
        have he3 := he.same sm
        obtain ⟨a, zs, rfl, ha, h1, h2⟩ := he3.tup
        refine ⟨fun σ H5 => ∃ (o : Option Kd), σ = [some (.ref a), some (.ref s'), some (.int (m : Int)), some (.ref nl), some (.int ((m + e.size : Nat) : Int)), y5, y6, some (kv o)] ∧ Same H H5 ∧ ck ds ts e m = (match o with | some k => .ok k | none => .error m), ?_, ?_⟩
        · refine ⟨_, rfl, a, _, 0, _, rfl, rfl, SqT.of ha, atI_nat (j := 0) rfl, kk, _, rfl, .inr (r1 _), rfl, flat_strs LV, _, rfl, ?_⟩
          by_cases hw : e.word ∈ LV
          · refine iteB ((inV_str _ LV).trans (decide_eq_true hw)) ⟨_, rfl, _, rfl, _, s', e, ds, ts, rfl, he3, hw, wf, hS.same sm, gk, fun H5 s5 => ⟨_, rfl, sm.trans s5, ?_⟩⟩
            rw [ck_leaf hw he3] <;> (cases leafK ds ts e <;> rfl)
          · refine iteBF ((inV_str _ LV).trans (decide_eq_false hw)) ⟨_, rfl, a, _, 0, _, rfl, rfl, SqT.of ha, atI_nat (j := 0) rfl, _, rfl, e.word, nl, qs, rfl, hnl3, ?_, fun H5 s5 => ⟨_, rfl, sm.trans s5, ?_⟩⟩
            · rw [wf.ar he3 hw, hq, lx]
            · rw [ck_op hw he3, hck] <;> (show (match joint e.word qs with | some k => Except.ok k | none => .error m) = _; cases joint e.word qs <;> rfl)
        · rintro σ H5 ⟨o, rfl, s5, hc⟩
          refine ⟨_, rfl, rfl, _, rfl, ?_⟩
          rw [kv_non]
          cases o with
          | some k =>
            refine iteBF rfl ⟨_, rfl, _, rfl, (by show 2 ≤ sizeLine; decide), fun t nt => ?_⟩
            have ek : k = k0 := by
              have hc : ck ds ts e m = .ok k := hc
              rw [hck0] at hc
              injection hc with hc
              exact hc.symm
            subst ek
            exact q _ t (s5.trans (same_new nt)) (s5.free nt) upd_same
          | none =>
            rw [hck0] at hc
            cases hc
end
end K2

namespace K2
open PySem L2
inductive WS : Spn → Prop
  | non (m : Bool) : WS ⟨.non, .non, m⟩
  | of {k : Kd} {a b : V} {m : Bool} : OfK k a → OfK k b → WS ⟨a, b, m⟩
def isSp (k : Kd) (s : Spn) : Bool := if s.a = .non then s.m else isVal k s.a && (isVal k s.b && !ltV s.b s.a)
def encB (o i : Spn) : Bool := if i.m = true ∧ o.m = false then false else if has i = false then true else has o && (!ltV i.a o.a && !ltV o.b i.b)
theorem OfK.ne {k : Kd} {v : V} (h : OfK k v) : v ≠ .non := by
  cases k with
  | i => obtain ⟨n, rfl⟩ := h; exact fun z => nomatch z
  | f => obtain ⟨n, rfl⟩ := h; exact fun z => nomatch z
  | t => obtain ⟨n, rfl, _⟩ := h; exact fun z => nomatch z
theorem ofk_of {k q : Kd} {v : V} (h : OfK q v) (e : isVal k v = true) : OkE k v := by
  have := isV_of h e
  subst this
  exact ⟨h, e⟩
theorem isSp_oks {k : Kd} {s : Spn} (h : WS s) (e : isSp k s = true) : OkS k s := by
  cases h with
  | non m =>
    have e2 : isSp k ⟨.non, .non, m⟩ = m := if_pos rfl
    rw [e2] at e
    subst e
    exact .am
  | @of q a b m ha hb =>
    have e2 : isSp k ⟨a, b, m⟩ = (isVal k a && (isVal k b && !ltV b a)) := if_neg ha.ne
    rw [e2] at e
    simp only [Bool.and_eq_true] at e
    obtain ⟨e1, e3, e4⟩ := e
    refine .ends (ofk_of ha e1) (ofk_of hb e3) ?_
    cases h : ltV b a with
    | false => rfl
    | true => rw [h] at e4; cases e4
def spIsSpan (K : PySem.W.Frag) : Sp := fun vs H Q _ => ∃ (k : Kd) (x : V) (s : Spn), vs = [.str (kdS k), x] ∧ SpnAt K H x s ∧ WS s ∧ ∀ H', Same H H' → Q (.bl (isSp k s)) H'
def spEnc (K : PySem.W.Frag) : Sp := fun vs H Q _ => ∃ (x y : V) (o i : Spn) (k : Kd), vs = [x, y] ∧ SpnAt K H x o ∧ SpnAt K H y i ∧ OkS k o ∧ OkS k i ∧ Q (.bl (encB o i)) H
theorem encB_1 {o i : Spn} (h : i.m = true) (h2 : o.m = false) : encB o i = false := if_pos ⟨h, h2⟩
theorem encB_2 {o i : Spn} (h : ¬ (i.m = true ∧ o.m = false)) (e : has i = false) : encB o i = true := by
  unfold encB
  rw [if_neg h, if_pos e]
theorem encB_3 {o i : Spn} (h : ¬ (i.m = true ∧ o.m = false)) (e : has i = true) : encB o i = (has o && (!ltV i.a o.a && !ltV o.b i.b)) := by
  unfold encB
  rw [if_neg h, if_neg (by rw [e]; decide)]
section
variable {P : Program} {w : World} {K : PySem.W.Frag} {mg : Str → Option Value} {base : Heap}
theorem sc_isSpan : FnScope ["kind", "span", "least", "greatest", "missing"] ["kind", "span"] (defScope sIsSpan) := ⟨rfl, rfl, rfl, by decide +kernel, rfl, by decide +kernel, by decide +kernel⟩
theorem ok_isSpan {f : Addr} {fd : FuncData} {fV fB : Addr} {fdV fdB : FuncData} (F : Fun K "is_span" "is_span" sIsSpan f fd) (M : Nm mg) (GV : FnOk P w K mg base CX0 2 fV fdV ["kind", "value"] (spVal K)) (kV : PySem.W.keepIn K (.ref fV) = true) (bV : Binds K fdV ["kind", "value"] []) (gV : mg "is_value" = some (.ref fV)) (GB : FnOk P w K mg base CX0 1 fB fdB ["first", "second"] spBef) (kB : PySem.W.keepIn K (.ref fB) = true) (bB : Binds K fdB ["first", "second"] []) (gB : mg "is_before" = some (.ref fB)) : FnOk P w K mg base CX0 3 f fd ["kind", "span"] (spIsSpan K) := by
  refine F.ok sc_isSpan (fun vs H Q E h => ?_) (fun cdv A outer s0 H vs Q E hr h => ?_)
  · obtain ⟨k, _, s, rfl, ⟨p, rfl, hp⟩, hw, q⟩ := h
    rfl
  · obtain ⟨k, _, s, rfl, ⟨p, rfl, hp⟩, hw, q⟩ := h
    refine ⟨_, (pss_cons (ps_if (PW.pt (pw_or (pt_not (pt_val (pe_callB call_isi (by rfl) M.isinstance (by decide +kernel) (pa_cons (pv 1) (pa_cons (pe_bltn (v := .ty "tuple") (by rfl) M.tuple (by decide +kernel) rfl) pa_nil))))) (pw_or1 (pt_cmpR op_ne (pe_callB call_len_seq (by rfl) M.len PySem.boot_len (pa_cons (pv 1) pa_nil)) pe_int (nomark _))))) (pss_one (ps_ret pe_bl)) pss_nil)
      (pss_cons (ps_asg (pv 1) (pg_tup (by rfl) (pgs_cons (pg_name (i := 2) sc_isSpan.nd rfl (.inl rfl)) (pgs_cons (pg_name (i := 3) sc_isSpan.nd rfl (.inl rfl)) (pgs_cons (pg_name (i := 4) sc_isSpan.nd rfl (.inl rfl)) pgs_nil)))))
      (pss_cons (ps_if (PW.pt (pw_and (pt_cmpR op_isN (pv 2) pe_non (nomark _)) (pw_and1 (pt_cmpR op_isN (pv 3) pe_non (nomark _))))) (pss_one (ps_ret (pe_cmpR op_isOb (pv 4) pe_bl (nomark _)))) pss_nil)
      (pss_cons (ps_if (PW.pt (pw_or (pt_not (pt_val (pe_call GV (hr.mono (by decide)) (by rfl) gV kV bV .nil pass0 (pa_cons (pv 0) (pa_cons (pv 2) pa_nil))))) (pw_or1 (pt_not (pt_val (pe_call GV (hr.mono (by decide)) (by rfl) gV kV bV .nil pass0 (pa_cons (pv 0) (pa_cons (pv 3) pa_nil)))))))) (pss_one (ps_ret pe_bl)) pss_nil)
      (pss_one (ps_ret (pe_and (pe_not (pe_call GB (hr.mono (by decide)) (by rfl) gB kB bB .nil pass0 (pa_cons (pv 3) (pa_cons (pv 2) pa_nil)))) (pe_one (pe_callB call_isi (by rfl) M.isinstance (by decide +kernel) (pa_cons (pv 4) (pa_cons (pe_bltn (v := .ty "bool") (by rfl) M.bool (by decide +kernel) rfl) pa_nil))))))))))), ?_⟩
    obtain ⟨t1, ht1, hk1⟩ := tup_isi hp
    refine ⟨_, rfl, _, .ty "tuple", t1, .type "tuple", true, rfl, .ty _, ht1, hk1, _, rfl, iteBF rfl ⟨_, rfl, p, _, rfl, .inr hp, rfl, _, rfl, iteBF ?_ ?_⟩⟩
    · show (!decide (V.int ((3 : Nat) : Int) = V.int 3)) = false
      decide +kernel
    refine ⟨_, rfl, p, _, rfl, hp, rfl, _, _, rfl, _, _, rfl, _, _, rfl, rfl, ?_⟩
    cases hw with
    | non m =>
      have e2 : isSp k ⟨.non, .non, m⟩ = m := if_pos rfl
      rw [e2] at q
      refine ⟨_, rfl, rfl, _, rfl, iteB rfl ⟨_, rfl, rfl, _, rfl, iteB rfl ⟨_, rfl, some m, true, rfl, rfl, ?_⟩⟩⟩
      have e3 : decide (some m = some true) = m := by cases m <;> decide
      rw [e3]
      exact q H same_refl
    | @of q0 a b m ha hb =>
      have e2 : isSp k ⟨a, b, m⟩ = (isVal k a && (isVal k b && !ltV b a)) := if_neg ha.ne
      rw [e2] at q
      obtain ⟨T1, h1⟩ := ha.thg (K := K) (H := H)
      obtain ⟨T2, h2⟩ := hb.thg (K := K) (H := H)
      refine ⟨_, rfl, rfl, _, rfl, iteBF (decide_eq_false ha.ne) (iteF ?_)⟩
      refine ⟨_, rfl, _, rfl, k, a, T1, rfl, h1, _, rfl, ?_⟩
      by_cases ea : isVal k a = true
      · rw [ea, Bool.true_and] at q
        refine iteBF (by rw [ea]; rfl) ⟨_, rfl, _, rfl, k, b, T2, rfl, h2, _, rfl, ?_⟩
        by_cases eb : isVal k b = true
        · rw [eb, Bool.true_and] at q
          refine iteBF (by rw [eb]; rfl) ⟨_, rfl, _, rfl, b, a, rfl, ⟨k, (ofk_of hb eb).1, (ofk_of ha ea).1⟩, _, rfl, _, rfl, ?_⟩
          by_cases el : (!ltV b a) = true
          · rw [el] at q
            exact iteB el ⟨_, rfl, _, .ty "bool", _, .type "bool", true, rfl, .ty _, .base (.bl m), kit_ty (by decide +kernel), q H same_refl⟩
          · have el := Bool.eq_false_iff.mpr el
            rw [el] at q
            exact iteBF el (q H same_refl)
        · have eb := Bool.eq_false_iff.mpr eb
          rw [eb, Bool.false_and] at q
          exact iteB (by rw [eb]; rfl) (q H same_refl)
      · have ea := Bool.eq_false_iff.mpr ea
        rw [ea, Bool.false_and] at q
        exact iteB (by rw [ea]; rfl) (q H same_refl)
theorem sc_enc : FnScope ["outer", "inner"] ["outer", "inner"] (defScope sEncloses) := ⟨rfl, rfl, rfl, by decide +kernel, rfl, by decide +kernel, by decide +kernel⟩
theorem ok_enc {f : Addr} {fd : FuncData} {fE fB : Addr} {fdE fdB : FuncData} (F : Fun K "encloses" "encloses" sEncloses f fd) (GE : FnOk P w K mg base CX0 1 fE fdE ["span"] (spHas K)) (kE : PySem.W.keepIn K (.ref fE) = true) (bE : Binds K fdE ["span"] []) (gE : mg "has_ends" = some (.ref fE)) (GB : FnOk P w K mg base CX0 1 fB fdB ["first", "second"] spBef) (kB : PySem.W.keepIn K (.ref fB) = true) (bB : Binds K fdB ["first", "second"] []) (gB : mg "is_before" = some (.ref fB)) : FnOk P w K mg base CX0 2 f fd ["outer", "inner"] (spEnc K) := by
  refine F.ok sc_enc (fun vs H Q E h => ?_) (fun cdv A outer s0 H vs Q E hr h => ?_)
  · obtain ⟨_, _, o, i, k, rfl, ⟨p, rfl, hp⟩, ⟨p2, rfl, hp2⟩, ho, hi, q⟩ := h
    rfl
  · obtain ⟨_, _, o, i, k, rfl, ⟨p, rfl, hp⟩, ⟨p2, rfl, hp2⟩, ho, hi, q⟩ := h
    refine ⟨_, (Evl.pss_cut (ps_if (PW.pt (pw_and (pt_val (pe_ix ix_tup (pv 1) pe_int (fun _ _ => rfl))) (pw_and1 (pt_not (pt_val (pe_ix ix_tup (pv 0) pe_int (fun _ _ => rfl))))))) (pss_one (ps_ret pe_bl)) pss_nil)
      (pss_cons (ps_if (pt_not (pt_val (pe_call GE (hr.mono (by decide)) (by rfl) gE kE bE .nil pass0 (pa_cons (pv 1) pa_nil)))) (pss_one (ps_ret pe_bl)) pss_nil)
      (pss_one (ps_ret (pe_and (pe_call GE (hr.mono (by decide)) (by rfl) gE kE bE .nil pass0 (pa_cons (pv 0) pa_nil)) (pe_and (pe_not (pe_call GB (hr.mono (by decide)) (by rfl) gB kB bB .nil pass0 (pa_cons (pe_ix ix_tup (pv 1) pe_int (fun _ _ => rfl)) (pa_cons (pe_ix ix_tup (pv 0) pe_int (fun _ _ => rfl)) pa_nil)))) (pe_one (pe_not (pe_call GB (hr.mono (by decide)) (by rfl) gB kB bB .nil pass0 (pa_cons (pe_ix ix_tup (pv 0) pe_int (fun _ _ => rfl)) (pa_cons (pe_ix ix_tup (pv 1) pe_int (fun _ _ => rfl)) pa_nil))))))))))), ?_⟩
    refine ⟨fun σ' H' => σ' = [some (.ref p), some (.ref p2)] ∧ H = H' ∧ ¬ (i.m = true ∧ o.m = false), ?_, ?_⟩
    · refine ⟨_, rfl, p2, _, 2, .bl i.m, rfl, rfl, hp2, rfl, _, rfl, ?_⟩
      by_cases e1 : i.m = true
      · refine iteB e1 ⟨_, rfl, p, _, 2, .bl o.m, rfl, rfl, hp, rfl, _, rfl, ?_⟩
        by_cases e2 : o.m = true
        · exact iteBF (by rw [e2]; rfl) ⟨rfl, rfl, fun z => by rw [e2] at z; cases z.2⟩
        · have e2 := Bool.eq_false_iff.mpr e2
          rw [encB_1 e1 e2] at q
          exact iteB (by rw [e2]; rfl) q
      · exact iteBF (Bool.eq_false_iff.mpr e1) (iteF ⟨rfl, rfl, fun z => e1 z.1⟩)
    rintro _ _ ⟨rfl, rfl, hn⟩
    refine ⟨_, rfl, _, i, rfl, ⟨p2, rfl, hp2⟩, _, rfl, ?_⟩
    by_cases eh : has i = true
    · rw [encB_3 hn eh] at q
      refine iteBF (by rw [eh]; rfl) ⟨_, rfl, _, o, rfl, ⟨p, rfl, hp⟩, _, rfl, ?_⟩
      obtain ⟨ia, ib, _⟩ := hi.ends_of eh
      by_cases eo : has o = true
      · obtain ⟨oa, ob', _⟩ := ho.ends_of eo
        rw [eo, Bool.true_and] at q
        refine iteB eo ⟨_, rfl, p2, _, 0, i.a, rfl, rfl, hp2, rfl, _, rfl, p, _, 0, o.a, rfl, rfl, hp, rfl, i.a, o.a, rfl, ⟨k, ia.1, oa.1⟩, _, rfl, _, rfl, ?_⟩
        by_cases e3 : (!ltV i.a o.a) = true
        · rw [e3, Bool.true_and] at q
          exact iteB e3 ⟨_, rfl, p, _, 1, o.b, rfl, rfl, hp, rfl, _, rfl, p2, _, 1, i.b, rfl, rfl, hp2, rfl, o.b, i.b, rfl, ⟨k, ob'.1, ib.1⟩, _, rfl, q⟩
        · have e3 := Bool.eq_false_iff.mpr e3
          rw [e3, Bool.false_and] at q
          exact iteBF e3 q
      · have eo := Bool.eq_false_iff.mpr eo
        rw [eo, Bool.false_and] at q
        exact iteBF eo q
    · have eh := Bool.eq_false_iff.mpr eh
      rw [encB_2 hn eh] at q
      exact iteB (by rw [eh]; rfl) q
end
end K2

namespace K2
open PySem L2
/-- what the spans of the parts make -/
inductive Sf (ds : List D) (ts : List T) (bx : List (Int × Int)) (mk : List Mk) : Ex → List Spn → Spn → Kd → Prop
  | leaf {e : Ex} {sp : Spn} {k : Kd} : Pr ds ts bx mk e (.mk sp []) k → e.word ∈ LV → Sf ds ts bx mk e [] sp k
  | op {w : Str} {ps : List Ex} {ss : List Spn} {qs : List Kd} {k : Kd} : JT w qs k → OkSs qs ss → ps.length ≤ 3 → ss.length = ps.length → Sf ds ts bx mk (.op w ps) ss (jn w ss) k
theorem Sf.oks {ds : List D} {ts : List T} {bx : List (Int × Int)} {mk : List Mk} {e : Ex} {ss : List Spn} {sp : Spn} {k : Kd} (h : Sf ds ts bx mk e ss sp k) : OkS k sp := by
  cases h with
  | leaf h _ => exact h.oks
  | op hj ho _ _ => exact jn_oks hj ho
def spSF2 (K : PySem.W.Frag) (C : Addr) : Sp := fun vs H Q _ => ∃ (r x y : V) (s a : Addr) (e : Ex) (ds : List D) (ts : List T) (bx : List (Int × Int)) (mk : List Mk) (xs : List V) (sp : Spn) (ss : List Spn) (k : Kd), vs = [r, .ref s, x, y, .ref a] ∧ ExAt H r e ∧ ShapeAt H C s ds ts ∧ BoxAt K H x bx ∧ MkAt K H y mk ∧
  Sf ds ts bx mk e ss sp k ∧ H a = some (.lst xs) ∧ F2 (SpnAt K H) xs ss ∧ ∀ H' z, Same H H' → SpnAt K H' z sp → Q z H'
mutual
theorem ck_any {ds : List D} {ts : List T} : ∀ (e : Ex) {m n : Nat} {k : Kd}, ck ds ts e m = .ok k → ck ds ts e n = .ok k
  | .val a b, m, n, k, h => by
    rw [ck] at h ⊢
    cases e : leafK ds ts (.val a b) with
    | none => rw [e] at h; cases h
    | some q => rw [e] at h; exact h
  | .attr a, m, n, k, h => by
    rw [ck] at h ⊢
    cases e : leafK ds ts (.attr a) with
    | none => rw [e] at h; cases h
    | some q => rw [e] at h; exact h
  | .dim a, m, n, k, h => by
    rw [ck] at h ⊢
    cases e : leafK ds ts (.dim a) with
    | none => rw [e] at h; cases h
    | some q => rw [e] at h; exact h
  | .op w ps, m, n, k, h => by
    rw [ck] at h ⊢
    cases e : cks ds ts ps (m + 1) with
    | error j => rw [e] at h; cases h
    | ok qs =>
      rw [e] at h
      rw [cks_any ps e]
      have h : (match joint w qs with | some k => Except.ok k | none => .error m) = Except.ok k := h
      show (match joint w qs with | some k => Except.ok k | none => .error n) = Except.ok k
      cases e2 : joint w qs with
      | none => rw [e2] at h; cases h
      | some q => rw [e2] at h; exact h
theorem cks_any {ds : List D} {ts : List T} : ∀ (es : List Ex) {m n : Nat} {qs : List Kd}, cks ds ts es m = .ok qs → cks ds ts es n = .ok qs
  | [], m, n, qs, h => by
    rw [cks] at h ⊢
    exact h
  | e :: r, m, n, qs, h => by
    rw [cks] at h ⊢
    cases h1 : ck ds ts e m with
    | error j => rw [h1] at h; cases h
    | ok k =>
      rw [h1] at h
      rw [ck_any e h1]
      cases h2 : cks ds ts r (m + e.size) with
      | error j => simp only [h2] at h; cases h
      | ok ks =>
        simp only [h2] at h
        show (match cks ds ts r (n + e.size) with | .error m => Except.error m | .ok ks => .ok (k :: ks)) = _
        rw [cks_any r h2]
        exact h
end
section
variable {P : Program} {w : World} {K : PySem.W.Frag} {mg : Str → Option Value} {base : Heap}
theorem ok_sf2 {f : Addr} {fd : FuncData} {klo C : Addr} {des : Array DictEntry} {dn : Nat} {fV fA fD fS : Addr} {fdV fdA fdD fdS : FuncData} (F : Fun K "span_from" "span_from" sSpanFrom f fd) (M : Nm mg) (mlo : mg "LOOSE_SPANS" = some (.ref klo)) (L : LooT P w K mg base klo des dn) (GV : FnOk P w K mg base CX0 1 fV fdV ["value"] (spSpv K)) (kV : PySem.W.keepIn K (.ref fV) = true) (bV : Binds K fdV ["value"] []) (gV : mg "span_of_value" = some (.ref fV)) (GA : FnOk P w K mg base CX0 2 fA fdA ["shape", "name"] (spAttrIx C)) (kA : PySem.W.keepIn K (.ref fA) = true) (bA : Binds K fdA ["shape", "name"] []) (gA : mg "attr_index" = some (.ref fA)) (GD : FnOk P w K mg base CX0 2 fD fdD ["shape", "name"] (spDimIx C)) (kD : PySem.W.keepIn K (.ref fD) = true) (bD : Binds K fdD ["shape", "name"] []) (gD : mg "dim_index" = some (.ref fD)) (GS : FnOk P w K mg base CX0 7 fS fdS ["word", "spans"] (spStr K)) (kS : PySem.W.keepIn K (.ref fS) = true) (bS : Binds K fdS ["word", "spans"] []) (gS : mg "strict_span" = some (.ref fS)) : FnOk P w K mg base CX0 8 f fd ["expression", "shape", "box", "marks", "spans"] (spSF2 K C) := by
  refine F.ok sc_sf (fun vs H Q E h => ?_) (fun cdv A outer s0 H vs Q E hr h => ?_)
  · obtain ⟨r, x, y, s, a, e, ds, ts, bx, mk, xs, sp, ss, k, rfl, he, hS, hB, hM, hP0, ha, hx, q⟩ := h
    rfl
  · obtain ⟨r, x, y, s, a, e, ds, ts, bx, mk, xs, sp, ss, k, rfl, he, hS, hB, hM, hP0, ha, hx, q⟩ := h
    refine ⟨_, (pss_cons (ps_set (i := 5) sc_sf.nd rfl (.inl rfl) (pe_ix ix_tup (pv 0) pe_int (fun _ _ => rfl)))
      (pss_cons (ps_if (pt_cmpR op_eq (pv 5) pe_str (nomark _)) (pss_one (ps_ret (pe_call GV (hr.mono (by decide)) (by rfl) gV kV bV .nil pass0 (pa_cons (pe_ix ix_tup (pv 0) pe_int (fun _ _ => rfl)) pa_nil)))) pss_nil)
      (pss_cons (ps_if (pt_cmpR op_eq (pv 5) pe_str (nomark _)) (pss_cons (ps_asg (pe_ix ix_tup (pe_ix ix_tup (pv 3) pe_int (fun _ _ => rfl)) (pe_call GA (hr.mono (by decide)) (by rfl) gA kA bA .nil pass0 (pa_cons (pv 1) (pa_cons (pe_ix ix_tup (pv 0) pe_int (fun _ _ => rfl)) pa_nil))) (fun _ _ => rfl)) (pg_tup (by rfl) (pgs_cons (pg_name (i := 6) sc_sf.nd rfl (.inl rfl)) (pgs_cons (pg_name (i := 7) sc_sf.nd rfl (.inl rfl)) (pgs_cons (pg_name (i := 8) sc_sf.nd rfl (.inl rfl)) pgs_nil)))))
      (pss_one (ps_ret (pe_tup (pa_cons (pv 7) (pa_cons (pv 8) (pa_cons (pe_cmpR op_gt (pv 6) pe_int (nomark _)) pa_nil))))))) pss_nil)
      (pss_cons (ps_if (pt_cmpR op_eq (pv 5) pe_str (nomark _)) (pss_cons (ps_asg (pe_ix ix_tup (pv 2) (pe_call GD (hr.mono (by decide)) (by rfl) gD kD bD .nil pass0 (pa_cons (pv 1) (pa_cons (pe_ix ix_tup (pv 0) pe_int (fun _ _ => rfl)) pa_nil))) (fun _ _ => rfl)) (pg_tup (by rfl) (pgs_cons (pg_name (i := 7) sc_sf.nd rfl (.inl rfl)) (pgs_cons (pg_name (i := 8) sc_sf.nd rfl (.inl rfl)) pgs_nil))))
      (pss_one (ps_ret (pe_tup (pa_cons (pv 7) (pa_cons (pv 8) (pa_cons pe_bl pa_nil))))))) pss_nil)
      (pss_cons (ps_if (pt_cmpR (op_in_kd L.d) (pv 5) (pe_glob (v := .ref klo) (by rfl) mlo rfl) (by rfl)) (pss_cons (ps_set (i := 9) sc_sf.nd rfl (.inl rfl) (pe_ix ix_kdict (pe_glob (v := .ref klo) (by rfl) mlo rfl) (pv 5) (fun _ _ => rfl)))
      (pss_one (ps_ret (pe_starL (i := 9) (S := LoS P w K mg base) LoS.ok (hr.mono (by decide)) rfl (.inl rfl) (pv 4))))) pss_nil)
      (pss_one (ps_ret (pe_call GS (hr.mono (by decide)) (by rfl) gS kS bS .nil pass0 (pa_cons (pv 5) (pa_cons (pv 4) pa_nil)))))))))), ?_⟩
    have he0 := he
    obtain ⟨ea, zs, rfl, hea, hex, _⟩ := he.tup
    refine ⟨_, rfl, ea, _, 0, _, rfl, rfl, SqT.of hea, atI_nat (j := 0) rfl, ?_⟩
    cases he with
    | @val _ kk v hv =>
      cases hP0 with | leaf hP _ => cases hP with
      | val h1 h2 => exact ⟨_, rfl, rfl, _, rfl, iteB (by show decide (V.str "value" = V.str "value") = true; decide +kernel) ⟨_, rfl, ea, _, 2, v, rfl, rfl, SqT.of hv, atI_nat (j := 2) rfl, v, rfl, q⟩⟩
    | @attr _ nm hv =>
      cases hP0 with | leaf hP _ => cases hP with
      | @attr _ i c _ hi hc ho =>
        refine ⟨_, rfl, rfl, _, rfl, iteBF (by show decide (V.str "attr" = V.str "value") = false; decide +kernel) ⟨_, rfl, rfl, _, rfl, iteB (by show decide (V.str "attr" = V.str "attr") = true; decide +kernel) ?_⟩⟩
        obtain ⟨p, p2, n, ms, rfl, hp, hp2, hms⟩ := hM
        refine ⟨_, rfl, p, _, 1, .ref p2, rfl, rfl, hp, atI_nat (j := 1) rfl, _, rfl, _, rfl, ea, _, 1, .str nm, rfl, rfl, SqT.of hv, atI_nat (j := 1) rfl, s, nm, ds, ts, rfl, hS, fun r hr H' sm => ?_⟩
        obtain rfl := idx_one hi hr
        obtain ⟨y2, e1, p3, rfl, h3⟩ := hms.at hc
        refine ⟨p2, ms, i, .ref p3, rfl, rfl, sqt_same hp2 sm, atI_nat e1, p3, _, rfl, sqt_same h3 sm, rfl, _, _, rfl, _, _, rfl, _, _, rfl, rfl, ?_⟩
        exact ⟨_, rfl, _, rfl, _, rfl, c.n, 0, rfl, rfl, (by show 3 ≤ sizeLine; decide), fun t nt => q _ _ (same_trans sm (same_new nt)) (SpnAt.new (s := c.s))⟩
    | @dim _ nm hv =>
      cases hP0 with | leaf hP _ => cases hP with
      | @dim _ i c hi hc ho =>
        refine ⟨_, rfl, rfl, _, rfl, iteBF (by show decide (V.str "dim" = V.str "value") = false; decide +kernel) ⟨_, rfl, rfl, _, rfl, iteBF (by show decide (V.str "dim" = V.str "attr") = false; decide +kernel) ⟨_, rfl, rfl, _, rfl, iteB (by show decide (V.str "dim" = V.str "dim") = true; decide +kernel) ?_⟩⟩⟩
        obtain ⟨p, ms, rfl, hp, hms⟩ := hB
        refine ⟨_, rfl, _, rfl, _, rfl, ea, _, 1, .str nm, rfl, rfl, SqT.of hv, atI_nat (j := 1) rfl, s, nm, ds, ts, rfl, hS, fun r hr H' sm => ?_⟩
        obtain rfl := idx_one hi hr
        obtain ⟨y2, e1, p3, rfl, h3⟩ := hms.at hc
        refine ⟨p, ms, i, .ref p3, rfl, rfl, sqt_same hp sm, atI_nat e1, p3, _, rfl, sqt_same h3 sm, rfl, _, _, rfl, _, _, rfl, rfl, ?_⟩
        exact ⟨_, rfl, _, rfl, (by show 3 ≤ sizeLine; decide), fun t nt => q _ _ (same_trans sm (same_new nt)) (SpnAt.new (s := ⟨_, _, _⟩))⟩
    | @op _ wd xs2 ps hv g nw ne =>
      cases hP0 with
      | leaf _ hw => exact absurd hw nw
      | @op _ _ _ qs _ hJ ok h3 hl =>
        obtain ⟨n1, n2, n3⟩ := lv_ne nw
        refine ⟨_, rfl, rfl, _, rfl, iteBF n1 ⟨_, rfl, rfl, _, rfl, iteBF n2 ⟨_, rfl, rfl, _, rfl, iteBF n3 ?_⟩⟩⟩
        by_cases lw : wd ∈ LW
        · obtain ⟨f0, hkd, hF, hk⟩ := L.yes wd lw
          obtain ⟨es2, n4, u4, l4, k4, e4, r4⟩ := id hkd
          have ej : jn wd ss = jL wd ss := if_pos lw
          rw [ej] at q
          exact ⟨_, rfl, wd, _, rfl, rfl, e4, _, rfl, iteT ⟨_, rfl, klo, wd, .ref f0, rfl, rfl, hkd, f0, _, rfl, ⟨wd, rfl, hF, hk⟩, _, rfl, a, xs, rfl, .inr (.inl (.inl ha)), qs, k, _, hx, hJ, ok, q⟩⟩
        · have ej : jn wd ss = jS wd ss := if_neg lw
          rw [ej] at q
          refine ⟨_, rfl, wd, _, rfl, rfl, L.no wd (hJ.sw lw), _, rfl, iteF ⟨_, rfl, _, rfl, wd, a, xs, _, qs, k, rfl, ha, hx, hJ, lw, ok, ?_, q⟩⟩
          rw [hl]
          exact h3
end
end K2

namespace K2
open PySem L2
def spKO (C : Addr) : Sp := fun vs H Q E => ∃ (r : V) (s : Addr) (e : Ex) (ds : List D) (ts : List T) (k : Kd) (m : Nat), vs = [r, .ref s] ∧ ExAt H r e ∧ WF e ∧ e.dep < 5 ∧ ShapeAt H C s ds ts ∧ GoodK ds ts ∧ ck ds ts e m = .ok k ∧ ∀ H', Same H H' → Q (ks k) H'
def spLK (C : Addr) (n : Nat) : Sp := fun vs H Q E => ∃ (r : V) (s : Addr) (e : Ex) (ds : List D) (ts : List T) (k : Kd) (m : Nat), vs = [r, .ref s] ∧ ExAt H r e ∧ WF e ∧ e.dep < n ∧ ShapeAt H C s ds ts ∧ GoodK ds ts ∧ (ts.map (·.n)).Nodup ∧ ck ds ts e m = .ok k ∧ ∀ H', Same H H' → Q (ks k) H'
theorem val_kd {ds : List D} {ts : List T} {kz : Str} {v : V} {k : Kd} {m : Nat} (h : ck ds ts (.val kz v) m = .ok k) : kz = kdS k := by
  rw [ck] at h
  cases e : leafK ds ts (.val kz v) with
  | none => rw [e] at h; cases h
  | some k2 =>
    rw [e] at h
    injection h with h
    subst h
    have e : ((kdOf kz).bind fun q => if v = .non ∨ isVal q v = true then some q else none) = some k2 := e
    cases e3 : kdOf kz with
    | none => rw [e3] at e; cases e
    | some q =>
      rw [e3] at e
      have e : (if v = .non ∨ isVal q v = true then some q else none) = some k2 := e
      split at e
      · have := Option.some.inj e
        subst this
        unfold kdOf at e3
        split at e3
        · cases e3; assumption
        · split at e3
          · cases e3; assumption
          · split at e3
            · cases e3; assumption
            · cases e3
      · cases e
theorem attr_kd {ds : List D} {ts : List T} {n : Str} {k : Kd} {m : Nat} (nd : (ts.map (·.n)).Nodup) (gk : GoodK ds ts) (h : ck ds ts (.attr n) m = .ok k) : ∃ t, ts.filter (fun t => decide (t.n = n)) = [t] ∧ t.k = kdS k := by
  rw [ck] at h
  cases e0 : leafK ds ts (.attr n) with
  | none => rw [e0] at h; cases h
  | some k2 =>
    rw [e0] at h
    injection h with h
    subst h
    have e : (ts.find? fun t => decide (t.n = n)).bind (fun t => kdOf t.k) = some k2 := e0
    cases e3 : ts.find? fun t => decide (t.n = n) with
    | none => rw [e3] at e; cases e
    | some t =>
      rw [e3] at e
      have e : kdOf t.k = some k2 := e
      have hm := List.mem_of_find?_eq_some e3
      have hn := of_decide_eq_true (List.find?_some (p := fun t : T => decide (t.n = n)) e3)
      obtain ⟨q, hq⟩ := gk.2.2 t hm
      rw [hq, kdOf_S] at e
      have := Option.some.inj e
      subst this
      refine ⟨t, ?_, hq⟩
      clear e0 e e3 hq gk
      subst hn
      induction ts with
      | nil => cases hm
      | cons x r ih =>
        rw [List.map_cons, List.nodup_cons] at nd
        rcases List.mem_cons.mp hm with rfl | hm
        · rw [List.filter_cons, if_pos (decide_eq_true rfl)]
          have : r.filter (fun u => decide (u.n = t.n)) = [] := List.filter_eq_nil_iff.mpr fun u hu z => nd.1 (by rw [← of_decide_eq_true z]; exact List.mem_map.mpr ⟨u, hu, rfl⟩)
          rw [this]
        · rw [List.filter_cons, if_neg (fun z => nd.1 (by rw [of_decide_eq_true z]; exact List.mem_map.mpr ⟨t, hm, rfl⟩))]
          exact ih nd.2 hm
section
variable {P : Program} {w : World} {K : PySem.W.Frag} {mg : Str → Option Value} {base : Heap}
theorem sc_kindOf : FnScope ["expression", "shape", "kind", "_"] ["expression", "shape"] (defScope sKindOf) := ⟨rfl, rfl, rfl, by decide +kernel, rfl, by decide +kernel, by decide +kernel⟩
theorem ok_kindOf {f : Addr} {fd : FuncData} {C : Addr} {fF : Addr} {fdF : FuncData} (F : Fun K "kind_of" "kind_of" sKindOf f fd) (GF : FnOk P w K mg base CX0 (5 + 5) fF fdF ["expression", "shape", "number"] (spKF C 5)) (kF : PySem.W.keepIn K (.ref fF) = true) (bF : Binds K fdF ["expression", "shape", "number"] []) (gF : mg "kind_from" = some (.ref fF)) : FnOk P w K mg base CX0 11 f fd ["expression", "shape"] (spKO C) := by
  refine F.ok sc_kindOf (fun vs H Q E h => ?_) (fun cdv A outer s0 H vs Q E hr h => ?_)
  · obtain ⟨r, s, e, ds, ts, k, m, rfl, he, wf, hd, hS, gk, hc, q⟩ := h
    rfl
  · obtain ⟨r, s, e, ds, ts, k, m, rfl, he, wf, hd, hS, gk, hc, q⟩ := h
    refine ⟨_, (pss_cons (ps_asg (pe_call GF (hr.mono (by decide)) (by rfl) gF kF bF .nil pass0 (pa_cons (pv 0) (pa_cons (pv 1) (pa_cons pe_int pa_nil)))) (pg_tup (by rfl) (pgs_cons (pg_name (i := 2) sc_kindOf.nd rfl (.inl rfl)) (pgs_cons (pg_name (i := 3) sc_kindOf.nd rfl (.inl rfl)) pgs_nil))))
      (pss_one (ps_ret (pv 2)))), ?_⟩
    refine ⟨_, rfl, _, rfl, r, s, 0, e, ds, ts, k, rfl, he, wf, hd, hS, gk, ck_any e hc, fun H1 p s1 np hp => ?_⟩
    exact ⟨p, _, rfl, SqT.of hp, rfl, _, _, rfl, _, _, rfl, rfl, _, rfl, q _ s1⟩
end
end K2

namespace K2
open PySem L2
def IK : List Str := ["dim", "neg", "abs", "length", "add", "sub", "mul", "div", "mod"]
theorem JT.ik {w : Str} {qs : List Kd} {k : Kd} (h : JT w qs k) (hi : w ∈ IK) : k = .i := by
  rcases h with ⟨rfl, rfl, rfl⟩ | ⟨rfl, rfl, rfl⟩ | ⟨rfl, rfl, rfl⟩ | ⟨rfl, rfl, rfl⟩ | ⟨rfl, rfl, rfl⟩ | ⟨hw, rfl, _⟩ | ⟨hw, rfl, rfl⟩ | ⟨rfl, rfl, _⟩ | ⟨rfl, rfl, rfl⟩ | ⟨rfl, rfl, rfl⟩ | ⟨rfl, rfl⟩ | ⟨rfl, rfl⟩
  · exact absurd hi (by decide +kernel)
  · rfl
  · rfl
  · rfl
  · exact absurd hi (by decide +kernel)
  · exact absurd hi ((by decide +kernel : ∀ w ∈ CMP, w ∉ IK) w hw)
  · rfl
  · exact absurd hi (by decide +kernel)
  · exact absurd hi (by decide +kernel)
  · exact absurd hi (by decide +kernel)
  · exact absurd hi (by decide +kernel)
  · exact absurd hi (by decide +kernel)
theorem JT.jo {w : Str} {qs : List Kd} {k : Kd} (h : JT w qs k) (e : w = "joined") : k = .t := by
  rcases h with ⟨rfl, rfl, rfl⟩ | ⟨rfl, rfl, rfl⟩ | ⟨rfl, rfl, rfl⟩ | ⟨rfl, rfl, rfl⟩ | ⟨rfl, rfl, rfl⟩ | ⟨hw, rfl, _⟩ | ⟨hw, rfl, rfl⟩ | ⟨rfl, rfl, _⟩ | ⟨rfl, rfl, rfl⟩ | ⟨rfl, rfl, rfl⟩ | ⟨rfl, rfl⟩ | ⟨rfl, rfl⟩
  · exact absurd e (by decide +kernel)
  · exact absurd e (by decide +kernel)
  · exact absurd e (by decide +kernel)
  · exact absurd e (by decide +kernel)
  · rfl
  · exact absurd e ((by decide +kernel : ∀ w ∈ CMP, ¬ w = "joined") w hw)
  · exact absurd e ((by decide +kernel : ∀ w ∈ A5, ¬ w = "joined") w hw)
  · exact absurd e (by decide +kernel)
  · exact absurd e (by decide +kernel)
  · exact absurd e (by decide +kernel)
  · exact absurd e (by decide +kernel)
  · exact absurd e (by decide +kernel)
theorem JT.fi {w : Str} {qs : List Kd} {k : Kd} (h : JT w qs k) (e : w = "if") : qs = [.f, k, k] := by
  rcases h with ⟨rfl, rfl, rfl⟩ | ⟨rfl, rfl, rfl⟩ | ⟨rfl, rfl, rfl⟩ | ⟨rfl, rfl, rfl⟩ | ⟨rfl, rfl, rfl⟩ | ⟨hw, rfl, _⟩ | ⟨hw, rfl, rfl⟩ | ⟨rfl, rfl, _⟩ | ⟨rfl, rfl, rfl⟩ | ⟨rfl, rfl, rfl⟩ | ⟨rfl, rfl⟩ | ⟨rfl, rfl⟩
  · exact absurd e (by decide +kernel)
  · exact absurd e (by decide +kernel)
  · exact absurd e (by decide +kernel)
  · exact absurd e (by decide +kernel)
  · exact absurd e (by decide +kernel)
  · exact absurd e ((by decide +kernel : ∀ w ∈ CMP, ¬ w = "if") w hw)
  · exact absurd e ((by decide +kernel : ∀ w ∈ A5, ¬ w = "if") w hw)
  · exact absurd e (by decide +kernel)
  · exact absurd e (by decide +kernel)
  · exact absurd e (by decide +kernel)
  · rfl
  · exact absurd e (by decide +kernel)
theorem JT.oe {w : Str} {qs : List Kd} {k : Kd} (h : JT w qs k) (e : w = "or else") : qs = [k, k] := by
  rcases h with ⟨rfl, rfl, rfl⟩ | ⟨rfl, rfl, rfl⟩ | ⟨rfl, rfl, rfl⟩ | ⟨rfl, rfl, rfl⟩ | ⟨rfl, rfl, rfl⟩ | ⟨hw, rfl, _⟩ | ⟨hw, rfl, rfl⟩ | ⟨rfl, rfl, _⟩ | ⟨rfl, rfl, rfl⟩ | ⟨rfl, rfl, rfl⟩ | ⟨rfl, rfl⟩ | ⟨rfl, rfl⟩
  · exact absurd e (by decide +kernel)
  · exact absurd e (by decide +kernel)
  · exact absurd e (by decide +kernel)
  · exact absurd e (by decide +kernel)
  · exact absurd e (by decide +kernel)
  · exact absurd e ((by decide +kernel : ∀ w ∈ CMP, ¬ w = "or else") w hw)
  · exact absurd e ((by decide +kernel : ∀ w ∈ A5, ¬ w = "or else") w hw)
  · exact absurd e (by decide +kernel)
  · exact absurd e (by decide +kernel)
  · exact absurd e (by decide +kernel)
  · exact absurd e (by decide +kernel)
  · rfl
theorem JT.fl {w : Str} {qs : List Kd} {k : Kd} (h : JT w qs k) (h0 : w ∉ IK) (h1 : ¬ w = "joined") (h2 : ¬ w = "if") (h3 : ¬ w = "or else") : k = .f := by
  rcases h with ⟨rfl, rfl, rfl⟩ | ⟨rfl, rfl, rfl⟩ | ⟨rfl, rfl, rfl⟩ | ⟨rfl, rfl, rfl⟩ | ⟨rfl, rfl, rfl⟩ | ⟨hw, rfl, _⟩ | ⟨hw, rfl, rfl⟩ | ⟨rfl, rfl, _⟩ | ⟨rfl, rfl, rfl⟩ | ⟨rfl, rfl, rfl⟩ | ⟨rfl, rfl⟩ | ⟨rfl, rfl⟩
  · rfl
  · exact absurd (by decide +kernel) h0
  · exact absurd (by decide +kernel) h0
  · exact absurd (by decide +kernel) h0
  · exact absurd (by decide +kernel) h1
  · rfl
  · exact absurd ((by decide +kernel : ∀ w ∈ A5, w ∈ IK) w hw) h0
  · rfl
  · rfl
  · rfl
  · exact absurd (by decide +kernel) h2
  · exact absurd (by decide +kernel) h3
theorem ck_op2 {ds : List D} {ts : List T} {w : Str} {ps : List Ex} {k : Kd} {m : Nat} (wf : WF (.op w ps)) (h : ck ds ts (.op w ps) m = .ok k) : ∃ qs, cks ds ts ps (m + 1) = .ok qs ∧ JT w qs k := by
  rw [ck] at h
  cases h1 : cks ds ts ps (m + 1) with
  | error j => rw [h1] at h; cases h
  | ok qs =>
    rw [h1] at h
    have h : (match joint w qs with | some k => Except.ok k | none => .error m) = Except.ok k := h
    cases h2 : joint w qs with
    | none => rw [h2] at h; cases h
    | some k2 =>
      rw [h2] at h
      injection h with h
      subst h
      rw [WF] at wf
      have ha : ar w = some qs.length := by rw [wf.1, cks_len h1]
      exact ⟨qs, rfl, jt w (ar_in ha) qs (la_in (ar_le ha)) k2 (qs_in k2) ha h2⟩
theorem cks_at {ds : List D} {ts : List T} : ∀ {es : List Ex} {m : Nat} {qs : List Kd} {i : Nat} {e : Ex} {k : Kd}, cks ds ts es m = .ok qs → es[i]? = some e → qs[i]? = some k → ck ds ts e 0 = .ok k
  | [], _, _, _, _, _, _, h, _ => by simp at h
  | x :: r, m, qs, i, e, k, h, g, g2 => by
    rw [cks] at h
    cases h1 : ck ds ts x m with
    | error j => rw [h1] at h; cases h
    | ok k0 =>
      rw [h1] at h
      cases h2 : cks ds ts r (m + x.size) with
      | error j => simp only [h2] at h; cases h
      | ok ks =>
        simp only [h2] at h
        injection h with h
        subst h
        cases i with
        | zero =>
          have e1 := Option.some.inj g
          have e2 := Option.some.inj g2
          rw [← e1, ← e2]
          exact ck_any x h1
        | succ i => exact cks_at h2 g g2
section
variable {P : Program} {w : World} {K : PySem.W.Frag} {mg : Str → Option Value} {base : Heap}
end
end K2

/-! zip of a tuple and a list -/
namespace K2
open PySem PySem.Spec PyProof.Rows L2
def ItLT (K : PySem.W.Frag) (a b : Addr) (xs ys : List V) : It :=
  ⟨fun i H => (SqL K H a xs ∧ SqT K H b ys) ∧ i < xs.length ∧ i < ys.length,
    fun i H v H' => ∃ T x y, v = .ref T ∧ H T = none ∧ H' = upd H T (.tup [x, y]) ∧ xs[i]? = some x ∧ ys[i]? = some y,
    fun i H => (SqL K H a xs ∧ SqT K H b ys) ∧ i ≤ xs.length ∧ i ≤ ys.length ∧ (i = xs.length ∨ i = ys.length)⟩
def StLT (z TI TO i1 i2 a b : Addr) (i : Nat) (h : Heap) : Prop :=
  IsZip h z TI TO .none ∧ IsTupOf2 h TI (.ref i1) (.ref i2) ∧ (∃ x y, IsTupOf2 h TO x y) ∧ h.IsListIter i1 a i ∧ h.IsTupleIter i2 b i
structure SepLT (z TI TO i1 i2 a b : Addr) : Prop where
  s : ZipSep2 z TI TO i1 i2 [i1, a] [i2, b]
  a1 : a ≠ i1
  b2 : b ≠ i2
theorem sepLT (n a b : Nat) (ha : a < n) (hb : b < n) : SepLT (n + 4) (n + 2) (n + 3) n (n + 1) a b := by
  have m2 : ∀ {x y z : Nat}, x ≠ y → x ≠ z → x ∉ [y, z] := fun h1 h2 q => by
    rcases List.mem_cons.mp q with e | q
    · exact h1 e
    · exact h2 (List.mem_singleton.mp q)
  have k1 : ∀ i j : Nat, i ≠ j → n + i ≠ n + j := fun i j h => by omega
  have k2 : ∀ i j : Nat, j < n → n + i ≠ j := fun i j h => by omega
  exact ⟨⟨k1 2 4 (by decide), k1 3 4 (by decide), k1 2 3 (by decide), k1 2 0 (by decide), List.mem_cons_self, m2 (k1 4 0 (by decide)) (k2 4 a ha), m2 (k1 3 0 (by decide)) (k2 3 a ha), k1 2 1 (by decide), List.mem_cons_self, m2 (k1 4 1 (by decide)) (k2 4 b hb), m2 (k1 3 1 (by decide)) (k2 3 b hb), m2 (k1 0 1 (by decide)) (k2 0 b hb), m2 (k1 1 0 (by decide)) (k2 1 a ha)⟩, (k2 0 a ha).symm, (k2 1 b hb).symm⟩
theorem tu_zipLT {P : Program} {w : World} {K : PySem.W.Frag} {elts : List Expr} {kk : Nat} {tpos : Pos} {a b z TI TO i1 i2 : Addr} (xs ys : List V) (S : SepLT z TI TO i1 i2 a b) :
    Turn P w K (.Tuple elts kk tpos) (ItLT K a b xs ys) [z, TI, TO, i1, i2] z (StLT z TI TO i1 i2 a b) := by
  have five : ∀ {p : Addr → Prop}, p z → p TI → p TO → p i1 → p i2 → ∀ c ∈ [z, TI, TO, i1, i2], p c := by
    intro p q1 q2 q3 q4 q5 c hc
    rcases List.mem_cons.mp hc with rfl | hc
    · exact q1
    rcases List.mem_cons.mp hc with rfl | hc
    · exact q2
    rcases List.mem_cons.mp hc with rfl | hc
    · exact q3
    rcases List.mem_cons.mp hc with rfl | hc
    · exact q4
    rw [List.mem_singleton.mp hc]
    exact q5
  refine ⟨by simp, fun i h st => ?_, fun i h h' st k => ?_, ?_, ?_, fun A i s Q E st h => wpAny_pyIter_zip st.1 h⟩
  · obtain ⟨q1, q2, ⟨x, y, q3⟩, ⟨o1, e1, _, d1⟩, ⟨o2, e2, _, d2⟩⟩ := st
    exact five (p := fun b => ∃ o, h.get? b = some o ∧ ∀ v, o.data ≠ .cell v) ⟨_, q1, fun v q => nomatch q⟩ ⟨_, q2, fun v q => nomatch q⟩ ⟨_, q3, fun v q => nomatch q⟩ ⟨o1, e1, fun v q => by rw [d1] at q; cases q⟩ ⟨o2, e2, fun v q => by rw [d2] at q; cases q⟩
  · obtain ⟨q1, q2, ⟨x, y, q3⟩, q4, q5⟩ := st
    exact ⟨k z (by simp) _ q1, k TI (by simp) _ q2, ⟨x, y, k TO (by simp) _ q3⟩, q4.at fun o q => k i1 (by simp) o q, q5.at fun o q => k i2 (by simp) o q⟩
  · intro X hP hw hK hc i pins s σ H E I hf st hg
    subst hP hw hK
    obtain ⟨q1, q2, ⟨x0, y0, q3⟩, q4, q5⟩ := st
    obtain ⟨⟨ha, hb⟩, hi, hj⟩ := hg
    obtain ⟨its, rv, p, _⟩ := I.list ha
    obtain ⟨jts, rw', p', _⟩ := I.tuple hb
    have pt : s.heap.IsList a its.toArray := p.isList
    have pl : s.heap.IsTuple b jts.toArray := p'
    obtain ⟨u, hu, ru⟩ := rv.get (List.getElem?_eq_getElem hi)
    obtain ⟨v, hv, rv'⟩ := rw'.get (List.getElem?_eq_getElem hj)
    have hi2 : i < its.toArray.size := by rw [List.size_toArray, ← rv.length]; exact hi
    have hj2 : i < jts.toArray.size := by rw [List.size_toArray, ← rw'.length]; exact hj
    have lt : ∀ c ∈ [z, TI, TO, i1, i2], c < s.heap.objs.size := five (p := fun c => c < s.heap.objs.size) (Heap.lt_size q1) (Heap.lt_size q2) (Heap.lt_size q3) (let ⟨_, q, _⟩ := q4; Heap.lt_size q) (let ⟨_, q, _⟩ := q5; Heap.lt_size q)
    refine wpAny_pyNext_zipD2_item S.s (Draws.list (prog := X.prog) (w := X.w) (A := X.A.in1) (I.ok.hd hc) i1 a S.a1 its.toArray) (Draws.tuple (prog := X.prog) (w := X.w) (A := X.A.in1) (I.ok.hd hc) i2 b S.b2 jts.toArray) q1 q2 q3 ⟨q4, pt⟩ ⟨q5, pl⟩ hi2 hj2
      fun x1 x2 h2 tk hx1 hx2 z2 t2 w1 w2 nT hsz hk => ?_
    have ex : x1 = u := by
      have y : its.toArray[i]? = some x1 := hx1
      rw [List.getElem?_toArray, hu] at y
      exact (Option.some.inj y).symm
    have ey : x2 = v := by
      have y : jts.toArray[i]? = some x2 := hx2
      rw [List.getElem?_toArray, hv] at y
      exact (Option.some.inj y).symm
    subst ex ey
    refine ⟨_, rfl, wpAny_letOwnedTupleGo_zip (s := { s with heap := h2, toks := tk }) z2 fun h3 z3 sb => ?_⟩
    have lz := lt z (by simp)
    have nT3 : h3.get? s.heap.objs.size = some { cls := .type "tuple", data := .seq #[x1, x2] } := (sb.2 _ (Nat.ne_of_gt lz)).trans nT
    have sm3 : ∀ c ob, c ∉ [z, TI, TO, i1, i2] → s.heap.get? c = some ob → h3.get? c = some ob := fun c ob hb q => by
      have n1 : c ≠ z := fun z => hb (by simp [z])
      exact (sb.2 c n1).trans (hk c ob n1 (fun z => hb (by simp [z])) (fun z => hb (by simp [z])) (fun z => hb (by simp [z])) q)
    have nw : ObjOk X.prog X.w (upd H s.heap.objs.size (.tup [xs[i], ys[i]])) h3 s.heap.objs.size (.tup [xs[i], ys[i]]) :=
      ⟨by show 2 ≤ sizeLine; decide, [x1, x2], .cons ru (.cons rv' .nil), _, nT3, rfl, _, rfl⟩
    have I3 := I.turnedNew (t' := tk) (ch := [z, TI, TO, i1, i2]) sm3 hf (Nat.le_refl _) nw
    refine ⟨.ref s.heap.objs.size, _, I3, rfl, ⟨_, xs[i], ys[i], rfl, I.hok.fresh (Nat.le_refl _), rfl, List.getElem?_eq_getElem hi, List.getElem?_eq_getElem hj⟩, ⟨z3, ?_, ⟨x1, x2, (sb.2 _ S.s.TOz).trans t2⟩, w1.1.at fun o q => (sb.2 i1 S.s.zi1.symm).trans q, w2.1.at fun o q => (sb.2 i2 S.s.zi2.symm).trans q⟩, fun c hcm => ?_⟩
    · exact (sb.2 _ S.s.TIz).trans (hk TI _ S.s.TIz S.s.TITO S.s.TIi1 S.s.TIi2 q2)
    · rw [upd_ne (Nat.ne_of_lt (lt c hcm))]
      exact (hf c hcm).1
  · intro X hP hw hK hc i pins s σ H E I hf st hg
    subst hP hw hK
    obtain ⟨q1, q2, ⟨x0, y0, q3⟩, q4, q5⟩ := st
    obtain ⟨⟨ha, hb⟩, hi, hj, he⟩ := hg
    obtain ⟨its, rv, p, _⟩ := I.list ha
    obtain ⟨jts, rw', p', _⟩ := I.tuple hb
    have pt : s.heap.IsList a its.toArray := p.isList
    have pl : s.heap.IsTuple b jts.toArray := p'
    have l1 : its.toArray.size = xs.length := by rw [List.size_toArray, ← rv.length]
    have l2 : jts.toArray.size = ys.length := by rw [List.size_toArray, ← rw'.length]
    refine wpAny_pyNext_zipD2_end S.s (Draws.list (prog := X.prog) (w := X.w) (A := X.A.in1) (I.ok.hd hc) i1 a S.a1 its.toArray) (Draws.tuple (prog := X.prog) (w := X.w) (A := X.A.in1) (I.ok.hd hc) i2 b S.b2 jts.toArray) q1 q2 q3 ⟨q4, pt⟩ ⟨q5, pl⟩ (by omega) (by omega) (by omega)
      fun h2 tk hk => ⟨rfl, I.turnedL (t' := tk) (ch := [z, TI, TO, i1, i2]) (fun c o hb q => hk c o (fun z => hb (by simp [z])) (fun z => hb (by simp [z])) (fun z => hb (by simp [z])) (fun z => hb (by simp [z])) q) hf⟩
def iZipLT (K : PySem.W.Frag) (ta : TA) : TI := fun σ H R => ta σ H fun vs H1 => ∃ a b xs ys, vs = [.ref a, .ref b] ∧ (SqL K H1 a xs ∧ SqT K H1 b ys) ∧ R (ItLT K a b xs ys) H1
theorem pi_zipLT {X : Cx} {e e2 : Expr} {ta : TA} {p pos tpos : Pos} {elts : List Expr} {kk : Nat} (hg : Gl X "zip") (hm : X.mg "zip" = none) (ha : PA X [e, e2] ta)
    (hs : starEach [e, e2] X.env = (false, eval e X.env) :: starEach [e2] X.env := by rfl) (hs2 : (backTo pos (starEach [e2] X.env)).any (·.1) = false := by rfl) :
    PI X (.Tuple elts kk tpos) (.Call (.Name "zip" p) [e, e2] [] pos) (iZipLT X.K ta) := by
  refine ⟨fun pins s σ H R I h => Call_ (ld_blt I hg hm boot_zip (PyProof.Rows.callWith_type1 (thn (ha.run pos pins s σ H _ I h) fun us s1 ⟨vs, H1, I1, r1, a, b, xs, ys, ex, ⟨h1, h2⟩, q⟩ => ?_) hs hs2))⟩
  subst ex
  obtain ⟨its, rv, p1, _⟩ := I1.list h1
  obtain ⟨jts, rw', p2, _⟩ := I1.tuple h2
  have pt : s1.heap.IsList a its.toArray := p1.isList
  have pl : s1.heap.IsTuple b jts.toArray := p2
  have la : a < s1.heap.objs.size := by obtain ⟨_, q, _⟩ := id pt; exact Heap.lt_size q
  have lb : b < s1.heap.objs.size := by obtain ⟨_, q, _⟩ := id pl; exact Heap.lt_size q
  cases r1 with
  | cons r rr =>
    cases rr with
    | cons r' rr =>
      cases rr
      cases r
      cases r'
      refine zip_begins2 (begins_list a its.toArray) (begins_tuple b jts.toArray) pt pl fun h2 z1 z2 z3 z4 z5 sz hk => wpAny_pyIter_zip z1 ?_
      have S := sepLT s1.heap.objs.size a b la lb
      refine ⟨s1.heap.objs.size + 4, [s1.heap.objs.size + 4, s1.heap.objs.size + 2, s1.heap.objs.size + 3, s1.heap.objs.size, s1.heap.objs.size + 1], _, _, H1, rfl, I1.kept (t' := s1.toks) hk, tu_zipLT xs ys S, ⟨z1, z2, ⟨_, _, z3⟩, ⟨_, z4, rfl, rfl⟩, ⟨_, z5, rfl, rfl⟩⟩, fun c hc => ?_, q⟩
      have lc : s1.heap.objs.size ≤ c := by
        have k0 : ∀ i : Nat, s1.heap.objs.size ≤ s1.heap.objs.size + i := fun i => Nat.le_add_right _ i
        simp only [List.mem_cons, List.not_mem_nil, or_false] at hc
        rcases hc with rfl | rfl | rfl | rfl | rfl
        · exact k0 4
        · exact k0 2
        · exact k0 3
        · exact k0 0
        · exact k0 1
      exact I1.fpOk lc (I1.hok.fresh lc)
theorem walk_zipLT {K : PySem.W.Frag} {a b : Addr} {xs ys : List V} (hl : xs.length = ys.length) : Walk (ItLT K a b xs ys) xs.length (fun H => SqL K H a xs ∧ SqT K H b ys) (YPair (fun i => xs[i]?) (fun i => ys[i]?)) :=
  ⟨fun i _ hi q => ⟨q, hi, hl ▸ hi⟩, fun _ q => ⟨q, Nat.le_refl _, Nat.le_of_eq hl, .inl rfl⟩, fun i H v H' _ q ⟨T, x, y, h1, h2, h3, h4, h5⟩ => ⟨T, x, y, h1, h2, h3, h4, h5⟩⟩
end K2

namespace K2
open PySem L2
/-! ### papers of any sort -/
inductive W where
  | pp (s : Spn) (ws : List W)
  | bad
def W.s : W → Spn
  | .pp s _ => s
  | .bad => AM
mutual
inductive WAt (K : PySem.W.Frag) (H : Hp) : V → W → Prop
  | pp {a q : Addr} {u : V} {s : Spn} {xs : List V} {ws : List W} : SqT K H a [u, .ref q] → SpnAt K H u s → WS s → SqT K H q xs → WAll K H xs ws → WAt K H (.ref a) (.pp s ws)
  | non : WAt K H .non .bad
  | tup {a : Addr} {xs : List V} : SqT K H a xs → xs.length ≠ 2 → WAt K H (.ref a) .bad
  | pl {a q : Addr} {u : V} {s : Spn} {ys : List V} : SqT K H a [u, .ref q] → SpnAt K H u s → H q = some (.lst ys) → WAt K H (.ref a) .bad
  | lst {a : Addr} {ys : List V} : H a = some (.lst ys) → WAt K H (.ref a) .bad
inductive WAll (K : PySem.W.Frag) (H : Hp) : List V → List W → Prop
  | nil : WAll K H [] []
  | cons {x : V} {xs : List V} {w : W} {ws : List W} : WAt K H x w → WAll K H xs ws → WAll K H (x :: xs) (w :: ws)
end
mutual
theorem WAt.same {K : PySem.W.Frag} {H H' : Hp} (k : Same H H') : ∀ {x : V} {w : W}, WAt K H x w → WAt K H' x w
  | _, _, .pp h1 h2 h3 h4 h5 => .pp (sqt_same h1 k) (h2.same k) h3 (sqt_same h4 k) (WAll.same k h5)
  | _, _, .non => .non
  | _, _, .tup h1 h2 => .tup (sqt_same h1 k) h2
  | _, _, .pl h1 h2 h3 => .pl (sqt_same h1 k) (h2.same k) (k _ _ h3)
  | _, _, .lst h1 => .lst (k _ _ h1)
theorem WAll.same {K : PySem.W.Frag} {H H' : Hp} (k : Same H H') : ∀ {x : List V} {w : List W}, WAll K H x w → WAll K H' x w
  | _, _, .nil => .nil
  | _, _, .cons h g => .cons (WAt.same k h) (WAll.same k g)
end
mutual
theorem WAt.kp {K : PySem.W.Frag} {d l : Addr} {H H' : Hp} (S : StAt H d l) (k : Kp d l H H') : ∀ {x : V} {w : W}, WAt K H x w → WAt K H' x w
  | _, _, .pp h1 h2 h3 h4 h5 => .pp (sqt_kp h1 S k) (h2.kp S k) h3 (sqt_kp h4 S k) (WAll.kp S k h5)
  | _, _, .non => .non
  | _, _, .tup h1 h2 => .tup (sqt_kp h1 S k) h2
  | _, _, .pl h1 h2 h3 => .pl (sqt_kp h1 S k) (h2.kp S k) (k.at S h3 (fun _ z => nomatch z))
  | _, _, .lst h1 => .lst (k.at S h1 (fun _ z => nomatch z))
theorem WAll.kp {K : PySem.W.Frag} {d l : Addr} {H H' : Hp} (S : StAt H d l) (k : Kp d l H H') : ∀ {x : List V} {w : List W}, WAll K H x w → WAll K H' x w
  | _, _, .nil => .nil
  | _, _, .cons h g => .cons (WAt.kp S k h) (WAll.kp S k g)
end
theorem WAll.len {K : PySem.W.Frag} {H : Hp} : ∀ {xs : List V} {ws : List W}, WAll K H xs ws → xs.length = ws.length
  | _, _, .nil => rfl
  | _, _, .cons _ t => by rw [List.length_cons, List.length_cons, t.len]
theorem WAll.at {K : PySem.W.Frag} {H : Hp} : ∀ {xs : List V} {ws : List W} {i : Nat} {w : W}, WAll K H xs ws → ws[i]? = some w → ∃ x, xs[i]? = some x ∧ WAt K H x w
  | _, _, 0, _, .cons a t, h => by cases h; exact ⟨_, rfl, a⟩
  | _, _, i + 1, _, .cons a t, h => WAll.at (i := i) t h
/-! ### the judging -/
mutual
def shw (lf : Ex → Spn) (kf : Ex → Kd) : Ex → W → Bool
  | .op w ps, .pp s ws => decide (ws.length = ps.length) && (isSp (kf (.op w ps)) s && (shws lf kf ps ws && encB s (jn w (ws.map W.s))))
  | .val a b, .pp s ws => decide (ws.length = 0) && (isSp (kf (.val a b)) s && encB s (lf (.val a b)))
  | .attr a, .pp s ws => decide (ws.length = 0) && (isSp (kf (.attr a)) s && encB s (lf (.attr a)))
  | .dim a, .pp s ws => decide (ws.length = 0) && (isSp (kf (.dim a)) s && encB s (lf (.dim a)))
  | _, .bad => false
def shws (lf : Ex → Spn) (kf : Ex → Kd) : List Ex → List W → Bool
  | e :: es, w :: ws => shw lf kf e w && shws lf kf es ws
  | [], _ => true
  | _, [] => true
end
def sfn (lf : Ex → Spn) : Ex → List W → Spn
  | .op w _, ws => jn w (ws.map W.s)
  | e, _ => lf e
theorem shw_pp (lf : Ex → Spn) (kf : Ex → Kd) (e : Ex) (s : Spn) (ws : List W) : shw lf kf e (.pp s ws) = (decide (ws.length = e.parts.length) && (isSp (kf e) s && (shws lf kf e.parts ws && encB s (sfn lf e ws)))) := by
  cases e with
  | op w ps => rw [shw]; rfl
  | val a b => rw [shw, show (Ex.val a b).parts = [] from rfl, shws, Bool.true_and]; rfl
  | attr a => rw [shw, show (Ex.attr a).parts = [] from rfl, shws, Bool.true_and]; rfl
  | dim a => rw [shw, show (Ex.dim a).parts = [] from rfl, shws, Bool.true_and]; rfl
theorem shw_bad (lf : Ex → Spn) (kf : Ex → Kd) (e : Ex) : shw lf kf e .bad = false := by
  cases e <;> rw [shw]
open Classical in
noncomputable def lfS (ds : List D) (ts : List T) (bx : List (Int × Int)) (mk : List Mk) (e : Ex) : Spn :=
  if h : ∃ s, ∀ m k, ck ds ts e m = .ok k → Pr ds ts bx mk e (.mk s []) k then Classical.choose h else AM
def kfS (ds : List D) (ts : List T) (e : Ex) : Kd := match ck ds ts e 0 with
  | .ok k => k
  | .error _ => .i
theorem kfS_ok {ds : List D} {ts : List T} {e : Ex} {m : Nat} {k : Kd} (h : ck ds ts e m = .ok k) : kfS ds ts e = k := by
  unfold kfS
  rw [ck_any e (n := 0) h]
theorem lfS_ok {ds : List D} {ts : List T} {bx : List (Int × Int)} {mk : List Mk} {e : Ex} {m : Nat} {k : Kd} (FB : BxFit ds bx) (FM : MkFit ts mk) (wf : WF e) (hp : e.parts = []) (h : ck ds ts e m = .ok k) : Pr ds ts bx mk e (.mk (lfS ds ts bx mk e) []) k := by
  have ex : ∃ s, ∀ m k, ck ds ts e m = .ok k → Pr ds ts bx mk e (.mk s []) k := by
    obtain ⟨p, hP⟩ := pr_of FB FM e wf h
    obtain ⟨qs, hA, _⟩ := hP.parts
    rw [hp] at hA
    obtain ⟨s, ps⟩ := p
    have hA : PrAll ds ts bx mk [] ps qs := hA
    cases hA
    refine ⟨s, fun m2 k2 h2 => ?_⟩
    have e2 := ck_any e (n := m) h2
    rw [h] at e2
    injection e2 with e2
    rw [← e2]
    exact hP
  unfold lfS
  rw [dif_pos ex]
  exact Classical.choose_spec ex m k h
end K2

namespace K2
open PySem L2
theorem shws_false {lf : Ex → Spn} {kf : Ex → Kd} : ∀ {es : List Ex} {ws : List W} {i : Nat} {e : Ex} {w : W}, es[i]? = some e → ws[i]? = some w → shw lf kf e w = false → shws lf kf es ws = false
  | [], _, _, _, _, h, _, _ => by simp at h
  | _ :: _, [], _, _, _, _, h, _ => by simp at h
  | x :: es, y :: ws, 0, e, w, h, g, f => by
    have e1 := Option.some.inj h
    have e2 := Option.some.inj g
    subst e1 e2
    have f : shw lf kf x y = false := f
    rw [shws, f]
    rfl
  | x :: es, y :: ws, i + 1, e, w, h, g, f => by
    rw [shws, shws_false (i := i) h g f, Bool.and_false]
theorem shws_true {lf : Ex → Spn} {kf : Ex → Kd} : ∀ {es : List Ex} {ws : List W}, (∀ (i : Nat) (e : Ex) (w : W), es[i]? = some e → ws[i]? = some w → shw lf kf e w = true) → shws lf kf es ws = true
  | [], _, _ => by rw [shws]
  | _ :: _, [], _ => by rw [shws]; intro h; cases h
  | x :: es, y :: ws, h => by
    rw [shws, h 0 x y rfl rfl, shws_true fun i e w h1 h2 => h (i + 1) e w h1 h2]
    rfl
def Good : W → Prop
  | .pp s _ => WS s
  | .bad => True
theorem WAt.good {K : PySem.W.Frag} {H : Hp} {x : V} {w : W} (h : WAt K H x w) : Good w := by
  cases h with
  | pp _ _ h _ _ => exact h
  | non => trivial
  | tup _ _ => trivial
  | pl _ _ _ => trivial
  | lst _ => trivial
theorem shw_inv {lf : Ex → Spn} {kf : Ex → Kd} {e : Ex} {w : W} (h : shw lf kf e w = true) : ∃ s ws, w = .pp s ws ∧ ws.length = e.parts.length ∧ isSp (kf e) s = true ∧ shws lf kf e.parts ws = true ∧ encB s (sfn lf e ws) = true := by
  cases w with
  | bad => rw [shw_bad] at h; cases h
  | pp s ws =>
    rw [shw_pp] at h
    simp only [Bool.and_eq_true, decide_eq_true_eq] at h
    exact ⟨s, ws, rfl, h.1, h.2.1, h.2.2.1, h.2.2.2⟩
theorem oks_all {ds : List D} {ts : List T} {lf : Ex → Spn} : ∀ {es : List Ex} {ws : List W} {m : Nat} {qs : List Kd}, cks ds ts es m = .ok qs → shws lf (kfS ds ts) es ws = true → ws.length = es.length → (∀ w ∈ ws, Good w) → OkSs qs (ws.map W.s)
  | [], [], m, qs, h, _, _, _ => by
    rw [cks] at h
    injection h with h
    subst h
    exact .nil
  | [], _ :: _, _, _, _, _, hl, _ => by cases hl
  | _ :: _, [], _, _, _, _, hl, _ => by cases hl
  | e :: es, w :: ws, m, qs, h, hs, hl, hg => by
    rw [shws, Bool.and_eq_true] at hs
    rw [cks] at h
    cases h1 : ck ds ts e m with
    | error j => rw [h1] at h; cases h
    | ok k0 =>
      rw [h1] at h
      cases h2 : cks ds ts es (m + e.size) with
      | error j => simp only [h2] at h; cases h
      | ok ks =>
        simp only [h2] at h
        injection h with h
        subst h
        obtain ⟨s, ws', rfl, _, e2, _⟩ := shw_inv hs.1
        rw [kfS_ok h1] at e2
        exact .cons (isSp_oks (hg _ List.mem_cons_self) e2) (oks_all h2 hs.2 (Nat.succ.inj hl) fun w hw => hg w (List.mem_cons_of_mem _ hw))
def spShows (K : PySem.W.Frag) (C : Addr) (n : Nat) : Sp := fun vs H Q E => ∃ (r x y v : V) (s : Addr) (e : Ex) (ds : List D) (ts : List T) (bx : List (Int × Int)) (mk : List Mk) (w : W) (k : Kd) (m : Nat), vs = [r, .ref s, x, y, v] ∧ ExAt H r e ∧ WF e ∧ e.dep < n ∧ e.dep < 5 ∧ ShapeAt H C s ds ts ∧ GoodK ds ts ∧ BoxAt K H x bx ∧ MkAt K H y mk ∧ BxFit ds bx ∧ MkFit ts mk ∧
  ck ds ts e m = .ok k ∧ WAt K H v w ∧ ∀ H', Same H H' → Q (.bl (shw (lfS ds ts bx mk) (kfS ds ts) e w)) H'
theorem part_ck {ds : List D} {ts : List T} {H : Hp} {r : V} {e e' : Ex} {m i : Nat} {k : Kd} (he : ExAt H r e) (wf : WF e) (hc : ck ds ts e m = .ok k) (hp : e.parts[i]? = some e') : ∃ q0, ck ds ts e' 0 = .ok q0 := by
  cases he with
  | val _ => cases hp
  | attr _ => cases hp
  | dim _ => cases hp
  | @op _ wd xs ps _ g nw ne =>
    obtain ⟨qs, hqs, hJ⟩ := ck_op2 wf hc
    have hp : ps[i]? = some e' := hp
    have hi : i < qs.length := by
      rw [cks_len hqs]
      exact (List.getElem?_eq_some_iff.mp hp).1
    exact ⟨_, cks_at hqs hp (List.getElem?_eq_getElem hi)⟩
theorem sfn_sf {ds : List D} {ts : List T} {bx : List (Int × Int)} {mk : List Mk} {H : Hp} {r : V} {e : Ex} {ws : List W} {m : Nat} {k : Kd} (FB : BxFit ds bx) (FM : MkFit ts mk) (he : ExAt H r e) (wf : WF e) (hc : ck ds ts e m = .ok k) (hl : ws.length = e.parts.length) (hs : shws (lfS ds ts bx mk) (kfS ds ts) e.parts ws = true) (hg : ∀ w ∈ ws, Good w) : Sf ds ts bx mk e (ws.map W.s) (sfn (lfS ds ts bx mk) e ws) k := by
  cases he with
  | val _ =>
    have : ws = [] := List.length_eq_zero_iff.mp hl
    subst this
    exact .leaf (lfS_ok FB FM wf rfl hc) (by show ("value" : Str) ∈ LV; decide +kernel)
  | attr _ =>
    have : ws = [] := List.length_eq_zero_iff.mp hl
    subst this
    exact .leaf (lfS_ok FB FM wf rfl hc) (by show ("attr" : Str) ∈ LV; decide +kernel)
  | dim _ =>
    have : ws = [] := List.length_eq_zero_iff.mp hl
    subst this
    exact .leaf (lfS_ok FB FM wf rfl hc) (by show ("dim" : Str) ∈ LV; decide +kernel)
  | @op _ wd xs ps _ g nw ne =>
    obtain ⟨qs, hqs, hJ⟩ := ck_op2 wf hc
    have h3 : ps.length ≤ 3 := by
      rw [WF] at wf
      exact ar_le wf.1
    have hl : ws.length = ps.length := hl
    exact .op hJ (oks_all hqs hs hl hg) h3 (by rw [List.length_map]; exact hl)
section
variable {P : Program} {w : World} {K : PySem.W.Frag} {mg : Str → Option Value} {base : Heap}
theorem sc_shows : FnScope ["expression", "shape", "box", "marks", "paper", "span", "papers", "parts", "part", "inner"] ["expression", "shape", "box", "marks", "paper"] (defScope sShows) := ⟨rfl, rfl, rfl, by decide +kernel, rfl, by decide +kernel, by decide +kernel⟩
theorem ok_shows {f C fP fK2 fS fF fE : Addr} {fd fdP fdK2 fdS fdF fdE : FuncData} (F : Fun K "shows" "shows" sShows f fd) (M : Nm mg) (gY : mg "shows" = some (.ref f)) (bY : Binds K fd ["expression", "shape", "box", "marks", "paper"] []) (GP : FnOk P w K mg base CX0 1 fP fdP ["expression"] spParts) (kP : PySem.W.keepIn K (.ref fP) = true) (bP : Binds K fdP ["expression"] []) (gP : mg "parts_of" = some (.ref fP)) (GK2 : FnOk P w K mg base CX0 11 fK2 fdK2 ["expression", "shape"] (spKO C)) (kK2 : PySem.W.keepIn K (.ref fK2) = true) (bK2 : Binds K fdK2 ["expression", "shape"] []) (gK2 : mg "kind_of" = some (.ref fK2)) (GS : FnOk P w K mg base CX0 3 fS fdS ["kind", "span"] (spIsSpan K)) (kS : PySem.W.keepIn K (.ref fS) = true) (bS : Binds K fdS ["kind", "span"] []) (gS : mg "is_span" = some (.ref fS)) (GF : FnOk P w K mg base CX0 8 fF fdF ["expression", "shape", "box", "marks", "spans"] (spSF2 K C)) (kF : PySem.W.keepIn K (.ref fF) = true) (bF : Binds K fdF ["expression", "shape", "box", "marks", "spans"] []) (gF : mg "span_from" = some (.ref fF)) (GE : FnOk P w K mg base CX0 2 fE fdE ["outer", "inner"] (spEnc K)) (kE : PySem.W.keepIn K (.ref fE) = true) (bE : Binds K fdE ["outer", "inner"] []) (gE : mg "encloses" = some (.ref fE)) :
    ∀ n : Nat, FnOk P w K mg base CX0 (12 + n) f fd ["expression", "shape", "box", "marks", "paper"] (spShows K C n) := by
  intro n
  induction n with
  | zero =>
    refine F.ok sc_shows (fun vs H Q E h => ?_) (fun cdv A outer s H vs Q E hr h => ?_)
    · obtain ⟨r, x, y, v, s, e, ds, ts, bx, mk, w, k, m, rfl, _⟩ := h
      rfl
    · obtain ⟨r, x, y, v, s, e, ds, ts, bx, mk, w, k, m, rfl, he, wf, hd, _⟩ := h
      exact absurd hd (Nat.not_lt_zero _)
  | succ n ih =>
    refine F.ok sc_shows (fun vs H Q E h => ?_) (fun cdv A outer s0 H vs Q E hr h => ?_)
    · obtain ⟨r, x, y, v, s, e, ds, ts, bx, mk, w, k, m, rfl, _⟩ := h
      rfl
    · obtain ⟨r, x, y, v, s, e, ds, ts, bx, mk, w1, k, m, rfl, he, wf, hd, hd5, hS, gk, hB, hM, FB, FM, hc, hw, q⟩ := h
      have hr1 := hr.mono (j := 1) (by show 1 ≤ 12 + n; omega)
      have hr2 := hr.mono (j := 2) (by show 2 ≤ 12 + n; omega)
      have hr3 := hr.mono (j := 3) (by show 3 ≤ 12 + n; omega)
      have hr8 := hr.mono (j := 8) (by show 8 ≤ 12 + n; omega)
      have hr11 := hr.mono (j := 11) (by show 11 ≤ 12 + n; omega)
      have hrn := hr.mono (j := 12 + n) (by show 12 + n ≤ 12 + n; omega)
      have GY := ih
      have kY := F.kp
      refine ⟨_, (pss_cons (ps_if (PW.pt (pw_or (pt_not (pt_val (pe_callB call_isi (by rfl) M.isinstance (by decide +kernel) (pa_cons (pv 4) (pa_cons (pe_bltn (v := .ty "tuple") (by rfl) M.tuple (by decide +kernel) rfl) pa_nil))))) (pw_or1 (pt_cmpR op_ne (pe_callB call_len_seq (by rfl) M.len PySem.boot_len (pa_cons (pv 4) pa_nil)) pe_int (nomark _))))) (pss_one (ps_ret pe_bl)) pss_nil)
      (pss_cons (ps_asg (pv 4) (pg_tup (by rfl) (pgs_cons (pg_name (i := 5) sc_shows.nd rfl (.inl rfl)) (pgs_cons (pg_name (i := 6) sc_shows.nd rfl (.inl rfl)) pgs_nil))))
      (pss_cons (ps_set (i := 7) sc_shows.nd rfl (.inl rfl) (pe_call GP hr1 (by rfl) gP kP bP .nil pass0 (pa_cons (pv 0) pa_nil)))
      (pss_cons (ps_if (PW.pt (pw_or (pt_not (pt_val (pe_callB call_isi (by rfl) M.isinstance (by decide +kernel) (pa_cons (pv 6) (pa_cons (pe_bltn (v := .ty "tuple") (by rfl) M.tuple (by decide +kernel) rfl) pa_nil))))) (pw_or (pt_cmpR op_ne (pe_callB call_len_seq (by rfl) M.len PySem.boot_len (pa_cons (pv 6) pa_nil)) (pe_callB call_len_seq (by rfl) M.len PySem.boot_len (pa_cons (pv 7) pa_nil)) (nomark _)) (pw_or1 (pt_not (pt_val (pe_call GS hr3 (by rfl) gS kS bS .nil pass0 (pa_cons (pe_call GK2 hr11 (by rfl) gK2 kK2 bK2 .nil pass0 (pa_cons (pv 0) (pa_cons (pv 1) pa_nil))) (pa_cons (pv 5) pa_nil))))))))) (pss_one (ps_ret pe_bl)) pss_nil)
      (Evl.pss_cut (ps_for PassesOwn.never rfl (pi_zipLT (by rfl) M.zip (pa_cons (pv 7) (pa_cons (pv 6) pa_nil))) (pg_tup (by rfl) (pgs_cons (pg_name (i := 8) sc_shows.nd rfl (.inl rfl)) (pgs_cons (pg_name (i := 9) sc_shows.nd rfl (.inl rfl)) pgs_nil))) (pss_one (ps_if (pt_not (pt_val (pe_call GY hrn (by rfl) gY kY bY .nil pass0 (pa_cons (pv 8) (pa_cons (pv 1) (pa_cons (pv 2) (pa_cons (pv 3) (pa_cons (pv 9) pa_nil)))))))) (pss_one (ps_ret pe_bl)) pss_nil)))
      (pss_one (ps_ret (pe_call GE hr2 (by rfl) gE kE bE .nil pass0 (pa_cons (pv 5) (pa_cons (pe_call GF hr8 (by rfl) gF kF bF .nil pass0 (pa_cons (pv 0) (pa_cons (pv 1) (pa_cons (pv 2) (pa_cons (pv 3) (pa_cons (pe_lc (own := [("inner", 9)]) (g := (gName 9)) (tt := tYes) rfl sc_shows.nd (pi_tup (pv 6)) (blkOk_by (N := ["expression", "shape", "box", "marks", "paper", "span", "papers", "parts", "part", "inner"]) (sc := defScope sShows) (by decide +kernel)) (fun _ _ _ _ _ => (pg_name (i := 9) sc_shows.nd rfl (Or.inl rfl))) (fun _ _ _ _ _ => pts_nil) (fun _ _ _ _ _ => (pe_ix (ix_tupK K rfl) (pv 9) pe_int (fun _ _ => rfl)))) pa_nil)))))) pa_nil)))))))))), ?_⟩
      cases hw with
      | non =>
        rw [shw_bad] at q
        exact ⟨_, rfl, .non, .ty "tuple", _, .type "tuple", false, rfl, .ty _, .base .non, kit_ty (by decide +kernel), _, rfl, iteB rfl (q H same_refl)⟩
      | @lst a ys h1 =>
        rw [shw_bad] at q
        exact ⟨_, rfl, _, .ty "tuple", _, .type "tuple", false, rfl, .ty _, .base (.lst h1), kit_ty (by decide +kernel), _, rfl, iteB rfl (q H same_refl)⟩
      | @tup a xs h1 h2 =>
        rw [shw_bad] at q
        obtain ⟨t1, ht1, hk1⟩ := tup_isi h1
        refine ⟨_, rfl, _, .ty "tuple", t1, .type "tuple", true, rfl, .ty _, ht1, hk1, _, rfl, iteBF rfl ⟨_, rfl, a, _, rfl, .inr h1, rfl, _, rfl, iteB ?_ (q H same_refl)⟩⟩
        show (!decide (V.int (xs.length : Int) = V.int 2)) = true
        rw [decide_eq_false (fun z => h2 (by have := V.int.inj z; omega))]
        rfl
      | @pl a p u sp ys h1 h2 h3 =>
        rw [shw_bad] at q
        obtain ⟨t1, ht1, hk1⟩ := tup_isi h1
        refine ⟨_, rfl, _, .ty "tuple", t1, .type "tuple", true, rfl, .ty _, ht1, hk1, _, rfl, iteBF rfl ⟨_, rfl, a, _, rfl, .inr h1, rfl, _, rfl, iteBF (by show (!decide (V.int ((2 : Nat) : Int) = V.int 2)) = false; decide +kernel) ?_⟩⟩
        refine ⟨_, rfl, a, _, rfl, h1, rfl, _, _, rfl, _, _, rfl, rfl, ?_⟩
        refine ⟨_, rfl, _, e, rfl, he, fun H1 P1 ps s1 np hp hx1 => ?_⟩
        exact ⟨_, rfl, _, .ty "tuple", _, .type "tuple", false, rfl, .ty _, .base (.lst (s1 _ _ h3)), kit_ty (by decide +kernel), _, rfl, iteB rfl (q _ s1)⟩
      | @pp a p u sp xs ws h1 h2 h3 h4 h5 =>
        obtain ⟨t1, ht1, hk1⟩ := tup_isi h1
        refine ⟨_, rfl, _, .ty "tuple", t1, .type "tuple", true, rfl, .ty _, ht1, hk1, _, rfl, iteBF rfl ⟨_, rfl, a, _, rfl, .inr h1, rfl, _, rfl, iteBF (by show (!decide (V.int ((2 : Nat) : Int) = V.int 2)) = false; decide +kernel) ?_⟩⟩
        refine ⟨_, rfl, a, _, rfl, h1, rfl, _, _, rfl, _, _, rfl, rfl, ?_⟩
        refine ⟨_, rfl, _, e, rfl, he, fun H1 P1 ps s1 np hp hx1 => ?_⟩
        have h4a := sqt_same h4 s1
        have hxw := h5.len
        have hps := hx1.len
        obtain ⟨t2, ht2, hk2⟩ := tup_isi h4a
        refine ⟨_, rfl, _, .ty "tuple", t2, .type "tuple", true, rfl, .ty _, ht2, hk2, _, rfl, iteBF rfl ?_⟩
        refine ⟨_, rfl, p, xs, rfl, .inr h4a, _, rfl, P1, ps, rfl, .inl (.inl (.inl hp)), rfl, _, rfl, ?_⟩
        rw [shw_pp] at q
        by_cases hl : ws.length = e.parts.length
        · rw [decide_eq_true hl, Bool.true_and] at q
          refine iteBF (by show (!decide (V.int (xs.length : Int) = V.int (ps.length : Int))) = false; rw [decide_eq_true (by rw [hxw, hps, hl])]; rfl) ?_
          refine ⟨_, rfl, _, rfl, r, s, e, ds, ts, k, m, rfl, he.same s1, wf, hd5, hS.same s1, gk, hc, fun H2 s2 => ?_⟩
          refine ⟨_, rfl, k, u, sp, rfl, (h2.same s1).same s2, h3, fun H3 s3 => ⟨_, rfl, ?_⟩⟩
          rw [kfS_ok hc] at q
          by_cases hsp : isSp k sp = true
          · rw [hsp, Bool.true_and] at q
            refine iteBF (by rw [hsp]; rfl) ?_
            have s13 : Same H1 H3 := same_trans s2 s3
            have sA : Same H H3 := same_trans s1 s13
            have hgood : ∀ w ∈ ws, Good w := fun w hw => by
              obtain ⟨i, hi⟩ := List.mem_iff_getElem?.mp hw
              obtain ⟨z, _, hz⟩ := h5.at hi
              exact hz.good
            refine ⟨fun σ' H' => ∃ y8 y9, σ' = [some r, some (.ref s), some x, some y, some (.ref a), some u, some (.ref p), some (.ref P1), y8, y9] ∧ Same H3 H' ∧ shws (lfS ds ts bx mk) (kfS ds ts) e.parts ws = true, ?_, ?_⟩
            · refine ⟨_, rfl, _, rfl, P1, p, ps, xs, rfl, ⟨.inl (.inl (s13 _ _ hp)), sqt_same h4 sA⟩, ?_⟩
              refine for_it (walk_zipLT (by rw [hps, hxw, hl])) (fun i σ H4 => ∃ y8 y9, σ = [some r, some (.ref s), some x, some y, some (.ref a), some u, some (.ref p), some (.ref P1), y8, y9] ∧ Same H3 H4 ∧ ∀ j, j < i → ∀ e' w', e.parts[j]? = some e' → ws[j]? = some w' → shw (lfS ds ts bx mk) (kfS ds ts) e' w' = true) ?_ ?_ ?_ ?_
              · exact ⟨none, none, rfl, same_refl, fun j hj => absurd hj (Nat.not_lt_zero _)⟩
              · rintro i σ H4 hi ⟨y8, y9, rfl, s4, _⟩
                exact ⟨.inl (.inl (s4 _ _ (s13 _ _ hp))), sqt_same h4 (same_trans sA s4)⟩
              · rintro i v σ H4 H' hi ⟨y8, y9, rfl, s4, al⟩ ⟨T, xa, xb, rfl, nT, rfl, ha, hb⟩
                have hi2 : i < e.parts.length := by rw [← hps]; exact hi
                have hi3 : i < ws.length := by rw [hl]; exact hi2
                have s5 : Same H4 (upd H4 T (.tup [xa, xb])) := same_new nT
                have sB : Same H (upd H4 T (.tup [xa, xb])) := same_trans sA (same_trans s4 s5)
                refine ⟨T, _, rfl, SqT.of upd_same, rfl, _, _, rfl, _, _, rfl, rfl, ?_⟩
                have hpe := List.getElem?_eq_getElem hi2
                have hwe := List.getElem?_eq_getElem hi3
                obtain ⟨z1, e1, e2⟩ := hx1.at hpe
                obtain rfl : xa = z1 := Option.some.inj (ha.symm.trans e1)
                obtain ⟨z2, e3, e4⟩ := h5.at hwe
                obtain rfl : xb = z2 := Option.some.inj (hb.symm.trans e3)
                obtain ⟨q0, hq0⟩ := part_ck he wf hc hpe
                have hm := List.getElem_mem hi2
                have hdp := dep_part (e := e) hm
                refine ⟨_, rfl, _, rfl, _, rfl, _, rfl, _, rfl, xa, x, y, xb, s, _, ds, ts, bx, mk, _, q0, 0, rfl, e2.same (same_trans s13 (same_trans s4 s5)), wf.part hm, by omega, by omega, hS.same sB, gk, hB.same sB, hM.same sB, FB, FM, hq0, e4.same sB, fun H5 s6 => ⟨_, rfl, ?_⟩⟩
                by_cases hsh : shw (lfS ds ts bx mk) (kfS ds ts) e.parts[i] ws[i] = true
                · refine iteBF (by rw [hsh]; rfl) ⟨_, _, rfl, same_trans s4 (same_trans s5 s6), fun j hj e' w' g1 g2 => ?_⟩
                  rcases Nat.lt_or_ge j i with h | h
                  · exact al j h e' w' g1 g2
                  · obtain rfl : j = i := by omega
                    rw [hpe] at g1
                    rw [hwe] at g2
                    rw [← Option.some.inj g1, ← Option.some.inj g2]
                    exact hsh
                · have hsh := Bool.eq_false_iff.mpr hsh
                  rw [shws_false hpe hwe hsh, Bool.false_and] at q
                  exact iteB (by rw [hsh]; rfl) (q _ (same_trans sB s6))
              · rintro σ H4 ⟨y8, y9, rfl, s4, al⟩
                refine ⟨y8, y9, rfl, s4, shws_true fun i e' w' g1 g2 => al i ?_ e' w' g1 g2⟩
                rw [hps]
                exact (List.getElem?_eq_some_iff.mp g1).1
            rintro _ H4 ⟨y8, y9, rfl, s4, hsw⟩
            rw [hsw, Bool.true_and] at q
            have sC : Same H H4 := same_trans sA s4
            have h4c := sqt_same h4 sC
            have hsf := sfn_sf FB FM he wf hc hl hsw hgood
            have hw3 : ws.length ≤ 3 := by
              rw [hl]
              exact parts_le wf he
            refine ⟨_, rfl, _, rfl, _, rfl, _, rfl, _, rfl, _, rfl, p, rfl, ⟨_, h4c⟩, fun D nD => ?_⟩
            refine lcF sqi_tup (fun H5 s5 => sqt_same h4c s5) nD ws hxw tru1 (fun H z w => SpnAt K H z w.s) (fun H H' z w l r e1 e2 => r.but e1 e2) (fun i z w H5 hi hwi s5 Qs Qn q1 q2 => ?_) (Nat.lt_of_le_of_lt hw3 (by decide)) (fun H5 zs s5 e5 f5 => ?_)
            · obtain ⟨z2, e3, e4⟩ := h5.at hwi
              obtain rfl : z = z2 := Option.some.inj (hi.symm.trans e3)
              have hi2 : i < e.parts.length := by
                rw [← hl]
                exact (List.getElem?_eq_some_iff.mp hwi).1
              have hsh : shw (lfS ds ts bx mk) (kfS ds ts) e.parts[i] w = true := by
                cases hc2 : shw (lfS ds ts bx mk) (kfS ds ts) e.parts[i] w with
                | true => rfl
                | false =>
                  rw [shws_false (List.getElem?_eq_getElem hi2) hwi hc2] at hsw
                  cases hsw
              obtain ⟨s', ws', rfl, _⟩ := shw_inv hsh
              cases e4 with | @pp b q' u' _ xs' _ g1 g2 g3 g4 g5 =>
              have sD := same_trans sC s5
              exact ⟨rfl, yesT ⟨_, rfl, b, _, 0, u', rfl, rfl, sqt_same g1 sD, rfl, q1 rfl H5 _ same_refl (g2.same sD)⟩⟩
            · rw [filter_tru] at f5
              have sE := same_trans sC s5
              refine ⟨r, x, y, s, D, e, ds, ts, bx, mk, zs, _, ws.map W.s, k, rfl, he.same sE, hS.same sE, hB.same sE, hM.same sE, hsf, e5, f5.map, fun H6 z s6 hz => ?_⟩
              exact ⟨u, z, sp, _, k, rfl, h2.same (same_trans sE s6), hz, isSp_oks h3 hsp, hsf.oks, q _ (same_trans sE s6)⟩
          · have hsp := Bool.eq_false_iff.mpr hsp
            rw [hsp, Bool.false_and] at q
            exact iteB (by rw [hsp]; rfl) (q _ (same_trans s1 (same_trans s2 s3)))
        · rw [decide_eq_false hl, Bool.false_and] at q
          exact iteB (by show (!decide (V.int (xs.length : Int) = V.int (ps.length : Int))) = true; rw [decide_eq_false (fun z => hl (by have := V.int.inj z; omega))]; rfl) (q _ s1)
end
end K2

namespace K2
open PySem L2
/-! ### values in spans, and what words make of them -/
def inS (s : Spn) (v : V) : Prop := (v = .non → s.m = true) ∧ (v ≠ .non → has s = true ∧ ltV v s.a = false ∧ ltV s.b v = false)
theorem inS.non {s : Spn} (h : s.m = true) : inS s .non := ⟨fun _ => h, fun z => absurd rfl z⟩
theorem inS.val {s : Spn} {v : V} (n : v ≠ .non) (h : has s = true) (h1 : ltV v s.a = false) (h2 : ltV s.b v = false) : inS s v := ⟨fun z => absurd z n, fun _ => ⟨h, h1, h2⟩⟩
theorem inS.up {s : Spn} {v : V} (h : inS s v) (b : Bool) : inS ⟨s.a, s.b, s.m || b⟩ v := ⟨fun z => by show (s.m || b) = true; rw [h.1 z]; rfl, fun z => h.2 z⟩
theorem in_am : inS AM .non := .non rfl
theorem alw_in {k : Kd} {s : Spn} {v : V} (hs : OkS k s) (hv : OkV k v) (h : inS s v) : alw s v = true := by
  rcases hv with rfl | hv
  · exact h.1 rfl
  · obtain ⟨h1, h2, h3⟩ := h.2 (OkE.ne hv)
    rw [alw_eq hs hv, h1, h2, h3]
    rfl
theorem in_alw {k : Kd} {s : Spn} {v : V} (hs : OkS k s) (hv : OkV k v) (h : alw s v = true) : inS s v := by
  rcases hv with rfl | hv
  · exact .non h
  · rw [alw_eq hs hv] at h
    simp only [Bool.and_eq_true, Bool.not_eq_true'] at h
    exact .val (OkE.ne hv) h.1 h.2.1 h.2.2
theorem in_enc {k : Kd} {o i : Spn} {v : V} (ho : OkS k o) (hi : OkS k i) (hv : OkV k v) (e : (if i.m = true ∧ o.m = false then false else if has i = false then true else has o && (!ltV i.a o.a && !ltV o.b i.b)) = true) (h : inS i v) : inS o v := by
  by_cases c : i.m = true ∧ o.m = false
  · rw [if_pos c] at e; cases e
  rw [if_neg c] at e
  rcases hv with rfl | hv
  · refine .non ?_
    cases z : o.m with
    | true => rfl
    | false => exact absurd ⟨h.1 rfl, z⟩ c
  · obtain ⟨h1, h2, h3⟩ := h.2 (OkE.ne hv)
    rw [if_neg (by rw [h1]; decide)] at e
    simp only [Bool.and_eq_true, Bool.not_eq_true'] at e
    obtain ⟨e1, e2, e3⟩ := e
    obtain ⟨ia, ib, _⟩ := hi.ends_of h1
    obtain ⟨oa, ob', _⟩ := ho.ends_of e1
    exact .val (OkE.ne hv) e1 (leV_trans oa.1 ia.1 hv.1 e2 h2) (leV_trans hv.1 ib.1 ob'.1 h3 e3)
theorem mnV_all {k : Kd} : ∀ (xs : List V) (x : V), OfK k x → (∀ y ∈ xs, OfK k y) → ∀ y ∈ x :: xs, ltV y (mnV x xs) = false
  | [], x, hx, _, y, hy => by
    rw [List.mem_singleton.mp hy]
    exact ltV_irr hx
  | z :: r, x, hx, h, y, hy => by
    have hz := h z List.mem_cons_self
    have hr : ∀ u ∈ r, OfK k u := fun u hu => h u (List.mem_cons_of_mem _ hu)
    show ltV y (mnV (if ltV z x = true then z else x) r) = false
    have hm : OfK k (if ltV z x = true then z else x) := by split <;> assumption
    have ih := mnV_all r _ hm hr
    have key : ∀ u, OfK k u → ltV u (if ltV z x = true then z else x) = false → ltV u (mnV (if ltV z x = true then z else x) r) = false := fun u hu e =>
      leV_trans (mn_of r _ hm hr).1 hm hu (ih _ List.mem_cons_self) e
    rcases List.mem_cons.mp hy with rfl | hy
    · refine key _ hx ?_
      split
      · rename_i c; exact ltV_asym hz hx c
      · exact ltV_irr hx
    · rcases List.mem_cons.mp hy with rfl | hy
      · refine key _ hz ?_
        split
        · exact ltV_irr hz
        · rename_i c; exact Bool.eq_false_iff.mpr c
      · exact ih _ (List.mem_cons_of_mem _ hy)
theorem mxV_all {k : Kd} : ∀ (xs : List V) (x : V), OfK k x → (∀ y ∈ xs, OfK k y) → ∀ y ∈ x :: xs, ltV (mxV x xs) y = false
  | [], x, hx, _, y, hy => by
    rw [List.mem_singleton.mp hy]
    exact ltV_irr hx
  | z :: r, x, hx, h, y, hy => by
    have hz := h z List.mem_cons_self
    have hr : ∀ u ∈ r, OfK k u := fun u hu => h u (List.mem_cons_of_mem _ hu)
    show ltV (mxV (if ltV x z = true then z else x) r) y = false
    have hm : OfK k (if ltV x z = true then z else x) := by split <;> assumption
    have ih := mxV_all r _ hm hr
    have key : ∀ u, OfK k u → ltV (if ltV x z = true then z else x) u = false → ltV (mxV (if ltV x z = true then z else x) r) u = false := fun u hu e =>
      leV_trans hu hm (mx_of r _ hm hr).1 e (ih _ List.mem_cons_self)
    rcases List.mem_cons.mp hy with rfl | hy
    · refine key _ hx ?_
      split
      · rename_i c; exact ltV_asym hx hz c
      · exact ltV_irr hx
    · rcases List.mem_cons.mp hy with rfl | hy
      · refine key _ hz ?_
        split
        · exact ltV_irr hz
        · rename_i c; exact Bool.eq_false_iff.mpr c
      · exact ih _ (List.mem_cons_of_mem _ hy)
theorem hold_val {k : Kd} {ss : List Spn} {s : Spn} {v : V} (h : ∀ s ∈ ss, OkS k s) (hm : s ∈ ss) (hv : OkE k v) (hi : inS s v) : has (hold ss) = true ∧ ltV v (hold ss).a = false ∧ ltV (hold ss).b v = false := by
  obtain ⟨h1, h2, h3⟩ := hi.2 (OkE.ne hv)
  have hh := hold_ok h
  have hmf : s ∈ ss.filter has := List.mem_filter.mpr ⟨hm, h1⟩
  unfold hold
  generalize ss.filter has = fs at hh hmf
  cases fs with
  | nil => cases hmf
  | cons u r =>
    have ha : ∀ y ∈ u.a :: r.map (·.a), OkE k y := fun y hy => by
      have hy2 : y ∈ (u :: r).map (·.a) := hy
      obtain ⟨t, ht, rfl⟩ := List.mem_map.mp hy2
      exact (hh t ht).1
    have hb : ∀ y ∈ u.b :: r.map (·.b), OkE k y := fun y hy => by
      have hy2 : y ∈ (u :: r).map (·.b) := hy
      obtain ⟨t, ht, rfl⟩ := List.mem_map.mp hy2
      exact (hh t ht).2
    have ma := ha _ (mnV_mem (r.map (·.a)) u.a)
    have mb := hb _ (mxV_mem (r.map (·.b)) u.b)
    have ia : s.a ∈ u.a :: r.map (·.a) := by
      have : s.a ∈ (u :: r).map (·.a) := List.mem_map.mpr ⟨s, hmf, rfl⟩
      exact this
    have ib : s.b ∈ u.b :: r.map (·.b) := by
      have : s.b ∈ (u :: r).map (·.b) := List.mem_map.mpr ⟨s, hmf, rfl⟩
      exact this
    have l1 := mnV_all (r.map (·.a)) u.a (ha _ List.mem_cons_self).1 (fun y hy => (ha y (List.mem_cons_of_mem _ hy)).1) _ ia
    have l2 := mxV_all (r.map (·.b)) u.b (hb _ List.mem_cons_self).1 (fun y hy => (hb y (List.mem_cons_of_mem _ hy)).1) _ ib
    exact ⟨has_ends ma, leV_trans ma.1 (ha _ ia).1 hv.1 l1 h2, leV_trans hv.1 (hb _ ib).1 mb.1 h3 l2⟩
theorem hold_m {ss : List Spn} (h : ∃ s ∈ ss, s.m = true) : (hold ss).m = true := by
  unfold hold
  cases ss.filter has with
  | nil => rfl
  | cons u r =>
    obtain ⟨s, h1, h2⟩ := h
    exact List.any_eq_true.mpr ⟨s, h1, h2⟩
theorem hold_in {k : Kd} {ss : List Spn} {s : Spn} {v : V} (h : ∀ s ∈ ss, OkS k s) (hm : s ∈ ss) (hv : OkV k v) (hi : inS s v) : inS (hold ss) v := by
  rcases hv with rfl | hv
  · exact .non (hold_m ⟨s, hm, hi.1 rfl⟩)
  · obtain ⟨h1, h2, h3⟩ := hold_val h hm hv hi
    exact .val (OkE.ne hv) h1 h2 h3
theorem spv_in {k : Kd} {v : V} (hv : OkV k v) : inS (spv v) v := by
  rcases hv with rfl | hv
  · exact .non rfl
  · have n := OkE.ne hv
    unfold spv
    rw [if_neg n]
    exact .val n (has_ends hv) (ltV_irr hv.1) (ltV_irr hv.1)
theorem sor_in {os : List (Option Bool)} {o : Option Bool} (h : o ∈ os) : inS (sor os) (ob o) := by
  refine hold_in (k := .f) (s := spv (ob o)) (fun s hs => ?_) (List.mem_map.mpr ⟨o, h, rfl⟩) (ob_ok o) (spv_in (ob_ok o))
  obtain ⟨p, _, rfl⟩ := List.mem_map.mp hs
  exact spv_ok p
theorem tru_in {s : Spn} {o : Option Bool} (hs : OkS .f s) (h : inS s (ob o)) : o ∈ tru s := by
  refine List.mem_filter.mpr ⟨?_, alw_in hs (ob_ok o) h⟩
  match o with
  | none => exact List.mem_cons_of_mem _ (List.mem_cons_of_mem _ List.mem_cons_self)
  | some true => exact List.mem_cons_of_mem _ List.mem_cons_self
  | some false => exact List.mem_cons_self
theorem trS_in {t f b : Bool} (h1 : b = true → t = true) (h2 : b = false → f = true) : inS (trS t f) (.bl b) := by
  refine .val (fun z => nomatch z) rfl ?_ ?_
  · cases b with
    | true => cases f <;> rfl
    | false => rw [h2 rfl]; rfl
  · cases b with
    | true => rw [h1 rfl]; rfl
    | false => cases t <;> rfl
theorem wb_cap {a b n : Int} {m : Bool} (h1 : a ≤ n) (h2 : n ≤ b) : inS (wb ⟨.int a, .int b, m⟩) (capI (some n)) := by
  have e : EB = 10 ^ 30 - 1 := rfl
  have ep : (0 : Int) < 10 ^ 30 := by decide
  show inS (if mn2 b EB < mx2 a (-EB) then AM else ⟨.int (mx2 a (-EB)), .int (mn2 b EB), m || !decide (mx2 a (-EB) = a) || !decide (mn2 b EB = b)⟩) (if isVal .i (.int n) = true then .int n else .non)
  have a1 : mx2 a (-EB) = a ∨ mx2 a (-EB) = -EB := by unfold mx2; split <;> simp
  have a2 : a ≤ mx2 a (-EB) ∧ -EB ≤ mx2 a (-EB) := by unfold mx2; split <;> omega
  have b1 : mn2 b EB = b ∨ mn2 b EB = EB := by unfold mn2; split <;> simp
  have b2 : mn2 b EB ≤ b ∧ mn2 b EB ≤ EB := by unfold mn2; split <;> omega
  by_cases hn : isVal .i (.int n) = true
  · rw [if_pos hn]
    have hn := num_of hn
    have n1 := hn.1
    have n2 := hn.2
    rw [if_neg (by omega)]
    refine .val (fun z => nomatch z) rfl (decide_eq_false ?_) (decide_eq_false ?_)
    · omega
    · omega
  · rw [if_neg hn]
    split
    · exact in_am
    · refine .non ?_
      have hn2 : ¬ NumOk n := fun z => hn (of_num z)
      have hn3 : n ≤ -(10 ^ 30) ∨ 10 ^ 30 ≤ n := by
        by_cases c1 : -(10 ^ 30) < n
        · by_cases c2 : n < 10 ^ 30
          · exact absurd ⟨c1, c2⟩ hn2
          · exact .inr (by omega)
        · exact .inl (by omega)
      rcases hn3 with c | c
      · rw [decide_eq_false (show ¬ mx2 a (-EB) = a by omega), Bool.not_false, Bool.or_true, Bool.true_or]
      · rw [decide_eq_false (show ¬ mn2 b EB = b by omega), Bool.not_false, Bool.or_true]
theorem cap_num {n : Int} (h : NumOk n) : capI (some n) = .int n := if_pos (of_num h)
theorem wb_in {a b n : Int} {m : Bool} (h1 : a ≤ n) (h2 : n ≤ b) (h : NumOk n) : inS (wb ⟨.int a, .int b, m⟩) (.int n) := by
  rw [← cap_num h]
  exact wb_cap h1 h2
theorem ltI {a b : Int} (h : ltV (.int a) (.int b) = false) : b ≤ a := by
  have : ¬ a < b := of_decide_eq_false h
  omega
theorem anti {k : Kd} {x y : V} (hx : OfK k x) (hy : OfK k y) (h1 : ltV x y = false) (h2 : ltV y x = false) : x = y := by
  cases k with
  | i =>
    obtain ⟨n, rfl⟩ := hx
    obtain ⟨m, rfl⟩ := hy
    have := ltI h1
    have := ltI h2
    rw [show n = m by omega]
  | f => obtain ⟨n, rfl⟩ := hx; obtain ⟨m, rfl⟩ := hy; cases n <;> cases m <;> first | rfl | (cases h1; done) | (cases h2; done)
  | t =>
    obtain ⟨n, rfl, _⟩ := hx
    obtain ⟨m, rfl, _⟩ := hy
    have h1 : ¬ n.cps.toList < m.cps.toList := of_decide_eq_false h1
    have h2 : ¬ m.cps.toList < n.cps.toList := of_decide_eq_false h2
    have e := List.le_antisymm (List.not_lt.mp h2) (List.not_lt.mp h1)
    obtain ⟨n⟩ := n
    obtain ⟨m⟩ := m
    have e : n.toList = m.toList := e
    rw [Array.toList_inj.mp e]
/-! mnL, mxL of all -/
theorem mnL_all : ∀ (xs : List Int) (x y : Int), y ∈ x :: xs → mnL x xs ≤ y
  | [], x, y, h => by rw [List.mem_singleton.mp h]; exact Int.le_refl _
  | z :: r, x, y, h => by
    show mnL (if z < x then z else x) r ≤ y
    have h0 := mnL_all r (if z < x then z else x) _ List.mem_cons_self
    rcases List.mem_cons.mp h with rfl | h
    · split at h0 <;> split <;> omega
    · rcases List.mem_cons.mp h with rfl | h
      · split at h0 <;> split <;> omega
      · exact mnL_all r _ y (List.mem_cons_of_mem _ h)
theorem mxL_all : ∀ (xs : List Int) (x y : Int), y ∈ x :: xs → y ≤ mxL x xs
  | [], x, y, h => by rw [List.mem_singleton.mp h]; exact Int.le_refl _
  | z :: r, x, y, h => by
    show y ≤ mxL (if x < z then z else x) r
    have h0 := mxL_all r (if x < z then z else x) _ List.mem_cons_self
    rcases List.mem_cons.mp h with rfl | h
    · split at h0 <;> split <;> omega
    · rcases List.mem_cons.mp h with rfl | h
      · split at h0 <;> split <;> omega
      · exact mxL_all r _ y (List.mem_cons_of_mem _ h)
/-! products and quotients lie between those of the ends -/
theorem mul_le_or {n m c d : Int} (h1 : c ≤ m) (h2 : m ≤ d) : (n * c ≤ n * m ∨ n * d ≤ n * m) ∧ (n * m ≤ n * c ∨ n * m ≤ n * d) := by
  by_cases h : 0 ≤ n
  · exact ⟨.inl (Int.mul_le_mul_of_nonneg_left h1 h), .inr (Int.mul_le_mul_of_nonneg_left h2 h)⟩
  · have h : n ≤ 0 := by omega
    exact ⟨.inr (Int.mul_le_mul_of_nonpos_left h h2), .inl (Int.mul_le_mul_of_nonpos_left h h1)⟩
theorem mul_le_or2 {n m a b : Int} (h1 : a ≤ n) (h2 : n ≤ b) : (a * m ≤ n * m ∨ b * m ≤ n * m) ∧ (n * m ≤ a * m ∨ n * m ≤ b * m) := by
  have := mul_le_or (n := m) h1 h2
  rw [Int.mul_comm m a, Int.mul_comm m b, Int.mul_comm m n] at this
  exact this
theorem mul_in {n m a b c d : Int} (a1 : a ≤ n) (b1 : n ≤ b) (c1 : c ≤ m) (d1 : m ≤ d) : mnL (a * c) [a * d, b * c, b * d] ≤ n * m ∧ n * m ≤ mxL (a * c) [a * d, b * c, b * d] := by
  have l := fun y h => mnL_all [a * d, b * c, b * d] (a * c) y h
  have g := fun y h => mxL_all [a * d, b * c, b * d] (a * c) y h
  have l1 := l (a * c) (by simp)
  have l2 := l (a * d) (by simp)
  have l3 := l (b * c) (by simp)
  have l4 := l (b * d) (by simp)
  have g1 := g (a * c) (by simp)
  have g2 := g (a * d) (by simp)
  have g3 := g (b * c) (by simp)
  have g4 := g (b * d) (by simp)
  generalize mnL (a * c) [a * d, b * c, b * d] = L at *
  generalize mxL (a * c) [a * d, b * c, b * d] = G at *
  have x := mul_le_or2 (m := m) a1 b1
  have y1 := mul_le_or (n := a) c1 d1
  have y2 := mul_le_or (n := b) c1 d1
  constructor
  · rcases x.1 with x | x
    · rcases y1.1 with y | y <;> omega
    · rcases y2.1 with y | y <;> omega
  · rcases x.2 with x | x
    · rcases y1.2 with y | y <;> omega
    · rcases y2.2 with y | y <;> omega
theorem fdp {n m q : Int} (h : 0 < m) : q ≤ n.fdiv m ↔ q * m ≤ n := by
  rw [Int.fdiv_eq_ediv_of_nonneg n (by omega)]
  exact Int.le_ediv_iff_mul_le h
theorem fdn {n m : Int} (h : m < 0) : n.fdiv m = (-n).fdiv (-m) := (Int.neg_fdiv_neg n m).symm
/-- n // m for m > 0 grows with n -/
theorem fd_mono {n n' m : Int} (h : 0 < m) (hn : n ≤ n') : n.fdiv m ≤ n'.fdiv m := by
  rw [fdp h]
  have := (fdp (n := n) (q := n.fdiv m) h).mp (Int.le_refl _)
  omega
/-- n // m between two divisors > 0 -/
theorem fd_pos {n m c d : Int} (hc : 0 < c) (h1 : c ≤ m) (h2 : m ≤ d) : (n.fdiv c ≤ n.fdiv m ∨ n.fdiv d ≤ n.fdiv m) ∧ (n.fdiv m ≤ n.fdiv c ∨ n.fdiv m ≤ n.fdiv d) := by
  have key : ∀ p q : Int, 0 < p → p ≤ q → (0 ≤ n → n.fdiv q ≤ n.fdiv p) ∧ (n < 0 → n.fdiv p ≤ n.fdiv q) := fun p q hp hpq => by
    have hq : 0 < q := by omega
    constructor
    · intro hn
      rw [fdp hp]
      have h0 : 0 ≤ n.fdiv q := (fdp hq).mpr (by omega)
      have h1 := (fdp (n := n) (q := n.fdiv q) hq).mp (Int.le_refl _)
      have h2 := Int.mul_le_mul_of_nonneg_left hpq h0
      omega
    · intro hn
      rw [fdp hq]
      have h0 : n.fdiv p ≤ 0 := by
        have h9 : ¬ 1 ≤ n.fdiv p := fun z => by
          have := (fdp hp).mp z
          omega
        omega
      have h1 := (fdp (n := n) (q := n.fdiv p) hp).mp (Int.le_refl _)
      have h2 := Int.mul_le_mul_of_nonpos_left h0 hpq
      omega
  have hm : 0 < m := by omega
  by_cases hn : 0 ≤ n
  · exact ⟨.inr ((key m d hm h2).1 hn), .inl ((key c m hc h1).1 hn)⟩
  · exact ⟨.inl ((key c m hc h1).2 (by omega)), .inr ((key m d hm h2).2 (by omega))⟩
theorem div_pos {n m a b c d : Int} (a1 : a ≤ n) (b1 : n ≤ b) (hc : 0 < c) (c1 : c ≤ m) (d1 : m ≤ d) : (a.fdiv c ≤ n.fdiv m ∨ a.fdiv d ≤ n.fdiv m) ∧ (n.fdiv m ≤ b.fdiv c ∨ n.fdiv m ≤ b.fdiv d) := by
  have hm : 0 < m := by omega
  have h1 := fd_mono hm a1
  have h2 := fd_mono hm b1
  have h3 := (fd_pos (n := a) hc c1 d1).1
  have h4 := (fd_pos (n := b) hc c1 d1).2
  exact ⟨h3.imp (fun z => by omega) (fun z => by omega), h4.imp (fun z => by omega) (fun z => by omega)⟩
theorem div_neg {n m a b c d : Int} (a1 : a ≤ n) (b1 : n ≤ b) (hd : d < 0) (c1 : c ≤ m) (d1 : m ≤ d) : (b.fdiv d ≤ n.fdiv m ∨ b.fdiv c ≤ n.fdiv m) ∧ (n.fdiv m ≤ a.fdiv d ∨ n.fdiv m ≤ a.fdiv c) := by
  rw [fdn (n := b) hd, fdn (n := b) (m := c) (by omega), fdn (n := a) hd, fdn (n := a) (m := c) (by omega), fdn (n := n) (m := m) (by omega)]
  exact div_pos (by omega) (by omega) (by omega) (by omega) (by omega)
theorem quo_in {n m a b c d : Int} (a1 : a ≤ n) (b1 : n ≤ b) (c1 : c ≤ m) (d1 : m ≤ d) (hm : m ≠ 0) : (∃ q ∈ quo a b (ewz c d), q ≤ n.fdiv m) ∧ ∃ q ∈ quo a b (ewz c d), n.fdiv m ≤ q := by
  have inA : ∀ e ∈ ewz c d, a.fdiv e ∈ quo a b (ewz c d) := fun e he => List.mem_append.mpr (.inl (List.mem_map.mpr ⟨e, he, rfl⟩))
  have inB : ∀ e ∈ ewz c d, b.fdiv e ∈ quo a b (ewz c d) := fun e he => List.mem_append.mpr (.inr (List.mem_map.mpr ⟨e, he, rfl⟩))
  by_cases h : 0 < m
  · have hd : d > 0 := by omega
    have e1 : mx2 c 1 ∈ ewz c d := List.mem_append.mpr (.inr (by rw [if_pos hd]; exact List.mem_cons_self))
    have e2 : d ∈ ewz c d := List.mem_append.mpr (.inr (by rw [if_pos hd]; exact List.mem_cons_of_mem _ List.mem_cons_self))
    have hx : 0 < mx2 c 1 ∧ mx2 c 1 ≤ m := by unfold mx2; split <;> omega
    have g := div_pos a1 b1 hx.1 hx.2 d1
    exact ⟨g.1.elim (fun z => ⟨_, inA _ e1, z⟩) (fun z => ⟨_, inA _ e2, z⟩), g.2.elim (fun z => ⟨_, inB _ e1, z⟩) (fun z => ⟨_, inB _ e2, z⟩)⟩
  · have hc : c < 0 := by omega
    have e1 : c ∈ ewz c d := List.mem_append.mpr (.inl (by rw [if_pos hc]; exact List.mem_cons_self))
    have e2 : mn2 d (-1) ∈ ewz c d := List.mem_append.mpr (.inl (by rw [if_pos hc]; exact List.mem_cons_of_mem _ List.mem_cons_self))
    have hx : mn2 d (-1) < 0 ∧ m ≤ mn2 d (-1) := by unfold mn2; split <;> omega
    have g := div_neg a1 b1 hx.1 c1 hx.2
    exact ⟨g.1.elim (fun z => ⟨_, inB _ e2, z⟩) (fun z => ⟨_, inB _ e1, z⟩), g.2.elim (fun z => ⟨_, inA _ e2, z⟩) (fun z => ⟨_, inA _ e1, z⟩)⟩
theorem divS_in {n m a b c d : Int} (a1 : a ≤ n) (b1 : n ≤ b) (c1 : c ≤ m) (d1 : m ≤ d) : inS (wb (divS a b c d)) (capI (if m = 0 then none else some (n.fdiv m))) := by
  by_cases hm : m = 0
  · subst hm
    rw [if_pos rfl]
    have dd : (decide (c ≤ 0) && decide (0 ≤ d)) = true := by rw [decide_eq_true c1, decide_eq_true d1]; rfl
    show inS (wb (divS a b c d)) .non
    unfold divS
    rw [dd]
    cases quo a b (ewz c d) with
    | nil => exact in_am
    | cons x xs =>
      refine .non ?_
      show (if mn2 (mxL x xs) EB < mx2 (mnL x xs) (-EB) then AM else ⟨.int (mx2 (mnL x xs) (-EB)), .int (mn2 (mxL x xs) EB), true || !decide (mx2 (mnL x xs) (-EB) = mnL x xs) || !decide (mn2 (mxL x xs) EB = mxL x xs)⟩ : Spn).m = true
      split
      · rfl
      · rw [Bool.true_or, Bool.true_or]
  · rw [if_neg hm]
    obtain ⟨⟨q, h1, h2⟩, q', h3, h4⟩ := quo_in a1 b1 c1 d1 hm
    unfold divS
    cases hq : quo a b (ewz c d) with
    | nil => rw [hq] at h1; cases h1
    | cons x xs =>
      rw [hq] at h1 h3
      have l := mnL_all xs x q h1
      have g := mxL_all xs x q' h3
      exact wb_cap (by omega) (by omega)
theorem modS_in {n m c d : Int} (c1 : c ≤ m) (d1 : m ≤ d) : inS (wb (modS c d)) (capI (if m = 0 then none else some (n.fmod m))) := by
  by_cases hm : m = 0
  · subst hm
    rw [if_pos rfl]
    have dd : (decide (c ≤ 0) && decide (0 ≤ d)) = true := by rw [decide_eq_true c1, decide_eq_true d1]; rfl
    show inS (wb (modS c d)) .non
    unfold modS
    rw [dd]
    split
    · exact in_am
    · generalize (if c < 0 then c + 1 else 0) = x
      generalize (if d > 0 then d - 1 else 0) = y
      refine .non ?_
      show (if mn2 y EB < mx2 x (-EB) then AM else ⟨.int (mx2 x (-EB)), .int (mn2 y EB), true || !decide (mx2 x (-EB) = x) || !decide (mn2 y EB = y)⟩ : Spn).m = true
      split
      · rfl
      · rw [Bool.true_or, Bool.true_or]
  · rw [if_neg hm]
    unfold modS
    rw [if_neg (by omega)]
    by_cases h : 0 < m
    · have h1 := Int.fmod_nonneg_of_pos n h
      have h2 := Int.fmod_lt_of_pos n h
      exact wb_cap (by split <;> omega) (by split <;> omega)
    · have e : n.fmod m = -((-n).fmod (-m)) := by
        have := Int.neg_fmod_neg n m
        omega
      have h1 := Int.fmod_nonneg_of_pos (-n) (show 0 < -m by omega)
      have h2 := Int.fmod_lt_of_pos (-n) (show 0 < -m by omega)
      exact wb_cap (by split <;> omega) (by split <;> omega)
inductive InSs : List Spn → List V → Prop
  | nil : InSs [] []
  | cons {s : Spn} {v : V} {ss : List Spn} {vs : List V} : inS s v → InSs ss vs → InSs (s :: ss) (v :: vs)
theorem InSs.non : ∀ {ss : List Spn} {vs : List V}, InSs ss vs → V.non ∈ vs → ss.any (·.m) = true
  | _, _, .nil, h => nomatch h
  | _, _, .cons a t, h => by
    rw [List.any_cons]
    rcases List.mem_cons.mp h with rfl | h
    · rw [a.1 rfl]; rfl
    · rw [t.non h, Bool.or_true]
theorem InSs.has : ∀ {ss : List Spn} {vs : List V}, InSs ss vs → V.non ∉ vs → ss.all has = true
  | _, _, .nil, _ => rfl
  | _, _, .cons a t, h => by
    rw [List.all_cons, (a.2 fun z => h (by rw [z]; exact List.mem_cons_self)).1, t.has fun z => h (List.mem_cons_of_mem _ z)]
    rfl
theorem jS_in {w : Str} {ss : List Spn} {v : V} (ha : ss.all has = true) (h : inS (if w ∈ IW then wb (raw w ss) else raw w ss) v) : inS (jS w ss) v := by
  unfold jS
  rw [if_pos ha]
  exact h.up _
theorem inI {a b n : Int} {m : Bool} (h : inS ⟨.int a, .int b, m⟩ (.int n)) : a ≤ n ∧ n ≤ b := by
  obtain ⟨_, h1, h2⟩ := h.2 (fun z => nomatch z)
  exact ⟨ltI h1, ltI h2⟩
theorem okI {s : Spn} {n : Int} (h : OkS .i s) (hi : inS s (.int n)) : ∃ a b m, s = ⟨.int a, .int b, m⟩ ∧ a ≤ n ∧ n ≤ b := by
  obtain ⟨a, b, m, rfl, _⟩ := okI1 h (hi.2 (fun z => nomatch z)).1
  exact ⟨a, b, m, rfl, inI hi⟩
theorem okT {s : Spn} {z : Str} (h : OkS .t s) (hi : inS s (.str z)) : ∃ a b m, s = ⟨.str a, .str b, m⟩ ∧ OkE .t (.str a) ∧ OkE .t (.str b) ∧ ltV (.str z) (.str a) = false ∧ ltV (.str b) (.str z) = false ∧ Txt95 a ∧ a.length ≤ 200 := by
  obtain ⟨h0, h1, h2⟩ := hi.2 (fun z => nomatch z)
  obtain ⟨a, b, m, rfl, h3, h4, h5, h6⟩ := okT1 h h0
  exact ⟨a, b, m, rfl, txt_e h3 h4, txt_e h5 h6, h1, h2, h3, h4⟩
theorem pre_le {y z : Str} : ltV (.str (y ++ z)) (.str y) = false := by
  refine decide_eq_false ?_
  have e : (y ++ z).cps.toList = y.cps.toList ++ z.cps.toList := Array.toList_append
  rw [e]
  generalize y.cps.toList = l
  generalize z.cps.toList = r
  induction l with
  | nil => exact List.not_lt_nil _
  | cons a l ih =>
    rw [List.cons_append]
    intro h
    rcases List.cons_lt_cons_iff.mp h with h | ⟨_, h⟩
    · exact Nat.lt_irrefl _ h
    · exact ih h
theorem OfK.ne' {k : Kd} {v : V} (h : OfK k v) : v ≠ .non := by
  cases k with
  | i => obtain ⟨n, rfl⟩ := h; exact fun z => nomatch z
  | f => obtain ⟨n, rfl⟩ := h; exact fun z => nomatch z
  | t => obtain ⟨n, rfl, _⟩ := h; exact fun z => nomatch z
/-- what a word makes of values that lie in the spans of its parts lies in the span that the word makes of these -/
theorem jn_in {w : Str} {qs : List Kd} {k : Kd} {ss : List Spn} {xs : List V} {v : V} (hj : JT w qs k) (hs : OkSs qs ss) (hx : OkVs qs xs) (hi : InSs ss xs) (ha : Ap w xs v) : inS (jn w ss) v := by
  unfold jn
  cases ha with
  | loose h =>
    rw [if_pos h.lw]
    cases h with
    | mis x =>
      cases hi with | @cons s _ _ _ h1 g => cases g with | nil =>
      show inS (trS s.m (has s)) _
      refine trS_in (fun e => h1.1 (of_decide_eq_true e)) (fun e => (h1.2 (of_decide_eq_false e)).1)
    | and2 a b =>
      cases hi with | @cons s _ _ _ h1 g => cases g with | @cons t _ _ _ h2 g => cases g with | nil =>
      rw [jL_2, if_pos rfl]
      have hk : OkS .f s ∧ OkS .f t := by
        rcases hj with ⟨e, _⟩ | ⟨e, _⟩ | ⟨e, _⟩ | ⟨e, _⟩ | ⟨e, _⟩ | ⟨e, _⟩ | ⟨e, _⟩ | ⟨e, _⟩ | ⟨_, rfl, _⟩ | ⟨e, _⟩ | ⟨e, _⟩ | ⟨e, _⟩
        case inr.inr.inr.inr.inr.inr.inr.inr.inl => cases hs with | cons a1 g => cases g with | cons a2 _ => exact ⟨a1, a2⟩
        all_goals exact absurd e (by decide +kernel)
      exact sor_in (List.mem_flatMap.mpr ⟨a, tru_in hk.1 h1, List.mem_map.mpr ⟨b, tru_in hk.2 h2, rfl⟩⟩)
    | or2 a b =>
      cases hi with | @cons s _ _ _ h1 g => cases g with | @cons t _ _ _ h2 g => cases g with | nil =>
      rw [jL_2, if_neg (by decide +kernel), if_pos rfl]
      have hk : OkS .f s ∧ OkS .f t := by
        rcases hj with ⟨e, _⟩ | ⟨e, _⟩ | ⟨e, _⟩ | ⟨e, _⟩ | ⟨e, _⟩ | ⟨e, _⟩ | ⟨e, _⟩ | ⟨e, _⟩ | ⟨e, _⟩ | ⟨_, rfl, _⟩ | ⟨e, _⟩ | ⟨e, _⟩
        case inr.inr.inr.inr.inr.inr.inr.inr.inr.inl => cases hs with | cons a1 g => cases g with | cons a2 _ => exact ⟨a1, a2⟩
        all_goals exact absurd e (by decide +kernel)
      exact sor_in (List.mem_flatMap.mpr ⟨a, tru_in hk.1 h1, List.mem_map.mpr ⟨b, tru_in hk.2 h2, rfl⟩⟩)
    | iff c a b =>
      cases hi with | @cons sc _ _ _ h1 g => cases g with | @cons s _ _ _ h2 g => cases g with | @cons t _ _ _ h3 g => cases g with | nil =>
      have hk : qs = [.f, k, k] := by
        rcases hj with ⟨e, _⟩ | ⟨e, _⟩ | ⟨e, _⟩ | ⟨e, _⟩ | ⟨e, _⟩ | ⟨e, _⟩ | ⟨e, _⟩ | ⟨e, _⟩ | ⟨e, _⟩ | ⟨e, _⟩ | ⟨_, e⟩ | ⟨e, _⟩
        case inr.inr.inr.inr.inr.inr.inr.inr.inr.inr.inl => exact e
        all_goals exact absurd e (by decide +kernel)
      subst hk
      cases hs with | cons o1 g => cases g with | cons o2 g => cases g with | cons o3 g => cases g with | nil =>
      cases hx with | cons x1 g => cases g with | cons x2 g => cases g with | cons x3 g => cases g with | nil =>
      have hall : ∀ u ∈ (if alw sc (.bl true) then [s] else []) ++ (if alw sc (.bl false) then [t] else []) ++ (if sc.m then [AM] else []), OkS k u := fun u hu => by
        rcases List.mem_append.mp hu with hu | hu
        · rcases List.mem_append.mp hu with hu | hu
          · split at hu
            · rw [List.mem_singleton.mp hu]; exact o2
            · cases hu
          · split at hu
            · rw [List.mem_singleton.mp hu]; exact o3
            · cases hu
        · split at hu
          · rw [List.mem_singleton.mp hu]; exact .am
          · cases hu
      show inS (hold ((if alw sc (.bl true) then [s] else []) ++ (if alw sc (.bl false) then [t] else []) ++ if sc.m then [AM] else [])) (chs c a b)
      match c, h1 with
      | some true, h1 =>
        have e := alw_in o1 (ob_ok (some true)) h1
        exact hold_in hall (List.mem_append.mpr (.inl (List.mem_append.mpr (.inl (by rw [if_pos (show alw sc (.bl true) = true from e)]; exact List.mem_singleton.mpr rfl))))) x2 h2
      | some false, h1 =>
        have e := alw_in o1 (ob_ok (some false)) h1
        exact hold_in hall (List.mem_append.mpr (.inl (List.mem_append.mpr (.inr (by rw [if_pos (show alw sc (.bl false) = true from e)]; exact List.mem_singleton.mpr rfl))))) x3 h3
      | none, h1 =>
        exact hold_in hall (List.mem_append.mpr (.inr (by rw [if_pos (h1.1 rfl)]; exact List.mem_singleton.mpr rfl))) (.inl rfl) in_am
    | els a b =>
      cases hi with | @cons s _ _ _ h1 g => cases g with | @cons t _ _ _ h2 g => cases g with | nil =>
      rw [jL_2, if_neg (by decide +kernel), if_neg (by decide +kernel)]
      have hk : qs = [k, k] := by
        rcases hj with ⟨e, _⟩ | ⟨e, _⟩ | ⟨e, _⟩ | ⟨e, _⟩ | ⟨e, _⟩ | ⟨e, _⟩ | ⟨e, _⟩ | ⟨e, _⟩ | ⟨e, _⟩ | ⟨e, _⟩ | ⟨e, _⟩ | ⟨_, e⟩
        case inr.inr.inr.inr.inr.inr.inr.inr.inr.inr.inr => exact e
        all_goals exact absurd e (by decide +kernel)
      subst hk
      cases hs with | cons o1 g => cases g with | cons o2 g => cases g with | nil =>
      cases hx with | cons x1 g => cases g with | cons x2 g => cases g with | nil =>
      have hall : ∀ u ∈ [s, t], OkS k u := List.forall_mem_cons.mpr ⟨o1, List.forall_mem_cons.mpr ⟨o2, fun _ h => absurd h List.not_mem_nil⟩⟩
      by_cases sm : s.m = true
      · rw [if_pos sm]
        by_cases ea : a = .non
        · rw [if_pos ea]
          rcases x2 with rfl | x2
          · exact .non (h2.1 rfl)
          · obtain ⟨g1, g2, g3⟩ := hold_val hall (List.mem_cons_of_mem _ List.mem_cons_self) x2 h2
            exact .val (OkE.ne x2) g1 g2 g3
        · rw [if_neg ea]
          have x1 := x1.resolve_left ea
          obtain ⟨g1, g2, g3⟩ := hold_val hall List.mem_cons_self x1 h1
          exact .val ea g1 g2 g3
      · rw [if_neg sm]
        have ea : a ≠ .non := fun z => sm (h1.1 z)
        rw [if_neg ea]
        exact h1
  | gone nl hn =>
    rw [if_neg nl]
    unfold jS
    by_cases e : ss.all has = true
    · rw [if_pos e]
      refine .non ?_
      show (_ || ss.any (·.m)) = true
      rw [hi.non hn, Bool.or_true]
    · rw [if_neg e]
      exact in_am
  | strict hn h =>
    rw [if_neg h.lw]
    have hall := hi.has hn
    have hc := cw_inv hj h.lw hs hall
    refine jS_in hall ?_
    cases h with
    | not b =>
      rw [if_neg (by decide +kernel)]
      cases hi with | @cons s _ _ _ h1 g => cases g with | nil =>
      rcases hc with ⟨_, _, s2, e, o1, e1⟩ | ⟨e, _⟩ | ⟨e, _⟩ | ⟨e, _⟩ | ⟨e, _⟩ | ⟨e, _⟩ | ⟨e, _⟩
      case inl =>
        cases e
        obtain ⟨x, y, m, rfl⟩ := okF1 o1 e1
        obtain ⟨_, h2, h3⟩ := h1.2 (fun z => nomatch z)
        refine .val (fun z => nomatch z) rfl ?_ ?_
        · show ltV (.bl (!b)) (.bl (!y)) = false
          cases b <;> cases y <;> first | rfl | (cases h3; done)
        · show ltV (.bl (!x)) (.bl (!b)) = false
          cases b <;> cases x <;> first | rfl | (cases h2; done)
      all_goals exact absurd e (by decide +kernel)
    | neg n =>
      rw [if_pos (by decide +kernel)]
      cases hi with | @cons s _ _ _ h1 g => cases g with | nil =>
      cases hx with | cons x1 g => cases g with | nil =>
      rcases hc with ⟨e, _⟩ | ⟨_, _, s2, e, o1, e1⟩ | ⟨e, _⟩ | ⟨e, _⟩ | ⟨e, _⟩ | ⟨e, _⟩ | ⟨e, _⟩
      case inr.inl =>
        cases e
        obtain ⟨x, y, m, rfl, g1, g2⟩ := okI o1 h1
        have hk : OkV .i (.int n) := by
          rcases hj with ⟨e, _⟩ | ⟨_, e, _⟩ | ⟨e, _⟩ | ⟨e, _⟩ | ⟨e, _⟩ | ⟨e, _⟩ | ⟨e, _⟩ | ⟨e, _⟩ | ⟨e, _⟩ | ⟨e, _⟩ | ⟨e, _⟩ | ⟨e, _⟩
          case inr.inl => cases e; exact x1
          all_goals exact absurd e (by decide +kernel)
        have hn := num_of (hk.resolve_left (fun z => nomatch z)).2
        rw [raw_i, if_pos rfl]
        exact wb_in (by omega) (by omega) ⟨by have := hn.2; omega, by have := hn.1; omega⟩
      all_goals exact absurd e (by decide +kernel)
    | abs n =>
      rw [if_pos (by decide +kernel)]
      cases hi with | @cons s _ _ _ h1 g => cases g with | nil =>
      cases hx with | cons x1 g => cases g with | nil =>
      rcases hc with ⟨e, _⟩ | ⟨e, _⟩ | ⟨_, _, s2, e, o1, e1⟩ | ⟨e, _⟩ | ⟨e, _⟩ | ⟨e, _⟩ | ⟨e, _⟩
      case inr.inr.inl =>
        cases e
        obtain ⟨x, y, m, rfl, g1, g2⟩ := okI o1 h1
        have hk : OkV .i (.int n) := by
          rcases hj with ⟨e, _⟩ | ⟨e, _⟩ | ⟨_, e, _⟩ | ⟨e, _⟩ | ⟨e, _⟩ | ⟨e, _⟩ | ⟨e, _⟩ | ⟨e, _⟩ | ⟨e, _⟩ | ⟨e, _⟩ | ⟨e, _⟩ | ⟨e, _⟩
          case inr.inr.inl => cases e; exact x1
          all_goals exact absurd e (by decide +kernel)
        have hn := num_of (hk.resolve_left (fun z => nomatch z)).2
        have hn1 := hn.1
        have hn2 := hn.2
        have hN : NumOk (if n < 0 then -n else n) := by split <;> exact ⟨by omega, by omega⟩
        rw [raw_i, if_neg (by decide +kernel)]
        split
        · exact wb_in (by split <;> omega) (by split <;> omega) hN
        · split
          · exact wb_in (by split <;> omega) (by split <;> omega) hN
          · have hmx : -x ≤ mx2 (-x) y ∧ y ≤ mx2 (-x) y := by unfold mx2; split <;> omega
            exact wb_in (by split <;> omega) (by split <;> omega) hN
      all_goals exact absurd e (by decide +kernel)
    | len z hz =>
      rw [if_pos (by decide +kernel)]
      cases hi with | @cons s _ _ _ h1 g => cases g with | nil =>
      cases hx with | cons x1 g => cases g with | nil =>
      rcases hc with ⟨e, _⟩ | ⟨e, _⟩ | ⟨e, _⟩ | ⟨_, _, s2, e, o1, e1⟩ | ⟨e, _⟩ | ⟨e, _⟩ | ⟨e, _⟩
      case inr.inr.inr.inl =>
        cases e
        obtain ⟨x, y, m, rfl, ox, oy, g1, g2, _⟩ := okT o1 h1
        have hk : OkV .t (.str z) := by
          rcases hj with ⟨e, _⟩ | ⟨e, _⟩ | ⟨e, _⟩ | ⟨_, e, _⟩ | ⟨e, _⟩ | ⟨e, _⟩ | ⟨e, _⟩ | ⟨e, _⟩ | ⟨e, _⟩ | ⟨e, _⟩ | ⟨e, _⟩ | ⟨e, _⟩
          case inr.inr.inr.inl => cases e; exact x1
          all_goals exact absurd e (by decide +kernel)
        have hoz := hk.resolve_left (fun z => nomatch z)
        have hN : NumOk (z.length : Int) := ⟨by have : (0 : Int) < 10 ^ 30 := by decide
                                                omega, by have : (200 : Int) < 10 ^ 30 := by decide
                                                          omega⟩
        show inS (wb (if x = y then ⟨.int (x.length : Int), .int (x.length : Int), false⟩ else ⟨.int 0, .int 200, false⟩)) _
        split
        · rename_i exy
          subst exy
          have ez := anti hoz.1 ox.1 g1 g2
          injection ez with ez
          subst ez
          exact wb_in (Int.le_refl _) (Int.le_refl _) hN
        · exact wb_in (by omega) (by omega) hN
      all_goals exact absurd e (by decide +kernel)
    | joined y z hy hz =>
      rw [if_neg (by decide +kernel)]
      cases hi with | @cons s _ _ _ h1 g => cases g with | @cons t _ _ _ h2 g => cases g with | nil =>
      cases hx with | cons x1 g => cases g with | cons x2 g => cases g with | nil =>
      rcases hc with ⟨e, _⟩ | ⟨e, _⟩ | ⟨e, _⟩ | ⟨e, _⟩ | ⟨_, _, s2, t2, e, o1, o2, e1, e2⟩ | ⟨e, _⟩ | ⟨e, _⟩
      case inr.inr.inr.inr.inl =>
        cases e
        obtain ⟨a, b, m, rfl, oa, ob', g1, g2, ta, la⟩ := okT o1 h1
        obtain ⟨c, d, m2, rfl, oc, od, g3, g4, tc, lc⟩ := okT o2 h2
        have hk : OkV .t (.str y) ∧ OkV .t (.str z) := by
          rcases hj with ⟨e, _⟩ | ⟨e, _⟩ | ⟨e, _⟩ | ⟨e, _⟩ | ⟨_, e, _⟩ | ⟨e, _⟩ | ⟨e, _⟩ | ⟨e, _⟩ | ⟨e, _⟩ | ⟨e, _⟩ | ⟨e, _⟩ | ⟨e, _⟩
          case inr.inr.inr.inr.inl => cases e; exact ⟨x1, x2⟩
          all_goals exact absurd e (by decide +kernel)
        have hoy := hk.1.resolve_left (fun z => nomatch z)
        have hoz := hk.2.resolve_left (fun z => nomatch z)
        obtain ⟨⟨y', ey, ty, _⟩, _⟩ := id hoy
        injection ey with ey
        subst ey
        obtain ⟨⟨z', ez, tz, _⟩, _⟩ := id hoz
        injection ez with ez
        subst ez
        have el : (y ++ z).length = y.length + z.length := Array.size_append
        rw [raw_joined]
        unfold joinS
        by_cases c1 : ¬ a = b ∨ ¬ c = d
        · rw [if_pos c1]
          split
          · rename_i hl
            refine .val (fun z => nomatch z) rfl ?_ (tl_ge (cat_ok ty tz) (by omega))
            have o := txt_e (cat_ok ty tz) (show (y ++ z).length ≤ 200 by omega)
            exact leV_trans oa.1 hoy.1 o.1 g1 pre_le
          · exact .non rfl
        · rw [if_neg c1]
          have c2 : a = b := by by_cases z : a = b; exact z; exact absurd (.inl z) c1
          have c3 : c = d := by by_cases z : c = d; exact z; exact absurd (.inr z) c1
          subst c2 c3
          have e3 := anti hoy.1 oa.1 g1 g2
          injection e3 with e3
          have e4 := anti hoz.1 oc.1 g3 g4
          injection e4 with e4
          subst e3 e4
          by_cases hl : (y ++ z).length > 200
          · rw [if_pos hl, if_neg (by omega)]
            exact in_am
          · rw [if_neg hl, if_pos (by omega)]
            have o := txt_e (cat_ok ty tz) (show (y ++ z).length ≤ 200 by omega)
            exact .val (fun z => nomatch z) rfl (ltV_irr o.1) (ltV_irr o.1)
      case inr.inr.inr.inr.inr.inl => exact absurd e (by decide +kernel)
      all_goals exact absurd e (by decide +kernel)
    | cmp _ q a b hw ha hb =>
      rw [if_neg ((by decide +kernel : ∀ w ∈ CMP, w ∉ IW) w hw)]
      cases hi with | @cons s _ _ _ h1 g => cases g with | @cons t _ _ _ h2 g => cases g with | nil =>
      rcases hc with ⟨e, _⟩ | ⟨e, _⟩ | ⟨e, _⟩ | ⟨e, _⟩ | ⟨e, _⟩ | ⟨_, _, s2, t2, q2, e, o1, o2, e1, e2⟩ | ⟨e, _⟩
      case inr.inr.inr.inr.inr.inl =>
        cases e
        have na := ha.ne'
        have nb := hb.ne'
        obtain ⟨_, i1, i2⟩ := h1.2 na
        obtain ⟨_, i3, i4⟩ := h2.2 nb
        obtain ⟨sa, sb, _⟩ := o1.ends_of e1
        obtain ⟨ta, tb, _⟩ := o2.ends_of e2
        -- all of one kind
        have hq : OkVs qs [a, b] := hx
        have hk2 : ∃ p, OfK p a ∧ OfK p b ∧ OfK p s.a ∧ OfK p s.b ∧ OfK p t.a ∧ OfK p t.b := by
          rcases hj with ⟨rfl, _⟩ | ⟨rfl, _⟩ | ⟨rfl, _⟩ | ⟨rfl, _⟩ | ⟨rfl, _⟩ | ⟨_, _, p, _, rfl⟩ | ⟨hw2, _⟩ | ⟨rfl, _⟩ | ⟨rfl, _⟩ | ⟨rfl, _⟩ | ⟨rfl, _⟩ | ⟨rfl, _⟩
          case inr.inr.inr.inr.inr.inl =>
            cases hs with | cons p1 g => cases g with | cons p2 g => cases g with | nil =>
            cases hq with | cons y1 g => cases g with | cons y2 g => cases g with | nil =>
            obtain ⟨r1, r2, _⟩ := p1.ends_of e1
            obtain ⟨r3, r4, _⟩ := p2.ends_of e2
            exact ⟨p, (y1.resolve_left na).1, (y2.resolve_left nb).1, r1.1, r2.1, r3.1, r4.1⟩
          case inr.inr.inr.inr.inr.inr.inl => exact absurd hw (a5_cmp w hw2)
          all_goals exact absurd hw (by decide +kernel)
        obtain ⟨p, pa, pb, psa, psb, pta, ptb⟩ := hk2
        rw [raw_cmp hw]
        have hcc : ∀ w ∈ CMP, w = "eq" ∨ w = "ne" ∨ w = "lt" ∨ w = "le" ∨ w = "gt" ∨ w = "ge" := by decide +kernel
        have sh : a = b → share s t = true := fun e => by
          subst e
          unfold share
          rw [leV_trans psa pa ptb i1 i4, leV_trans pta pa psb i3 i2]
          rfl
        have ae : a ≠ b → (!allEq s t) = true := fun e => by
          cases q3 : allEq s t with
          | false => rfl
          | true =>
            unfold allEq at q3
            simp only [Bool.and_eq_true, decide_eq_true_eq] at q3
            obtain ⟨q4, q5, q6⟩ := q3
            have x1 := anti pa psa i1 (by rw [q4]; exact i2)
            have x2 := anti pb pta i3 (by rw [q5]; exact i4)
            exact absurd (by rw [x1, x2, q6]) e
        have la : less q a b = ltV a b := ltV_k ha hb
        have lb : less q b a = ltV b a := ltV_k hb ha
        -- a < b and the ends
        have up : ltV a b = true → ltV s.a t.b = true := fun e => by
          cases z : ltV s.a t.b with
          | true => rfl
          | false =>
            have := leV_trans pb ptb pa (by exact i4) (leV_trans ptb psa pa z i1)
            rw [this] at e; cases e
        have dn : ltV b a = true → ltV t.a s.b = true := fun e => by
          cases z : ltV t.a s.b with
          | true => rfl
          | false =>
            have := leV_trans pa psb pb i2 (leV_trans psb pta pb z i3)
            rw [this] at e; cases e
        have up2 : ltV b a = false → ltV t.b s.a = false := fun e => leV_trans psa pa ptb i1 (leV_trans pa pb ptb e i4)
        have dn2 : ltV a b = false → ltV s.b t.a = false := fun e => leV_trans pta pb psb i3 (leV_trans pb pa psb e i2)
        rcases hcc w hw with rfl | rfl | rfl | rfl | rfl | rfl
        · rw [cs_eq, cv1]
          exact trS_in (fun e => sh (of_decide_eq_true e)) (fun e => ae (of_decide_eq_false e))
        · rw [cs_ne, cv2]
          exact trS_in (fun e => ae (of_decide_eq_false (by simpa using e))) (fun e => sh (by simpa using e))
        · rw [cs_lt, cv3, la]
          exact trS_in up (fun e => by rw [dn2 e]; rfl)
        · rw [cs_le, cv4, lb]
          exact trS_in (fun e => by rw [up2 (by simpa using e)]; rfl) (fun e => dn (by simpa using e))
        · rw [cs_gt, cv5, lb]
          exact trS_in dn (fun e => by rw [up2 e]; rfl)
        · rw [cs_ge, cv6, la]
          exact trS_in (fun e => by rw [dn2 (by simpa using e)]; rfl) (fun e => up (by simpa using e))
      case inr.inr.inr.inr.inr.inr => exact absurd hw (a5_cmp w e)
      all_goals (subst e; exact absurd hw (by decide +kernel))
    | ar _ n m hw hn hm =>
      rw [if_pos ((by decide +kernel : ∀ w ∈ A5, w ∈ IW) w hw)]
      cases hi with | @cons s _ _ _ h1 g => cases g with | @cons t _ _ _ h2 g => cases g with | nil =>
      rcases hc with ⟨e, _⟩ | ⟨e, _⟩ | ⟨e, _⟩ | ⟨e, _⟩ | ⟨e, _⟩ | ⟨e, _⟩ | ⟨_, _, s2, t2, e, o1, o2, e1, e2⟩
      case inr.inr.inr.inr.inr.inr =>
        cases e
        obtain ⟨a, b, m1, rfl, g1, g2⟩ := okI o1 h1
        obtain ⟨c, d, m2, rfl, g3, g4⟩ := okI o2 h2
        rcases (by simpa [A5] using hw : w = "add" ∨ w = "sub" ∨ w = "mul" ∨ w = "div" ∨ w = "mod") with rfl | rfl | rfl | rfl | rfl
        · rw [raw_add, av1]; exact wb_cap (by omega) (by omega)
        · rw [raw_sub, av2]; exact wb_cap (by omega) (by omega)
        · rw [raw_mul, av3]
          have := mul_in g1 g2 g3 g4
          exact wb_cap this.1 this.2
        · rw [raw_div, av4]; exact divS_in g1 g2 g3 g4
        · rw [raw_mod, av5]; exact modS_in g3 g4
      case inr.inr.inr.inr.inr.inl => exact absurd e (a5_cmp w hw)
      all_goals (subst e; exact absurd hw (by decide +kernel))
end K2

namespace K2
open PySem L2
/-! ### a paper that shows its spans: the value of each part, in each cell, lies in its span -/
mutual
def dGood : W → Prop
  | .pp s ws => WS s ∧ dGoods ws
  | .bad => True
def dGoods : List W → Prop
  | [] => True
  | w :: ws => dGood w ∧ dGoods ws
end
theorem dGoods.mem : ∀ {ws : List W}, dGoods ws → ∀ w ∈ ws, dGood w
  | [], _, _, h => absurd h List.not_mem_nil
  | x :: r, h, w, hw => by
    rw [dGoods] at h
    rcases List.mem_cons.mp hw with rfl | hw
    · exact h.1
    · exact dGoods.mem h.2 w hw
theorem dGood.good {w : W} (h : dGood w) : Good w := by
  cases w with
  | pp s ws => rw [dGood] at h; exact h.1
  | bad => trivial
mutual
theorem WAt.dgood {K : PySem.W.Frag} {H : Hp} : ∀ {x : V} {w : W}, WAt K H x w → dGood w
  | _, _, .pp _ _ h _ g => by rw [dGood]; exact ⟨h, WAll.dgood g⟩
  | _, _, .non => by rw [dGood]; trivial
  | _, _, .tup _ _ => by rw [dGood]; trivial
  | _, _, .pl _ _ _ => by rw [dGood]; trivial
  | _, _, .lst _ => by rw [dGood]; trivial
theorem WAll.dgood {K : PySem.W.Frag} {H : Hp} : ∀ {xs : List V} {ws : List W}, WAll K H xs ws → dGoods ws
  | _, _, .nil => by rw [dGoods]; trivial
  | _, _, .cons a t => by rw [dGoods]; exact ⟨WAt.dgood a, WAll.dgood t⟩
end
/-- a cell lies in the box and keeps to the marks -/
structure InC (bx : List (Int × Int)) (mk : List Mk) (pl : List Int) (vs : List V) : Prop where
  bB : ∀ (i : Nat) (c : Int) (b : Int × Int), pl[i]? = some c → bx[i]? = some b → b.1 ≤ c ∧ c ≤ b.2
  mB : ∀ (i : Nat) (v : V) (c : Mk), vs[i]? = some v → mk[i]? = some c → inS c.s v
theorem leaf_in {ds : List D} {ts : List T} {bx : List (Int × Int)} {mk : List Mk} {pl : List Int} {vs : List V} (C : InC bx mk pl vs) {e : Ex} {s : Spn} {v : V} {k : Kd} (hP : Pr ds ts bx mk e (.mk s []) k) (hp : e.parts = []) (nw : ∀ w ps, e ≠ .op w ps) (hv : Ev ds ts pl vs e v) : inS s v := by
  cases hv with
  | val =>
    cases hP with
    | val _ h => exact spv_in h
  | @attr n i v hi hv =>
    cases hP with
    | @attr _ j c _ hj hc _ =>
      have e : some i = some j := idx_one hi hj
      cases e
      exact C.mB i v c hv hc
  | @dim n i c hi hc =>
    cases hP with
    | @dim _ j b hj hb _ =>
      have e : some i = some j := idx_one hi hj
      cases e
      have := C.bB i c b hc hb
      exact .val (fun z => nomatch z) rfl (decide_eq_false (by omega)) (decide_eq_false (by omega))
  | op _ _ _ => exact absurd rfl (nw _ _)
mutual
theorem shw_in {ds : List D} {ts : List T} {bx : List (Int × Int)} {mk : List Mk} {pl : List Int} {vs : List V} (FB : BxFit ds bx) (FM : MkFit ts mk) (F : Fits ds ts pl vs) (C : InC bx mk pl vs) : ∀ (e : Ex) {m : Nat} {k : Kd}, WF e → ck ds ts e m = .ok k →
    ∃ v, Ev ds ts pl vs e v ∧ OkV k v ∧ ∀ w, dGood w → shw (lfS ds ts bx mk) (kfS ds ts) e w = true → inS w.s v
  | .val a b, m, k, wf, h => by
    obtain ⟨v, hv, ho⟩ := ev_of F (.val a b) wf h
    refine ⟨v, hv, ho, fun w hg hs => ?_⟩
    obtain ⟨s, ws, rfl, hl, hi, _, he⟩ := shw_inv hs
    have hP := lfS_ok FB FM wf rfl h
    rw [kfS_ok h] at hi
    rw [dGood] at hg
    exact in_enc (isSp_oks hg.1 hi) (show OkS k (lfS ds ts bx mk (.val a b)) from hP.oks) ho he (leaf_in C hP rfl (fun _ _ z => nomatch z) hv)
  | .attr a, m, k, wf, h => by
    obtain ⟨v, hv, ho⟩ := ev_of F (.attr a) wf h
    refine ⟨v, hv, ho, fun w hg hs => ?_⟩
    obtain ⟨s, ws, rfl, hl, hi, _, he⟩ := shw_inv hs
    have hP := lfS_ok FB FM wf rfl h
    rw [kfS_ok h] at hi
    rw [dGood] at hg
    exact in_enc (isSp_oks hg.1 hi) (show OkS k (lfS ds ts bx mk (.attr a)) from hP.oks) ho he (leaf_in C hP rfl (fun _ _ z => nomatch z) hv)
  | .dim a, m, k, wf, h => by
    obtain ⟨v, hv, ho⟩ := ev_of F (.dim a) wf h
    refine ⟨v, hv, ho, fun w hg hs => ?_⟩
    obtain ⟨s, ws, rfl, hl, hi, _, he⟩ := shw_inv hs
    have hP := lfS_ok FB FM wf rfl h
    rw [kfS_ok h] at hi
    rw [dGood] at hg
    exact in_enc (isSp_oks hg.1 hi) (show OkS k (lfS ds ts bx mk (.dim a)) from hP.oks) ho he (leaf_in C hP rfl (fun _ _ z => nomatch z) hv)
  | .op wd ps, m, k, wf, h => by
    obtain ⟨qs, h1, hj⟩ := ck_op2 wf h
    have ek := kfS_ok h
    have wf0 := wf
    rw [WF] at wf
    obtain ⟨xs, hx, ho, hin⟩ := shws_in FB FM F C ps wf.2 h1
    have har : ar wd = some qs.length := by rw [wf.1, cks_len h1]
    have hjt : joint wd qs = some k := by
      rw [ck, h1] at h
      cases h2 : joint wd qs with
      | none => simp only [h2] at h; cases h
      | some k2 => simp only [h2] at h; injection h with h; rw [h]
    obtain ⟨v, ha, hv⟩ := ap_of har hjt ho
    refine ⟨v, .op hx ho.flat ha, hv, fun w hg hs => ?_⟩
    obtain ⟨s, ws, rfl, hl, hi, hss, he⟩ := shw_inv hs
    rw [ek] at hi
    rw [dGood] at hg
    have hgo : ∀ w ∈ ws, Good w := fun w hw => (hg.2.mem w hw).good
    have hl : ws.length = ps.length := hl
    have hos := oks_all h1 hss hl hgo
    have hins := hin ws hl (hg.2.mem) hss
    exact in_enc (isSp_oks hg.1 hi) (jn_oks hj hos) hv he (jn_in hj hos ho hins ha)
theorem shws_in {ds : List D} {ts : List T} {bx : List (Int × Int)} {mk : List Mk} {pl : List Int} {vs : List V} (FB : BxFit ds bx) (FM : MkFit ts mk) (F : Fits ds ts pl vs) (C : InC bx mk pl vs) : ∀ (es : List Ex) {m : Nat} {qs : List Kd}, WFs es → cks ds ts es m = .ok qs →
    ∃ xs, EvAll ds ts pl vs es xs ∧ OkVs qs xs ∧ ∀ ws, ws.length = es.length → (∀ w ∈ ws, dGood w) → shws (lfS ds ts bx mk) (kfS ds ts) es ws = true → InSs (ws.map W.s) xs
  | [], m, qs, wf, h => by
    rw [cks] at h
    injection h with h
    subst h
    refine ⟨[], .nil, .nil, fun ws hl _ _ => ?_⟩
    rw [List.length_eq_zero_iff.mp hl]
    exact .nil
  | e :: r, m, qs, wf, h => by
    rw [cks] at h
    rw [WFs] at wf
    cases h1 : ck ds ts e m with
    | error j => rw [h1] at h; cases h
    | ok k =>
      rw [h1] at h
      cases h2 : cks ds ts r (m + e.size) with
      | error j => simp only [h2] at h; cases h
      | ok ks =>
        simp only [h2] at h
        injection h with h
        subst h
        obtain ⟨v, h3, h4, h5⟩ := shw_in FB FM F C e wf.1 h1
        obtain ⟨xs, h6, h7, h8⟩ := shws_in FB FM F C r wf.2 h2
        refine ⟨v :: xs, .cons h3 h6, .cons h4 h7, fun ws hl hg hs => ?_⟩
        cases ws with
        | nil => cases hl
        | cons w ws =>
          rw [shws, Bool.and_eq_true] at hs
          exact .cons (h5 w (hg w List.mem_cons_self) hs.1) (h8 ws (Nat.succ.inj hl) (fun u hu => hg u (List.mem_cons_of_mem _ hu)) hs.2)
end
end K2

namespace K2
open PySem L2
/-! ### drawn places and values -/
def InB (ds : List D) (pl : List Int) : Prop := pl.length = ds.length ∧ ∀ (i : Nat) (x : D) (c : Int), ds[i]? = some x → pl[i]? = some c → x.l ≤ c ∧ c ≤ x.h
def VFit (ts : List T) (vs : List V) : Prop := vs.length = ts.length ∧ ∀ (i : Nat) (t : T) (v : V), ts[i]? = some t → vs[i]? = some v → ∃ k, t.k = kdS k ∧ OkV k v
section
variable {P : Program} {w : World} {K : PySem.W.Frag} {mg : Str → Option Value} {base : Heap}
def spPlace : Sp := fun vs H Q _ => ∃ (d l td : Addr) (xs : List V) (ds : List D), vs = [.ref d, .ref td] ∧ StAt H d l ∧ H td = some (.tup xs) ∧ Rows H xs (ds.map D.v) ∧ (∀ x ∈ ds, x.l ≤ x.h) ∧ ds.length ≤ 900 ∧
  ∀ H' t pl, Kp d l H H' → H t = none → H' t = some (.tup (pl.map V.int)) → InB ds pl → Q (.ref t) H'
theorem scPlace : FnScope ["state", "dims", "name", "low", "high", "step"] ["state", "dims"] (defScope sLPlace) := ⟨rfl, rfl, rfl, by decide +kernel, rfl, by decide +kernel, by decide +kernel⟩
theorem ok_place {f fN : Addr} {fd fdN : FuncData} (F : Fun K "_law_place" "_law_place" sLPlace f fd) (M : Nm mg) (FN : Fun K "_law_next" "_law_next" sNext fN fdN) (bN : Binds K fdN ["state", "bound"] []) (gN : mg "_law_next" = some (.ref fN)) :
    FnOk P w K mg base CX0 2 f fd ["state", "dims"] spPlace := by
  have GN : FnOk P w K mg base CX0 1 fN fdN ["state", "bound"] spNext := ok_next FN M.int M.len
  refine F.ok scPlace (fun vs H Q E h => ?_) (fun cdv A outer s H vs Q E hr h => ?_)
  · obtain ⟨d, l, td, xs, ds, rfl, _⟩ := h
    rfl
  · obtain ⟨d, l, td, xs, ds, rfl, St, htd, hR, hb, hl9, q⟩ := h
    refine ⟨_, pss_one (ps_ret (pe_callTy call_tuple_of (by rfl) M.tuple (by decide +kernel) (pa_cons (pe_lc (own := [("name", 2), ("low", 3), ("high", 4), ("step", 5)]) (g := gTup K 4 (gCons (gName 2) (gCons (gName 3) (gCons (gName 4) (gCons (gName 5) gNil))))) (tt := tYes) rfl scPlace.nd
        (pi_tup (pv 1)) (blkOk_by (N := ["state", "dims", "name", "low", "high", "step"]) (sc := defScope sLPlace) (by decide +kernel))
        (fun _ _ _ _ _ => pg_tupK K rfl (by rfl) (pgs_cons (pg_name (i := 2) scPlace.nd rfl (Or.inl rfl)) (pgs_cons (pg_name (i := 3) scPlace.nd rfl (Or.inl rfl)) (pgs_cons (pg_name (i := 4) scPlace.nd rfl (Or.inl rfl)) (pgs_cons (pg_name (i := 5) scPlace.nd rfl (Or.inl rfl)) pgs_nil)))))
        (fun _ _ _ _ _ => pts_nil) (fun _ _ _ _ _ => pe_op op_add (pv 3) (pe_call GN hr (by rfl) gN FN.kp bN .nil pass0 (pa_cons (pv 0) (pa_cons (pe_op op_add (pe_op op_sub (pv 4) (pv 3)) pe_int) pa_nil))))) pa_nil))), ?_⟩
    have lx : xs.length = ds.length := by
      have := hR.1
      rwa [List.length_map] at this
    refine ⟨_, rfl, td, rfl, ⟨_, SqT.of htd⟩, fun D nD => ?_⟩
    have nDd := St.nd nD
    refine lc_it (walk_tup (xs := xs)) (fun i H3 => Kp d l H H3 ∧ ∃ pl : List Int, H3 D = some (.lst (pl.map V.int)) ∧ InB (ds.take i) pl) ⟨(Kp.refl St).new nD, [], upd_same, rfl, fun i x c h => by simp at h⟩ (fun i H3 _ z => SqT.of (z.1.at St htd (fun _ y => nomatch y))) ?_ ?_
    · rintro i x H3 H' hi ⟨k3, pl, hD, hpl⟩ ⟨rfl, hxi⟩
      have hi2 : i < ds.length := by omega
      obtain ⟨b, e1, e2⟩ := (hR.kp St k3).2 i ds[i].v (by rw [List.getElem?_map, List.getElem?_eq_getElem hi2]; rfl)
      obtain rfl : x = .ref b := Option.some.inj (hxi.symm.trans e1)
      refine ⟨b, _, rfl, SqT.of e2, rfl, _, _, rfl, _, _, rfl, _, _, rfl, _, _, rfl, rfl, rfl, ?_⟩
      dsimp only [tYes]
      rw [if_pos rfl]
      have hle := hb _ (List.getElem_mem hi2)
      refine ⟨_, rfl, _, rfl, _, rfl, _, rfl, ds[i].h, ds[i].l, rfl, rfl, _, 1, rfl, rfl, d, l, _, rfl, k3.st, (by omega), fun H4 m m0 m1 k4 => ⟨ds[i].l, m, rfl, rfl, ?_⟩⟩
      have hpll : pl.length = i := by
        have := hpl.1
        rw [List.length_take] at this
        omega
      refine ⟨_, k4.at k3.st hD (fun _ y => nomatch y), ?_, (k3.trans k4).put nD nDd, pl ++ [ds[i].l + m], ?_, ?_, ?_⟩
      · rw [List.length_map]
        exact small1000 (by omega)
      · rw [upd_same, List.map_append]
        rfl
      · rw [List.length_append, hpll, List.length_take]
        show i + 1 = _
        omega
      · intro j y c hy hc
        have etk : ds.take (i + 1) = ds.take i ++ [ds[i]] := by
          rw [List.take_add_one, List.getElem?_eq_getElem hi2]
          rfl
        rw [etk] at hy
        have lt : (ds.take i).length = i := by rw [List.length_take]; omega
        rcases Nat.lt_trichotomy j i with hj | hj | hj
        · rw [List.getElem?_append_left (by omega)] at hy
          rw [List.getElem?_append_left (by omega)] at hc
          exact hpl.2 j y c hy hc
        · subst hj
          rw [List.getElem?_append_right (by omega), lt, Nat.sub_self] at hy
          rw [List.getElem?_append_right (by omega), hpll, Nat.sub_self] at hc
          obtain rfl := Option.some.inj hy
          obtain rfl := Option.some.inj hc
          exact ⟨by omega, by omega⟩
        · rw [List.getElem?_eq_none (by rw [List.length_append, lt]; show i + 1 ≤ j; omega)] at hy
          cases hy
    · rintro H3 ⟨k3, pl, hD, hpl⟩
      rw [lx, List.take_length] at hpl
      refine ⟨D, _, rfl, .inl ⟨.inl (.inl hD), fun t nt => q _ t pl (k3.new nt) (k3.free nt) upd_same hpl⟩⟩
def spValues : Sp := fun vs H Q _ => ∃ (d l ta : Addr) (ys : List V) (ts : List T) (few : Int), vs = [.ref d, .ref ta, .int few] ∧ StAt H d l ∧ H ta = some (.tup ys) ∧ Rows H ys (ts.map T.v) ∧ (∀ t ∈ ts, ∃ k, t.k = kdS k) ∧ ts.length ≤ 900 ∧ 0 < few ∧
  ∀ H' t vs', Kp d l H H' → H t = none → H' t = some (.tup vs') → VFit ts vs' → Q (.ref t) H'
theorem scValues : FnScope ["state", "attrs", "few", "values", "name", "kind", "value"] ["state", "attrs", "few"] (defScope sLValues) := ⟨rfl, rfl, rfl, by decide +kernel, rfl, by decide +kernel, by decide +kernel⟩
theorem ok_values {f fN fT : Addr} {fd fdN fdT : FuncData} (F : Fun K "_law_values" "_law_values" sLValues f fd) (M : Nm mg) (FN : Fun K "_law_next" "_law_next" sNext fN fdN) (bN : Binds K fdN ["state", "bound"] []) (gN : mg "_law_next" = some (.ref fN))
    (GT : FnOk P w K mg base CX0 3 fT fdT ["state", "kind"] spThing) (kT : PySem.W.keepIn K (.ref fT) = true) (bT : Binds K fdT ["state", "kind"] []) (gT : mg "_law_thing" = some (.ref fT)) : FnOk P w K mg base CX0 4 f fd ["state", "attrs", "few"] spValues := by
  have GN : FnOk P w K mg base CX0 1 fN fdN ["state", "bound"] spNext := ok_next FN M.int M.len
  refine F.ok scValues (fun vs H Q E h => ?_) (fun cdv A outer s H vs Q E hr h => ?_)
  · obtain ⟨d, l, ta, ys, ts, few, rfl, _⟩ := h
    rfl
  · obtain ⟨d, l, ta, ys, ts, few, rfl, St, hta, hR, hk, hl9, hf, q⟩ := h
    have hr1 := hr.mono (j := 1) (by decide)
    refine ⟨_, pss_cons (ps_set (i := 3) scValues.nd rfl (.inl rfl) (pe_lst pa_nil))
      (pss_cons (ps_for PassesOwn.never rfl (pi_tup (pv 1)) (pg_tup (by rfl) (pgs_cons (pg_name (i := 4) scValues.nd rfl (.inl rfl)) (pgs_cons (pg_name (i := 5) scValues.nd rfl (.inl rfl)) pgs_nil)))
        (pss_cons (ps_set (i := 6) scValues.nd rfl (.inl rfl) pe_non)
        (Evl.pss_cut (ps_if (pt_cmpR op_gt (pe_call GN hr1 (by rfl) gN FN.kp bN .nil pass0 (pa_cons (pv 0) (pa_cons (pv 2) pa_nil))) pe_int (nomark _)) (pss_one (ps_set (i := 6) scValues.nd rfl (.inl rfl) (pe_call GT hr (by rfl) gT kT bT .nil pass0 (pa_cons (pv 0) (pa_cons (pv 5) pa_nil))))) pss_nil)
        (pss_one (ps_expr (pe_bm PySem.F.plainAttrs_list PySem.F.slot_list_append PySem.F.type_list_append mt_append (pv 3) (pa_cons (pv 6) pa_nil)))))))
      (pss_one (ps_ret (pe_callTy call_tuple_of (by rfl) M.tuple (by decide +kernel) (pa_cons (pv 3) pa_nil))))), ?_⟩
    have ly : ys.length = ts.length := by
      have := hR.1
      rwa [List.length_map] at this
    refine ⟨Nat.zero_le _, fun D nD => ?_⟩
    have nDd := St.nd nD
    have k0 : Kp d l H (upd H D (.lst [])) := (Kp.refl St).new nD
    refine ⟨_, rfl, ta, rfl, ⟨_, SqT.of (same_new nD _ _ hta)⟩, for_tup (xs := ys) (fun i σ H3 => ∃ (y4 y5 y6 : Option V) (us : List V), σ = [some (.ref d), some (.ref ta), some (.int few), some (.ref D), y4, y5, y6] ∧ Kp d l H H3 ∧ H3 D = some (.lst us) ∧ VFit (ts.take i) us) ?_ ?_ ?_ ?_⟩
    · exact ⟨_, _, _, [], rfl, k0, upd_same, rfl, fun i x c h => by simp at h⟩
    · rintro i σ H3 hi ⟨y4, y5, y6, us, rfl, k3, hD, hv⟩
      exact SqT.of (k3.at St hta (fun _ y => nomatch y))
    · rintro i x σ H3 hxi ⟨y4, y5, y6, us, rfl, k3, hD, hv⟩
      have hi : i < ys.length := (List.getElem?_eq_some_iff.mp hxi).1
      have hi2 : i < ts.length := by omega
      obtain ⟨b, e1, e2⟩ := (hR.kp St k3).2 i ts[i].v (by rw [List.getElem?_map, List.getElem?_eq_getElem hi2]; rfl)
      obtain rfl : x = .ref b := Option.some.inj (hxi.symm.trans e1)
      obtain ⟨k, hkk⟩ := hk _ (List.getElem_mem hi2)
      have hul : us.length = i := by
        have := hv.1
        rw [List.length_take] at this
        omega
      refine ⟨b, _, rfl, SqT.of e2, rfl, _, _, rfl, _, _, rfl, rfl, ?_⟩
      refine ⟨fun σ H4 => ∃ v, σ = [some (.ref d), some (.ref ta), some (.int few), some (.ref D), some (.str ts[i].n), some (.str ts[i].k), some v] ∧ Kp d l H H4 ∧ H4 D = some (.lst us) ∧ OkV k v, ?_, ?_⟩
      · refine ⟨_, rfl, _, rfl, d, l, few, rfl, k3.st, hf, fun H4 m m0 m1 k4 => ⟨_, _, rfl, rfl, _, rfl, ite2 (fun _ => ?_) (fun _ => ?_)⟩⟩
        · refine ⟨_, rfl, _, rfl, d, l, k, (by show [V.ref d, V.str ts[i].k] = [V.ref d, V.str (kdS k)]; rw [hkk]), k4.st, fun H5 v hv1 hv2 k5 => ?_⟩
          exact ⟨v, rfl, (k3.trans k4).trans k5, k5.at k4.st (k4.at k3.st hD (fun _ y => nomatch y)) (fun _ y => nomatch y), .inr ⟨hv1, hv2⟩⟩
        · exact ⟨.non, rfl, k3.trans k4, k4.at k3.st hD (fun _ y => nomatch y), .inl rfl⟩
      · rintro σ H4 ⟨v, rfl, k4, hD4, hok⟩
        refine ⟨_, rfl, .inl ⟨rfl, _, .inl (.inl hD4)⟩, _, rfl, D, _, _, rfl, rfl, hD4, ?_, ?_⟩
        · exact small1000 (by omega)
        · refine ⟨_, _, _, us ++ [v], rfl, k4.put nD nDd, upd_same, ?_, ?_⟩
          · rw [List.length_append, hul, List.length_take]
            show i + 1 = _
            omega
          · intro j y c hy hc
            have etk : ts.take (i + 1) = ts.take i ++ [ts[i]] := by
              rw [List.take_add_one, List.getElem?_eq_getElem hi2]
              rfl
            rw [etk] at hy
            have lt : (ts.take i).length = i := by rw [List.length_take]; omega
            rcases Nat.lt_trichotomy j i with hj | hj | hj
            · rw [List.getElem?_append_left (by omega)] at hy
              rw [List.getElem?_append_left (by omega)] at hc
              exact hv.2 j y c hy hc
            · subst hj
              rw [List.getElem?_append_right (by omega), lt, Nat.sub_self] at hy
              rw [List.getElem?_append_right (by omega), hul, Nat.sub_self] at hc
              obtain rfl := Option.some.inj hy
              obtain rfl := Option.some.inj hc
              exact ⟨k, hkk, hok⟩
            · rw [List.getElem?_eq_none (by rw [List.length_append, lt]; show i + 1 ≤ j; omega)] at hy
              cases hy
    · rintro σ H3 ⟨y4, y5, y6, us, rfl, k3, hD, hv⟩
      rw [ly, List.take_length] at hv
      exact ⟨_, rfl, D, us, rfl, .inl ⟨.inl (.inl hD), fun t nt => q _ t us (k3.new nt) (k3.free nt) upd_same hv⟩⟩
end
end K2

namespace K2
open PySem L2
/-! ### min(xs, default=None), max -/
def mnD : List V → V
  | [] => .non
  | x :: xs => mnV x xs
def mxD : List V → V
  | [] => .non
  | x :: xs => mxV x xs
section
variable {X : Cx}
def rMnD (K : PySem.W.Frag) (f : List V → V) : List V → List V → Hp → VK → Prop := fun vs zs H Q => ∃ (a : Addr) (k : Kd) (xs : List V), vs = [.ref a] ∧ zs = [.non] ∧ SqL K H a xs ∧ (∀ y ∈ xs, OfK k y) ∧ Q (f xs) H
theorem cr_minD (hc : X.calm = true) (hu : X.A.units + 64 < cLine) : CallRK X (.builtin "min") ["default"] (rMnD X.K mnD) := by
  rintro pins s σ H vs zs us ws Q I r rz ⟨a, k, xs, rfl, rfl, hl, hk, q⟩
  obtain ⟨its, rv, p, _⟩ := I.list hl
  rw [Vals.ref1 r]
  obtain ⟨d, rfl, rd⟩ := vals1 rz
  obtain rfl : d = .none := rd
  obtain ⟨as, ra⟩ := rd_all (h := s.heap) hk rv
  have hd := depth_v (xs := xs)
  refine PySem.W.min_list_default (I.ok.hd hc) p.isList ra (alike_v hk) (by show X.A.units + 1 + PyData.depthAll (xs.map pdV) < cLine; omega) (fun e h' tk hkp => ?_) fun y ys i v h' tk bs e _ hr hkp => ?_
  · have : xs = [] := List.map_eq_nil_iff.mp e
    subst this
    exact ⟨.non, H, I.kept (t' := tk) hkp, rfl, q⟩
  · cases xs with
    | nil => cases e
    | cons x xs =>
      injection e with e1 e2
      subst e1 e2
      have hm := mn_of xs x (hk x List.mem_cons_self) fun y hy => hk y (List.mem_cons_of_mem _ hy)
      rw [hm.2] at hr
      exact ⟨_, H, I.kept (t' := tk) hkp, rd_back hm.1 hr, q⟩
theorem cr_maxD (hc : X.calm = true) (hu : X.A.units + 64 < cLine) : CallRK X (.builtin "max") ["default"] (rMnD X.K mxD) := by
  rintro pins s σ H vs zs us ws Q I r rz ⟨a, k, xs, rfl, rfl, hl, hk, q⟩
  obtain ⟨its, rv, p, _⟩ := I.list hl
  rw [Vals.ref1 r]
  obtain ⟨d, rfl, rd⟩ := vals1 rz
  obtain rfl : d = .none := rd
  obtain ⟨as, ra⟩ := rd_all (h := s.heap) hk rv
  have hd := depth_v (xs := xs)
  refine PySem.W.max_list_default (I.ok.hd hc) p.isList ra (alike_v hk) (by show X.A.units + 1 + PyData.depthAll (xs.map pdV) < cLine; omega) (fun e h' tk hkp => ?_) fun y ys i v h' tk bs e _ hr hkp => ?_
  · have : xs = [] := List.map_eq_nil_iff.mp e
    subst this
    exact ⟨.non, H, I.kept (t' := tk) hkp, rfl, q⟩
  · cases xs with
    | nil => cases e
    | cons x xs =>
      injection e with e1 e2
      subst e1 e2
      have hm := mx_of xs x (hk x List.mem_cons_self) fun y hy => hk y (List.mem_cons_of_mem _ hy)
      rw [hm.2] at hr
      exact ⟨_, H, I.kept (t' := tk) hkp, rd_back hm.1 hr, q⟩
end
theorem same_lock {H H2 : Hp} {a : Addr} {o : Obj} {u : HO} (h : H a = some u) (s : Same (upd H a (.frz o u)) H2) : Same H (upd H2 a u) := fun c x e => by
  by_cases z : c = a
  · subst z
    rw [upd_same, ← h, e]
  · rw [upd_ne z]
    exact s _ _ (by rw [upd_ne z]; exact e)
/-! ### a comprehension over anything walked -/
theorem lcW {α : Type} {J : It} {n : Nat} {G : Hp → Prop} {Z : Nat → V → Hp → Prop} {g : TG} {tt : TT} {te : TE} {D : Addr} {vs : List Nat} {σ : St} {H0 : Hp} {Qd : Hp → Prop} (w : Walk J n G (fun i H x H' => H' = H ∧ Z i x H)) (hG : ∀ H, Same H0 H → G H) (nD : H0 D = none)
    (ss : List α) (hl : n = ss.length) (p : α → Bool) (R : Hp → V → α → Prop) (hR : ∀ H H' y s l, R H y s → H D = some (.lst l) → (∀ a o, a ≠ D → H a = some o → H' a = some o) → R H' y s)
    (hs : ∀ (i : Nat) (x : V) (s : α) (H : Hp), Z i x H → ss[i]? = some s → Same H0 H → ∀ Qs : V → Hp → Prop, ∀ Qn : Hp → Prop, (p s = true → ∀ H' y, Same H H' → R H' y s → Qs y H') → (p s = false → ∀ H', Same H H' → Qn H') → g x (wipe σ vs) H fun σ2 H2 => wipe σ2 vs = wipe σ vs ∧ tt σ2 H2 fun b H3 => if b = true then te σ2 H3 Qs else Qn H3)
    (hz : ss.length < sizeLine) (hd : ∀ H ys, Same H0 H → H D = some (.lst ys) → F2 (R H) ys (ss.filter p) → Qd H) :
    ∃ W : Nat → Nat → Hp → Prop, (∃ m, W 0 m (upd H0 D (.lst []))) ∧ ∀ i m H, W i m H →
      (J.stop i H ∧ Qd H) ∨ (J.go i H ∧ ∃ Nx : Hp → Prop, (∀ H', Nx H' → ∃ m', m' < m ∧ W (i + 1) m' H') ∧ ∀ x H', J.yld i H x H' → g x (wipe σ vs) H' fun σ2 H2 => wipe σ2 vs = wipe σ vs ∧ tt σ2 H2 fun b H3 =>
        if b = true then te σ2 H3 fun y H4 => ∃ acc, H4 D = some (.lst acc) ∧ acc.length < sizeLine ∧ Nx (upd H4 D (.lst (acc ++ [y]))) else Nx H3) := by
  have nn : ∀ {H : Hp}, Same H0 H → ∀ o, Same H0 (upd H D o) := fun s o a o2 e => by
    rw [upd_ne (fun z => by rw [z, nD] at e; cases e)]
    exact s a o2 e
  refine ⟨fun i m H => m = n - i ∧ i ≤ n ∧ Same H0 H ∧ ∃ ys, H D = some (.lst ys) ∧ F2 (R H) ys ((ss.take i).filter p), ⟨n, by simp, Nat.zero_le _, same_new nD, [], upd_same, .nil⟩, ?_⟩
  rintro i m H ⟨rfl, hi, s0, ys, eD, hy⟩
  by_cases hlt : i < n
  · refine .inr ⟨w.goes i H hlt (hG H s0), fun H' => Same H0 H' ∧ ∃ ys, H' D = some (.lst ys) ∧ F2 (R H') ys ((ss.take (i + 1)).filter p), fun H' p' => ⟨n - (i + 1), by omega, rfl, hlt, p'⟩, fun x H' yy => ?_⟩
    obtain ⟨e, hx⟩ := w.yields i H x H' hlt (hG H s0) yy
    subst e
    have hls : i < ss.length := by omega
    have hsx : ss[i]? = some ss[i] := List.getElem?_eq_getElem hls
    have et : ss.take (i + 1) = ss.take i ++ [ss[i]] := by rw [List.take_add_one, hsx]; rfl
    refine hs i x _ _ hx hsx s0 _ _ (fun hp H2 y s2 ry => ⟨ys, s2 _ _ eD, ?_, nn (fun a o e => s2 _ _ (s0 _ _ e)) _, ys ++ [y], upd_same, ?_⟩) (fun hp H2 s2 => ⟨fun a o e => s2 _ _ (s0 _ _ e), ys, s2 _ _ eD, ?_⟩)
    · rw [hy.len]
      refine Nat.lt_of_le_of_lt (Nat.le_trans (List.length_filter_le _ _) ?_) hz
      rw [List.length_take]
      exact Nat.min_le_right _ _
    · rw [et, List.filter_append]
      have e1 : [ss[i]].filter p = [ss[i]] := by rw [List.filter_cons, if_pos hp]; rfl
      rw [e1]
      have ku : ∀ a o, a ≠ D → H2 a = some o → (upd H2 D (.lst (ys ++ [y]))) a = some o := fun a o h e => by rw [upd_ne h]; exact e
      exact F2.snoc (hR _ _ _ _ _ ry (s2 _ _ eD) ku) (hy.imp fun z t r => hR _ _ _ _ _ (hR _ _ _ _ _ r eD (fun a o _ e => s2 _ _ e)) (s2 _ _ eD) ku)
    · rw [et, List.filter_append]
      have e1 : [ss[i]].filter p = [] := by rw [List.filter_cons, if_neg (by rw [hp]; decide)]; rfl
      rw [e1, List.append_nil]
      exact hy.imp fun z t r => hR _ _ _ _ _ r eD (fun a o _ e => s2 _ _ e)
  · have e : i = n := by omega
    subst e
    refine .inl ⟨w.stops H (hG H s0), hd H ys s0 eD ?_⟩
    rw [hl, List.take_length] at hy
    exact hy
/-! ### cells: a dict of places -/
structure Cl where
  pl : List Int
  va : Addr
  ws : List V
def kI (pl : List Int) : List Key := pl.map Sum.inl
theorem kI_v (pl : List Int) : (kI pl).map kV = pl.map V.int := by
  unfold kI
  rw [List.map_map]
  rfl
def Raw (ds : List D) (ts : List T) (H : Hp) (kvs : List (List Key × V)) : Prop := ∀ e ∈ kvs, ∃ pl va ws, e = (kI pl, V.ref va) ∧ H va = some (.tup ws) ∧ InB ds pl ∧ VFit ts ws
theorem Raw.put {ds : List D} {ts : List T} {H : Hp} {kvs : List (List Key × V)} (h : Raw ds ts H kvs) {pl : List Int} {va : Addr} {ws : List V} (hv : H va = some (.tup ws)) (b : InB ds pl) (f : VFit ts ws) : Raw ds ts H (putK kvs (kI pl) (.ref va)) := by
  intro e he
  unfold putK at he
  split at he
  · obtain ⟨e0, h0, rfl⟩ := List.mem_map.mp he
    by_cases c : e0.1 = kI pl
    · rw [if_pos c]
      exact ⟨pl, va, ws, by rw [c], hv, b, f⟩
    · rw [if_neg c]
      exact h _ h0
  · rcases List.mem_append.mp he with he | he
    · exact h _ he
    · rw [List.mem_singleton.mp he]
      exact ⟨pl, va, ws, rfl, hv, b, f⟩
theorem Raw.keep {ds : List D} {ts : List T} {H H' : Hp} {kvs : List (List Key × V)} (h : Raw ds ts H kvs) (k : ∀ a r, H a = some (.tup r) → H' a = some (.tup r)) : Raw ds ts H' kvs := fun e he => by
  obtain ⟨pl, va, ws, rfl, h1, h2⟩ := h e he
  exact ⟨pl, va, ws, rfl, k _ _ h1, h2⟩
theorem putK_ne (kvs : List (List Key × V)) (k : List Key) (v : V) : putK kvs k v ≠ [] := by
  unfold putK
  split
  · rename_i h
    intro z
    rw [List.map_eq_nil_iff.mp z] at h
    cases h
  · exact fun z => by have := congrArg List.length z; simp at this
theorem putK_le (c : List (List Key × V)) (k : List Key) (x : V) : (putK c k x).length ≤ c.length + 1 := by
  unfold putK
  by_cases e : (c.any fun kv => decide (kv.1 = k)) = true
  · rw [if_pos e, List.length_map]
    omega
  · rw [if_neg e, List.length_append]
    simp
structure CA (ds : List D) (ts : List T) (H : Hp) (kvs : List (List Key × V)) (cs : List Cl) : Prop where
  len : kvs.length = cs.length
  ky : ∀ (i : Nat) (c : Cl), cs[i]? = some c → ∃ v, kvs[i]? = some (kI c.pl, v)
  gt : ∀ c ∈ cs, valV kvs (kI c.pl) = some (.ref c.va) ∧ H c.va = some (.tup c.ws)
  fit : ∀ c ∈ cs, InB ds c.pl ∧ VFit ts c.ws
theorem CA.keep {ds : List D} {ts : List T} {H H' : Hp} {kvs : List (List Key × V)} {cs : List Cl} (h : CA ds ts H kvs cs) (k : ∀ a r, H a = some (.tup r) → H' a = some (.tup r)) : CA ds ts H' kvs cs :=
  ⟨h.len, h.ky, fun c hc => ⟨(h.gt c hc).1, k _ _ (h.gt c hc).2⟩, h.fit⟩
theorem pick_all {α β : Type} {R : α → β → Prop} : ∀ (l : List α), (∀ e ∈ l, ∃ c, R e c) → ∃ cs : List β, l.length = cs.length ∧ ∀ (i : Nat) (c : β), cs[i]? = some c → ∃ e, l[i]? = some e ∧ R e c
  | [], _ => ⟨[], rfl, fun i c h => by simp at h⟩
  | e :: l, h => by
    obtain ⟨c, hc⟩ := h e List.mem_cons_self
    obtain ⟨cs, h1, h2⟩ := pick_all l fun e he => h e (List.mem_cons_of_mem _ he)
    refine ⟨c :: cs, by rw [List.length_cons, List.length_cons, h1], fun i d hd => ?_⟩
    cases i with
    | zero => cases hd; exact ⟨e, rfl, hc⟩
    | succ i => exact h2 i d hd
theorem Raw.ca {ds : List D} {ts : List T} {H : Hp} {kvs : List (List Key × V)} (h : Raw ds ts H kvs) : ∃ cs, CA ds ts H kvs cs := by
  obtain ⟨cs, h1, h2⟩ := pick_all (R := fun (e : List Key × V) (c : Cl) => e.1 = kI c.pl ∧ valV kvs (kI c.pl) = some (.ref c.va) ∧ H c.va = some (.tup c.ws) ∧ InB ds c.pl ∧ VFit ts c.ws) kvs fun e he => by
    obtain ⟨pl, va, ws, rfl, _, hb, _⟩ := h e he
    have hs : (kvs.find? fun kv => decide (kv.1 = kI pl)).isSome = true := by
      rw [List.find?_isSome]
      exact ⟨_, he, decide_eq_true rfl⟩
    obtain ⟨e2, he2⟩ := Option.isSome_iff_exists.mp hs
    obtain ⟨pl2, va2, ws2, rfl, h3, h4, h5⟩ := h e2 (List.mem_of_find?_eq_some he2)
    refine ⟨⟨pl, va2, ws2⟩, rfl, ?_, h3, hb, h5⟩
    unfold valV
    rw [he2]
    rfl
  have mem : ∀ c ∈ cs, ∃ e : List Key × V, e.1 = kI c.pl ∧ valV kvs (kI c.pl) = some (.ref c.va) ∧ H c.va = some (.tup c.ws) ∧ InB ds c.pl ∧ VFit ts c.ws := fun c hc => by
    obtain ⟨i, hi⟩ := List.mem_iff_getElem?.mp hc
    obtain ⟨e, _, r⟩ := h2 i c hi
    exact ⟨e, r⟩
  refine ⟨cs, h1, fun i c hi => ?_, fun c hc => ?_, fun c hc => ?_⟩
  · obtain ⟨e, he, r, _⟩ := h2 i c hi
    exact ⟨e.2, by rw [he, ← r]⟩
  · obtain ⟨e, _, r1, r2, _⟩ := mem c hc
    exact ⟨r1, r2⟩
  · obtain ⟨e, _, _, _, r3⟩ := mem c hc
    exact r3
/-- for place in cells -/
theorem walk_cells {ds : List D} {ts : List T} {d : Addr} {o : Obj} {H0 : Hp} {kvs : List (List Key × V)} {cs : List Cl} (h : CA ds ts H0 kvs cs) : Walk (Itkt d o kvs) cs.length (fun H => H d = some (.frz o (.dT kvs))) (fun i H x H' => H' = H ∧ ∃ (c : Cl) (q : Addr), cs[i]? = some c ∧ x = .ref q ∧ H q = some (.tup (c.pl.map V.int))) := by
  have w := walk_keysT (d := d) (o := o) (kvs := kvs)
  rw [h.len] at w
  refine w.mono (fun _ g => g) fun i H x H' hi _ y => ?_
  obtain ⟨e, k, v, q, e1, e2, e3⟩ := y
  refine ⟨e, cs[i], q, List.getElem?_eq_getElem hi, e2, ?_⟩
  obtain ⟨v2, e4⟩ := h.ky i _ (List.getElem?_eq_getElem hi)
  rw [e1] at e4
  cases e4
  rw [e3, kI_v]
theorem CA.get {ds : List D} {ts : List T} {H H1 : Hp} {kvs : List (List Key × V)} {cs : List Cl} {c : Cl} {d q : Addr} (h : CA ds ts H kvs cs) (hc : c ∈ cs) (hd : Rd H1 d (.dT kvs)) (hq : H1 q = some (.tup (c.pl.map V.int))) : DGet H1 d (.ref q) (some (.ref c.va)) :=
  .inr ⟨kvs, kI c.pl, q, hd, rfl, by rw [kI_v]; exact hq, (h.gt c hc).1.symm⟩
end K2

namespace K2
open PySem L2
def kn (xs : List V) : List V := xs.filter fun v => !decide (v = .non)
def enM (xs : List V) : Mk := ⟨(xs.length : Int) - ((kn xs).length : Int), mnD (kn xs), mxD (kn xs)⟩
def mkOf (ts : List T) (cs : List Cl) : List Mk := (List.range ts.length).map fun i => enM (cs.map fun c => c.ws.getD i .non)
def MkR1 (K : PySem.W.Frag) (H : Hp) (y : V) (c : Mk) : Prop := ∃ q, y = .ref q ∧ SqT K H q [.int c.n, c.a, c.b]
def spEntry (K : PySem.W.Frag) : Sp := fun vs H Q _ => ∃ (L : Addr) (xs : List V) (k : Kd), vs = [.ref L] ∧ H L = some (.lst xs) ∧ (∀ x ∈ xs, OkV k x) ∧ xs.length ≤ 900 ∧ ∀ H' z, Same H H' → MkR1 K H' z (enM xs) → Q z H'
section
variable {P : Program} {w : World} {K : PySem.W.Frag} {mg : Str → Option Value} {base : Heap}
theorem sc_entry : FnScope ["values", "known", "value"] ["values"] (defScope sEntryOf) := ⟨rfl, rfl, rfl, by decide +kernel, rfl, by decide +kernel, by decide +kernel⟩
theorem ok_entry {f : Addr} {fd : FuncData} (F : Fun K "entry_of" "entry_of" sEntryOf f fd) (M : Nm mg) : FnOk P w K mg base CX0 1 f fd ["values"] (spEntry K) := by
  refine F.ok sc_entry (fun vs H Q E h => ?_) (fun cdv A outer s0 H vs Q E hr h => ?_)
  · obtain ⟨L, xs, k, rfl, hL, hk, hl, q⟩ := h
    rfl
  · obtain ⟨L, xs, k, rfl, hL, hk, hl, q⟩ := h
    refine ⟨_, (Evl.pss_cut (ps_setLc (i := 1) (own := [("value", 2)]) (g := (gName 2)) rfl sc_entry.nd rfl rfl (sw_true rfl rfl rfl (by decide +kernel)) (pi_list (pv 0)) (blkOk_by (N := ["values", "known", "value"]) (sc := defScope sEntryOf) (by decide +kernel)) (fun _ _ _ _ _ => (pg_name (i := 2) sc_entry.nd rfl (Or.inl rfl))) (fun _ _ _ _ _ => (pts_one (pt_cmpR op_notN (pv 2) pe_non (nomark _)))) (fun _ _ _ _ _ => (pv 2)))
      (pss_one (ps_ret (pe_tup (pa_cons (pe_op op_sub (pe_callB call_len_seq (by rfl) M.len PySem.boot_len (pa_cons (pv 0) pa_nil)) (pe_callB call_len_seq (by rfl) M.len PySem.boot_len (pa_cons (pv 1) pa_nil))) (pa_cons (pe_callBK (cr_minD rfl hr.units) (by rfl) M.min (by decide +kernel) (pa_cons (pv 1) pa_nil) (pk_cons pe_non pk_nil)) (pa_cons (pe_callBK (cr_maxD rfl hr.units) (by rfl) M.max (by decide +kernel) (pa_cons (pv 1) pa_nil) (pk_cons pe_non pk_nil)) pa_nil))))))), ?_⟩
    have hz : xs.length < sizeLine := Nat.lt_of_le_of_lt hl (by decide)
    have hkn : ∀ y ∈ kn xs, OfK k y := fun y hy => by
      obtain ⟨h1, h2⟩ := List.mem_filter.mp hy
      have hn : y ≠ .non := fun z => by rw [z] at h2; cases h2
      exact ((hk y h1).resolve_left hn).1
    refine ⟨fun σ' H' => ∃ D, σ' = [some (.ref L), some (.ref D), none] ∧ Same H H' ∧ H' D = some (.lst (kn xs)), ?_, ?_⟩
    · refine ⟨_, rfl, L, rfl, ⟨_, .inl (.inl hL)⟩, fun D nD => ?_⟩
      refine lcF sqi_list (fun H1 s1 => .inl (.inl (s1 _ _ hL))) nD xs rfl (fun v => !decide (v = .non)) (fun _ y s => y = s) (fun _ _ _ _ _ r _ _ => r) (fun i x s H1 hi hs s1 Qs Qn q1 q2 => ?_) hz (fun H1 ys s1 e1 f1 => ⟨D, rfl, s1, ?_⟩)
      · obtain rfl : x = s := Option.some.inj (hi.symm.trans hs)
        refine ⟨rfl, _, rfl, rfl, _, rfl, ?_⟩
        by_cases e : (!decide (x = V.non)) = true
        · exact iteB e ⟨_, rfl, q1 e H1 _ same_refl rfl⟩
        · have e := Bool.eq_false_iff.mpr e
          exact iteBF e (q2 e H1 same_refl)
      · have e3 : ys = kn xs := by
          have := F2.eq (f := fun x : V => x) f1
          rw [List.map_id'] at this
          exact this
        rw [← e3]
        exact e1
    rintro _ H1 ⟨D, rfl, s1, eD⟩
    refine ⟨_, rfl, L, xs, rfl, .inl (.inl (.inl (s1 _ _ hL))), _, rfl, D, _, rfl, .inl (.inl (.inl eD)), _, _, rfl, rfl, ?_⟩
    exact ⟨_, rfl, D, k, _, rfl, rfl, .inl (.inl eD), hkn, _, rfl, D, k, _, rfl, rfl, .inl (.inl eD), hkn, (by show 3 ≤ sizeLine; decide), fun t nt => q _ _ (fun a o e => same_new nt _ _ (s1 _ _ e)) ⟨t, rfl, SqT.of upd_same⟩⟩
def MkAtI (K : PySem.W.Frag) (H : Hp) (x : V) (mk : List Mk) : Prop := ∃ (p q : Addr) (n : Int) (xs : List V), x = .ref p ∧ SqT K H p [.int n, .ref q] ∧ SqT K H q xs ∧ F2 (fun y c => ∃ q, y = .ref q ∧ SqT K H q [.int c.n, c.a, c.b]) xs mk
theorem MkAtI.at {K : PySem.W.Frag} {H : Hp} {x : V} {mk : List Mk} (h : MkAtI K H x mk) : MkAt K H x mk := let ⟨p, q, n, xs, h⟩ := h; ⟨p, q, _, xs, h⟩
def spMarks (K : PySem.W.Frag) (C : Addr) : Sp := fun vs H Q _ => ∃ (s da : Addr) (ds : List D) (ts : List T) (kvs : List (List Key × V)) (cs : List Cl), vs = [.ref s, .ref da] ∧ ShapeAt H C s ds ts ∧ GoodK ds ts ∧ H da = some (.dT kvs) ∧ CA ds ts H kvs cs ∧ cs.length ≤ 900 ∧ ∀ H' z, Same H H' → MkAtI K H' z (mkOf ts cs) → Q z H'
theorem MkR1.but {K : PySem.W.Frag} {H H' : Hp} {D : Addr} {y : V} {c : Mk} {l : List V} (h : MkR1 K H y c) (eD : H D = some (.lst l)) (k : ∀ a o, a ≠ D → H a = some o → H' a = some o) : MkR1 K H' y c := by
  obtain ⟨p, rfl, h⟩ := h
  exact ⟨p, rfl, sqt_but h eD k⟩
theorem sc_marks : FnScope ["shape", "cells", "entries", "place", "index"] ["shape", "cells"] (defScope sMarksOf) := ⟨rfl, rfl, rfl, by decide +kernel, rfl, by decide +kernel, by decide +kernel⟩
theorem ok_marks {f : Addr} {fd : FuncData} {C fI fQ : Addr} {fE : Addr} {fdE : FuncData} (F : Fun K "marks_of" "marks_of" sMarksOf f fd) (M : Nm mg) (SHC : ShC K C fI fQ) (GE : FnOk P w K mg base CX0 1 fE fdE ["values"] (spEntry K)) (kE : PySem.W.keepIn K (.ref fE) = true) (bE : Binds K fdE ["values"] []) (gE : mg "entry_of" = some (.ref fE)) : FnOk P w K mg base CX0 2 f fd ["shape", "cells"] (spMarks K C) := by
  refine F.ok sc_marks (fun vs H Q E h => ?_) (fun cdv A outer s0 H vs Q E hr h => ?_)
  · obtain ⟨s, da, ds, ts, kvs, cs, rfl, hS, gk, hD, hC, hl, q⟩ := h
    rfl
  · obtain ⟨s, da, ds, ts, kvs, cs, rfl, hS, gk, hD, hC, hl, q⟩ := h
    have hr1 := hr.mono (j := 1) (by decide)
    have hu := hu_of hr
    refine ⟨_, (Evl.pss_cut (ps_setLc (i := 2) (own := [("index", 4)]) (g := (gName 4)) (tt := tYes) rfl sc_marks.nd rfl rfl (sw_true rfl rfl rfl (by decide +kernel)) (pi_range1 (by rfl) M.range (pa_cons (pe_callB call_len_seq (by rfl) M.len PySem.boot_len (pa_cons (pe_fld (pv 0) rfl) pa_nil)) pa_nil)) (blkOk_by (N := ["shape", "cells", "entries", "place", "index"]) (sc := defScope sMarksOf) (by decide +kernel)) (fun _ _ _ _ _ => (pg_name (i := 4) sc_marks.nd rfl (Or.inr rfl))) (fun _ _ _ _ _ => pts_nil) (fun _ _ _ _ _ => (pe_call GE hr1 (by rfl) gE kE bE .nil pass0 (pa_cons (pe_lock (pe_lc (own := [("place", 3)]) (g := (gName 3)) (tt := tYes) rfl sc_marks.nd (pi_keys (pv 1)) (blkOk_by (by rfl)) (fun _ _ _ _ _ => (pg_name (i := 3) sc_marks.nd rfl (Or.inl rfl))) (fun _ _ _ _ _ => pts_nil) (fun _ _ _ _ _ => (pe_ix (ix_tupK K rfl) (pe_dget hu (pv 1) (pv 3) (fun _ _ => rfl)) (pv 4) (fun _ _ => rfl))))) pa_nil))))
      (pss_one (ps_ret (pe_tup (pa_cons (pe_callB call_len_dT (by rfl) M.len PySem.boot_len (pa_cons (pv 1) pa_nil)) (pa_cons (pe_callTy call_tuple_of (by rfl) M.tuple (by decide +kernel) (pa_cons (pv 2) pa_nil)) pa_nil)))))), ?_⟩
    have hz : ∀ n : Nat, n ≤ 1000 → n < sizeLine := fun n h => Nat.lt_of_le_of_lt h (by decide)
    have hS0 := hS
    obtain ⟨dx, td, ta, xs, ys, h1, h2, h3, h4, h5⟩ := hS
    have hly : ys.length = ts.length := by rw [h5.1, List.length_map]
    have hlm : (mkOf ts cs).length = ts.length := by unfold mkOf; rw [List.length_map, List.length_range]
    refine ⟨fun σ' H' => ∃ L zs, σ' = [some (.ref s), some (.ref da), some (.ref L), none, none] ∧ Same H H' ∧ H' L = some (.lst zs) ∧ F2 (MkR1 K H') zs (mkOf ts cs), ?_, ?_⟩
    · refine ⟨_, rfl, s, C, dx, _, .ref ta, rfl, h1, SHC.cl, SHC.nA, rfl, ta, ys, rfl, .inr (SqT.of h4), _, rfl, by omega, by have := gk.2.1; omega, fun L nL => ?_⟩
      refine lcW (n := ((ys.length : Int)).toNat) (Z := fun i x _ => x = .int (0 + (i : Int))) walk_range (fun _ _ => trivial) nL (mkOf ts cs) (by rw [hlm, hly]; rfl) tru1 (fun H y c => MkR1 K H y c) (fun H H' y c l r e1 e2 => r.but e1 e2) (fun i x m H1 hx hm s1 Qs Qn q1 q2 => ?_) (by rw [hlm]; have := gk.2.1; exact hz _ (by omega)) (fun H1 zs s1 e1 f1 => ⟨L, zs, rfl, s1, e1, by rw [filter_tru] at f1; exact f1⟩)
      subst hx
      have hi : i < ts.length := by
        have := (List.getElem?_eq_some_iff.mp hm).1
        rwa [hlm] at this
      have em : m = enM (cs.map fun c => c.ws.getD i .non) := by
        unfold mkOf at hm
        rw [List.getElem?_map, List.getElem?_range hi] at hm
        exact (Option.some.inj hm).symm
      obtain ⟨k, hk⟩ := gk.2.2 _ (List.getElem_mem hi)
      have hok : ∀ c ∈ cs, ∃ v, c.ws[i]? = some v ∧ c.ws.getD i .non = v ∧ OkV k v := fun c hc => by
        have hf := (hC.fit c hc).2
        have hiw : i < c.ws.length := by rw [hf.1]; exact hi
        obtain ⟨k2, hk2, ho⟩ := hf.2 i _ _ (List.getElem?_eq_getElem hi) (List.getElem?_eq_getElem hiw)
        obtain rfl := kdS_inj (hk.symm.trans hk2)
        exact ⟨_, List.getElem?_eq_getElem hiw, by rw [List.getD_eq_getElem?_getD, List.getElem?_eq_getElem hiw]; rfl, ho⟩
      have hD1 := s1 _ _ hD
      have hC1 : CA ds ts H1 kvs cs := hC.keep fun a r e => s1 _ _ e
      refine ⟨rfl, yesT ⟨da, _, hD1, trivial, fun od => ⟨_, rfl, da, od, rfl, .inr ⟨kvs, upd_same, fun L2 nL2 => ?_⟩⟩⟩⟩
      have nda : ∀ a r, (H1 a = some (.tup r)) → (upd H1 da (.frz od (.dT kvs))) a = some (.tup r) := fun a r e => by
        rw [upd_ne (fun z => by rw [z, hD1] at e; cases e)]
        exact e
      have hC2 : CA ds ts (upd H1 da (.frz od (.dT kvs))) kvs cs := hC1.keep nda
      refine lcW (walk_cells hC2) (fun H2 s2 => s2 _ _ upd_same) nL2 cs rfl tru1 (fun _ y c => y = c.ws.getD i .non) (fun _ _ _ _ _ r _ _ => r) (fun j x c H2 hx hc s2 Qs2 Qn2 q3 q4 => ?_) (hz _ (by omega)) (fun H2 zs s2 e2 f2 => ?_)
      · obtain ⟨c', qa, hc', rfl, hqa⟩ := hx
        obtain rfl : c' = c := Option.some.inj (hc'.symm.trans hc)
        have hcm := List.mem_of_getElem? hc
        obtain ⟨v, hv1, hv2, _⟩ := hok c' hcm
        exact ⟨rfl, yesT ⟨_, rfl, _, rfl, da, .ref c'.va, rfl, hC2.get hcm (.inr ⟨od, s2 _ _ upd_same⟩) hqa, _, rfl, c'.va, c'.ws, _, v, rfl, rfl, SqT.of (s2 _ _ (hC2.gt c' hcm).2), by rw [Int.zero_add]; exact atI_nat hv1, q3 rfl H2 v same_refl hv2.symm⟩⟩
      · rw [filter_tru] at f2
        have ez : zs = cs.map fun c => c.ws.getD i .non := f2.eq
        have nL2a : L2 ≠ da := fun z => by rw [z, upd_same] at nL2; cases nL2
        refine ⟨s2 _ _ upd_same, L2, zs, k, rfl, (by rw [upd_ne nL2a]; exact e2), fun x hx => ?_, ?_, fun H3 z s3 hzz => ?_⟩
        · rw [ez] at hx
          obtain ⟨c, hc, rfl⟩ := List.mem_map.mp hx
          obtain ⟨v, _, hv, ho⟩ := hok c hc
          rw [hv]
          exact ho
        · rw [ez, List.length_map]
          omega
        · rw [ez, ← em] at hzz
          exact q1 rfl H3 z (same_trans (same_lock hD1 s2) s3) hzz
    rintro _ H1 ⟨L, zs, rfl, s1, e1, f1⟩
    refine ⟨_, rfl, da, kvs, rfl, s1 _ _ hD, _, rfl, L, zs, rfl, .inl ⟨.inl (.inl e1), fun t nt => ⟨(by show 2 ≤ sizeLine; decide), fun t2 nt2 => ?_⟩⟩⟩
    have s2 : Same H1 _ := same_new (o := .tup zs) nt
    have s3 : Same (upd H1 t (.tup zs)) _ := same_new (o := .tup [.int (kvs.length : Int), .ref t]) nt2
    refine q _ _ (same_trans s1 (same_trans s2 s3)) ⟨t2, t, _, zs, rfl, SqT.of upd_same, sqt_same (SqT.of upd_same) s3, f1.imp fun y c ⟨p, e, h⟩ => ⟨p, e, sqt_same h (same_trans s2 s3)⟩⟩
end
end K2

namespace K2
open PySem L2
def spCells (C : Addr) : Sp := fun vs H Q _ => ∃ (d l s : Addr) (ds : List D) (ts : List T) (n : Nat), vs = [.ref d, .ref s, .int (n : Int)] ∧ n ≤ 100 ∧ StAt H d l ∧ ShapeAt H C s ds ts ∧ Dr ds ts ∧
  ∀ H' da kvs, Kp d l H H' → H da = none → H' da = some (.dT kvs) → Raw ds ts H' kvs → kvs.length ≤ n → Q (.ref da) H'
theorem few4 {c : Int} (h0 : 0 ≤ c) (h1 : c < 4) : ∃ fw : Int, atI [V.int 1, .int 2, .int 6, .int 6] c = some (.int fw) ∧ 0 < fw := by
  rcases (show c = 0 ∨ c = 1 ∨ c = 2 ∨ c = 3 by omega) with rfl | rfl | rfl | rfl
  · exact ⟨1, rfl, by decide⟩
  · exact ⟨2, rfl, by decide⟩
  · exact ⟨6, rfl, by decide⟩
  · exact ⟨6, rfl, by decide⟩
section
variable {P : Program} {w : World} {K : PySem.W.Frag} {mg : Str → Option Value} {base : Heap}
theorem sc_cells : FnScope ["state", "shape", "most", "cells", "few", "k"] ["state", "shape", "most"] (defScope sLCells) := ⟨rfl, rfl, rfl, by decide +kernel, rfl, by decide +kernel, by decide +kernel⟩
theorem ok_cells {f : Addr} {fd : FuncData} {C fI fQ : Addr} {fN fP fV : Addr} {fdN fdP fdV : FuncData} (F : Fun K "_law_cells" "_law_cells" sLCells f fd) (M : Nm mg) (SHC : ShC K C fI fQ) (GN : FnOk P w K mg base CX0 1 fN fdN ["state", "bound"] spNext) (kN : PySem.W.keepIn K (.ref fN) = true) (bN : Binds K fdN ["state", "bound"] []) (gN : mg "_law_next" = some (.ref fN)) (GP : FnOk P w K mg base CX0 2 fP fdP ["state", "dims"] spPlace) (kP : PySem.W.keepIn K (.ref fP) = true) (bP : Binds K fdP ["state", "dims"] []) (gP : mg "_law_place" = some (.ref fP)) (GV : FnOk P w K mg base CX0 4 fV fdV ["state", "attrs", "few"] spValues) (kV : PySem.W.keepIn K (.ref fV) = true) (bV : Binds K fdV ["state", "attrs", "few"] []) (gV : mg "_law_values" = some (.ref fV)) : FnOk P w K mg base CX0 5 f fd ["state", "shape", "most"] (spCells C) := by
  refine F.ok sc_cells (fun vs H Q E h => ?_) (fun cdv A outer s0 H vs Q E hr h => ?_)
  · obtain ⟨dd, l, s, ds, ts, n, rfl, hn, St, hS, dr, q⟩ := h
    rfl
  · obtain ⟨dd, l, s, ds, ts, n, rfl, hn, St, hS, dr, q⟩ := h
    have hr1 := hr.mono (j := 1) (by decide)
    have hr2 := hr.mono (j := 2) (by decide)
    have hr4 := hr.mono (j := 4) (by decide)
    have hu := hu_of hr
    refine ⟨_, (pss_cons (ps_set (i := 3) sc_cells.nd rfl (.inl rfl) pe_dnewT)
      (pss_cons (ps_set (i := 4) sc_cells.nd rfl (.inl rfl) (pe_ix ix_list (pe_lst (pa_cons pe_int (pa_cons pe_int (pa_cons pe_int (pa_cons pe_int pa_nil))))) (pe_call GN hr1 (by rfl) gN kN bN .nil pass0 (pa_cons (pv 0) (pa_cons pe_int pa_nil))) (fun _ _ => rfl)))
      (Evl.pss_cut (ps_for PassesOwn.never rfl (pi_range1 (by rfl) M.range (pa_cons (pe_call GN hr1 (by rfl) gN kN bN .nil pass0 (pa_cons (pv 0) (pa_cons (pe_op op_add (pv 2) pe_int) pa_nil))) pa_nil)) (pg_name (i := 5) sc_cells.nd rfl (.inl rfl)) (pss_one (ps_dput hu (pv 3) (pe_call GP hr2 (by rfl) gP kP bP .nil pass0 (pa_cons (pv 0) (pa_cons (pe_fld (pv 1) rfl) pa_nil))) (pe_call GV hr4 (by rfl) gV kV bV .nil pass0 (pa_cons (pv 0) (pa_cons (pe_fld (pv 1) rfl) (pa_cons (pv 4) pa_nil)))) rfl)))
      (pss_one (ps_ret (pv 3)))))), ?_⟩
    have hz : ∀ n : Nat, n ≤ 100 → n ≤ sizeLine := fun n h => Nat.le_trans h (by decide)
    have gk := dr.gk
    refine fun da nda => ?_
    have nn := St.nd nda
    have kd : Kp dd l H _ := (Kp.refl St).new (o := .dT []) nda
    refine ⟨hz 4 (by decide), fun L nL => ?_⟩
    have kL := kd.new (o := .lst [.int 1, .int 2, .int 6, .int 6]) nL
    have eda : (upd (upd H da (.dT [])) L (.lst [.int 1, .int 2, .int 6, .int 6])) da = some (.dT []) := same_new nL _ _ upd_same
    refine ⟨_, rfl, dd, l, 4, rfl, kL.st, (by decide), fun H1 c c0 c1 k1 => ?_⟩
    obtain ⟨fw, hat, hf0⟩ := few4 c0 c1
    have kp1 := kL.trans k1
    have eda1 := k1.at kL.st eda (fun _ z => nomatch z)
    refine ⟨L, _, c, _, rfl, rfl, .inl (.inl (k1.at kL.st upd_same (fun _ z => nomatch z))), hat, ?_⟩
    refine ⟨fun σ' H' => ∃ y5 kvs, σ' = [some (.ref dd), some (.ref s), some (.int (n : Int)), some (.ref da), some (.int fw), y5] ∧ Kp dd l H H' ∧ H' da = some (.dT kvs) ∧ Raw ds ts H' kvs ∧ kvs.length ≤ n, ?_, ?_⟩
    · refine ⟨_, rfl, _, rfl, _, _, rfl, rfl, dd, l, _, rfl, kp1.st, (by omega), fun H2 m m0 m1 k2 => ⟨m, rfl, by omega, by omega, ?_⟩⟩
      refine for_range (lo := 0) (n := m.toNat) (fun i σ' H' => ∃ y5 kvs, σ' = [some (.ref dd), some (.ref s), some (.int (n : Int)), some (.ref da), some (.int fw), y5] ∧ Kp dd l H H' ∧ H' da = some (.dT kvs) ∧ Raw ds ts H' kvs ∧ kvs.length ≤ i) ⟨_, [], rfl, kp1.trans k2, k2.at kp1.st eda1 (fun _ z => nomatch z), fun e he => absurd he List.not_mem_nil, Nat.le_refl _⟩ ?_ ?_
      · rintro i σ' H' hi ⟨y5, kvs, rfl, kj, hda, hraw, hlen⟩
        have shj := hS.kp St kj
        obtain ⟨dx, td, ta, xs, ys, h1, h2, h3, h4, h5⟩ := id shj
        refine ⟨_, rfl, _, rfl, s, C, dx, _, .ref ta, rfl, h1, SHC.cl, SHC.nA, rfl, _, rfl, dd, l, ta, ys, ts, fw, rfl, kj.st, h4, h5, gk.2.2, gk.2.1, hf0, fun H4 va vs' k4 nva hva hvf => ?_⟩
        have sh4 := shj.kp kj.st k4
        obtain ⟨dx4, td4, ta4, xs4, ys4, g1, g2, g3, g4, g5⟩ := id sh4
        refine ⟨_, rfl, _, rfl, _, rfl, s, C, dx4, _, .ref td4, rfl, g1, SHC.cl, SHC.nD, rfl, dd, l, td4, xs4, ds, rfl, k4.st, g2, g3, fun y hy => (dr.db y hy).2.1, gk.1, fun H5 pa pl k5 npa hpa hpl => ?_⟩
        have k45 := k4.trans k5
        have hda5 := k45.at kj.st hda (fun _ z => nomatch z)
        have hva5 := k5.at k4.st hva (fun _ z => nomatch z)
        have hr5 : Raw ds ts H5 kvs := hraw.keep fun a r e => k45.at kj.st e (fun _ z => nomatch z)
        refine ⟨da, _, rfl, .inr ⟨kvs, kI pl, pa, hda5, rfl, by rw [kI_v]; exact hpa, Nat.lt_of_le_of_lt (show kvs.length ≤ 100 by omega) (by decide), rfl⟩, ?_⟩
        have up : ∀ a r, H5 a = some (.tup r) → (upd H5 da (.dT (putK kvs (kI pl) (.ref va)))) a = some (.tup r) := fun a r e => by
          rw [upd_ne (fun z => by rw [z, hda5] at e; cases e)]
          exact e
        exact ⟨_, _, rfl, (kj.trans k45).put nda nn, upd_same, (hr5.put hva5 hpl hvf).keep up, Nat.le_trans (putK_le _ _ _) (by omega)⟩
      · rintro σ' H' ⟨y5, kvs, rfl, kj, hda, hraw, hlen⟩
        exact ⟨_, kvs, rfl, kj, hda, hraw, by omega⟩
    rintro _ H' ⟨y5, kvs, rfl, kj, hda, hraw, hlen⟩
    exact ⟨_, rfl, q _ _ _ kj nda hda hraw hlen⟩
def bxk : List Int → Int × Int
  | [] => (0, 0)
  | x :: xs => (mnL x xs, mxL x xs)
def bxOf (ds : List D) (cs : List Cl) : List (Int × Int) := (List.range ds.length).map fun k => bxk (cs.map fun c => c.pl.getD k 0)
def BR1 (K : PySem.W.Frag) (H : Hp) (y : V) (b : Int × Int) : Prop := ∃ q, y = .ref q ∧ SqT K H q [.int b.1, .int b.2]
def spBox (K : PySem.W.Frag) (C : Addr) : Sp := fun vs H Q _ => ∃ (s da : Addr) (ds : List D) (ts : List T) (kvs : List (List Key × V)) (cs : List Cl), vs = [.ref s, .ref da] ∧ ShapeAt H C s ds ts ∧ ds.length ≤ 900 ∧ H da = some (.dT kvs) ∧ CA ds ts H kvs cs ∧ cs.length ≤ 900 ∧ cs ≠ [] ∧ ∀ H' z, Same H H' → BoxAt K H' z (bxOf ds cs) → Q z H'
theorem same_keep {H0 H : Hp} {D : Addr} {o : HO} (s : Same H0 H) (n : H0 D = none) : Same H0 (upd H D o) := fun a o2 e => by
  rw [upd_ne (fun z => by rw [z, n] at e; cases e)]
  exact s _ _ e
theorem sc_box : FnScope ["shape", "cells", "box", "k", "found", "place"] ["shape", "cells"] (defScope sLBox) := ⟨rfl, rfl, rfl, by decide +kernel, rfl, by decide +kernel, by decide +kernel⟩
theorem ok_box {f : Addr} {fd : FuncData} {C fI fQ : Addr} (F : Fun K "_law_box" "_law_box" sLBox f fd) (M : Nm mg) (SHC : ShC K C fI fQ) : FnOk P w K mg base CX0 1 f fd ["shape", "cells"] (spBox K C) := by
  refine F.ok sc_box (fun vs H Q E h => ?_) (fun cdv A outer s0 H vs Q E hr h => ?_)
  · obtain ⟨s, da, ds, ts, kvs, cs, rfl, hS, hdl, hD, hC, hl, hne, q⟩ := h
    rfl
  · obtain ⟨s, da, ds, ts, kvs, cs, rfl, hS, hdl, hD, hC, hl, hne, q⟩ := h
    refine ⟨_, (pss_cons (ps_set (i := 2) sc_box.nd rfl (.inl rfl) (pe_lst pa_nil))
      (Evl.pss_cut (ps_for PassesOwn.never rfl (pi_range1 (by rfl) M.range (pa_cons (pe_callB call_len_seq (by rfl) M.len PySem.boot_len (pa_cons (pe_fld (pv 0) rfl) pa_nil)) pa_nil)) (pg_name (i := 3) sc_box.nd rfl (.inr rfl)) (Evl.pss_cut (ps_lock (ps_setLc (i := 4) (own := [("place", 5)]) (g := (gName 5)) (tt := tYes) rfl sc_box.nd rfl rfl (sw_true rfl rfl rfl (by decide +kernel)) (pi_keys (pv 1)) (blkOk_by (N := ["shape", "cells", "box", "k", "found", "place"]) (sc := defScope sLBox) (by decide +kernel)) (fun _ _ _ _ _ => (pg_name (i := 5) sc_box.nd rfl (Or.inl rfl))) (fun _ _ _ _ _ => pts_nil) (fun _ _ _ _ _ => (pe_ix (ix_tupK K rfl) (pv 5) (pv 3) (fun _ _ => rfl)))))
      (pss_one (ps_expr (pe_bm PySem.F.plainAttrs_list PySem.F.slot_list_append PySem.F.type_list_append mt_append (pv 2) (pa_cons (pe_tup (pa_cons (pe_callB (cr_minV rfl hr.units) (by rfl) M.min (by decide +kernel) (pa_cons (pv 4) pa_nil)) (pa_cons (pe_callB (cr_maxV rfl hr.units) (by rfl) M.max (by decide +kernel) (pa_cons (pv 4) pa_nil)) pa_nil))) pa_nil))))))
      (pss_one (ps_ret (pe_callTy call_tuple_of (by rfl) M.tuple (by decide +kernel) (pa_cons (pv 2) pa_nil)))))), ?_⟩
    have hz : ∀ n : Nat, n ≤ 1000 → n ≤ sizeLine := fun n h => Nat.le_trans h (by decide)
    have hz2 : ∀ n : Nat, n ≤ 1000 → n < sizeLine := fun n h => Nat.lt_of_le_of_lt h (by decide)
    obtain ⟨dx, td, ta, xs, ys, h1, h2, h3, h4, h5⟩ := id hS
    have hlx : xs.length = ds.length := by rw [h3.1, List.length_map]
    have hlm : (bxOf ds cs).length = ds.length := by unfold bxOf; rw [List.length_map, List.length_range]
    refine ⟨Nat.zero_le _, fun L nL => ?_⟩
    have sL : Same H _ := same_new (o := .lst []) nL
    refine ⟨fun σ' H' => ∃ zs y3 y4 y5, σ' = [some (.ref s), some (.ref da), some (.ref L), y3, y4, y5] ∧ Same H H' ∧ H' L = some (.lst zs) ∧ F2 (BR1 K H') zs (bxOf ds cs), ?_, ?_⟩
    · refine ⟨_, rfl, s, C, dx, _, .ref td, rfl, sL _ _ h1, SHC.cl, SHC.nD, rfl, td, xs, rfl, .inr (SqT.of (sL _ _ h2)), _, rfl, by omega, by omega, ?_⟩
      refine for_range (lo := 0) (n := ((xs.length : Int)).toNat) (fun i σ' H' => ∃ zs y3 y4 y5, σ' = [some (.ref s), some (.ref da), some (.ref L), y3, y4, y5] ∧ Same H H' ∧ H' L = some (.lst zs) ∧ F2 (BR1 K H') zs ((bxOf ds cs).take i)) ⟨[], _, _, _, rfl, sL, upd_same, .nil⟩ ?_ ?_
      · rintro i σ' H1 hi ⟨zs, y3, y4, y5, rfl, s1, eL, f⟩
        have hi : i < xs.length := hi
        have hid : i < ds.length := by omega
        have hok : ∀ c ∈ cs, ∃ v, c.pl[i]? = some v ∧ c.pl.getD i 0 = v := fun c hc => by
          have hf := (hC.fit c hc).1
          have hiw : i < c.pl.length := by rw [hf.1]; exact hid
          exact ⟨_, List.getElem?_eq_getElem hiw, by rw [List.getD_eq_getElem?_getD, List.getElem?_eq_getElem hiw]; rfl⟩
        have hD1 := s1 _ _ hD
        have hC1 : CA ds ts H1 kvs cs := hC.keep fun a r e => s1 _ _ e
        refine ⟨fun σ' H' => ∃ L4 y5, σ' = [some (.ref s), some (.ref da), some (.ref L), some (.int (0 + (i : Int))), some (.ref L4), y5] ∧ Same H1 H' ∧ H' L4 = some (.lst ((cs.map fun c => c.pl.getD i 0).map V.int)), ?_, ?_⟩
        · refine ⟨da, _, hD1, trivial, fun od => ⟨_, rfl, da, od, rfl, .inr ⟨kvs, upd_same, fun L2 nL2 => ?_⟩⟩⟩
          have nda : ∀ a r, (H1 a = some (.tup r)) → (upd H1 da (.frz od (.dT kvs))) a = some (.tup r) := fun a r e => by
            rw [upd_ne (fun z => by rw [z, hD1] at e; cases e)]
            exact e
          have hC2 : CA ds ts (upd H1 da (.frz od (.dT kvs))) kvs cs := hC1.keep nda
          refine lcW (walk_cells hC2) (fun H2 s2 => s2 _ _ upd_same) nL2 cs rfl tru1 (fun _ y c => y = .int (c.pl.getD i 0)) (fun _ _ _ _ _ r _ _ => r) (fun j x c H2 hx hc s2 Qs2 Qn2 q3 q4 => ?_) (hz2 _ (by omega)) (fun H2 us s2 e2 f2 => ?_)
          · obtain ⟨c', qa, hc', rfl, hqa⟩ := hx
            obtain rfl : c' = c := Option.some.inj (hc'.symm.trans hc)
            have hcm := List.mem_of_getElem? hc
            obtain ⟨v, hv1, hv2⟩ := hok c' hcm
            exact ⟨rfl, yesT ⟨_, rfl, _, rfl, qa, _, _, .int v, rfl, rfl, SqT.of hqa, by rw [Int.zero_add]; exact atI_nat (by rw [List.getElem?_map, hv1]; rfl), q3 rfl H2 _ same_refl (by rw [hv2])⟩⟩
          · rw [filter_tru] at f2
            have ez : us = (cs.map fun c => c.pl.getD i 0).map V.int := by rw [f2.eq, List.map_map]; rfl
            have nL2a : L2 ≠ da := fun z => by rw [z, upd_same] at nL2; cases nL2
            exact ⟨s2 _ _ upd_same, L2, _, rfl, same_lock hD1 s2, by rw [upd_ne nL2a, e2, ez]⟩
        rintro _ H2 ⟨L4, y5, rfl, s2, e4⟩
        obtain ⟨x0, r0, e0⟩ : ∃ x r, (cs.map fun c => c.pl.getD i 0) = x :: r := by
          cases hcs : cs with
          | nil => exact absurd hcs hne
          | cons c r => exact ⟨_, _, rfl⟩
        have ki : ∀ y ∈ V.int x0 :: r0.map V.int, OfK .i y := fun y hy => by
          have hy2 : y ∈ (x0 :: r0).map V.int := hy
          obtain ⟨n, _, rfl⟩ := List.mem_map.mp hy2
          exact ⟨n, rfl⟩
        rw [e0] at e4
        have eb : (bxOf ds cs)[i]? = some (mnL x0 r0, mxL x0 r0) := by
          unfold bxOf
          rw [List.getElem?_map, List.getElem?_range hid]
          show some (bxk (cs.map fun c => c.pl.getD i 0)) = _
          rw [e0]
          rfl
        have e2L := s2 _ _ eL
        refine ⟨_, rfl, .inl ⟨rfl, _, .inl (.inl e2L)⟩, _, rfl, L4, .i, _, _, rfl, .inl (.inl e4), ki, _, rfl, L4, .i, _, _, rfl, .inl (.inl e4), ki, hz 2 (by decide), fun t nt => ?_⟩
        have sT : Same H2 _ := same_new (o := .tup [mnV (.int x0) (r0.map V.int), mxV (.int x0) (r0.map V.int)]) nt
        have lz : zs.length ≤ ds.length := by
          rw [f.len, List.length_take, hlm]
          omega
        refine ⟨L, zs, _, rfl, rfl, sT _ _ e2L, hz2 _ (by omega), ?_⟩
        have sA : Same H (upd H2 t (.tup [mnV (.int x0) (r0.map V.int), mxV (.int x0) (r0.map V.int)])) := same_trans s1 (same_trans s2 sT)
        have kb : ∀ a o, a ≠ L → (upd H2 t (.tup [mnV (.int x0) (r0.map V.int), mxV (.int x0) (r0.map V.int)])) a = some o → (upd (upd H2 t (.tup [mnV (.int x0) (r0.map V.int), mxV (.int x0) (r0.map V.int)])) L (.lst (zs ++ [.ref t]))) a = some o := fun a o n e => by rw [upd_ne n]; exact e
        have BR_but : ∀ y b, BR1 K (upd H2 t (.tup [mnV (.int x0) (r0.map V.int), mxV (.int x0) (r0.map V.int)])) y b → BR1 K (upd (upd H2 t (.tup [mnV (.int x0) (r0.map V.int), mxV (.int x0) (r0.map V.int)])) L (.lst (zs ++ [.ref t]))) y b := fun y b ⟨p, e, h⟩ => ⟨p, e, sqt_but h (sT _ _ e2L) kb⟩
        refine ⟨_, _, _, _, rfl, same_keep sA nL, upd_same, ?_⟩
        rw [List.take_add_one, eb]
        exact F2.snoc (BR_but _ _ ⟨t, rfl, SqT.of (by rw [upd_same, mnV_int, mxV_int])⟩) (f.imp fun y b h => BR_but y b (by obtain ⟨p, e, h⟩ := h; exact ⟨p, e, sqt_same h (same_trans s2 sT)⟩))
      · rintro σ' H1 ⟨zs, y3, y4, y5, rfl, s1, eL, f⟩
        rw [List.take_of_length_le (by rw [hlm]; show ds.length ≤ xs.length; omega)] at f
        exact ⟨zs, _, _, _, rfl, s1, eL, f⟩
    rintro _ H1 ⟨zs, y3, y4, y5, rfl, s1, eL, f⟩
    refine ⟨_, rfl, L, zs, rfl, .inl ⟨.inl (.inl eL), fun t nt => ?_⟩⟩
    have s2 : Same H1 _ := same_new (o := .tup zs) nt
    exact q _ _ (same_trans s1 s2) ⟨t, zs, rfl, SqT.of upd_same, f.imp fun y b ⟨p, e, h⟩ => ⟨p, e, sqt_same h s2⟩⟩
end
end K2

namespace K2
open PySem L2
/-! ### cells fit their own box and marks -/
theorem mnL_mem : ∀ (xs : List Int) (x : Int), mnL x xs ∈ x :: xs
  | [], x => List.mem_singleton.mpr rfl
  | y :: r, x => by
    show mnL (if y < x then y else x) r ∈ _
    have := mnL_mem r (if y < x then y else x)
    split at this <;> rename_i h
    · rw [if_pos h]; exact List.mem_cons_of_mem _ this
    · rw [if_neg h]
      rcases List.mem_cons.mp this with e | e
      · rw [e]; exact List.mem_cons_self
      · exact List.mem_cons_of_mem _ (List.mem_cons_of_mem _ e)
theorem mxL_mem : ∀ (xs : List Int) (x : Int), mxL x xs ∈ x :: xs
  | [], x => List.mem_singleton.mpr rfl
  | y :: r, x => by
    show mxL (if x < y then y else x) r ∈ _
    have := mxL_mem r (if x < y then y else x)
    split at this <;> rename_i h
    · rw [if_pos h]; exact List.mem_cons_of_mem _ this
    · rw [if_neg h]
      rcases List.mem_cons.mp this with e | e
      · rw [e]; exact List.mem_cons_self
      · exact List.mem_cons_of_mem _ (List.mem_cons_of_mem _ e)
theorem bxk_in {l : List Int} (ne : l ≠ []) : (bxk l).1 ∈ l ∧ (bxk l).2 ∈ l ∧ ∀ y ∈ l, (bxk l).1 ≤ y ∧ y ≤ (bxk l).2 := by
  cases l with
  | nil => exact absurd rfl ne
  | cons x r => exact ⟨mnL_mem r x, mxL_mem r x, fun y hy => ⟨mnL_all r x y hy, mxL_all r x y hy⟩⟩
theorem enM_ok {k : Kd} {xs : List V} (hx : ∀ x ∈ xs, OkV k x) (ne : xs ≠ []) : OkS k (enM xs).s ∧ ∀ x ∈ xs, inS (enM xs).s x := by
  have hk : ∀ y ∈ kn xs, OkE k y := fun y hy => by
    obtain ⟨h1, h2⟩ := List.mem_filter.mp hy
    have hn : y ≠ .non := fun z => by rw [z] at h2; cases h2
    exact (hx y h1).resolve_left hn
  have hm : V.non ∈ xs → decide (0 < (enM xs).n) = true := fun h => by
    have : (kn xs).length < xs.length := List.length_filter_lt_length_iff_exists.mpr ⟨.non, h, by decide⟩
    refine decide_eq_true ?_
    show (0 : Int) < (xs.length : Int) - ((kn xs).length : Int)
    omega
  have hin : ∀ x ∈ xs, x ≠ .non → x ∈ kn xs := fun x h n => List.mem_filter.mpr ⟨h, by rw [decide_eq_false n]; rfl⟩
  cases e : kn xs with
  | nil =>
    have all : ∀ x ∈ xs, x = .non := fun x h => by
      by_cases n : x = .non
      · exact n
      · have := hin x h n
        rw [e] at this
        cases this
    obtain ⟨x0, h0⟩ : ∃ x, x ∈ xs := by
      cases xs with
      | nil => exact absurd rfl ne
      | cons x r => exact ⟨x, List.mem_cons_self⟩
    have h1 := hm (by rw [← all x0 h0]; exact h0)
    have es : (enM xs).s = AM := by
      show (⟨mnD (kn xs), mxD (kn xs), decide (0 < (enM xs).n)⟩ : Spn) = AM
      rw [h1, e]
      rfl
    rw [es]
    exact ⟨.am, fun x h => by rw [all x h]; exact in_am⟩
  | cons y r =>
    rw [e] at hk hin
    have es : (enM xs).s = ⟨mnV y r, mxV y r, decide (0 < (enM xs).n)⟩ := by
      show (⟨mnD (kn xs), mxD (kn xs), decide (0 < (enM xs).n)⟩ : Spn) = _
      rw [e]
      rfl
    have hr : ∀ z ∈ r, OfK k z := fun z hz => (hk z (List.mem_cons_of_mem _ hz)).1
    have hy := (hk y List.mem_cons_self).1
    have ma := hk _ (mnV_mem r y)
    have mb := hk _ (mxV_mem r y)
    rw [es]
    refine ⟨.ends ma mb (leV_trans ma.1 hy mb.1 (mnV_all r y hy hr y List.mem_cons_self) (mxV_all r y hy hr y List.mem_cons_self)), fun x h => ?_⟩
    by_cases n : x = .non
    · subst n
      exact .non (hm h)
    · exact .val n (has_ends ma) (mnV_all r y hy hr x (hin x h n)) (mxV_all r y hy hr x (hin x h n))
theorem cells_fit {ds : List D} {ts : List T} {H : Hp} {kvs : List (List Key × V)} {cs : List Cl} (hC : CA ds ts H kvs cs) (dr : Dr ds ts) (hne : cs ≠ []) : BxFit ds (bxOf ds cs) ∧ MkFit ts (mkOf ts cs) ∧ ∀ c ∈ cs, Fits ds ts c.pl c.ws ∧ InC (bxOf ds cs) (mkOf ts cs) c.pl c.ws := by
  have hlm : (mkOf ts cs).length = ts.length := by unfold mkOf; rw [List.length_map, List.length_range]
  have hlb : (bxOf ds cs).length = ds.length := by unfold bxOf; rw [List.length_map, List.length_range]
  have eb : ∀ i, i < ds.length → (bxOf ds cs)[i]? = some (bxk (cs.map fun c => c.pl.getD i 0)) := fun i hi => by
    unfold bxOf
    rw [List.getElem?_map, List.getElem?_range hi]
    rfl
  have em : ∀ i, i < ts.length → (mkOf ts cs)[i]? = some (enM (cs.map fun c => c.ws.getD i .non)) := fun i hi => by
    unfold mkOf
    rw [List.getElem?_map, List.getElem?_range hi]
    rfl
  have ep : (0 : Int) < 10 ^ 30 - 100 := by decide
  have pls : ∀ i, i < ds.length → ∀ c ∈ cs, ∃ v, c.pl[i]? = some v ∧ c.pl.getD i 0 = v ∧ -5 ≤ v ∧ v ≤ 8 := fun i hi c hc => by
    have hf := (hC.fit c hc).1
    have hiw : i < c.pl.length := by rw [hf.1]; exact hi
    have hb := hf.2 i _ _ (List.getElem?_eq_getElem hi) (List.getElem?_eq_getElem hiw)
    have hd := dr.db _ (List.getElem_mem hi)
    unfold DB at hd
    exact ⟨_, List.getElem?_eq_getElem hiw, by rw [List.getD_eq_getElem?_getD, List.getElem?_eq_getElem hiw]; rfl, by omega, by omega⟩
  have wss : ∀ i, (hi : i < ts.length) → ∃ k, ts[i].k = kdS k ∧ ∀ c ∈ cs, ∃ v, c.ws[i]? = some v ∧ c.ws.getD i .non = v ∧ OkV k v := fun i hi => by
    obtain ⟨k, hk⟩ := dr.kd _ (List.getElem_mem hi)
    refine ⟨k, hk, fun c hc => ?_⟩
    have hf := (hC.fit c hc).2
    have hiw : i < c.ws.length := by rw [hf.1]; exact hi
    obtain ⟨k2, hk2, ho⟩ := hf.2 i _ _ (List.getElem?_eq_getElem hi) (List.getElem?_eq_getElem hiw)
    obtain rfl := kdS_inj (hk.symm.trans hk2)
    exact ⟨_, List.getElem?_eq_getElem hiw, by rw [List.getD_eq_getElem?_getD, List.getElem?_eq_getElem hiw]; rfl, ho⟩
  have nel : ∀ {α : Type} (f : Cl → α), cs.map f ≠ [] := fun f z => hne (List.map_eq_nil_iff.mp z)
  have okx : ∀ i, (hi : i < ts.length) → ∃ k, ts[i].k = kdS k ∧ OkS k (enM (cs.map fun c => c.ws.getD i .non)).s ∧ ∀ x ∈ (cs.map fun c => c.ws.getD i .non), inS (enM (cs.map fun c => c.ws.getD i .non)).s x := fun i hi => by
    obtain ⟨k, hk, h⟩ := wss i hi
    have := enM_ok (k := k) (xs := cs.map fun c => c.ws.getD i .non) (fun x hx => by
      obtain ⟨c, hc, rfl⟩ := List.mem_map.mp hx
      obtain ⟨v, _, e, o⟩ := h c hc
      rw [e]
      exact o) (nel _)
    exact ⟨k, hk, this⟩
  refine ⟨⟨hlb, fun b hb => ?_⟩, ⟨hlm, fun i t c ht hc => ?_⟩, fun c hc => ⟨⟨(hC.fit c hc).1.1, fun v hv => ?_, (hC.fit c hc).2.1, (hC.fit c hc).2.2⟩, ⟨fun i v b hv hb => ?_, fun i v m hv hm => ?_⟩⟩⟩
  · obtain ⟨i, hi⟩ := List.mem_iff_getElem?.mp hb
    have hi2 : i < ds.length := by
      have := (List.getElem?_eq_some_iff.mp hi).1
      rwa [hlb] at this
    rw [eb i hi2] at hi
    have hi := Option.some.inj hi
    obtain ⟨h1, h2, h3⟩ := bxk_in (nel fun c => c.pl.getD i 0)
    rw [← hi]
    obtain ⟨c1, hc1, e1⟩ := List.mem_map.mp h1
    obtain ⟨c2, hc2, e2⟩ := List.mem_map.mp h2
    obtain ⟨v1, _, g1, g2, g3⟩ := pls i hi2 c1 hc1
    obtain ⟨v2, _, g4, g5, g6⟩ := pls i hi2 c2 hc2
    have g1 : c1.pl.getD i 0 = v1 := g1
    have g4 : c2.pl.getD i 0 = v2 := g4
    have e1 : c1.pl.getD i 0 = _ := e1
    have e2 : c2.pl.getD i 0 = _ := e2
    have h4 := h3 _ h2
    refine ⟨⟨by omega, by omega⟩, ⟨by omega, by omega⟩, h4.1⟩
  · have hi : i < ts.length := (List.getElem?_eq_some_iff.mp ht).1
    rw [em i hi] at hc
    have hc := Option.some.inj hc
    rw [List.getElem?_eq_getElem hi] at ht
    have ht := Option.some.inj ht
    obtain ⟨k, hk, ho, _⟩ := okx i hi
    rw [← hc, ← ht]
    exact ⟨k, hk, ho⟩
  · obtain ⟨i, hi⟩ := List.mem_iff_getElem?.mp hv
    have hi2 : i < ds.length := by
      have := (List.getElem?_eq_some_iff.mp hi).1
      rwa [(hC.fit c hc).1.1] at this
    obtain ⟨v2, e2, _, g1, g2⟩ := pls i hi2 c hc
    rw [hi] at e2
    cases e2
    exact ⟨by omega, by omega⟩
  · have hi2 : i < ds.length := by
      have := (List.getElem?_eq_some_iff.mp hb).1
      rwa [hlb] at this
    rw [eb i hi2] at hb
    rw [← Option.some.inj hb]
    obtain ⟨v2, e2, e3, _⟩ := pls i hi2 c hc
    rw [hv] at e2
    cases e2
    exact (bxk_in (nel fun c => c.pl.getD i 0)).2.2 v (List.mem_map.mpr ⟨c, hc, e3⟩)
  · have hi2 : i < ts.length := by
      have := (List.getElem?_eq_some_iff.mp hm).1
      rwa [hlm] at this
    rw [em i hi2] at hm
    rw [← Option.some.inj hm]
    obtain ⟨k, _, h⟩ := wss i hi2
    obtain ⟨v2, e2, e3, _⟩ := h c hc
    rw [hv] at e2
    cases e2
    obtain ⟨_, _, _, hin⟩ := okx i hi2
    exact hin v (List.mem_map.mpr ⟨c, hc, e3⟩)
end K2

namespace K2
open PySem PySem.Spec PyProof.Rows L2
/-! ### for v in d.values(), of a dict with tuple keys -/
section
variable {X : Cx} {pins : List (Addr × Obj)} {σ : L2.St} {H : Hp} {s : Shared} {d : Addr} {o : Obj}
theorem frzTV {kvs : List (List Key × V)} (I : Inv X pins σ H s) (h : H d = some (.frz o (.dT kvs))) :
    (d == sysModules) = false ∧ s.heap.get? d = some o ∧ o.ExactDict ∧ ∃ (es : Array DictEntry) (ep : Nat), o.data = .dict es ep ∧ es.size = kvs.length ∧
      (∀ (i : Nat) (k : List Key) (v : V), kvs[i]? = some (k, v) → ∃ (en : DictEntry), es[i]? = some en ∧ RelV v en.val) ∧ (kvs.map (·.1)).Nodup := by
  obtain ⟨hd, z, hs, xs, pr, o', es, ep, ho, hx, hdt, he, nd⟩ := I.hok d _ h
  rw [hd] at ho
  cases ho
  refine ⟨hs, hd, hx, es, ep, hdt, ?_, fun i k v e => ?_, ?_⟩
  · have l1 : es.size = xs.length := size_of_entries he
    have l2 : kvs.length = xs.length := Paired.length pr
    omega
  · obtain ⟨b, hb, e1, e2, e3⟩ := L2.paired_get pr e
    have q := entry_at he i
    rw [hb] at q
    exact ⟨_, q, e3⟩
  · have : kvs.map (·.1) = xs.map (·.1) := by
      clear he nd hdt hx hd h z
      induction pr with
      | nil => rfl
      | cons h _ ih => exact congr (congrArg List.cons h.1) ih
    rw [this]
    exact nd
end
def Itdt (d : Addr) (o : Obj) (kvs : List (List Key × V)) : It :=
  ⟨fun i H => H d = some (.frz o (.dT kvs)) ∧ i < kvs.length, fun i H x H' => H' = H ∧ (∃ k, kvs[i]? = some (k, x)) ∧ (kvs.map (·.1)).Nodup, fun i H => H d = some (.frz o (.dT kvs)) ∧ kvs.length ≤ i⟩
theorem walk_valsT {d : Addr} {o : Obj} {kvs : List (List Key × V)} : Walk (Itdt d o kvs) kvs.length (fun H => H d = some (.frz o (.dT kvs))) (fun i H x H' => H' = H ∧ (∃ k, kvs[i]? = some (k, x)) ∧ (kvs.map (·.1)).Nodup) :=
  ⟨fun i H h g => ⟨g, h⟩, fun H g => ⟨g, Nat.le_refl _⟩, fun i H x H' _ _ y => y⟩
section
variable {P : Program} {w : World} {K : PySem.W.Frag} {tg : Expr} {d : Addr} {o : Obj} {es : Array DictEntry} {ep : Nat}
theorem turn_valsT {kvs : List (List Key × V)} (it : Addr) (hod : o.data = .dict es ep) : Turn P w K tg (Itdt d o kvs) [it] it (fun i h => h.IsValIter it d i kvs.length ep) where
  mem := by simp
  obj := fun i h st b hb => by
    have e : b = it := by simpa using hb
    subst e
    obtain ⟨oi, e, c, dd⟩ := st
    exact ⟨oi, e, fun v z => by rw [dd] at z; cases z⟩
  keep := fun i h h' st k => st.at fun oi e => k it (by simp) oi e
  item := by
    intro X hP hw hK hc i pins s σ H E I hf st hg
    subst hP hw hK
    obtain ⟨hd, hi⟩ := hg
    obtain ⟨f0, f1, f2, f3, f4, f5⟩ := hf it (by simp)
    obtain ⟨hs, hgd, hx, es', ep', hdt, hsz, ent, ndp⟩ := frzTV I hd
    obtain ⟨rfl, rfl⟩ := dict_ep hod hdt
    obtain ⟨⟨k, v⟩, hkv⟩ : ∃ p, kvs[i]? = some p := ⟨kvs[i], List.getElem?_eq_getElem hi⟩
    obtain ⟨en, hen, ru⟩ := ent i k v hkv
    have hi2 : i < es'.size := by omega
    have een : es'[i] = en := by
      rw [Array.getElem?_eq_getElem hi2] at hen
      exact Option.some.inj hen
    rw [← hsz] at st
    refine wpAny_pyNext_values_item_raw st ⟨o, hgd, hx, hdt⟩ hi2 fun h' st' sb => ?_
    have I1 : Inv X pins σ H { s with heap := h' } := I.turned (t' := s.toks) (fun b ob hb e => (sb.2 b hb).trans e) f0 f1 f3 f4 f5
    obtain ⟨oi, e, c, dd⟩ := id st'
    rw [een]
    refine ⟨en.val, rfl, go_of (s := { s with heap := h' }) e c dd (by decide) ⟨v, H, I1, ru, ⟨rfl, ⟨k, hkv⟩, ndp⟩, ?_, fun b hb => (hf b hb).1⟩⟩
    show h'.IsValIter it d (i + 1) kvs.length _
    rw [← hsz]
    exact st'
  done := by
    intro X hP hw hK hc i pins s σ H E I hf st hg
    subst hP hw hK
    obtain ⟨hd, hi⟩ := hg
    obtain ⟨f0, f1, f2, f3, f4, f5⟩ := hf it (by simp)
    obtain ⟨hs, hgd, hx, es', ep', hdt, hsz, ent, ndp⟩ := frzTV I hd
    obtain ⟨rfl, rfl⟩ := dict_ep hod hdt
    rw [← hsz] at st
    exact wpAny_pyNext_values_end_raw (I.ok.hd hc) st ⟨o, hgd, hx, hdt⟩ (by omega) fun h' eb => ⟨rfl, I.turned (t' := s.toks) (fun b ob hb e => eb b ob hb e) f0 f1 f3 f4 f5⟩
  self := fun A i s Q E st h => wpAny_pyIter_valiter st h
end
section
variable {X : Cx} {tg e : Expr} {td : TE} {apos cpos : Pos}
def iValsT (td : TE) : TI := fun σ H R => td σ H fun x H1 => ∃ d o kvs, x = .ref d ∧ H1 d = some (.frz o (.dT kvs)) ∧ R (Itdt d o kvs) H1
theorem pi_valuesT (he : PE X e td) (hbase : attributeBase e "values" X.env (eval e X.env) = eval e X.env := by rfl) (hline : (apos.endLine == cpos.line) = true := by rfl) : PI X tg (.Call (.Attribute e "values" apos) [] [] cpos) (iValsT td) := by
  refine ⟨fun pins s σ H R I h => ?_⟩
  refine wpAny_Call_method (T := "dict") (id := "dict.values") hbase rfl hline F.plainAttrs_dict F.slot_dict_values F.type_dict_values (thn (he.run pins s σ H _ I h) fun u s1 ⟨x, H1, I1, rx, d, o, kvs, ex, hd, q⟩ => ?_)
  subst ex
  obtain rfl : u = Value.ref d := rx
  obtain ⟨hs, hgd, hx, es, ep, hdt, hsz, ent, ndp⟩ := frzTV I1 hd
  have hm : s1.heap.DictRaw d es ep := ⟨o, hgd, hx, hdt⟩
  refine ⟨hm.typeIs, fun b e => ?_, ?_⟩
  · cases e
    exact ⟨o, hgd, hx.2.1⟩
  have I2 : Inv X pins σ H1 { s1 with heap := s1.heap.push { cls := .type "dict_values", data := .fields #[.ref d] } } := I1.kept (t' := s1.toks) fun b ob q => Heap.get?_push_of_some _ q
  have fin : wpAny (model X.prog X.w) X.A (pyIter (.ref s1.heap.objs.size)) (PIE X pins σ tg R) X.xe { s1 with heap := s1.heap.push { cls := .type "dict_values", data := .fields #[.ref d] } } := by
    refine wpAny_pyIter_values_raw (d := d) ⟨_, Heap.get?_push_size _ rfl, rfl, rfl⟩ (hm.at fun o q => Heap.get?_push_of_some _ q) (pi_one (tk := s1.toks) I2 _ (turn_valsT _ hdt) ⟨_, Heap.get?_push_size _ rfl, rfl, ?_⟩ q)
    rw [hsz] <;> rfl
  show wpAny _ _ (callWith cpos (.builtin "dict.values") [.ref d] [] []) _ X.xe s1
  exact method_meetsIn F.slot_dict_values F.entry_dict_values rfl (PySem.evalArgs_none ⟨rfl, hm.typeIs, F.args_dict_values_1 _, _, meets_dict_values_raw d hs, ⟨es, ep, hm⟩, fin⟩)
end
theorem valV_nodup {κ : Type} [DecidableEq κ] : ∀ {kvs : List (κ × V)} {i : Nat} {k : κ} {v : V}, (kvs.map (·.1)).Nodup → kvs[i]? = some (k, v) → valV kvs k = some v
  | [], _, _, _, _, h => by simp at h
  | p :: r, 0, _, _, _, h => by cases h; exact valV_pos rfl
  | p :: r, i + 1, k, v, n, h => by
    rw [List.map_cons, List.nodup_cons] at n
    have hm : (k, v) ∈ r := List.mem_of_getElem? (show r[i]? = some (k, v) from h)
    rw [valV_neg (fun e => n.1 (by rw [e]; exact List.mem_map.mpr ⟨_, hm, rfl⟩))]
    exact valV_nodup (i := i) n.2 h
end K2

namespace K2
open PySem PySem.Spec PyProof.Rows L2
open PySem.W (rcLt_alike rcGt_alike dataLt)
/-! ### min(a, b), max(a, b) of two values of one kind -/
section
variable {prog : Program} {w : World} {A : Around} {E : Value → Shared → Prop} {s : Shared} {k : Kd} {x y : V} {u v : Value}
def v2 (x y : V) (i : Nat) : V := if i = 0 then x else y
theorem v2_k (hx : OfK k x) (hy : OfK k y) (i : Nat) : OfK k (v2 x y i) := by unfold v2; split <;> assumption
theorem v2_r (rx : RelV x u) (ry : RelV y v) {i : Nat} {z : Value} (h : (#[u, v] : Array Value)[i]? = some z) : RelV (v2 x y i) z := by
  match i, h with
  | 0, h => cases h; exact rx
  | 1, h => cases h; exact ry
  | i + 2, h => simp at h
theorem rd_lt {a b : V} (ha : OfK k a) (hb : OfK k b) {p q : Value} (rp : RelV a p) (rq : RelV b q) (hu : A.units + 64 < cLine) {Q : Value → Shared → Prop} (h : Q (.bool (ltV a b)) s) : wpAny (model prog w) A (richCompare .Lt p q) Q E s := by
  have al := alike_v (k := k) (xs := [a, b]) (List.forall_mem_cons.mpr ⟨ha, List.forall_mem_cons.mpr ⟨hb, fun _ h => absurd h List.not_mem_nil⟩⟩)
  have hd := depth_v (xs := [a, b])
  refine rcLt_alike _ _ A s p q _ _ (rd_v (h := s.heap) ha rp) (rd_v (h := s.heap) hb rq) (al.1 _ (by simp) _ (by simp)) (al.2 _ (by simp)) ?_ prog w E Q (by rw [lt_pd ha hb]; exact h)
  have h1 : PyData.depth (pdV a) ≤ 1 := by cases a <;> simp [pdV, PyData.depth]
  have := Nat.min_le_left (pdV a).depth (pdV b).depth
  omega
theorem rd_gt {a b : V} (ha : OfK k a) (hb : OfK k b) {p q : Value} (rp : RelV a p) (rq : RelV b q) (hu : A.units + 64 < cLine) {Q : Value → Shared → Prop} (h : Q (.bool (ltV b a)) s) : wpAny (model prog w) A (richCompare .Gt p q) Q E s := by
  have al := alike_v (k := k) (xs := [a, b]) (List.forall_mem_cons.mpr ⟨ha, List.forall_mem_cons.mpr ⟨hb, fun _ h => absurd h List.not_mem_nil⟩⟩)
  have hd := depth_v (xs := [a, b])
  refine rcGt_alike _ _ A s p q _ _ (rd_v (h := s.heap) ha rp) (rd_v (h := s.heap) hb rq) (al.1 _ (by simp) _ (by simp)) (al.2 _ (by simp)) ?_ prog w E Q (by rw [lt_pd hb ha]; exact h)
  have h1 : PyData.depth (pdV a) ≤ 1 := by cases a <;> simp [pdV, PyData.depth]
  have := Nat.min_le_left (pdV a).depth (pdV b).depth
  omega
theorem min2_kind {Q : Value → Shared → Prop} (hh : A.handled = none) (hu : A.units + 70 < cLine) (hx : OfK k x) (hy : OfK k y) (rx : RelV x u) (ry : RelV y v)
    (h : ∀ h' tk, (∀ c o, s.heap.get? c = some o → h'.get? c = some o) → Q (if ltV y x = true then v else u) { s with heap := h', toks := tk }) : wpAny (model prog w) A (call (.builtin "min") [u, v]) Q E s := by
  have hT : (s.heap.push { cls := .type "tuple", data := .seq #[u, v] }).IsTuple s.heap.objs.size #[u, v] := ⟨_, Heap.get?_push_size _ rfl, rfl, 0, rfl⟩
  refine call_min_two (wpAny_pyIter_tuple hT ?_)
  have hsz : (s.heap.push { cls := .type "tuple", data := .seq #[u, v] }).objs.size = s.heap.objs.size + 1 := Heap.size_push ..
  have cmp : CmpOf prog w A.in1 .Lt (fun i z => (#[u, v] : Array Value)[i]? = some z) (fun i j => ltV (v2 x y i) (v2 x y j)) := fun i j vi vj s' Q E hi hj hq =>
    rd_lt (v2_k hx hy i) (v2_k hx hy j) (v2_r rx ry hi) (v2_r rx ry hj) (by show A.units + 1 + 64 < cLine; omega) hq
  refine ⟨_, [_, s.heap.objs.size], [_], _, _, _, _, rfl, Walks.tuple (A := A.in1) hh _ s.heap.objs.size (by rw [hsz]; exact Nat.ne_of_lt (Nat.lt_succ_self _)) #[u, v],
    ⟨⟨_, Heap.get?_push_size _ rfl, rfl, rfl⟩, hT.push _⟩, fun c hc => ?_, by simp, cmp, fun z h' tk hP hk => ?_⟩
  · show c < ((s.heap.push _).push _).objs.size
    rw [Heap.size_push, hsz]
    rcases List.mem_cons.mp hc with rfl | hc
    · rw [hsz]; exact Nat.lt_succ_self _
    · rcases List.mem_cons.mp hc with rfl | hc
      · exact Nat.lt_succ_of_lt (Nat.lt_succ_self _)
      · cases hc
  · have hold : ∀ c o, s.heap.get? c = some o → h'.get? c = some o := fun c o e => by
      refine hk c o (fun hm => ?_) (Heap.get?_push_of_some _ (Heap.get?_push_of_some _ e))
      rcases List.mem_cons.mp hm with e1 | hm
      · have := Heap.lt_size e; rw [e1, hsz] at this; exact Nat.lt_irrefl _ (Nat.lt_of_succ_lt this)
      · cases hm
    have := h h' tk hold
    have hP : (#[u, v] : Array Value)[argBest (fun i j => ltV (v2 x y i) (v2 x y j)) 1]? = some z := hP
    have e1 : argBest (fun i j => ltV (v2 x y i) (v2 x y j)) 1 = if ltV y x = true then 1 else 0 := rfl
    rw [e1] at hP
    have hv : z = if ltV y x = true then v else u := by
      by_cases c : ltV y x = true
      · rw [if_pos c] at hP ⊢; cases hP; rfl
      · rw [if_neg c] at hP ⊢; cases hP; rfl
    rw [hv]
    exact this
theorem max2_kind {Q : Value → Shared → Prop} (hh : A.handled = none) (hu : A.units + 70 < cLine) (hx : OfK k x) (hy : OfK k y) (rx : RelV x u) (ry : RelV y v)
    (h : ∀ h' tk, (∀ c o, s.heap.get? c = some o → h'.get? c = some o) → Q (if ltV x y = true then v else u) { s with heap := h', toks := tk }) : wpAny (model prog w) A (call (.builtin "max") [u, v]) Q E s := by
  have hT : (s.heap.push { cls := .type "tuple", data := .seq #[u, v] }).IsTuple s.heap.objs.size #[u, v] := ⟨_, Heap.get?_push_size _ rfl, rfl, 0, rfl⟩
  refine call_max_two (wpAny_pyIter_tuple hT ?_)
  have hsz : (s.heap.push { cls := .type "tuple", data := .seq #[u, v] }).objs.size = s.heap.objs.size + 1 := Heap.size_push ..
  have cmp : CmpOf prog w A.in1 .Gt (fun i z => (#[u, v] : Array Value)[i]? = some z) (fun i j => ltV (v2 x y j) (v2 x y i)) := fun i j vi vj s' Q E hi hj hq =>
    rd_gt (v2_k hx hy i) (v2_k hx hy j) (v2_r rx ry hi) (v2_r rx ry hj) (by show A.units + 1 + 64 < cLine; omega) hq
  refine ⟨_, [_, s.heap.objs.size], [_], _, _, _, _, rfl, Walks.tuple (A := A.in1) hh _ s.heap.objs.size (by rw [hsz]; exact Nat.ne_of_lt (Nat.lt_succ_self _)) #[u, v],
    ⟨⟨_, Heap.get?_push_size _ rfl, rfl, rfl⟩, hT.push _⟩, fun c hc => ?_, by simp, cmp, fun z h' tk hP hk => ?_⟩
  · show c < ((s.heap.push _).push _).objs.size
    rw [Heap.size_push, hsz]
    rcases List.mem_cons.mp hc with rfl | hc
    · rw [hsz]; exact Nat.lt_succ_self _
    · rcases List.mem_cons.mp hc with rfl | hc
      · exact Nat.lt_succ_of_lt (Nat.lt_succ_self _)
      · cases hc
  · have hold : ∀ c o, s.heap.get? c = some o → h'.get? c = some o := fun c o e => by
      refine hk c o (fun hm => ?_) (Heap.get?_push_of_some _ (Heap.get?_push_of_some _ e))
      rcases List.mem_cons.mp hm with e1 | hm
      · have := Heap.lt_size e; rw [e1, hsz] at this; exact Nat.lt_irrefl _ (Nat.lt_of_succ_lt this)
      · cases hm
    have := h h' tk hold
    have hP : (#[u, v] : Array Value)[argBest (fun i j => ltV (v2 x y j) (v2 x y i)) 1]? = some z := hP
    have e1 : argBest (fun i j => ltV (v2 x y j) (v2 x y i)) 1 = if ltV x y = true then 1 else 0 := rfl
    rw [e1] at hP
    have hv : z = if ltV x y = true then v else u := by
      by_cases c : ltV x y = true
      · rw [if_pos c] at hP ⊢; cases hP; rfl
      · rw [if_neg c] at hP ⊢; cases hP; rfl
    rw [hv]
    exact this
end
section
variable {X : Cx}
theorem call_min2V (hc : X.calm = true) (hu : X.A.units + 70 < cLine) : CallR X (.builtin "min") (fun xs H Q => ∃ k x y, xs = [x, y] ∧ OfK k x ∧ OfK k y ∧ Q (if ltV y x = true then y else x) H) := by
  intro pins s σ H xs us Q I r h
  obtain ⟨k, x, y, rfl, hx, hy, q⟩ := h
  obtain ⟨u, v, rfl, rx, ry⟩ := vals2 r
  refine min2_kind (I.ok.hd hc) hu hx hy rx ry fun h' tk hk => ⟨_, H, I.kept hk, ?_, q⟩
  split <;> assumption
theorem call_max2V (hc : X.calm = true) (hu : X.A.units + 70 < cLine) : CallR X (.builtin "max") (fun xs H Q => ∃ k x y, xs = [x, y] ∧ OfK k x ∧ OfK k y ∧ Q (if ltV x y = true then y else x) H) := by
  intro pins s σ H xs us Q I r h
  obtain ⟨k, x, y, rfl, hx, hy, q⟩ := h
  obtain ⟨u, v, rfl, rx, ry⟩ := vals2 r
  refine max2_kind (I.ok.hd hc) hu hx hy rx ry fun h' tk hk => ⟨_, H, I.kept hk, ?_, q⟩
  split <;> assumption
end
end K2

namespace K2
open PySem L2
def spFits (K : PySem.W.Frag) : Sp := fun vs H Q _ => ∃ (v z : V) (c : Mk) (k : Kd), vs = [v, z] ∧ MkR1 K H z c ∧ OkS k c.s ∧ OkV k v ∧ inS c.s v ∧ ∀ H', Same H H' → Q (.bl true) H'
def spKeeps (K : PySem.W.Frag) (C : Addr) : Sp := fun vs H Q _ => ∃ (s da : Addr) (y : V) (ds : List D) (ts : List T) (kvs : List (List Key × V)) (cs : List Cl) (mk : List Mk), vs = [.ref s, .ref da, y] ∧ ShapeAt H C s ds ts ∧ GoodK ds ts ∧ H da = some (.dT kvs) ∧ CA ds ts H kvs cs ∧ cs.length ≤ 900 ∧ MkAt K H y mk ∧ MkFit ts mk ∧ (∀ c ∈ cs, ∀ (i : Nat) (v : V) (m : Mk), c.ws[i]? = some v → mk[i]? = some m → inS m.s v) ∧ ∀ H', Same H H' → Q (.bl true) H'
theorem ShapeAt.lock {H : Hp} {C a da : Addr} {ds : List D} {ts : List T} {kvs : List (List Key × V)} {x : HO} (h : ShapeAt H C a ds ts) (hd : H da = some (.dT kvs)) : ShapeAt (upd H da x) C a ds ts := by
  obtain ⟨dx, td, ta, xs, ys, h1, h2, h3, h4, h5⟩ := h
  have kt : ∀ b r, H b = some (.tup r) → (upd H da x) b = some (.tup r) := fun b r e => by
    rw [upd_ne (fun z => by rw [z, hd] at e; cases e)]
    exact e
  exact ⟨dx, td, ta, xs, ys, by rw [upd_ne (fun z => by rw [z, hd] at h1; cases h1)]; exact h1, kt _ _ h2, h3.keep kt, kt _ _ h4, h5.keep kt⟩
theorem sqt_kt {K : PySem.W.Frag} {H H' : Hp} {p : Addr} {xs : List V} (h : SqT K H p xs) (k : ∀ a o, H a = some o → (∀ kvs, o ≠ .dT kvs) → H' a = some o) : SqT K H' p xs := by
  rcases h with (h | ⟨o, h⟩) | h
  · exact .inl (.inl (k _ _ h (fun _ z => nomatch z)))
  · exact .inl (.inr ⟨o, k _ _ h (fun _ z => nomatch z)⟩)
  · exact .inr h
theorem MkAt.kt {K : PySem.W.Frag} {H H' : Hp} {x : V} {mk : List Mk} (h : MkAt K H x mk) (k : ∀ a o, H a = some o → (∀ kvs, o ≠ .dT kvs) → H' a = some o) : MkAt K H' x mk := by
  obtain ⟨p, q, n, xs, e, h1, h2, h3⟩ := h
  exact ⟨p, q, n, xs, e, sqt_kt h1 k, sqt_kt h2 k, h3.imp fun _ _ ⟨q, e, h⟩ => ⟨q, e, sqt_kt h k⟩⟩
section
variable {P : Program} {w : World} {K : PySem.W.Frag} {mg : Str → Option Value} {base : Heap}
theorem sc_fits : FnScope ["value", "entry", "missing", "least", "greatest"] ["value", "entry"] (defScope sFits) := ⟨rfl, rfl, rfl, by decide +kernel, rfl, by decide +kernel, by decide +kernel⟩
theorem ok_fits {f : Addr} {fd : FuncData} {fB : Addr} {fdB : FuncData} (F : Fun K "fits" "fits" sFits f fd) (GB : FnOk P w K mg base CX0 2 fB fdB ["least", "value", "greatest"] spBtw) (kB : PySem.W.keepIn K (.ref fB) = true) (bB : Binds K fdB ["least", "value", "greatest"] []) (gB : mg "is_between" = some (.ref fB)) : FnOk P w K mg base CX0 3 f fd ["value", "entry"] (spFits K) := by
  refine F.ok sc_fits (fun vs H Q E h => ?_) (fun cdv A outer s0 H vs Q E hr h => ?_)
  · obtain ⟨v, z, c, k, rfl, ⟨qa, rfl, hq⟩, ho, hv, hi, q⟩ := h
    rfl
  · obtain ⟨v, z, c, k, rfl, ⟨qa, rfl, hq⟩, ho, hv, hi, q⟩ := h
    refine ⟨_, (pss_cons (ps_asg (pv 1) (pg_tup (by rfl) (pgs_cons (pg_name (i := 2) sc_fits.nd rfl (.inl rfl)) (pgs_cons (pg_name (i := 3) sc_fits.nd rfl (.inl rfl)) (pgs_cons (pg_name (i := 4) sc_fits.nd rfl (.inl rfl)) pgs_nil)))))
      (pss_cons (ps_if (pt_cmpR op_isN (pv 0) pe_non (nomark _)) (pss_one (ps_ret (pe_cmpR op_gt (pv 2) pe_int (nomark _)))) pss_nil)
      (pss_one (ps_ret (pe_and (pe_cmpR op_notN (pv 3) pe_non (nomark _)) (pe_one (pe_call GB (hr.mono (by decide)) (by rfl) gB kB bB .nil pass0 (pa_cons (pv 3) (pa_cons (pv 0) (pa_cons (pv 4) pa_nil)))))))))), ?_⟩
    refine ⟨_, rfl, qa, _, rfl, hq, rfl, _, _, rfl, _, _, rfl, _, _, rfl, rfl, ?_⟩
    refine ⟨_, rfl, rfl, _, rfl, ?_⟩
    by_cases hn : v = .non
    · have hm : decide (0 < c.n) = true := hi.1 hn
      refine iteB (decide_eq_true hn) ⟨_, rfl, _, _, rfl, rfl, (show Q (.bl (decide (0 < c.n))) H by rw [hm]; exact q H same_refl)⟩
    · obtain ⟨h1, h2, h3⟩ := hi.2 hn
      obtain ⟨oa, ob', _⟩ := ho.ends_of h1
      have oa : OkE k c.a := oa
      have ob' : OkE k c.b := ob'
      have hoe := hv.resolve_left hn
      refine iteBF (decide_eq_false hn) ⟨_, rfl, rfl, _, rfl, ?_⟩
      rw [decide_eq_false oa.ne]
      refine iteT ⟨_, rfl, _, rfl, _, rfl, _, _, _, rfl, ⟨k, hoe.1, oa.1⟩, ⟨k, ob'.1, hoe.1⟩, (show Q (.bl (!ltV v c.a && !ltV c.b v)) H by rw [show ltV v c.a = false from h2, show ltV c.b v = false from h3]; exact q H same_refl)⟩
theorem sc_keeps : FnScope ["shape", "cells", "marks", "values", "index"] ["shape", "cells", "marks"] (defScope sKeepsTo) := ⟨rfl, rfl, rfl, by decide +kernel, rfl, by decide +kernel, by decide +kernel⟩
theorem ok_keeps {f : Addr} {fd : FuncData} {C fI fQ : Addr} {fF : Addr} {fdF : FuncData} (F : Fun K "keeps_to" "keeps_to" sKeepsTo f fd) (M : Nm mg) (SHC : ShC K C fI fQ) (GF : FnOk P w K mg base CX0 3 fF fdF ["value", "entry"] (spFits K)) (kF : PySem.W.keepIn K (.ref fF) = true) (bF : Binds K fdF ["value", "entry"] []) (gF : mg "fits" = some (.ref fF)) : FnOk P w K mg base CX0 4 f fd ["shape", "cells", "marks"] (spKeeps K C) := by
  refine F.ok sc_keeps (fun vs H Q E h => ?_) (fun cdv A outer s0 H vs Q E hr h => ?_)
  · obtain ⟨s, da, y, ds, ts, kvs, cs, mk, rfl, hS, gk, hD, hC, hl, hM, fm, hin, q⟩ := h
    rfl
  · obtain ⟨s, da, y, ds, ts, kvs, cs, mk, rfl, hS, gk, hD, hC, hl, hM, fm, hin, q⟩ := h
    refine ⟨_, (Evl.pss_cut (ps_lock (ps_for PassesOwn.never rfl (pi_valuesT (pv 1)) (pg_name (i := 3) sc_keeps.nd rfl (.inl rfl)) (pss_one (ps_for PassesOwn.never rfl (pi_range1 (by rfl) M.range (pa_cons (pe_callB call_len_seq (by rfl) M.len PySem.boot_len (pa_cons (pe_fld (pv 0) rfl) pa_nil)) pa_nil)) (pg_name (i := 4) sc_keeps.nd rfl (.inl rfl)) (pss_one (ps_if (pt_not (pt_val (pe_call GF (hr.mono (by decide)) (by rfl) gF kF bF .nil pass0 (pa_cons (pe_ix ix_tup (pv 3) (pv 4) (fun _ _ => rfl)) (pa_cons (pe_ix ix_tup (pe_ix ix_tup (pv 2) pe_int (fun _ _ => rfl)) (pv 4) (fun _ _ => rfl)) pa_nil))))) (pss_one (ps_ret pe_bl)) pss_nil))))))
      (pss_one (ps_ret pe_bl))), ?_⟩
    refine ⟨fun σ' H' => ∃ y3 y4, σ' = [some (.ref s), some (.ref da), some y, y3, y4] ∧ Same H H', ?_, ?_⟩
    · refine ⟨da, _, hD, trivial, fun od => ?_⟩
      have kt : ∀ b o, H b = some o → (∀ kvs, o ≠ .dT kvs) → (upd H da (.frz od (.dT kvs))) b = some o := fun b o e1 n => by
        rw [upd_ne (fun z => by rw [z, hD] at e1; exact n _ (Option.some.inj e1).symm)]
        exact e1
      have ktt : ∀ b r, H b = some (.tup r) → (upd H da (.frz od (.dT kvs))) b = some (.tup r) := fun b r e1 => kt _ _ e1 (fun _ z => nomatch z)
      have hCl : CA ds ts (upd H da (.frz od (.dT kvs))) kvs cs := hC.keep ktt
      have shl : ShapeAt (upd H da (.frz od (.dT kvs))) C s ds ts := hS.lock hD
      have mkl : MkAt K (upd H da (.frz od (.dT kvs))) y mk := hM.kt kt
      have hdl : (upd H da (.frz od (.dT kvs))) da = some (.frz od (.dT kvs)) := upd_same
      obtain ⟨pm, qm, n0, zs, rfl, m1, m2, m3⟩ := mkl
      refine ⟨_, rfl, da, od, kvs, rfl, upd_same, for_it walk_valsT (fun j σ H' => ∃ y3 y4, σ = [some (.ref s), some (.ref da), some (.ref pm), y3, y4] ∧ Same (upd H da (.frz od (.dT kvs))) H') ⟨_, _, rfl, same_refl⟩ ?_ ?_ ?_⟩
      · rintro j σ H' hj ⟨y3, y4, rfl, s1⟩
        exact s1 _ _ hdl
      · rintro j x σ H' H1 hj ⟨y3, y4, rfl, s1⟩ ⟨rfl, ⟨kk, hk⟩, nd⟩
        have hjc : j < cs.length := by rw [← hC.len]; exact hj
        have hcm : cs[j] ∈ cs := List.getElem_mem hjc
        obtain ⟨v2, hv2⟩ := hC.ky j _ (List.getElem?_eq_getElem hjc)
        rw [hk] at hv2
        cases hv2
        have e3 := valV_nodup nd hk
        rw [(hC.gt _ hcm).1] at e3
        cases e3
        have hva := (hCl.gt _ hcm).2
        have hfit := (hC.fit _ hcm).2
        obtain ⟨dx, td, ta, xs, ys, h1, h2, h3, h4, h5⟩ := shl.same s1
        have hly : ys.length = ts.length := by rw [h5.1, List.length_map]
        refine ⟨_, rfl, s, C, dx, _, .ref ta, rfl, h1, SHC.cl, SHC.nA, rfl, ta, ys, rfl, .inr (SqT.of h4), _, rfl, by omega, by have := gk.2.1; omega, ?_⟩
        refine for_range (lo := 0) (n := ((ys.length : Int)).toNat) (fun i σ H' => ∃ y4, σ = [some (.ref s), some (.ref da), some (.ref pm), some (.ref (cs[j]).va), y4] ∧ Same (upd H da (.frz od (.dT kvs))) H') ⟨_, rfl, s1⟩ ?_ ?_
        · rintro i σ H2 hi ⟨y4, rfl, s2⟩
          have hi : i < ys.length := hi
          have hit : i < ts.length := by omega
          have hiw : i < (cs[j]).ws.length := by rw [hfit.1]; exact hit
          have him : i < mk.length := by rw [fm.1]; exact hit
          obtain ⟨zi, ez, qz, rfl, hqz⟩ := m3.at (List.getElem?_eq_getElem him)
          obtain ⟨k, hk1, hos⟩ := fm.2 i _ _ (List.getElem?_eq_getElem hit) (List.getElem?_eq_getElem him)
          obtain ⟨k2, hk2, hov⟩ := hfit.2 i _ _ (List.getElem?_eq_getElem hit) (List.getElem?_eq_getElem hiw)
          obtain rfl := kdS_inj (hk1.symm.trans hk2)
          refine ⟨_, rfl, _, rfl, (cs[j]).va, _, _, _, rfl, rfl, SqT.of (s2 _ _ hva), by rw [Int.zero_add]; exact atI_nat (List.getElem?_eq_getElem hiw), _, rfl, pm, _, 1, .ref qm, rfl, rfl, sqt_same m1 s2, rfl, _, rfl, qm, zs, _, _, rfl, rfl, sqt_same m2 s2, by rw [Int.zero_add]; exact atI_nat ez, ?_⟩
          exact ⟨_, _, _, k, rfl, ⟨qz, rfl, sqt_same hqz s2⟩, hos, hov, hin _ hcm i _ _ (List.getElem?_eq_getElem hiw) (List.getElem?_eq_getElem him), fun H3 s3 => ⟨_, rfl, iteBF rfl ⟨_, rfl, same_trans s2 s3⟩⟩⟩
        · rintro σ H2 ⟨y4, rfl, s2⟩
          exact ⟨_, _, rfl, s2⟩
      · rintro σ H1 ⟨y3, y4, rfl, s1⟩
        exact ⟨s1 _ _ hdl, _, _, rfl, same_lock hD s1⟩
    rintro _ H1 ⟨y3, y4, rfl, s1⟩
    exact q _ s1
end
end K2

namespace K2
open PySem L2
theorem Room.units70 {k : Nat} {A : Around} (r : Room k A) : A.units + 70 < cLine := by have := r.un; omega
def Wd (m m' : Mk) : Prop := ∀ (k : Kd) (v : V), OkS k m.s → OkV k v → inS m.s v → inS m'.s v
def wid (ch : Int) (m : Mk) (o : V) : Mk :=
  if ch = 1 then ⟨m.n + 1, m.a, m.b⟩ else if ch = 2 then (if m.a = .non then ⟨m.n, o, o⟩ else ⟨m.n, if ltV o m.a = true then o else m.a, if ltV m.b o = true then o else m.b⟩) else m
theorem wid_ok {k : Kd} {m : Mk} {o : V} (ch : Int) (hs : OkS k m.s) (ho : OkE k o) : OkS k (wid ch m o).s ∧ Wd m (wid ch m o) := by
  unfold wid
  by_cases c1 : ch = 1
  · rw [if_pos c1]
    constructor
    · obtain ⟨n, a, b⟩ := m
      have hs : OkS k ⟨a, b, decide (0 < n)⟩ := hs
      generalize e : (⟨a, b, decide (0 < n)⟩ : Spn) = sp at hs
      cases hs with
      | am =>
        injection e with e1 e2 e3
        subst e1 e2
        have : 0 < n := of_decide_eq_true e3
        show OkS k ⟨.non, .non, decide (0 < n + 1)⟩
        rw [decide_eq_true (show 0 < n + 1 by omega)]
        exact .am
      | ends h1 h2 h3 =>
        injection e with e1 e2 e3
        subst e1 e2
        exact .ends h1 h2 h3
    · intro k2 v h1 h2 h3
      refine ⟨fun z => ?_, fun z => h3.2 z⟩
      have : 0 < m.n := of_decide_eq_true (h3.1 z)
      exact decide_eq_true (by show 0 < m.n + 1; omega)
  · rw [if_neg c1]
    by_cases c2 : ch = 2
    · rw [if_pos c2]
      by_cases c3 : m.a = .non
      · rw [if_pos c3]
        refine ⟨.ends ho ho (ltV_irr ho.1), fun k2 v h1 h2 h3 => ⟨fun z => h3.1 z, fun z => ?_⟩⟩
        have := (h3.2 z).1
        have e : has m.s = false := by unfold has; rw [show m.s.a = .non from c3, decide_eq_true rfl]; rfl
        rw [e] at this
        cases this
      · rw [if_neg c3]
        have hh : has m.s = true := by unfold has; rw [decide_eq_false (show ¬ m.s.a = .non from c3)]; rfl
        obtain ⟨oa, ob', hl⟩ := hs.ends_of hh
        have oa : OkE k m.a := oa
        have ob' : OkE k m.b := ob'
        have hl : ltV m.b m.a = false := hl
        have a1 : OkE k (if ltV o m.a = true then o else m.a) := by split <;> assumption
        have b1 : OkE k (if ltV m.b o = true then o else m.b) := by split <;> assumption
        have a2 : ltV m.a (if ltV o m.a = true then o else m.a) = false := by
          split
          · rename_i c; exact ltV_asym ho.1 oa.1 c
          · exact ltV_irr oa.1
        have b2 : ltV (if ltV m.b o = true then o else m.b) m.b = false := by
          split
          · rename_i c; exact ltV_asym ob'.1 ho.1 c
          · exact ltV_irr ob'.1
        refine ⟨.ends a1 b1 (leV_trans a1.1 oa.1 b1.1 a2 (leV_trans oa.1 ob'.1 b1.1 hl b2)), fun k2 v h1 h2 h3 => ⟨fun z => h3.1 z, fun z => ?_⟩⟩
        obtain ⟨g1, g2, g3⟩ := h3.2 z
        have hv := h2.resolve_left z
        obtain ⟨p1, p2, _⟩ := h1.ends_of hh
        have ek : k2 = k := by
          have q1 : OkE k2 m.a := p1
          exact isV_of q1.1 oa.2 |>.symm ▸ rfl
        subst ek
        exact ⟨has_ends a1, leV_trans a1.1 oa.1 hv.1 a2 g2, leV_trans hv.1 ob'.1 b1.1 g3 b2⟩
    · rw [if_neg c2]
      exact ⟨hs, fun _ _ _ _ h => h⟩
def spWider (K : PySem.W.Frag) (C : Addr) : Sp := fun vs H Q _ => ∃ (d l s : Addr) (y : V) (ds : List D) (ts : List T) (mk : List Mk), vs = [.ref d, .ref s, y] ∧ StAt H d l ∧ ShapeAt H C s ds ts ∧ Dr ds ts ∧ MkAtI K H y mk ∧ MkFit ts mk ∧
  ∀ H' z mk', Kp d l H H' → MkAt K H' z mk' → MkFit ts mk' → (∀ (i : Nat) (m m' : Mk), mk[i]? = some m → mk'[i]? = some m' → Wd m m') → Q z H'
section
variable {P : Program} {w : World} {K : PySem.W.Frag} {mg : Str → Option Value} {base : Heap}
theorem sc_wider : FnScope ["state", "shape", "marks", "columns", "k", "missing", "least", "greatest", "other", "choice"] ["state", "shape", "marks"] (defScope sLWider) := ⟨rfl, rfl, rfl, by decide +kernel, rfl, by decide +kernel, by decide +kernel⟩
theorem ok_wider {f : Addr} {fd : FuncData} {C fI fQ : Addr} {fN fT : Addr} {fdN fdT : FuncData} (F : Fun K "_law_wider" "_law_wider" sLWider f fd) (M : Nm mg) (SHC : ShC K C fI fQ) (GN : FnOk P w K mg base CX0 1 fN fdN ["state", "bound"] spNext) (kN : PySem.W.keepIn K (.ref fN) = true) (bN : Binds K fdN ["state", "bound"] []) (gN : mg "_law_next" = some (.ref fN)) (GT : FnOk P w K mg base CX0 3 fT fdT ["state", "kind"] spThing) (kT : PySem.W.keepIn K (.ref fT) = true) (bT : Binds K fdT ["state", "kind"] []) (gT : mg "_law_thing" = some (.ref fT)) : FnOk P w K mg base CX0 4 f fd ["state", "shape", "marks"] (spWider K C) := by
  refine F.ok sc_wider (fun vs H Q E h => ?_) (fun cdv A outer s0 H vs Q E hr h => ?_)
  · obtain ⟨dd, l, s, y, ds, ts, mk, rfl, St, hS, dr, hM, fm, q⟩ := h
    rfl
  · obtain ⟨dd, l, s, y, ds, ts, mk, rfl, St, hS, dr, hM, fm, q⟩ := h
    have hr1 := hr.mono (j := 1) (by decide)
    have hr3 := hr.mono (j := 3) (by decide)
    refine ⟨_, (pss_cons (ps_set (i := 3) sc_wider.nd rfl (.inl rfl) (pe_lst pa_nil))
      (Evl.pss_cut (ps_for PassesOwn.never rfl (pi_range1 (by rfl) M.range (pa_cons (pe_callB call_len_seq (by rfl) M.len PySem.boot_len (pa_cons (pe_fld (pv 1) rfl) pa_nil)) pa_nil)) (pg_name (i := 4) sc_wider.nd rfl (.inl rfl)) (pss_cons (ps_asg (pe_ix ix_tup (pe_ix ix_tup (pv 2) pe_int (fun _ _ => rfl)) (pv 4) (fun _ _ => rfl)) (pg_tup (by rfl) (pgs_cons (pg_name (i := 5) sc_wider.nd rfl (.inl rfl)) (pgs_cons (pg_name (i := 6) sc_wider.nd rfl (.inl rfl)) (pgs_cons (pg_name (i := 7) sc_wider.nd rfl (.inl rfl)) pgs_nil)))))
      (pss_cons (ps_set (i := 8) sc_wider.nd rfl (.inl rfl) (pe_call GT hr3 (by rfl) gT kT bT .nil pass0 (pa_cons (pv 0) (pa_cons (pe_ix ix_tup (pe_ix ix_tup (pe_fld (pv 1) rfl) (pv 4) (fun _ _ => rfl)) pe_int (fun _ _ => rfl)) pa_nil))))
      (pss_cons (ps_set (i := 9) sc_wider.nd rfl (.inl rfl) (pe_call GN hr1 (by rfl) gN kN bN .nil pass0 (pa_cons (pv 0) (pa_cons pe_int pa_nil))))
      (Evl.pss_cut (ps_if (pt_cmpR op_eq (pv 9) pe_int (nomark _)) (pss_one (ps_set (i := 5) sc_wider.nd rfl (.inl rfl) (pe_op op_add (pv 5) pe_int))) pss_nil)
      (Evl.pss_cut (ps_if (PW.pt (pw_and (pt_cmpR op_eq (pv 9) pe_int (nomark _)) (pw_and1 (pt_cmpR op_isN (pv 6) pe_non (nomark _))))) (pss_cons (ps_set (i := 6) sc_wider.nd rfl (.inl rfl) (pv 8))
      (pss_one (ps_set (i := 7) sc_wider.nd rfl (.inl rfl) (pv 8)))) (pss_one (ps_if (pt_cmpR op_eq (pv 9) pe_int (nomark _)) (pss_cons (ps_set (i := 6) sc_wider.nd rfl (.inl rfl) (pe_callB (call_min2V rfl (Room.units70 hr)) (by rfl) M.min (by decide +kernel) (pa_cons (pv 6) (pa_cons (pv 8) pa_nil))))
      (pss_one (ps_set (i := 7) sc_wider.nd rfl (.inl rfl) (pe_callB (call_max2V rfl (Room.units70 hr)) (by rfl) M.max (by decide +kernel) (pa_cons (pv 7) (pa_cons (pv 8) pa_nil)))))) pss_nil)))
      (pss_one (ps_expr (pe_bm PySem.F.plainAttrs_list PySem.F.slot_list_append PySem.F.type_list_append mt_append (pv 3) (pa_cons (pe_tup (pa_cons (pv 5) (pa_cons (pv 6) (pa_cons (pv 7) pa_nil)))) pa_nil))))))))))
      (pss_one (ps_ret (pe_tup (pa_cons (pe_op op_add (pe_ix ix_tup (pv 2) pe_int (fun _ _ => rfl)) pe_int) (pa_cons (pe_callTy call_tuple_of (by rfl) M.tuple (by decide +kernel) (pa_cons (pv 3) pa_nil)) pa_nil))))))), ?_⟩
    have hz : ∀ n : Nat, n ≤ 1000 → n ≤ sizeLine := fun n h => Nat.le_trans h (by decide)
    have hz2 : ∀ n : Nat, n ≤ 1000 → n < sizeLine := fun n h => Nat.lt_of_le_of_lt h (by decide)
    have gk := dr.gk
    obtain ⟨pm, qm, n0, us, rfl, m1, m2, m3⟩ := hM
    refine ⟨Nat.zero_le _, fun L nL => ?_⟩
    have nn := St.nd nL
    have kL : Kp dd l H (upd H L (.lst [])) := (Kp.refl St).new nL
    refine ⟨fun σ' H' => ∃ zs ms y4 y5 y6 y7 y8 y9, σ' = [some (.ref dd), some (.ref s), some (.ref pm), some (.ref L), y4, y5, y6, y7, y8, y9] ∧ Kp dd l H H' ∧ H' L = some (.lst zs) ∧ F2 (MkR1 K H') zs ms ∧ MkFit ts ms ∧ (∀ (i : Nat) (m m' : Mk), mk[i]? = some m → ms[i]? = some m' → Wd m m'), ?_, ?_⟩
    · obtain ⟨dx, td, ta, xs, ys, h1, h2, h3, h4, h5⟩ := hS.kp St kL
      have hly : ys.length = ts.length := by rw [h5.1, List.length_map]
      refine ⟨_, rfl, s, C, dx, _, .ref ta, rfl, h1, SHC.cl, SHC.nA, rfl, ta, ys, rfl, .inr (SqT.of h4), _, rfl, by omega, by have := gk.2.1; omega, ?_⟩
      refine for_range (lo := 0) (n := ((ys.length : Int)).toNat) (fun i σ' H' => ∃ zs ms y4 y5 y6 y7 y8 y9, σ' = [some (.ref dd), some (.ref s), some (.ref pm), some (.ref L), y4, y5, y6, y7, y8, y9] ∧ Kp dd l H H' ∧ H' L = some (.lst zs) ∧ F2 (MkR1 K H') zs ms ∧ ms.length = i ∧ ∀ (j : Nat) (m' : Mk), ms[j]? = some m' → ∃ t m k, ts[j]? = some t ∧ mk[j]? = some m ∧ t.k = kdS k ∧ OkS k m'.s ∧ Wd m m') ⟨[], [], _, _, _, _, _, _, rfl, kL, upd_same, .nil, rfl, fun j m' h => by simp at h⟩ ?_ ?_
      · rintro i σ' H1 hi ⟨zs, ms, y4, y5, y6, y7, y8, y9, rfl, k1, eL, f, lm, hg⟩
        have hi : i < ys.length := hi
        have hit : i < ts.length := by omega
        have him : i < mk.length := by rw [fm.1]; exact hit
        obtain ⟨zi, ez, qz, rfl, hqz⟩ := m3.at (List.getElem?_eq_getElem him)
        obtain ⟨k, hk1, hos⟩ := fm.2 i _ _ (List.getElem?_eq_getElem hit) (List.getElem?_eq_getElem him)
        refine ⟨_, rfl, pm, _, 1, .ref qm, rfl, rfl, sqt_kp m1 St k1, rfl, _, rfl, qm, us, _, _, rfl, rfl, sqt_kp m2 St k1, by rw [Int.zero_add]; exact atI_nat ez, qz, _, rfl, sqt_kp hqz St k1, rfl, _, _, rfl, _, _, rfl, _, _, rfl, rfl, ?_⟩
        obtain ⟨dx1, td1, ta1, xs1, ys1, g1, g2, g3, g4, g5⟩ := hS.kp St k1
        obtain ⟨tr, e3, e4⟩ := g5.2 i ts[i].v (by rw [List.getElem?_map, List.getElem?_eq_getElem hit]; rfl)
        refine ⟨_, rfl, _, rfl, s, C, dx1, _, .ref ta1, rfl, g1, SHC.cl, SHC.nA, rfl, _, rfl, ta1, ys1, _, .ref tr, rfl, rfl, SqT.of g4, by rw [Int.zero_add]; exact atI_nat e3, tr, _, 1, .str ts[i].k, rfl, rfl, SqT.of e4, atI_nat (j := 1) rfl, dd, l, k, by rw [hk1]; rfl, k1.st, fun H2 o ho1 ho2 k2 => ?_⟩
        refine ⟨_, rfl, dd, l, 4, rfl, k2.st, (by decide), fun H3 ch c0 c1 k3 => ?_⟩
        have ho : OkE k o := ⟨ho1, ho2⟩
        have hw := wid_ok ch hos ho
        have hmi : mk[i]? = some mk[i] := List.getElem?_eq_getElem him
        have hti : ts[i]? = some ts[i] := List.getElem?_eq_getElem hit
        generalize mk[i] = mi at hos hw hmi
        refine ⟨fun σ' H' => σ' = [some (.ref dd), some (.ref s), some (.ref pm), some (.ref L), some (.int (0 + (i : Int))), some (.int (if ch = 1 then mi.n + 1 else mi.n)), some mi.a, some mi.b, some o, some (.int ch)] ∧ H3 = H', ?_, ?_⟩
        · refine ⟨_, rfl, rfl, _, rfl, ?_⟩
          by_cases c1' : ch = 1
          · exact iteB ((vi_dec _ _).trans (decide_eq_true c1')) ⟨_, rfl, _, 1, rfl, rfl, by rw [if_pos c1']; rfl, rfl⟩
          · exact iteBF ((vi_dec _ _).trans (decide_eq_false c1')) ⟨by rw [if_neg c1']; rfl, rfl⟩
        rintro _ _ ⟨rfl, rfl⟩
        refine ⟨fun σ' H' => σ' = [some (.ref dd), some (.ref s), some (.ref pm), some (.ref L), some (.int (0 + (i : Int))), some (.int (wid ch mi o).n), some (wid ch mi o).a, some (wid ch mi o).b, some o, some (.int ch)] ∧ H3 = H', ?_, ?_⟩
        · refine ⟨_, rfl, rfl, _, rfl, ?_⟩
          by_cases c2 : ch = 2
          · have c1n : ¬ ch = 1 := by omega
            refine iteB ((vi_dec _ _).trans (decide_eq_true c2)) ⟨_, rfl, rfl, _, rfl, ?_⟩
            by_cases c3 : mi.a = .non
            · have e : wid ch mi o = ⟨mi.n, o, o⟩ := by unfold wid; rw [if_neg c1n, if_pos c2, if_pos c3]
              exact iteB (decide_eq_true c3) ⟨_, rfl, _, rfl, by rw [e, if_neg c1n]; rfl, rfl⟩
            · have hh : has mi.s = true := by unfold has; rw [decide_eq_false (show ¬ mi.s.a = .non from c3)]; rfl
              obtain ⟨oa, ob', _⟩ := hos.ends_of hh
              have e : wid ch mi o = ⟨mi.n, if ltV o mi.a = true then o else mi.a, if ltV mi.b o = true then o else mi.b⟩ := by unfold wid; rw [if_neg c1n, if_pos c2, if_neg c3]
              exact iteBF (decide_eq_false c3) ⟨_, rfl, rfl, _, rfl, iteB ((vi_dec _ _).trans (decide_eq_true c2)) ⟨_, rfl, _, rfl, k, mi.a, o, rfl, oa.1, ho1, _, rfl, _, rfl, k, mi.b, o, rfl, ob'.1, ho1, by rw [e, if_neg c1n]; rfl, rfl⟩⟩
          · refine iteBF ((vi_dec _ _).trans (decide_eq_false c2)) (iteF ⟨_, rfl, rfl, _, rfl, iteBF ((vi_dec _ _).trans (decide_eq_false c2)) ⟨?_, rfl⟩⟩)
            by_cases c1' : ch = 1
            · have e : wid ch mi o = ⟨mi.n + 1, mi.a, mi.b⟩ := by unfold wid; rw [if_pos c1']
              rw [e, if_pos c1']
            · have e : wid ch mi o = mi := by unfold wid; rw [if_neg c1', if_neg c2]
              rw [e, if_neg c1']
        rintro _ _ ⟨rfl, rfl⟩
        have k23 := k2.trans k3
        have k13 := k1.trans k23
        have eL3 := k23.at k1.st eL (fun _ z => nomatch z)
        refine ⟨_, rfl, .inl ⟨rfl, _, .inl (.inl eL3)⟩, _, rfl, _, rfl, _, rfl, hz 3 (by decide), fun t nt => ?_⟩
        have sT : Same H3 _ := same_new (o := .tup [.int (wid ch mi o).n, (wid ch mi o).a, (wid ch mi o).b]) nt
        have lz : zs.length = ms.length := f.len
        have := gk.2.1
        refine ⟨L, zs, _, rfl, rfl, sT _ _ eL3, hz2 _ (by omega), ?_⟩
        have kb : ∀ a o', a ≠ L → (upd H3 t (.tup [.int (wid ch mi o).n, (wid ch mi o).a, (wid ch mi o).b])) a = some o' → (upd (upd H3 t (.tup [.int (wid ch mi o).n, (wid ch mi o).a, (wid ch mi o).b])) L (.lst (zs ++ [.ref t]))) a = some o' := fun a o' n e => by rw [upd_ne n]; exact e
        refine ⟨zs ++ [.ref t], ms ++ [wid ch mi o], _, _, _, _, _, _, rfl, (k13.new nt).put nL nn, upd_same, F2.snoc (MkR1.but ⟨t, rfl, SqT.of upd_same⟩ (sT _ _ eL3) kb) (f.imp fun y m ⟨p, e, h⟩ => MkR1.but ⟨p, e, sqt_same (sqt_kp h k1.st k23) sT⟩ (sT _ _ eL3) kb), by rw [List.length_append, lm]; rfl, fun j m' hj => ?_⟩
        by_cases hjl : j < ms.length
        · rw [List.getElem?_append_left hjl] at hj
          exact hg j m' hj
        · have hjl2 : j = i := by
            have := (List.getElem?_eq_some_iff.mp hj).1
            rw [List.length_append] at this
            have : j < ms.length + 1 := this
            omega
          subst hjl2
          rw [← lm, List.getElem?_concat_length] at hj
          cases hj
          exact ⟨_, mi, k, hti, hmi, hk1, hw.1, hw.2⟩
      · rintro σ' H1 ⟨zs, ms, y4, y5, y6, y7, y8, y9, rfl, k1, eL, f, lm, hg⟩
        have lm : ms.length = ts.length := by rw [lm]; show ys.length = ts.length; exact hly
        refine ⟨zs, ms, _, _, _, _, _, _, rfl, k1, eL, f, ⟨lm, fun i t c ht hc => ?_⟩, fun i m m' h h' => ?_⟩
        · obtain ⟨t2, m2', k, e1, _, e2, e3, _⟩ := hg i c hc
          rw [ht] at e1
          cases e1
          exact ⟨k, e2, e3⟩
        · obtain ⟨t2, m2', k, _, e1, _, _, e2⟩ := hg i m' h'
          rw [h] at e1
          cases e1
          exact e2
    rintro _ H1 ⟨zs, ms, y4, y5, y6, y7, y8, y9, rfl, k1, eL, f, fm2, hwd⟩
    refine ⟨_, rfl, pm, _, 0, .int n0, rfl, rfl, sqt_kp m1 St k1, rfl, n0, 1, rfl, rfl, _, rfl, L, zs, rfl, .inl ⟨.inl (.inl eL), fun t nt => ⟨hz 2 (by decide), fun t2 nt2 => ?_⟩⟩⟩
    have s2 : Same H1 _ := same_new (o := .tup zs) nt
    have s3 : Same (upd H1 t (.tup zs)) _ := same_new (o := .tup [.int (n0 + 1), .ref t]) nt2
    exact q _ _ ms (k1.same (same_trans s2 s3)) ⟨t2, t, _, zs, rfl, SqT.of upd_same, sqt_same (SqT.of upd_same) s3, f.imp fun y c ⟨p, e, h⟩ => ⟨p, e, sqt_same h (same_trans s2 s3)⟩⟩ fm2 hwd
end
end K2

namespace K2
open PySem L2
/-! ### the right paper is shown -/
mutual
def toW : Pp → W
  | .mk s ps => .pp s (toWs ps)
def toWs : List Pp → List W
  | [] => []
  | p :: r => toW p :: toWs r
end
theorem toWs_map : ∀ ps : List Pp, (toWs ps).map W.s = ps.map Pp.s
  | [] => by rw [toWs]; rfl
  | .mk s qs :: r => by
    rw [toWs, toW, List.map_cons, List.map_cons, toWs_map r]
    rfl
theorem toWs_len : ∀ ps : List Pp, (toWs ps).length = ps.length
  | [] => by rw [toWs]; rfl
  | p :: r => by rw [toWs, List.length_cons, List.length_cons, toWs_len r]
theorem oks_ws {k : Kd} {s : Spn} (h : OkS k s) : WS s := by
  cases h with
  | am => exact .non _
  | ends h1 h2 h3 => exact .of h1.1 h2.1
theorem oks_isSp {k : Kd} {s : Spn} (h : OkS k s) : isSp k s = true := by
  cases h with
  | am => exact if_pos rfl
  | @ends a b m h1 h2 h3 =>
    have e2 : isSp k ⟨a, b, m⟩ = (isVal k a && (isVal k b && !ltV b a)) := if_neg h1.ne
    rw [e2, h1.2, h2.2, h3]
    rfl
theorem encB_self {k : Kd} {s : Spn} (h : OkS k s) : encB s s = true := by
  have n : ¬ (s.m = true ∧ s.m = false) := fun z => by rw [z.1] at z; cases z.2
  cases e : has s with
  | false => exact encB_2 n e
  | true =>
    obtain ⟨h1, h2, _⟩ := h.ends_of e
    rw [encB_3 n e, e, ltV_irr h1.1, ltV_irr h2.1]
    rfl
mutual
theorem pr_w {ds : List D} {ts : List T} {bx : List (Int × Int)} {mk : List Mk} (FB : BxFit ds bx) (FM : MkFit ts mk) : ∀ (e : Ex) {m : Nat} {k : Kd}, WF e → ck ds ts e m = .ok k → ∃ p, Pr ds ts bx mk e p k ∧ shw (lfS ds ts bx mk) (kfS ds ts) e (toW p) = true
  | .val a b, m, k, wf, h => by
    have hP := lfS_ok FB FM wf rfl h
    refine ⟨_, hP, ?_⟩
    rw [toW, toWs, shw, kfS_ok h, show isSp k (lfS ds ts bx mk _) = true from oks_isSp hP.oks, show encB (lfS ds ts bx mk _) (lfS ds ts bx mk _) = true from encB_self hP.oks]
    rfl
  | .attr a, m, k, wf, h => by
    have hP := lfS_ok FB FM wf rfl h
    refine ⟨_, hP, ?_⟩
    rw [toW, toWs, shw, kfS_ok h, show isSp k (lfS ds ts bx mk _) = true from oks_isSp hP.oks, show encB (lfS ds ts bx mk _) (lfS ds ts bx mk _) = true from encB_self hP.oks]
    rfl
  | .dim a, m, k, wf, h => by
    have hP := lfS_ok FB FM wf rfl h
    refine ⟨_, hP, ?_⟩
    rw [toW, toWs, shw, kfS_ok h, show isSp k (lfS ds ts bx mk _) = true from oks_isSp hP.oks, show encB (lfS ds ts bx mk _) (lfS ds ts bx mk _) = true from encB_self hP.oks]
    rfl
  | .op wd ps, m, k, wf, h => by
    obtain ⟨qs, h1, hj⟩ := ck_op2 wf h
    have ek := kfS_ok h
    rw [WF] at wf
    obtain ⟨pp, hA, hs⟩ := prs_w FB FM ps wf.2 h1
    have hP : Pr ds ts bx mk (.op wd ps) (.mk (jn wd (pp.map Pp.s)) pp) k := .op hA hj (ar_le wf.1)
    refine ⟨_, hP, ?_⟩
    have ho : OkS k (jn wd (pp.map Pp.s)) := hP.oks
    rw [toW, shw, ek, oks_isSp ho, hs, toWs_map, encB_self ho, toWs_len, hA.len, decide_eq_true rfl]
    rfl
theorem prs_w {ds : List D} {ts : List T} {bx : List (Int × Int)} {mk : List Mk} (FB : BxFit ds bx) (FM : MkFit ts mk) : ∀ (es : List Ex) {m : Nat} {qs : List Kd}, WFs es → cks ds ts es m = .ok qs → ∃ pp, PrAll ds ts bx mk es pp qs ∧ shws (lfS ds ts bx mk) (kfS ds ts) es (toWs pp) = true
  | [], m, qs, wf, h => by
    rw [cks] at h
    injection h with h
    subst h
    exact ⟨[], .nil, by rw [shws]⟩
  | e :: r, m, qs, wf, h => by
    rw [cks] at h
    rw [WFs] at wf
    cases h1 : ck ds ts e m with
    | error j => rw [h1] at h; cases h
    | ok k =>
      rw [h1] at h
      cases h2 : cks ds ts r (m + e.size) with
      | error j => simp only [h2] at h; cases h
      | ok ks =>
        simp only [h2] at h
        injection h with h
        subst h
        obtain ⟨v, h3, h4⟩ := pr_w FB FM e wf.1 h1
        obtain ⟨xs, h5, h6⟩ := prs_w FB FM r wf.2 h2
        exact ⟨v :: xs, .cons h3 h5, by rw [toWs, shws, h4, h6]; rfl⟩
end
mutual
theorem pp_w {K : PySem.W.Frag} {H : Hp} {ds : List D} {ts : List T} {bx : List (Int × Int)} {mk : List Mk} : ∀ {x : V} {e : Ex} {p : Pp} {k : Kd}, PpAt K H x p → Pr ds ts bx mk e p k → WAt K H x (toW p)
  | _, _, _, _, .mk h1 h2 h3 h4, hP => by
    have hw := oks_ws hP.oks
    obtain ⟨qs, hA, _⟩ := hP.parts
    rw [toW]
    exact .pp h1 h2 hw h3 (pps_w h4 hA)
theorem pps_w {K : PySem.W.Frag} {H : Hp} {ds : List D} {ts : List T} {bx : List (Int × Int)} {mk : List Mk} : ∀ {xs : List V} {es : List Ex} {ps : List Pp} {qs : List Kd}, PpAll K H xs ps → PrAll ds ts bx mk es ps qs → WAll K H xs (toWs ps)
  | _, _, _, _, .nil, _ => by rw [toWs]; exact .nil
  | _, _, _, _, .cons a t, h => by
    cases h with
    | cons h g =>
      rw [toWs]
      exact .cons (pp_w a h) (pps_w t g)
end
end K2

namespace K2
open PySem L2
def spLaw (K : PySem.W.Frag) : Sp := fun vs H Q _ => ∃ (a : Addr) (ns : List Int), vs = [.ref a] ∧ SqL K H a (ns.map V.int) ∧ ns.length ≤ 63 ∧ ∀ H', Q (.bl true) H'
def spSpanOf (K : PySem.W.Frag) (C : Addr) : Sp := fun vs H Q E => ∃ (r x y : V) (s : Addr) (e : Ex) (ds : List D) (ts : List T) (bx : List (Int × Int)) (mk : List Mk) (p : Pp) (k : Kd), vs = [r, .ref s, x, y] ∧ ExAt H r e ∧ e.dep < 5 ∧ ShapeAt H C s ds ts ∧ BoxAt K H x bx ∧ MkAt K H y mk ∧ Pr ds ts bx mk e p k ∧ ∀ H' z, Same H H' → SpnAt K H' z p.s → Q z H'
def spCanW (K : PySem.W.Frag) : Sp := fun vs H Q E => ∃ (x : V) (s : Spn) (ws : List W), vs = [x] ∧ WAt K H x (.pp s ws) ∧ OkS .f s ∧ ∀ H', Same H H' → Q (.bl (!alw s (.bl true))) H'
/-- all that an expression and cells are asked for -/
structure Ask (K : PySem.W.Frag) (C : Addr) (H : Hp) (s da : Addr) (x y : V) (ds : List D) (ts : List T) (bx : List (Int × Int)) (mk : List Mk) (kvs : List (List Key × V)) (cs : List Cl) : Prop where
  sh : ShapeAt H C s ds ts
  gk : GoodK ds ts
  bxs : BoxAt K H x bx
  mks : MkAt K H y mk
  fb : BxFit ds bx
  fm : MkFit ts mk
  hd : H da = some (.dT kvs)
  ca : CA ds ts H kvs cs
  hl : cs.length ≤ 900
  fit : ∀ c ∈ cs, Fits ds ts c.pl c.ws ∧ InC bx mk c.pl c.ws
theorem BoxAt.kp {K : PySem.W.Frag} {d l : Addr} {H H' : Hp} {x : V} {bx : List (Int × Int)} (h : BoxAt K H x bx) (S : StAt H d l) (k : Kp d l H H') : BoxAt K H' x bx := by
  obtain ⟨p, xs, e, h1, h2⟩ := h
  exact ⟨p, xs, e, sqt_kp h1 S k, h2.imp fun _ _ ⟨q, e, h⟩ => ⟨q, e, sqt_kp h S k⟩⟩
theorem MkAt.kp {K : PySem.W.Frag} {d l : Addr} {H H' : Hp} {x : V} {mk : List Mk} (h : MkAt K H x mk) (S : StAt H d l) (k : Kp d l H H') : MkAt K H' x mk := by
  obtain ⟨p, q, n, xs, e, h1, h2, h3⟩ := h
  exact ⟨p, q, n, xs, e, sqt_kp h1 S k, sqt_kp h2 S k, h3.imp fun _ _ ⟨q, e, h⟩ => ⟨q, e, sqt_kp h S k⟩⟩
theorem Ask.kp {K : PySem.W.Frag} {C d l s da : Addr} {H H' : Hp} {x y : V} {ds : List D} {ts : List T} {bx : List (Int × Int)} {mk : List Mk} {kvs : List (List Key × V)} {cs : List Cl} (A : Ask K C H s da x y ds ts bx mk kvs cs) (S : StAt H d l) (k : Kp d l H H') : Ask K C H' s da x y ds ts bx mk kvs cs :=
  ⟨A.sh.kp S k, A.gk, A.bxs.kp S k, A.mks.kp S k, A.fb, A.fm, k.at S A.hd (fun _ z => nomatch z), A.ca.keep fun a r e => k.at S e (fun _ z => nomatch z), A.hl, A.fit⟩
theorem Ask.same {K : PySem.W.Frag} {C s da : Addr} {H H' : Hp} {x y : V} {ds : List D} {ts : List T} {bx : List (Int × Int)} {mk : List Mk} {kvs : List (List Key × V)} {cs : List Cl} (A : Ask K C H s da x y ds ts bx mk kvs cs) (k : Same H H') : Ask K C H' s da x y ds ts bx mk kvs cs :=
  ⟨A.sh.same k, A.gk, A.bxs.same k, A.mks.same k, A.fb, A.fm, k _ _ A.hd, A.ca.keep fun a r e => k _ _ e, A.hl, A.fit⟩
def isF : Kd → Bool
  | .f => true
  | _ => false
theorem kd_flag2 (k : Kd) : decide (V.str (kdS k) = V.str "flag") = isF k := by cases k <;> decide +kernel
theorem SpnAt.kt {K : PySem.W.Frag} {H H' : Hp} {x : V} {s : Spn} (h : SpnAt K H x s) (k : ∀ a o, H a = some o → (∀ kvs, o ≠ .dT kvs) → H' a = some o) : SpnAt K H' x s := let ⟨p, e1, e2⟩ := h; ⟨p, e1, sqt_kt e2 k⟩
mutual
theorem WAt.kt {K : PySem.W.Frag} {H H' : Hp} (k : ∀ a o, H a = some o → (∀ kvs, o ≠ .dT kvs) → H' a = some o) : ∀ {x : V} {w : W}, WAt K H x w → WAt K H' x w
  | _, _, .pp h1 h2 h3 h4 h5 => .pp (sqt_kt h1 k) (h2.kt k) h3 (sqt_kt h4 k) (WAll.kt k h5)
  | _, _, .non => .non
  | _, _, .tup h1 h2 => .tup (sqt_kt h1 k) h2
  | _, _, .pl h1 h2 h3 => .pl (sqt_kt h1 k) (h2.kt k) (k _ _ h3 (fun _ z => nomatch z))
  | _, _, .lst h1 => .lst (k _ _ h1 (fun _ z => nomatch z))
theorem WAll.kt {K : PySem.W.Frag} {H H' : Hp} (k : ∀ a o, H a = some o → (∀ kvs, o ≠ .dT kvs) → H' a = some o) : ∀ {x : List V} {w : List W}, WAll K H x w → WAll K H' x w
  | _, _, .nil => .nil
  | _, _, .cons h g => .cons (WAt.kt k h) (WAll.kt k g)
end
def K4 : List Str := ["int", "flag", "text", "flag"]
theorem k4_in : ∀ z ∈ K4, z ∈ K3 := by decide +kernel
theorem MkAtI.kp {K : PySem.W.Frag} {d l : Addr} {H H' : Hp} {x : V} {mk : List Mk} (h : MkAtI K H x mk) (S : StAt H d l) (k : Kp d l H H') : MkAtI K H' x mk := by
  obtain ⟨p, q, n, xs, e, h1, h2, h3⟩ := h
  exact ⟨p, q, n, xs, e, sqt_kp h1 S k, sqt_kp h2 S k, h3.imp fun _ _ ⟨q, e, h⟩ => ⟨q, e, sqt_kp h S k⟩⟩
section
variable {P : Program} {w : World} {K : PySem.W.Frag} {mg : Str → Option Value} {base : Heap}
theorem sc_canW : FnScope ["paper"] ["paper"] (defScope sCanPass) := ⟨rfl, rfl, rfl, by decide +kernel, rfl, by decide +kernel, by decide +kernel⟩
theorem ok_canW {f : Addr} {fd : FuncData} {fA : Addr} {fdA : FuncData} (F : Fun K "can_pass" "can_pass" sCanPass f fd) (GA : FnOk P w K mg base CX0 4 fA fdA ["span", "value"] (spAlw K)) (kA : PySem.W.keepIn K (.ref fA) = true) (bA : Binds K fdA ["span", "value"] []) (gA : mg "allows" = some (.ref fA)) : FnOk P w K mg base CX0 6 f fd ["paper"] (spCanW K) := by
  refine F.ok sc_canW (fun vs H Q E h => ?_) (fun cdv A outer s0 H vs Q E hr h => ?_)
  · obtain ⟨x, s, ws, rfl, hx, ho, q⟩ := h
    rfl
  · obtain ⟨x, s, ws, rfl, hx, ho, q⟩ := h
    refine ⟨_, (pss_one (ps_ret (pe_not (pe_call GA (hr.mono (by decide)) (by rfl) gA kA bA .nil pass0 (pa_cons (pe_ix ix_tup (pv 0) pe_int (fun _ _ => rfl)) (pa_cons pe_bl pa_nil)))))), ?_⟩
    cases hx with
    | @pp a pq u _ xs _ h1 h2 h3 h4 h5 =>
      refine ⟨_, rfl, a, _, 0, u, rfl, rfl, h1, rfl, u, .bl true, s, .f, rfl, h2, ho, .inr ⟨.f, okb true⟩, fun H1 s1 => ⟨_, rfl, q H1 s1⟩⟩
theorem sc_law : FnScope ["script", "state", "turn", "shape", "cells", "box", "marks", "kind", "expression", "span", "paper", "place", "value"] ["script"] (defScope sLaw) := ⟨rfl, rfl, rfl, by decide +kernel, rfl, by decide +kernel, by decide +kernel⟩
theorem ok_law {f : Addr} {fd : FuncData} {C fI fQ : Addr} {fR9 fH9 fC9 fP9 fV9 fB9 fM9 fN9 fW9 fK9 fE9 fZ9 fX9 fS9 fO9 fA9 fY9 : Addr} {fdR9 fdH9 fdC9 fdP9 fdV9 fdB9 fdM9 fdN9 fdW9 fdK9 fdE9 fdZ9 fdX9 fdS9 fdO9 fdA9 fdY9 : FuncData} (F : Fun K "law" "law" sLaw f fd) (M : Nm mg) (SHC : ShC K C fI fQ) (GR9 : FnOk P w K mg base CX0 2 fR9 fdR9 ["cells"] (spDraws K)) (kR9 : PySem.W.keepIn K (.ref fR9) = true) (bR9 : Binds K fdR9 ["cells"] []) (gR9 : mg "_law_draws" = some (.ref fR9)) (GH9 : FnOk P w K mg base CX0 3 fH9 fdH9 ["state"] (spShape C)) (kH9 : PySem.W.keepIn K (.ref fH9) = true) (bH9 : Binds K fdH9 ["state"] []) (gH9 : mg "_law_shape" = some (.ref fH9)) (GC9 : FnOk P w K mg base CX0 5 fC9 fdC9 ["state", "shape", "most"] (spCells C)) (kC9 : PySem.W.keepIn K (.ref fC9) = true) (bC9 : Binds K fdC9 ["state", "shape", "most"] []) (gC9 : mg "_law_cells" = some (.ref fC9)) (GP9 : FnOk P w K mg base CX0 2 fP9 fdP9 ["state", "dims"] spPlace) (kP9 : PySem.W.keepIn K (.ref fP9) = true) (bP9 : Binds K fdP9 ["state", "dims"] []) (gP9 : mg "_law_place" = some (.ref fP9)) (GV9 : FnOk P w K mg base CX0 4 fV9 fdV9 ["state", "attrs", "few"] spValues) (kV9 : PySem.W.keepIn K (.ref fV9) = true) (bV9 : Binds K fdV9 ["state", "attrs", "few"] []) (gV9 : mg "_law_values" = some (.ref fV9)) (GB9 : FnOk P w K mg base CX0 1 fB9 fdB9 ["shape", "cells"] (spBox K C)) (kB9 : PySem.W.keepIn K (.ref fB9) = true) (bB9 : Binds K fdB9 ["shape", "cells"] []) (gB9 : mg "_law_box" = some (.ref fB9)) (GM9 : FnOk P w K mg base CX0 2 fM9 fdM9 ["shape", "cells"] (spMarks K C)) (kM9 : PySem.W.keepIn K (.ref fM9) = true) (bM9 : Binds K fdM9 ["shape", "cells"] []) (gM9 : mg "marks_of" = some (.ref fM9)) (GN9 : FnOk P w K mg base CX0 1 fN9 fdN9 ["state", "bound"] spNext) (kN9 : PySem.W.keepIn K (.ref fN9) = true) (bN9 : Binds K fdN9 ["state", "bound"] []) (gN9 : mg "_law_next" = some (.ref fN9)) (GW9 : FnOk P w K mg base CX0 4 fW9 fdW9 ["state", "shape", "marks"] (spWider K C)) (kW9 : PySem.W.keepIn K (.ref fW9) = true) (bW9 : Binds K fdW9 ["state", "shape", "marks"] []) (gW9 : mg "_law_wider" = some (.ref fW9)) (GK9 : FnOk P w K mg base CX0 4 fK9 fdK9 ["shape", "cells", "marks"] (spKeeps K C)) (kK9 : PySem.W.keepIn K (.ref fK9) = true) (bK9 : Binds K fdK9 ["shape", "cells", "marks"] []) (gK9 : mg "keeps_to" = some (.ref fK9)) (GE9 : FnOk P w K mg base CX0 15 fE9 fdE9 ["state", "shape", "kind", "depth"] (spE C 5)) (kE9 : PySem.W.keepIn K (.ref fE9) = true) (bE9 : Binds K fdE9 ["state", "shape", "kind", "depth"] []) (gE9 : mg "_law_expression" = some (.ref fE9)) (GZ9 : FnOk P w K mg base CX0 16 fZ9 fdZ9 ["expression", "shape", "box", "marks"] (spSpanOf K C)) (kZ9 : PySem.W.keepIn K (.ref fZ9) = true) (bZ9 : Binds K fdZ9 ["expression", "shape", "box", "marks"] []) (gZ9 : mg "span_of" = some (.ref fZ9)) (GX9 : FnOk P w K mg base CX0 (9 + 5) fX9 fdX9 ["expression", "shape", "box", "marks"] (spPaper K C 5)) (kX9 : PySem.W.keepIn K (.ref fX9) = true) (bX9 : Binds K fdX9 ["expression", "shape", "box", "marks"] []) (gX9 : mg "paper_of" = some (.ref fX9)) (GS9 : FnOk P w K mg base CX0 (12 + 5) fS9 fdS9 ["expression", "shape", "box", "marks", "paper"] (spShows K C 5)) (kS9 : PySem.W.keepIn K (.ref fS9) = true) (bS9 : Binds K fdS9 ["expression", "shape", "box", "marks", "paper"] []) (gS9 : mg "shows" = some (.ref fS9)) (GO9 : FnOk P w K mg base CX0 (4 + 5) fO9 fdO9 ["expression", "shape", "place", "values"] (spVO C 5)) (kO9 : PySem.W.keepIn K (.ref fO9) = true) (bO9 : Binds K fdO9 ["expression", "shape", "place", "values"] []) (gO9 : mg "value_of" = some (.ref fO9)) (GA9 : FnOk P w K mg base CX0 4 fA9 fdA9 ["span", "value"] (spAlw K)) (kA9 : PySem.W.keepIn K (.ref fA9) = true) (bA9 : Binds K fdA9 ["span", "value"] []) (gA9 : mg "allows" = some (.ref fA9)) (GY9 : FnOk P w K mg base CX0 6 fY9 fdY9 ["paper"] (spCanW K)) (kY9 : PySem.W.keepIn K (.ref fY9) = true) (bY9 : Binds K fdY9 ["paper"] []) (gY9 : mg "can_pass" = some (.ref fY9)) : FnOk P w K mg base CX0 18 f fd ["script"] (spLaw K) := by
  refine F.ok sc_law (fun vs H Q E h => ?_) (fun cdv A outer s0 H vs Q E hr h => ?_)
  · obtain ⟨a, ns, rfl, hS, hlen, q0⟩ := h
    rfl
  · obtain ⟨a, ns, rfl, hS, hlen, q0⟩ := h
    have hu := hu_of hr
    refine ⟨_, (pss_cons (ps_set (i := 1) sc_law.nd rfl (.inl rfl) (pe_call GR9 (hr.mono (by decide)) (by rfl) gR9 kR9 bR9 .nil pass0 (pa_cons (pe_op op_cat (pe_slice sl_list (pv 0) po_none (po_some pe_int)) (pe_lst (pa_cons pe_int pa_nil))) pa_nil)))
      (Evl.pss_cut (ps_for PassesOwn.never rfl (pi_range1 (by rfl) M.range (pa_cons pe_int pa_nil)) (pg_name (i := 2) sc_law.nd rfl (.inl rfl)) (pss_cons (ps_set (i := 3) sc_law.nd rfl (.inl rfl) (pe_call GH9 (hr.mono (by decide)) (by rfl) gH9 kH9 bH9 .nil pass0 (pa_cons (pv 1) pa_nil)))
      (pss_cons (ps_set (i := 4) sc_law.nd rfl (.inl rfl) (pe_call GC9 (hr.mono (by decide)) (by rfl) gC9 kC9 bC9 .nil pass0 (pa_cons (pv 1) (pa_cons (pv 3) (pa_cons pe_int pa_nil)))))
      (pss_cons (ps_dput hu (pv 4) (pe_call GP9 (hr.mono (by decide)) (by rfl) gP9 kP9 bP9 .nil pass0 (pa_cons (pv 1) (pa_cons (pe_fld (pv 3) rfl) pa_nil))) (pe_call GV9 (hr.mono (by decide)) (by rfl) gV9 kV9 bV9 .nil pass0 (pa_cons (pv 1) (pa_cons (pe_fld (pv 3) rfl) (pa_cons pe_int pa_nil)))) rfl)
      (pss_cons (ps_set (i := 5) sc_law.nd rfl (.inl rfl) (pe_call GB9 (hr.mono (by decide)) (by rfl) gB9 kB9 bB9 .nil pass0 (pa_cons (pv 3) (pa_cons (pv 4) pa_nil))))
      (pss_cons (ps_set (i := 6) sc_law.nd rfl (.inl rfl) (pe_call GM9 (hr.mono (by decide)) (by rfl) gM9 kM9 bM9 .nil pass0 (pa_cons (pv 3) (pa_cons (pv 4) pa_nil))))
      (Evl.pss_cut (ps_if (pt_cmpR op_eq (pe_call GN9 (hr.mono (by decide)) (by rfl) gN9 kN9 bN9 .nil pass0 (pa_cons (pv 1) (pa_cons pe_int pa_nil))) pe_int (nomark _)) (pss_one (ps_set (i := 6) sc_law.nd rfl (.inl rfl) (pe_call GW9 (hr.mono (by decide)) (by rfl) gW9 kW9 bW9 .nil pass0 (pa_cons (pv 1) (pa_cons (pv 3) (pa_cons (pv 6) pa_nil)))))) pss_nil)
      (pss_cons (ps_if (pt_not (pt_val (pe_call GK9 (hr.mono (by decide)) (by rfl) gK9 kK9 bK9 .nil pass0 (pa_cons (pv 3) (pa_cons (pv 4) (pa_cons (pv 6) pa_nil)))))) (pss_one (ps_ret pe_bl)) pss_nil)
      (pss_one (ps_for PassesOwn.never rfl (pi_list (pe_lst (pa_cons pe_str (pa_cons pe_str (pa_cons pe_str (pa_cons pe_str pa_nil)))))) (pg_name (i := 7) sc_law.nd rfl (.inl rfl)) (pss_cons (ps_set (i := 8) sc_law.nd rfl (.inl rfl) (pe_call GE9 (hr.mono (by decide)) (by rfl) gE9 kE9 bE9 .nil pass0 (pa_cons (pv 1) (pa_cons (pv 3) (pa_cons (pv 7) (pa_cons pe_int pa_nil))))))
      (pss_cons (ps_set (i := 9) sc_law.nd rfl (.inl rfl) (pe_call GZ9 (hr.mono (by decide)) (by rfl) gZ9 kZ9 bZ9 .nil pass0 (pa_cons (pv 8) (pa_cons (pv 3) (pa_cons (pv 5) (pa_cons (pv 6) pa_nil))))))
      (pss_cons (ps_set (i := 10) sc_law.nd rfl (.inl rfl) (pe_call GX9 (hr.mono (by decide)) (by rfl) gX9 kX9 bX9 .nil pass0 (pa_cons (pv 8) (pa_cons (pv 3) (pa_cons (pv 5) (pa_cons (pv 6) pa_nil))))))
      (pss_cons (ps_if (PW.pt (pw_or (pt_cmpR (op_neTup mon_flat eqG_flat (hr.mono (by decide))) (pe_ix ix_tup (pv 10) pe_int (fun _ _ => rfl)) (pv 9) (nomark _)) (pw_or1 (pt_cmpR op_isnot_bl (pe_call GS9 (hr.mono (by decide)) (by rfl) gS9 kS9 bS9 .nil pass0 (pa_cons (pv 8) (pa_cons (pv 3) (pa_cons (pv 5) (pa_cons (pv 6) (pa_cons (pv 10) pa_nil)))))) pe_bl (nomark _))))) (pss_one (ps_ret pe_bl)) pss_nil)
      (pss_one (ps_lock (ps_for PassesOwn.never rfl (pi_keys (pv 4)) (pg_name (i := 11) sc_law.nd rfl (.inl rfl)) (pss_cons (ps_set (i := 12) sc_law.nd rfl (.inl rfl) (pe_call GO9 (hr.mono (by decide)) (by rfl) gO9 kO9 bO9 .nil pass0 (pa_cons (pv 8) (pa_cons (pv 3) (pa_cons (pv 11) (pa_cons (pe_dget hu (pv 4) (pv 11) (fun _ _ => rfl)) pa_nil))))))
      (pss_one (ps_if (PW.pt (pw_or (pt_not (pt_val (pe_call GA9 (hr.mono (by decide)) (by rfl) gA9 kA9 bA9 .nil pass0 (pa_cons (pv 9) (pa_cons (pv 12) pa_nil))))) (pw_or1 (PW.pt (pw_and (pt_cmpR op_eq (pv 7) pe_str (nomark _)) (pw_and (pt_val (pe_call GY9 (hr.mono (by decide)) (by rfl) gY9 kY9 bY9 .nil pass0 (pa_cons (pv 10) pa_nil))) (pw_and1 (pt_cmpR op_isOb (pv 12) pe_bl (nomark _))))))))) (pss_one (ps_ret pe_bl)) pss_nil))))))))))))))))))))
      (pss_one (ps_ret pe_bl)))), ?_⟩
    have hz : ∀ n : Nat, n ≤ 100 → n ≤ sizeLine := fun n h => Nat.le_trans h (by decide)
    refine ⟨.ref a, rfl, 10, rfl, a, ns.map V.int, rfl, hS, fun p1 np1 => ⟨(by show 1 ≤ sizeLine; decide), fun p2 np2 => ?_⟩⟩
    have n12 : p1 ≠ p2 := ne_of_none upd_same np2
    have h6 : (ns.take 10).length ≤ 10 := by rw [List.length_take]; omega
    have ec : cutV (ns.map V.int) none (some (10 : Int)) = (ns.take 10).map V.int := cutn V.int ns 10
    refine ⟨p1, p2, _, _, rfl, rfl, (by rw [upd_ne n12, upd_same]), upd_same, ?_, fun p3 np3 => ?_⟩
    · rw [ec, List.length_map]
      exact Nat.le_of_lt (small1000 (show (ns.take 10).length + 1 ≤ 1000 by omega))
    refine ⟨p3, ns.take 10 ++ [12], rfl, .inl (.inl (by rw [upd_same, ec, List.map_append]; rfl)), (by rw [List.length_append]; show _ + 1 ≤ 1000; omega), (by rw [List.length_append]; show 0 < _ + 1; omega), fun H1 d l s1 nd st => ?_⟩
    refine ⟨fun _ _ => True, ?_, fun σ H3 _ => q0 _⟩
    refine ⟨_, rfl, by decide, by decide, ?_⟩
    refine for_range (lo := 0) (n := (3 : Int).toNat) (fun i σ H3 => ∃ y2 y3 y4 y5 y6 y7 y8 y9 y10 y11 y12, σ = [some (.ref a), some (.ref d), y2, y3, y4, y5, y6, y7, y8, y9, y10, y11, y12] ∧ StAt H3 d l) ⟨_, _, _, _, _, _, _, _, _, _, _, rfl, st⟩ ?_ ?_
    · rintro i σ H3 hi ⟨y2, y3, y4, y5, y6, y7, y8, y9, y10, y11, y12, rfl, st3⟩
      refine ⟨_, rfl, d, l, rfl, st3, fun H4 s' ds ts k4 hSh dr => ?_⟩
      have gk := dr.gk
      refine ⟨_, rfl, _, rfl, d, l, s', ds, ts, 6, rfl, by decide, k4.st, hSh, dr, fun H5 da kvs k5 nda hda hraw hlk => ?_⟩
      have sh5 := hSh.kp k4.st k5
      obtain ⟨dx, td, ta, xs, ys, h1, h2, h3, h4, h5⟩ := id sh5
      refine ⟨_, rfl, _, rfl, s', C, dx, _, .ref ta, rfl, h1, SHC.cl, SHC.nA, rfl, d, l, ta, ys, ts, 6, rfl, k5.st, h4, h5, gk.2.2, gk.2.1, by decide, fun H6 va vs' k6 nva hva hvf => ?_⟩
      have sh6 := sh5.kp k5.st k6
      obtain ⟨dx4, td4, ta4, xs4, ys4, g1, g2, g3, g4, g5⟩ := id sh6
      refine ⟨_, rfl, _, rfl, _, rfl, s', C, dx4, _, .ref td4, rfl, g1, SHC.cl, SHC.nD, rfl, d, l, td4, xs4, ds, rfl, k6.st, g2, g3, fun y hy => (dr.db y hy).2.1, gk.1, fun H7 pa pl k7 npa hpa hpl => ?_⟩
      have k67 := k6.trans k7
      have hda7 := k67.at k5.st hda (fun _ z => nomatch z)
      have hva7 := k7.at k6.st hva (fun _ z => nomatch z)
      have hr7 : Raw ds ts H7 kvs := hraw.keep fun a r e => k67.at k5.st e (fun _ z => nomatch z)
      refine ⟨da, _, rfl, .inr ⟨kvs, kI pl, pa, hda7, rfl, by rw [kI_v]; exact hpa, Nat.lt_of_le_of_lt (show kvs.length ≤ 100 by omega) (by decide), rfl⟩, ?_⟩
      have up : ∀ a r, H7 a = some (.tup r) → (upd H7 da (.dT (putK kvs (kI pl) (.ref va)))) a = some (.tup r) := fun a r e => by
        rw [upd_ne (fun z => by rw [z, hda7] at e; cases e)]
        exact e
      have k8 := (k5.trans k67).put (o := .dT (putK kvs (kI pl) (.ref va))) nda (k4.st.nd nda)
      have hr8 := (hr7.put hva7 hpl hvf).keep up
      have hl8 := putK_le kvs (kI pl) (.ref va)
      have hn8 := putK_ne kvs (kI pl) (.ref va)
      have hda8 : (upd H7 da (.dT (putK kvs (kI pl) (.ref va)))) da = some (.dT (putK kvs (kI pl) (.ref va))) := upd_same
      generalize putK kvs (kI pl) (.ref va) = kvs8 at k8 hr8 hl8 hn8 hda8
      generalize (upd H7 da (.dT kvs8)) = H8 at k8 hr8 hda8
      obtain ⟨cs, hca⟩ := hr8.ca
      have hlc : cs.length ≤ 7 := by rw [← hca.len]; omega
      have hne : cs ≠ [] := fun z => hn8 (List.length_eq_zero_iff.mp (by rw [hca.len, z]; rfl))
      obtain ⟨fb, fm0, hfit0⟩ := cells_fit hca dr hne
      have sh8 := hSh.kp k4.st k8
      refine ⟨_, rfl, _, rfl, s', da, ds, ts, kvs8, cs, rfl, sh8, gk.1, hda8, hca, by omega, hne, fun H9 bxv s9 hbx => ?_⟩
      refine ⟨_, rfl, _, rfl, s', da, ds, ts, kvs8, cs, rfl, sh8.same s9, gk, s9 _ _ hda8, hca.keep (fun a r e => s9 _ _ e), by omega, fun H10 mkv0 s10 hmk => ?_⟩
      have s90 := same_trans s9 s10
      have st10 := k8.st.same s90
      have sh10 := sh8.same s90
      have hbx10 := hbx.same s10
      have hda10 := s90 _ _ hda8
      have hca10 : CA ds ts H10 kvs8 cs := hca.keep fun a r e => s90 _ _ e
      refine ⟨fun σ' H' => ∃ mkv mk y7 y8 y9 y10 y11 y12, σ' = [some (.ref a), some (.ref d), some (.int (0 + (i : Int))), some (.ref s'), some (.ref da), some bxv, some mkv, y7, y8, y9, y10, y11, y12] ∧ Kp d l H10 H' ∧ MkAt K H' mkv mk ∧ MkFit ts mk ∧ (∀ c ∈ cs, ∀ (i : Nat) (v : V) (m : Mk), c.ws[i]? = some v → mk[i]? = some m → inS m.s v), ?_, ?_⟩
      · refine ⟨_, rfl, d, l, 2, rfl, st10, (by decide), fun H11 c c0 c1 k11 => ⟨rfl, _, rfl, ?_⟩⟩
        by_cases hc0 : c = 0
        · refine iteB ((vi_dec _ _).trans (decide_eq_true hc0)) ⟨_, rfl, _, rfl, _, rfl, d, l, s', mkv0, ds, ts, mkOf ts cs, rfl, k11.st, sh10.kp st10 k11, dr, hmk.kp st10 k11, fm0, fun H12 z mk' k12 hmk' fm' hwd => ?_⟩
          refine ⟨z, mk', _, _, _, _, _, _, rfl, k11.trans k12, hmk', fm', fun c hc i v m' hv hm' => ?_⟩
          have hi : i < ts.length := by
            have := (List.getElem?_eq_some_iff.mp hm').1
            rwa [fm'.1] at this
          have hi2 : i < (mkOf ts cs).length := by rw [fm0.1]; exact hi
          have hmi : (mkOf ts cs)[i]? = some (mkOf ts cs)[i] := List.getElem?_eq_getElem hi2
          obtain ⟨k, hk, hos⟩ := fm0.2 i _ _ (List.getElem?_eq_getElem hi) hmi
          obtain ⟨k2, hk2, hov⟩ := (hca.fit c hc).2.2 i _ v (List.getElem?_eq_getElem hi) hv
          obtain rfl := kdS_inj (hk.symm.trans hk2)
          exact hwd i _ m' hmi hm' k v hos hov ((hfit0 c hc).2.mB i v _ hv hmi)
        · exact iteBF ((vi_dec _ _).trans (decide_eq_false hc0)) ⟨mkv0, mkOf ts cs, _, _, _, _, _, _, rfl, k11, (hmk.kp st10 k11).at, fm0, fun c hc i v m hv hm => (hfit0 c hc).2.mB i v m hv hm⟩
      rintro _ H11 ⟨mkv, mk, y7, y8, y9, y10, y11, y12, rfl, k11, hmk11, fm, hinm⟩
      have sh11 := sh10.kp st10 k11
      have hda11 := k11.at st10 hda10 (fun _ z => nomatch z)
      have hca11 : CA ds ts H11 kvs8 cs := hca10.keep fun a r e => k11.at st10 e (fun _ z => nomatch z)
      have hfit : ∀ c ∈ cs, Fits ds ts c.pl c.ws ∧ InC (bxOf ds cs) mk c.pl c.ws := fun c hc => ⟨(hfit0 c hc).1, ⟨(hfit0 c hc).2.bB, fun i v m hv hm => hinm c hc i v m hv hm⟩⟩
      have A11 : Ask K C H11 s' da bxv mkv ds ts (bxOf ds cs) mk kvs8 cs := ⟨sh11, gk, hbx10.kp st10 k11, hmk11, fb, fm, hda11, hca11, by omega, hfit⟩
      refine ⟨_, rfl, _, rfl, _, rfl, s', da, mkv, ds, ts, kvs8, cs, mk, rfl, sh11, gk, hda11, hca11, by omega, hmk11, fm, hinm, fun H12 s12 => ⟨_, rfl, iteBF rfl ?_⟩⟩
      have A12 := A11.same s12
      have st12 := k11.st.same s12
      refine ⟨(by show 4 ≤ sizeLine; decide), fun L nL => ⟨L, rfl, ⟨_, .inl (.inl upd_same)⟩, ?_⟩⟩
      have eHL : (upd H12 L (.lst [V.str "int", .str "flag", .str "text", .str "flag"])) = upd H12 L (.lst (K4.map V.str)) := rfl
      rw [eHL]
      have sL : Same H12 _ := same_new (o := .lst (K4.map V.str)) nL
      have eL : (upd H12 L (.lst (K4.map V.str))) L = some (.lst (K4.map V.str)) := upd_same
      have AL := A12.same sL
      have stL := st12.same sL
      generalize (upd H12 L (.lst (K4.map V.str))) = HL at sL eL AL stL ⊢
      refine for_it (walk_list (xs := K4.map V.str)) (fun j σ H' => ∃ y7 y8 y9 y10 y11 y12, σ = [some (.ref a), some (.ref d), some (.int (0 + (i : Int))), some (.ref s'), some (.ref da), some bxv, some mkv, y7, y8, y9, y10, y11, y12] ∧ Kp d l HL H') ⟨_, _, _, _, _, _, rfl, Kp.refl stL⟩ ?_ ?_ ?_
      · rintro j σ H' hj ⟨y7, y8, y9, y10, y11, y12, rfl, kj⟩
        exact .inl (.inl (kj.at stL eL (fun _ z => nomatch z)))
      · rintro j th σ H15 H' hj ⟨y7, y8, y9, y10, y11, y12, rfl, kj⟩ ⟨rfl, hth⟩
        obtain ⟨kz, hkz, rfl⟩ := List.mem_map.mp (List.mem_of_getElem? hth)
        obtain ⟨qk, rfl⟩ := k3_tab kz (k4_in kz hkz)
        have AJ := AL.kp stL kj
        refine ⟨_, rfl, _, rfl, _, rfl, d, l, s', qk, 4, ds, ts, rfl, by decide, kj.st, AJ.sh, dr, fun H5 r e k5 x g => ?_⟩
        have hdp := g.dp
        have hc := g.ty 0
        have kj5 := kj.trans k5
        have A5 := AL.kp stL kj5
        obtain ⟨pp, hP, hsw⟩ := pr_w fb fm e (m := 0) g.wf hc
        have hok := hP.oks
        refine ⟨_, rfl, _, rfl, _, rfl, _, rfl, r, bxv, mkv, s', e, ds, ts, _, _, pp, qk, rfl, x, by omega, A5.sh, A5.bxs, A5.mks, hP, fun H6 zs s6 hzs => ?_⟩
        have A6 := A5.same s6
        have x6 := x.same s6
        refine ⟨_, rfl, _, rfl, _, rfl, _, rfl, r, bxv, mkv, s', e, ds, ts, _, _, pp, qk, rfl, x6, by omega, A6.sh, A6.bxs, A6.mks, hP, fun H7' z s7 hz' => ?_⟩
        have A7 := A6.same s7
        have x7 := x6.same s7
        have hzs7 := hzs.same s7
        obtain ⟨ea, u, c, rfl, hea, hu⟩ := hz'.span
        refine ⟨_, rfl, ea, _, 0, u, rfl, rfl, hea, rfl, _, rfl, spn_eq hok hu hzs7, fun H8' e8 => ⟨_, rfl, iteF ?_⟩⟩
        have s8 : Same H7' H8' := e8
        have A8 := A7.same s8
        have x8 := x7.same s8
        have hw8 := WAt.same s8 (pp_w hz' hP)
        refine ⟨_, rfl, _, rfl, _, rfl, _, rfl, _, rfl, r, bxv, mkv, .ref ea, s', e, ds, ts, _, _, toW pp, qk, 0, rfl, x8, g.wf, by omega, by omega, A8.sh, A8.gk, A8.bxs, A8.mks, fb, fm, hc, hw8, fun H9' s9' => ⟨_, _, rfl, rfl, _, rfl, iteBF (by rw [hsw]; rfl) ?_⟩⟩
        have A9 := A8.same s9'
        have x9 := x8.same s9'
        have hw9 := WAt.same s9' hw8
        have hzs9 := hzs7.same (same_trans s8 s9')
        have kj9 := kj5.same (same_trans s6 (same_trans s7 (same_trans s8 s9')))
        obtain ⟨sp, ps⟩ := pp
        rw [toW] at hsw hw9
        have hgd := hw9.dgood
        have hosp : OkS qk sp := hok
        refine ⟨da, _, A9.hd, trivial, fun od => ?_⟩
        have kt : ∀ b o, H9' b = some o → (∀ kvs, o ≠ .dT kvs) → (upd H9' da (.frz od (.dT kvs8))) b = some o := fun b o e1 n => by
          rw [upd_ne (fun z => by rw [z, A9.hd] at e1; exact n _ (Option.some.inj e1).symm)]
          exact e1
        have ktt : ∀ b r, H9' b = some (.tup r) → (upd H9' da (.frz od (.dT kvs8))) b = some (.tup r) := fun b r e1 => kt _ _ e1 (fun _ z => nomatch z)
        have hCl : CA ds ts (upd H9' da (.frz od (.dT kvs8))) kvs8 cs := A9.ca.keep ktt
        have shl : ShapeAt (upd H9' da (.frz od (.dT kvs8))) C s' ds ts := A9.sh.lock A9.hd
        have xl : ExAt (upd H9' da (.frz od (.dT kvs8))) r e := x9.keep ktt
        have wl : WAt K (upd H9' da (.frz od (.dT kvs8))) (.ref ea) (.pp sp (toWs ps)) := WAt.kt kt hw9
        have zl : SpnAt K (upd H9' da (.frz od (.dT kvs8))) zs sp := SpnAt.kt hzs9 kt
        have hdl : (upd H9' da (.frz od (.dT kvs8))) da = some (.frz od (.dT kvs8)) := upd_same
        refine ⟨_, rfl, da, od, rfl, .inr ⟨kvs8, upd_same, for_it (walk_cells hCl) (fun j σ H' => ∃ y11 y12, σ = [some (.ref a), some (.ref d), some (.int (0 + (i : Int))), some (.ref s'), some (.ref da), some bxv, some mkv, some (.str (kdS qk)), some r, some zs, some (.ref ea), y11, y12] ∧ Same (upd H9' da (.frz od (.dT kvs8))) H') ⟨_, _, rfl, same_refl⟩ ?_ ?_ ?_⟩⟩
        · rintro j2 σ H' hj2 ⟨y11, y12, rfl, s8⟩
          exact s8 _ _ hdl
        · rintro j2 th2 σ H8' H8 hj2 ⟨y11, y12, rfl, s8⟩ ⟨rfl, c, qa, hc', rfl, hqa⟩
          have hcm := List.mem_of_getElem? hc'
          have hft := hfit c hcm
          obtain ⟨v, hev, hov, hin⟩ := shw_in fb fm hft.1 hft.2 e g.wf hc
          have hiv : inS sp v := hin _ hgd hsw
          have hva8 := (hCl.gt c hcm).2
          refine ⟨_, rfl, _, rfl, _, rfl, _, rfl, _, rfl, da, .ref c.va, rfl, hCl.get hcm (.inr ⟨od, s8 _ _ hdl⟩) hqa, r, s', qa, c.va, e, ds, ts, c.pl, c.ws, v, rfl, xl.same s8, g.wf, by omega, shl.same s8, hqa, s8 _ _ hva8, hev, ⟨gk.1, gk.2.1⟩, fun H10' s10' => ?_⟩
          have s8A := same_trans s8 s10'
          have hal := alw_in hosp hov hiv
          refine ⟨_, rfl, _, rfl, zs, v, sp, qk, rfl, zl.same s8A, hosp, hov.imp id (fun h => ⟨qk, h⟩), fun H11' s11' => ⟨_, rfl, iteBF (by rw [hal]; rfl) ?_⟩⟩
          have s8B := same_trans s8A s11'
          refine ⟨_, rfl, rfl, _, rfl, ?_⟩
          by_cases hf : isF qk = true
          · have hqf : qk = .f := by cases qk <;> first | rfl | cases hf
            have hokf : OkS .f sp := by rw [← hqf]; exact hosp
            have hovf : OkV .f v := by rw [← hqf]; exact hov
            refine iteB ((kd_flag2 qk).trans hf) ⟨_, rfl, .ref ea, sp, toWs ps, rfl, WAt.same s8B wl, hokf, fun H12' s12' => ⟨_, rfl, ?_⟩⟩
            have s8C := same_trans s8B s12'
            cases hp : alw sp (.bl true) with
            | true => exact iteBF rfl (iteF ⟨_, _, rfl, s8C⟩)
            | false =>
              obtain ⟨o, rfl⟩ := okf hovf
              refine iteB rfl ⟨_, rfl, o, true, rfl, rfl, _, rfl, iteBF (decide_eq_false fun eo => ?_) ⟨_, _, rfl, s8C⟩⟩
              rw [eo] at hal
              rw [show alw sp (ob (some true)) = alw sp (.bl true) from rfl, hp] at hal
              cases hal
          · exact iteBF ((kd_flag2 qk).trans (Bool.eq_false_iff.mpr hf)) (iteF ⟨_, _, rfl, s8B⟩)
        · rintro σ H8 ⟨y11, y12, rfl, s8⟩
          exact ⟨s8 _ _ hdl, _, _, _, _, _, _, rfl, kj9.same (same_lock A9.hd s8)⟩
      · rintro σ H' ⟨y7, y8, y9, y10, y11, y12, rfl, kj⟩
        exact ⟨_, _, _, _, _, _, _, _, _, _, _, rfl, kj.st⟩
    · rintro σ H3 _
      trivial
end
end K2

namespace K2
open PySem L2
theorem imp1 {K : PySem.W.Frag} {wd : Str} {C : Spn → Prop} (h : ∀ k ss, CWr wd k ss → ∃ s, ss = [s] ∧ C s) : ∀ vs H Q E, spW K wd vs H Q E → sp1 K C (fun s => raw wd [s]) vs H Q E := by
  rintro vs H Q E ⟨k, ss, hx, hc, q⟩
  obtain ⟨s, rfl, hs⟩ := h k ss hc
  cases hx with | cons h g => cases g with | nil =>
  exact ⟨_, s, rfl, h, hs, q⟩
theorem imp2 {K : PySem.W.Frag} {wd : Str} {C : Spn → Spn → Prop} (h : ∀ k ss, CWr wd k ss → ∃ s t, ss = [s, t] ∧ C s t) : ∀ vs H Q E, spW K wd vs H Q E → sp2 K C (fun s t => raw wd [s, t]) vs H Q E := by
  rintro vs H Q E ⟨k, ss, hx, hc, q⟩
  obtain ⟨s, t, rfl, hs⟩ := h k ss hc
  cases hx with | cons h g => cases g with | cons h2 g => cases g with | nil =>
  exact ⟨_, s, _, t, rfl, h, h2, hs, q⟩
theorem cw_neg : ∀ k ss, CWr "neg" k ss → ∃ s, ss = [s] ∧ isI1 s := by
  intro k ss h
  rcases h with ⟨e, _⟩ | ⟨_, _, s, rfl, h, eh⟩ | ⟨e, _⟩ | ⟨e, _⟩ | ⟨e, _⟩ | ⟨e, _⟩ | ⟨e, _⟩
  · exact absurd e (by decide +kernel)
  · exact ⟨s, rfl, okI1 h eh⟩
  · exact absurd e (by decide +kernel)
  · exact absurd e (by decide +kernel)
  · exact absurd e (by decide +kernel)
  · exact absurd e (by decide +kernel)
  · exact absurd e (by decide +kernel)
theorem cw_abs : ∀ k ss, CWr "abs" k ss → ∃ s, ss = [s] ∧ isI1 s := by
  intro k ss h
  rcases h with ⟨e, _⟩ | ⟨e, _⟩ | ⟨_, _, s, rfl, h, eh⟩ | ⟨e, _⟩ | ⟨e, _⟩ | ⟨e, _⟩ | ⟨e, _⟩
  · exact absurd e (by decide +kernel)
  · exact absurd e (by decide +kernel)
  · exact ⟨s, rfl, okI1 h eh⟩
  · exact absurd e (by decide +kernel)
  · exact absurd e (by decide +kernel)
  · exact absurd e (by decide +kernel)
  · exact absurd e (by decide +kernel)
theorem cw_not : ∀ k ss, CWr "not" k ss → ∃ s, ss = [s] ∧ isF1 s := by
  intro k ss h
  rcases h with ⟨_, _, s, rfl, h, eh⟩ | ⟨e, _⟩ | ⟨e, _⟩ | ⟨e, _⟩ | ⟨e, _⟩ | ⟨e, _⟩ | ⟨e, _⟩
  · exact ⟨s, rfl, okF1 h eh⟩
  · exact absurd e (by decide +kernel)
  · exact absurd e (by decide +kernel)
  · exact absurd e (by decide +kernel)
  · exact absurd e (by decide +kernel)
  · exact absurd e (by decide +kernel)
  · exact absurd e (by decide +kernel)
theorem cw_length : ∀ k ss, CWr "length" k ss → ∃ s, ss = [s] ∧ isT1 s := by
  intro k ss h
  rcases h with ⟨e, _⟩ | ⟨e, _⟩ | ⟨e, _⟩ | ⟨_, _, s, rfl, h, eh⟩ | ⟨e, _⟩ | ⟨e, _⟩ | ⟨e, _⟩
  · exact absurd e (by decide +kernel)
  · exact absurd e (by decide +kernel)
  · exact absurd e (by decide +kernel)
  · exact ⟨s, rfl, okT1 h eh⟩
  · exact absurd e (by decide +kernel)
  · exact absurd e (by decide +kernel)
  · exact absurd e (by decide +kernel)
theorem cw_joined : ∀ k ss, CWr "joined" k ss → ∃ s t, ss = [s, t] ∧ isT2 s t := by
  intro k ss h
  rcases h with ⟨e, _⟩ | ⟨e, _⟩ | ⟨e, _⟩ | ⟨e, _⟩ | ⟨_, _, s, t, rfl, h, h2, eh, eh2⟩ | ⟨e, _⟩ | ⟨e, _⟩
  · exact absurd e (by decide +kernel)
  · exact absurd e (by decide +kernel)
  · exact absurd e (by decide +kernel)
  · exact absurd e (by decide +kernel)
  · exact ⟨s, t, rfl, okT1 h eh, okT1 h2 eh2⟩
  · exact absurd e (by decide +kernel)
  · exact absurd e (by decide +kernel)
theorem cw_eq : ∀ k ss, CWr "eq" k ss → ∃ s t, ss = [s, t] ∧ isC s t := by
  intro k ss h
  rcases h with ⟨e, _⟩ | ⟨e, _⟩ | ⟨e, _⟩ | ⟨e, _⟩ | ⟨e, _⟩ | ⟨_, _, s, t, q, rfl, h, h2, eh, eh2⟩ | ⟨e, _⟩
  · exact absurd e (by decide +kernel)
  · exact absurd e (by decide +kernel)
  · exact absurd e (by decide +kernel)
  · exact absurd e (by decide +kernel)
  · exact absurd e (by decide +kernel)
  · exact ⟨s, t, rfl, q, (h.ends_of eh).1, (h.ends_of eh).2.1, (h2.ends_of eh2).1, (h2.ends_of eh2).2.1⟩
  · exact absurd e (by decide +kernel)
theorem cw_ne : ∀ k ss, CWr "ne" k ss → ∃ s t, ss = [s, t] ∧ isC s t := by
  intro k ss h
  rcases h with ⟨e, _⟩ | ⟨e, _⟩ | ⟨e, _⟩ | ⟨e, _⟩ | ⟨e, _⟩ | ⟨_, _, s, t, q, rfl, h, h2, eh, eh2⟩ | ⟨e, _⟩
  · exact absurd e (by decide +kernel)
  · exact absurd e (by decide +kernel)
  · exact absurd e (by decide +kernel)
  · exact absurd e (by decide +kernel)
  · exact absurd e (by decide +kernel)
  · exact ⟨s, t, rfl, q, (h.ends_of eh).1, (h.ends_of eh).2.1, (h2.ends_of eh2).1, (h2.ends_of eh2).2.1⟩
  · exact absurd e (by decide +kernel)
theorem cw_lt : ∀ k ss, CWr "lt" k ss → ∃ s t, ss = [s, t] ∧ isC s t := by
  intro k ss h
  rcases h with ⟨e, _⟩ | ⟨e, _⟩ | ⟨e, _⟩ | ⟨e, _⟩ | ⟨e, _⟩ | ⟨_, _, s, t, q, rfl, h, h2, eh, eh2⟩ | ⟨e, _⟩
  · exact absurd e (by decide +kernel)
  · exact absurd e (by decide +kernel)
  · exact absurd e (by decide +kernel)
  · exact absurd e (by decide +kernel)
  · exact absurd e (by decide +kernel)
  · exact ⟨s, t, rfl, q, (h.ends_of eh).1, (h.ends_of eh).2.1, (h2.ends_of eh2).1, (h2.ends_of eh2).2.1⟩
  · exact absurd e (by decide +kernel)
theorem cw_le : ∀ k ss, CWr "le" k ss → ∃ s t, ss = [s, t] ∧ isC s t := by
  intro k ss h
  rcases h with ⟨e, _⟩ | ⟨e, _⟩ | ⟨e, _⟩ | ⟨e, _⟩ | ⟨e, _⟩ | ⟨_, _, s, t, q, rfl, h, h2, eh, eh2⟩ | ⟨e, _⟩
  · exact absurd e (by decide +kernel)
  · exact absurd e (by decide +kernel)
  · exact absurd e (by decide +kernel)
  · exact absurd e (by decide +kernel)
  · exact absurd e (by decide +kernel)
  · exact ⟨s, t, rfl, q, (h.ends_of eh).1, (h.ends_of eh).2.1, (h2.ends_of eh2).1, (h2.ends_of eh2).2.1⟩
  · exact absurd e (by decide +kernel)
theorem cw_gt : ∀ k ss, CWr "gt" k ss → ∃ s t, ss = [s, t] ∧ isC s t := by
  intro k ss h
  rcases h with ⟨e, _⟩ | ⟨e, _⟩ | ⟨e, _⟩ | ⟨e, _⟩ | ⟨e, _⟩ | ⟨_, _, s, t, q, rfl, h, h2, eh, eh2⟩ | ⟨e, _⟩
  · exact absurd e (by decide +kernel)
  · exact absurd e (by decide +kernel)
  · exact absurd e (by decide +kernel)
  · exact absurd e (by decide +kernel)
  · exact absurd e (by decide +kernel)
  · exact ⟨s, t, rfl, q, (h.ends_of eh).1, (h.ends_of eh).2.1, (h2.ends_of eh2).1, (h2.ends_of eh2).2.1⟩
  · exact absurd e (by decide +kernel)
theorem cw_ge : ∀ k ss, CWr "ge" k ss → ∃ s t, ss = [s, t] ∧ isC s t := by
  intro k ss h
  rcases h with ⟨e, _⟩ | ⟨e, _⟩ | ⟨e, _⟩ | ⟨e, _⟩ | ⟨e, _⟩ | ⟨_, _, s, t, q, rfl, h, h2, eh, eh2⟩ | ⟨e, _⟩
  · exact absurd e (by decide +kernel)
  · exact absurd e (by decide +kernel)
  · exact absurd e (by decide +kernel)
  · exact absurd e (by decide +kernel)
  · exact absurd e (by decide +kernel)
  · exact ⟨s, t, rfl, q, (h.ends_of eh).1, (h.ends_of eh).2.1, (h2.ends_of eh2).1, (h2.ends_of eh2).2.1⟩
  · exact absurd e (by decide +kernel)
theorem cw_add : ∀ k ss, CWr "add" k ss → ∃ s t, ss = [s, t] ∧ isI2 s t := by
  intro k ss h
  rcases h with ⟨e, _⟩ | ⟨e, _⟩ | ⟨e, _⟩ | ⟨e, _⟩ | ⟨e, _⟩ | ⟨e, _⟩ | ⟨_, _, s, t, rfl, h, h2, eh, eh2⟩
  · exact absurd e (by decide +kernel)
  · exact absurd e (by decide +kernel)
  · exact absurd e (by decide +kernel)
  · exact absurd e (by decide +kernel)
  · exact absurd e (by decide +kernel)
  · exact absurd e (by decide +kernel)
  · exact ⟨s, t, rfl, okI1 h eh, okI1 h2 eh2⟩
theorem cw_sub : ∀ k ss, CWr "sub" k ss → ∃ s t, ss = [s, t] ∧ isI2 s t := by
  intro k ss h
  rcases h with ⟨e, _⟩ | ⟨e, _⟩ | ⟨e, _⟩ | ⟨e, _⟩ | ⟨e, _⟩ | ⟨e, _⟩ | ⟨_, _, s, t, rfl, h, h2, eh, eh2⟩
  · exact absurd e (by decide +kernel)
  · exact absurd e (by decide +kernel)
  · exact absurd e (by decide +kernel)
  · exact absurd e (by decide +kernel)
  · exact absurd e (by decide +kernel)
  · exact absurd e (by decide +kernel)
  · exact ⟨s, t, rfl, okI1 h eh, okI1 h2 eh2⟩
theorem cw_mul : ∀ k ss, CWr "mul" k ss → ∃ s t, ss = [s, t] ∧ isI2 s t := by
  intro k ss h
  rcases h with ⟨e, _⟩ | ⟨e, _⟩ | ⟨e, _⟩ | ⟨e, _⟩ | ⟨e, _⟩ | ⟨e, _⟩ | ⟨_, _, s, t, rfl, h, h2, eh, eh2⟩
  · exact absurd e (by decide +kernel)
  · exact absurd e (by decide +kernel)
  · exact absurd e (by decide +kernel)
  · exact absurd e (by decide +kernel)
  · exact absurd e (by decide +kernel)
  · exact absurd e (by decide +kernel)
  · exact ⟨s, t, rfl, okI1 h eh, okI1 h2 eh2⟩
theorem cw_div : ∀ k ss, CWr "div" k ss → ∃ s t, ss = [s, t] ∧ isI2 s t := by
  intro k ss h
  rcases h with ⟨e, _⟩ | ⟨e, _⟩ | ⟨e, _⟩ | ⟨e, _⟩ | ⟨e, _⟩ | ⟨e, _⟩ | ⟨_, _, s, t, rfl, h, h2, eh, eh2⟩
  · exact absurd e (by decide +kernel)
  · exact absurd e (by decide +kernel)
  · exact absurd e (by decide +kernel)
  · exact absurd e (by decide +kernel)
  · exact absurd e (by decide +kernel)
  · exact absurd e (by decide +kernel)
  · exact ⟨s, t, rfl, okI1 h eh, okI1 h2 eh2⟩
theorem cw_mod : ∀ k ss, CWr "mod" k ss → ∃ s t, ss = [s, t] ∧ isI2 s t := by
  intro k ss h
  rcases h with ⟨e, _⟩ | ⟨e, _⟩ | ⟨e, _⟩ | ⟨e, _⟩ | ⟨e, _⟩ | ⟨e, _⟩ | ⟨_, _, s, t, rfl, h, h2, eh, eh2⟩
  · exact absurd e (by decide +kernel)
  · exact absurd e (by decide +kernel)
  · exact absurd e (by decide +kernel)
  · exact absurd e (by decide +kernel)
  · exact absurd e (by decide +kernel)
  · exact absurd e (by decide +kernel)
  · exact ⟨s, t, rfl, okI1 h eh, okI1 h2 eh2⟩
theorem fr {P : Program} {w : World} {K : PySem.W.Frag} {mg : Str → Option Value} {base : Heap} {k : Nat} {f : Addr} {fd : FuncData} {ps : List Str} {sp sp' : Sp} (F : FnOk P w K mg base CX0 k f fd ps sp) (hb : Binds K fd ps []) (hk : k ≤ 6) (h : ∀ vs H Q E, sp' vs H Q E → sp vs H Q E) : FnR P w K mg base CX0 6 f sp' := by
  exact ((F.raw hb .nil).imp fun vs H Q E q => by rw [List.append_nil]; exact h _ _ _ _ q).mono hk
theorem il_mis {K : PySem.W.Frag} : ∀ vs H Q E, spWL K "is missing" vs H Q E → sp1 K (fun _ => True) (fun s => trS s.m (has s)) vs H Q E := by
  rintro vs H Q E ⟨qs, k, ss, hx, hj, hk, q⟩
  have : ∃ a, qs = [a] := by
    rcases hj with ⟨e, _⟩ | ⟨e, _⟩ | ⟨e, _⟩ | ⟨e, _⟩ | ⟨e, _⟩ | ⟨e, _⟩ | ⟨e, _⟩ | ⟨_, _, a, _, rfl⟩ | ⟨e, _⟩ | ⟨e, _⟩ | ⟨e, _⟩ | ⟨e, _⟩
    · exact absurd e (by decide +kernel)
    · exact absurd e (by decide +kernel)
    · exact absurd e (by decide +kernel)
    · exact absurd e (by decide +kernel)
    · exact absurd e (by decide +kernel)
    · exact absurd e (by decide +kernel)
    · exact absurd e (by decide +kernel)
    · exact ⟨a, rfl⟩
    · exact absurd e (by decide +kernel)
    · exact absurd e (by decide +kernel)
    · exact absurd e (by decide +kernel)
    · exact absurd e (by decide +kernel)
  obtain ⟨a, rfl⟩ := this
  cases hk with | @cons _ s _ _ ks g => cases g with | nil =>
  cases hx with | cons h g => cases g with | nil =>
  exact ⟨_, s, rfl, h, trivial, q⟩
theorem il_and {K : PySem.W.Frag} : ∀ vs H Q E, spWL K "and" vs H Q E → sp2 K isF2 (fun s t => jL "and" [s, t]) vs H Q E := by
  rintro vs H Q E ⟨qs, k, ss, hx, hj, hk, q⟩
  have : qs = [.f, .f] := by
    rcases hj with ⟨e, _⟩ | ⟨e, _⟩ | ⟨e, _⟩ | ⟨e, _⟩ | ⟨e, _⟩ | ⟨e, _⟩ | ⟨e, _⟩ | ⟨e, _⟩ | ⟨_, rfl, _⟩ | ⟨e, _⟩ | ⟨e, _⟩ | ⟨e, _⟩
    · exact absurd e (by decide +kernel)
    · exact absurd e (by decide +kernel)
    · exact absurd e (by decide +kernel)
    · exact absurd e (by decide +kernel)
    · exact absurd e (by decide +kernel)
    · exact absurd e (by decide +kernel)
    · exact absurd e (by decide +kernel)
    · exact absurd e (by decide +kernel)
    · exact rfl
    · exact absurd e (by decide +kernel)
    · exact absurd e (by decide +kernel)
    · exact absurd e (by decide +kernel)
  subst this
  cases hk with | @cons _ s _ _ ks g => cases g with | @cons _ t _ _ kt g => cases g with | nil =>
  cases hx with | cons h g => cases g with | cons h2 g => cases g with | nil =>
  exact ⟨_, s, _, t, rfl, h, h2, ⟨ks, kt⟩, q⟩
theorem il_or {K : PySem.W.Frag} : ∀ vs H Q E, spWL K "or" vs H Q E → sp2 K isF2 (fun s t => jL "or" [s, t]) vs H Q E := by
  rintro vs H Q E ⟨qs, k, ss, hx, hj, hk, q⟩
  have : qs = [.f, .f] := by
    rcases hj with ⟨e, _⟩ | ⟨e, _⟩ | ⟨e, _⟩ | ⟨e, _⟩ | ⟨e, _⟩ | ⟨e, _⟩ | ⟨e, _⟩ | ⟨e, _⟩ | ⟨e, _⟩ | ⟨_, rfl, _⟩ | ⟨e, _⟩ | ⟨e, _⟩
    · exact absurd e (by decide +kernel)
    · exact absurd e (by decide +kernel)
    · exact absurd e (by decide +kernel)
    · exact absurd e (by decide +kernel)
    · exact absurd e (by decide +kernel)
    · exact absurd e (by decide +kernel)
    · exact absurd e (by decide +kernel)
    · exact absurd e (by decide +kernel)
    · exact absurd e (by decide +kernel)
    · exact rfl
    · exact absurd e (by decide +kernel)
    · exact absurd e (by decide +kernel)
  subst this
  cases hk with | @cons _ s _ _ ks g => cases g with | @cons _ t _ _ kt g => cases g with | nil =>
  cases hx with | cons h g => cases g with | cons h2 g => cases g with | nil =>
  exact ⟨_, s, _, t, rfl, h, h2, ⟨ks, kt⟩, q⟩
theorem il_if {K : PySem.W.Frag} : ∀ vs H Q E, spWL K "if" vs H Q E → spIf K vs H Q E := by
  rintro vs H Q E ⟨qs, k, ss, hx, hj, hk, q⟩
  have : qs = [.f, k, k] := by
    rcases hj with ⟨e, _⟩ | ⟨e, _⟩ | ⟨e, _⟩ | ⟨e, _⟩ | ⟨e, _⟩ | ⟨e, _⟩ | ⟨e, _⟩ | ⟨e, _⟩ | ⟨e, _⟩ | ⟨e, _⟩ | ⟨_, rfl⟩ | ⟨e, _⟩
    · exact absurd e (by decide +kernel)
    · exact absurd e (by decide +kernel)
    · exact absurd e (by decide +kernel)
    · exact absurd e (by decide +kernel)
    · exact absurd e (by decide +kernel)
    · exact absurd e (by decide +kernel)
    · exact absurd e (by decide +kernel)
    · exact absurd e (by decide +kernel)
    · exact absurd e (by decide +kernel)
    · exact absurd e (by decide +kernel)
    · exact rfl
    · exact absurd e (by decide +kernel)
  subst this
  cases hk with | @cons _ c _ _ kc g => cases g with | @cons _ s _ _ ks g => cases g with | @cons _ t _ _ kt g => cases g with | nil =>
  cases hx with | cons h g => cases g with | cons h2 g => cases g with | cons h3 g => cases g with | nil =>
  exact ⟨_, c, _, s, _, t, k, rfl, h, h2, h3, kc, ks, kt, q⟩
theorem il_els {K : PySem.W.Frag} : ∀ vs H Q E, spWL K "or else" vs H Q E → sp2 K isK2 (fun s t => jL "or else" [s, t]) vs H Q E := by
  rintro vs H Q E ⟨qs, k, ss, hx, hj, hk, q⟩
  have : qs = [k, k] := by
    rcases hj with ⟨e, _⟩ | ⟨e, _⟩ | ⟨e, _⟩ | ⟨e, _⟩ | ⟨e, _⟩ | ⟨e, _⟩ | ⟨e, _⟩ | ⟨e, _⟩ | ⟨e, _⟩ | ⟨e, _⟩ | ⟨e, _⟩ | ⟨_, rfl⟩
    · exact absurd e (by decide +kernel)
    · exact absurd e (by decide +kernel)
    · exact absurd e (by decide +kernel)
    · exact absurd e (by decide +kernel)
    · exact absurd e (by decide +kernel)
    · exact absurd e (by decide +kernel)
    · exact absurd e (by decide +kernel)
    · exact absurd e (by decide +kernel)
    · exact absurd e (by decide +kernel)
    · exact absurd e (by decide +kernel)
    · exact absurd e (by decide +kernel)
    · exact rfl
  subst this
  cases hk with | @cons _ s _ _ ks g => cases g with | @cons _ t _ _ kt g => cases g with | nil =>
  cases hx with | cons h g => cases g with | cons h2 g => cases g with | nil =>
  exact ⟨_, s, _, t, rfl, h, h2, ⟨k, ks, kt⟩, q⟩
end K2

namespace K2
open PySem L2
theorem all_mk {l : PySem.W.OpenLaw} {w : World} {K : PySem.W.Frag} {h : Heap} {mg : Str → Option Value} {fa : Addr} (X : K.In h) (G : h.Ns mainGlobals mg) (hfa : mg "law" = some (.ref fa))
    {f1 : Addr} {od1 an1 : Option Addr} {sl1 : Array (Option Value)} {oc1 kV1 dc1 pm1 cd1 ct1 : Value}
    (a1 : PySem.W.nsIn K mainGlobals "is_text" = some (some (.ref f1))) (l1 : K.lookup f1 = some ⟨oc1, od1, .func (PySem.W.fnOf "is_text" "is_text" (defArgs sIsText) (defBody sIsText) (defScope sIsText) .none kV1 dc1 pm1 an1 cd1 ct1), sl1⟩) (c1 : PySem.W.codeIn K cd1 "is_text" = true) (k1 : PySem.W.keepIn K (.ref f1) = true)
    {f2 : Addr} {od2 an2 : Option Addr} {sl2 : Array (Option Value)} {oc2 kV2 dc2 pm2 cd2 ct2 : Value}
    (a2 : PySem.W.nsIn K mainGlobals "is_value" = some (some (.ref f2))) (l2 : K.lookup f2 = some ⟨oc2, od2, .func (PySem.W.fnOf "is_value" "is_value" (defArgs sIsValue) (defBody sIsValue) (defScope sIsValue) .none kV2 dc2 pm2 an2 cd2 ct2), sl2⟩) (c2 : PySem.W.codeIn K cd2 "is_value" = true) (k2 : PySem.W.keepIn K (.ref f2) = true)
    {f3 : Addr} {od3 an3 : Option Addr} {sl3 : Array (Option Value)} {oc3 kV3 dc3 pm3 cd3 ct3 : Value}
    (a3 : PySem.W.nsIn K mainGlobals "least_of" = some (some (.ref f3))) (l3 : K.lookup f3 = some ⟨oc3, od3, .func (PySem.W.fnOf "least_of" "least_of" (defArgs sLeastOf) (defBody sLeastOf) (defScope sLeastOf) .none kV3 dc3 pm3 an3 cd3 ct3), sl3⟩) (c3 : PySem.W.codeIn K cd3 "least_of" = true) (k3 : PySem.W.keepIn K (.ref f3) = true)
    {f4 : Addr} {od4 an4 : Option Addr} {sl4 : Array (Option Value)} {oc4 kV4 dc4 pm4 cd4 ct4 : Value}
    (a4 : PySem.W.nsIn K mainGlobals "greatest_of" = some (some (.ref f4))) (l4 : K.lookup f4 = some ⟨oc4, od4, .func (PySem.W.fnOf "greatest_of" "greatest_of" (defArgs sGreatestOf) (defBody sGreatestOf) (defScope sGreatestOf) .none kV4 dc4 pm4 an4 cd4 ct4), sl4⟩) (c4 : PySem.W.codeIn K cd4 "greatest_of" = true) (k4 : PySem.W.keepIn K (.ref f4) = true)
    {f5 : Addr} {od5 an5 : Option Addr} {sl5 : Array (Option Value)} {oc5 kV5 dc5 pm5 cd5 ct5 : Value}
    (a5 : PySem.W.nsIn K mainGlobals "is_before" = some (some (.ref f5))) (l5 : K.lookup f5 = some ⟨oc5, od5, .func (PySem.W.fnOf "is_before" "is_before" (defArgs sIsBefore) (defBody sIsBefore) (defScope sIsBefore) .none kV5 dc5 pm5 an5 cd5 ct5), sl5⟩) (c5 : PySem.W.codeIn K cd5 "is_before" = true) (k5 : PySem.W.keepIn K (.ref f5) = true)
    {f6 : Addr} {od6 an6 : Option Addr} {sl6 : Array (Option Value)} {oc6 kV6 dc6 pm6 cd6 ct6 : Value}
    (a6 : PySem.W.nsIn K mainGlobals "is_between" = some (some (.ref f6))) (l6 : K.lookup f6 = some ⟨oc6, od6, .func (PySem.W.fnOf "is_between" "is_between" (defArgs sIsBetween) (defBody sIsBetween) (defScope sIsBetween) .none kV6 dc6 pm6 an6 cd6 ct6), sl6⟩) (c6 : PySem.W.codeIn K cd6 "is_between" = true) (k6 : PySem.W.keepIn K (.ref f6) = true)
    {f7 : Addr} {od7 an7 : Option Addr} {sl7 : Array (Option Value)} {oc7 kV7 dc7 pm7 cd7 ct7 : Value}
    (a7 : PySem.W.nsIn K mainGlobals "dim_index" = some (some (.ref f7))) (l7 : K.lookup f7 = some ⟨oc7, od7, .func (PySem.W.fnOf "dim_index" "dim_index" (defArgs sDimIx) (defBody sDimIx) (defScope sDimIx) .none kV7 dc7 pm7 an7 cd7 ct7), sl7⟩) (c7 : PySem.W.codeIn K cd7 "dim_index" = true) (k7 : PySem.W.keepIn K (.ref f7) = true)
    {f8 : Addr} {od8 an8 : Option Addr} {sl8 : Array (Option Value)} {oc8 kV8 dc8 pm8 cd8 ct8 : Value}
    (a8 : PySem.W.nsIn K mainGlobals "attr_index" = some (some (.ref f8))) (l8 : K.lookup f8 = some ⟨oc8, od8, .func (PySem.W.fnOf "attr_index" "attr_index" (defArgs sAttrIx) (defBody sAttrIx) (defScope sAttrIx) .none kV8 dc8 pm8 an8 cd8 ct8), sl8⟩) (c8 : PySem.W.codeIn K cd8 "attr_index" = true) (k8 : PySem.W.keepIn K (.ref f8) = true)
    {f9 : Addr} {od9 an9 : Option Addr} {sl9 : Array (Option Value)} {oc9 kV9 dc9 pm9 cd9 ct9 : Value}
    (a9 : PySem.W.nsIn K mainGlobals "index_of" = some (some (.ref f9))) (l9 : K.lookup f9 = some ⟨oc9, od9, .func (PySem.W.fnOf "index_of" "index_of" (defArgs sIndex) (defBody sIndex) (defScope sIndex) .none kV9 dc9 pm9 an9 cd9 ct9), sl9⟩) (c9 : PySem.W.codeIn K cd9 "index_of" = true) (k9 : PySem.W.keepIn K (.ref f9) = true)
    {f10 : Addr} {od10 an10 : Option Addr} {sl10 : Array (Option Value)} {oc10 kV10 dc10 pm10 cd10 ct10 : Value}
    (a10 : PySem.W.nsIn K mainGlobals "parts_of" = some (some (.ref f10))) (l10 : K.lookup f10 = some ⟨oc10, od10, .func (PySem.W.fnOf "parts_of" "parts_of" (defArgs sPartsOf) (defBody sPartsOf) (defScope sPartsOf) .none kV10 dc10 pm10 an10 cd10 ct10), sl10⟩) (c10 : PySem.W.codeIn K cd10 "parts_of" = true) (k10 : PySem.W.keepIn K (.ref f10) = true)
    {f11 : Addr} {od11 an11 : Option Addr} {sl11 : Array (Option Value)} {oc11 kV11 dc11 pm11 cd11 ct11 : Value}
    (a11 : PySem.W.nsIn K mainGlobals "kind_of" = some (some (.ref f11))) (l11 : K.lookup f11 = some ⟨oc11, od11, .func (PySem.W.fnOf "kind_of" "kind_of" (defArgs sKindOf) (defBody sKindOf) (defScope sKindOf) .none kV11 dc11 pm11 an11 cd11 ct11), sl11⟩) (c11 : PySem.W.codeIn K cd11 "kind_of" = true) (k11 : PySem.W.keepIn K (.ref f11) = true)
    {f12 : Addr} {od12 an12 : Option Addr} {sl12 : Array (Option Value)} {oc12 kV12 dc12 pm12 cd12 ct12 : Value}
    (a12 : PySem.W.nsIn K mainGlobals "kind_from" = some (some (.ref f12))) (l12 : K.lookup f12 = some ⟨oc12, od12, .func (PySem.W.fnOf "kind_from" "kind_from" (defArgs sKindFrom) (defBody sKindFrom) (defScope sKindFrom) .none kV12 dc12 pm12 an12 cd12 ct12), sl12⟩) (c12 : PySem.W.codeIn K cd12 "kind_from" = true) (k12 : PySem.W.keepIn K (.ref f12) = true)
    {f13 : Addr} {od13 an13 : Option Addr} {sl13 : Array (Option Value)} {oc13 kV13 dc13 pm13 cd13 ct13 : Value}
    (a13 : PySem.W.nsIn K mainGlobals "leaf_kind" = some (some (.ref f13))) (l13 : K.lookup f13 = some ⟨oc13, od13, .func (PySem.W.fnOf "leaf_kind" "leaf_kind" (defArgs sLeafKind) (defBody sLeafKind) (defScope sLeafKind) .none kV13 dc13 pm13 an13 cd13 ct13), sl13⟩) (c13 : PySem.W.codeIn K cd13 "leaf_kind" = true) (k13 : PySem.W.keepIn K (.ref f13) = true)
    {f14 : Addr} {od14 an14 : Option Addr} {sl14 : Array (Option Value)} {oc14 kV14 dc14 pm14 cd14 ct14 : Value}
    (a14 : PySem.W.nsIn K mainGlobals "kind_over" = some (some (.ref f14))) (l14 : K.lookup f14 = some ⟨oc14, od14, .func (PySem.W.fnOf "kind_over" "kind_over" (defArgs sKindOver) (defBody sKindOver) (defScope sKindOver) .none kV14 dc14 pm14 an14 cd14 ct14), sl14⟩) (c14 : PySem.W.codeIn K cd14 "kind_over" = true) (k14 : PySem.W.keepIn K (.ref f14) = true)
    {f15 : Addr} {od15 an15 : Option Addr} {sl15 : Array (Option Value)} {oc15 kV15 dc15 pm15 cd15 ct15 : Value}
    (a15 : PySem.W.nsIn K mainGlobals "value_of" = some (some (.ref f15))) (l15 : K.lookup f15 = some ⟨oc15, od15, .func (PySem.W.fnOf "value_of" "value_of" (defArgs sValueOf) (defBody sValueOf) (defScope sValueOf) .none kV15 dc15 pm15 an15 cd15 ct15), sl15⟩) (c15 : PySem.W.codeIn K cd15 "value_of" = true) (k15 : PySem.W.keepIn K (.ref f15) = true)
    {f16 : Addr} {od16 an16 : Option Addr} {sl16 : Array (Option Value)} {oc16 kV16 dc16 pm16 cd16 ct16 : Value}
    (a16 : PySem.W.nsIn K mainGlobals "loose_value" = some (some (.ref f16))) (l16 : K.lookup f16 = some ⟨oc16, od16, .func (PySem.W.fnOf "loose_value" "loose_value" (defArgs sLooseValue) (defBody sLooseValue) (defScope sLooseValue) .none kV16 dc16 pm16 an16 cd16 ct16), sl16⟩) (c16 : PySem.W.codeIn K cd16 "loose_value" = true) (k16 : PySem.W.keepIn K (.ref f16) = true)
    {f17 : Addr} {od17 an17 : Option Addr} {sl17 : Array (Option Value)} {oc17 kV17 dc17 pm17 cd17 ct17 : Value}
    (a17 : PySem.W.nsIn K mainGlobals "both" = some (some (.ref f17))) (l17 : K.lookup f17 = some ⟨oc17, od17, .func (PySem.W.fnOf "both" "both" (defArgs sBoth) (defBody sBoth) (defScope sBoth) .none kV17 dc17 pm17 an17 cd17 ct17), sl17⟩) (c17 : PySem.W.codeIn K cd17 "both" = true) (k17 : PySem.W.keepIn K (.ref f17) = true)
    {f18 : Addr} {od18 an18 : Option Addr} {sl18 : Array (Option Value)} {oc18 kV18 dc18 pm18 cd18 ct18 : Value}
    (a18 : PySem.W.nsIn K mainGlobals "either" = some (some (.ref f18))) (l18 : K.lookup f18 = some ⟨oc18, od18, .func (PySem.W.fnOf "either" "either" (defArgs sEither) (defBody sEither) (defScope sEither) .none kV18 dc18 pm18 an18 cd18 ct18), sl18⟩) (c18 : PySem.W.codeIn K cd18 "either" = true) (k18 : PySem.W.keepIn K (.ref f18) = true)
    {f19 : Addr} {od19 an19 : Option Addr} {sl19 : Array (Option Value)} {oc19 kV19 dc19 pm19 cd19 ct19 : Value}
    (a19 : PySem.W.nsIn K mainGlobals "chosen" = some (some (.ref f19))) (l19 : K.lookup f19 = some ⟨oc19, od19, .func (PySem.W.fnOf "chosen" "chosen" (defArgs sChosen) (defBody sChosen) (defScope sChosen) .none kV19 dc19 pm19 an19 cd19 ct19), sl19⟩) (c19 : PySem.W.codeIn K cd19 "chosen" = true) (k19 : PySem.W.keepIn K (.ref f19) = true)
    {f20 : Addr} {od20 an20 : Option Addr} {sl20 : Array (Option Value)} {oc20 kV20 dc20 pm20 cd20 ct20 : Value}
    (a20 : PySem.W.nsIn K mainGlobals "strict_value" = some (some (.ref f20))) (l20 : K.lookup f20 = some ⟨oc20, od20, .func (PySem.W.fnOf "strict_value" "strict_value" (defArgs sStrictValue) (defBody sStrictValue) (defScope sStrictValue) .none kV20 dc20 pm20 an20 cd20 ct20), sl20⟩) (c20 : PySem.W.codeIn K cd20 "strict_value" = true) (k20 : PySem.W.keepIn K (.ref f20) = true)
    {f21 : Addr} {od21 an21 : Option Addr} {sl21 : Array (Option Value)} {oc21 kV21 dc21 pm21 cd21 ct21 : Value}
    (a21 : PySem.W.nsIn K mainGlobals "compared" = some (some (.ref f21))) (l21 : K.lookup f21 = some ⟨oc21, od21, .func (PySem.W.fnOf "compared" "compared" (defArgs sCompared) (defBody sCompared) (defScope sCompared) .none kV21 dc21 pm21 an21 cd21 ct21), sl21⟩) (c21 : PySem.W.codeIn K cd21 "compared" = true) (k21 : PySem.W.keepIn K (.ref f21) = true)
    {f22 : Addr} {od22 an22 : Option Addr} {sl22 : Array (Option Value)} {oc22 kV22 dc22 pm22 cd22 ct22 : Value}
    (a22 : PySem.W.nsIn K mainGlobals "reckoned" = some (some (.ref f22))) (l22 : K.lookup f22 = some ⟨oc22, od22, .func (PySem.W.fnOf "reckoned" "reckoned" (defArgs sReckoned) (defBody sReckoned) (defScope sReckoned) .none kV22 dc22 pm22 an22 cd22 ct22), sl22⟩) (c22 : PySem.W.codeIn K cd22 "reckoned" = true) (k22 : PySem.W.keepIn K (.ref f22) = true)
    {f23 : Addr} {od23 an23 : Option Addr} {sl23 : Array (Option Value)} {oc23 kV23 dc23 pm23 cd23 ct23 : Value}
    (a23 : PySem.W.nsIn K mainGlobals "span_of" = some (some (.ref f23))) (l23 : K.lookup f23 = some ⟨oc23, od23, .func (PySem.W.fnOf "span_of" "span_of" (defArgs sSpanOf) (defBody sSpanOf) (defScope sSpanOf) .none kV23 dc23 pm23 an23 cd23 ct23), sl23⟩) (c23 : PySem.W.codeIn K cd23 "span_of" = true) (k23 : PySem.W.keepIn K (.ref f23) = true)
    {f24 : Addr} {od24 an24 : Option Addr} {sl24 : Array (Option Value)} {oc24 kV24 dc24 pm24 cd24 ct24 : Value}
    (a24 : PySem.W.nsIn K mainGlobals "paper_of" = some (some (.ref f24))) (l24 : K.lookup f24 = some ⟨oc24, od24, .func (PySem.W.fnOf "paper_of" "paper_of" (defArgs sPaperOf) (defBody sPaperOf) (defScope sPaperOf) .none kV24 dc24 pm24 an24 cd24 ct24), sl24⟩) (c24 : PySem.W.codeIn K cd24 "paper_of" = true) (k24 : PySem.W.keepIn K (.ref f24) = true)
    {f25 : Addr} {od25 an25 : Option Addr} {sl25 : Array (Option Value)} {oc25 kV25 dc25 pm25 cd25 ct25 : Value}
    (a25 : PySem.W.nsIn K mainGlobals "shows" = some (some (.ref f25))) (l25 : K.lookup f25 = some ⟨oc25, od25, .func (PySem.W.fnOf "shows" "shows" (defArgs sShows) (defBody sShows) (defScope sShows) .none kV25 dc25 pm25 an25 cd25 ct25), sl25⟩) (c25 : PySem.W.codeIn K cd25 "shows" = true) (k25 : PySem.W.keepIn K (.ref f25) = true)
    {f26 : Addr} {od26 an26 : Option Addr} {sl26 : Array (Option Value)} {oc26 kV26 dc26 pm26 cd26 ct26 : Value}
    (a26 : PySem.W.nsIn K mainGlobals "is_span" = some (some (.ref f26))) (l26 : K.lookup f26 = some ⟨oc26, od26, .func (PySem.W.fnOf "is_span" "is_span" (defArgs sIsSpan) (defBody sIsSpan) (defScope sIsSpan) .none kV26 dc26 pm26 an26 cd26 ct26), sl26⟩) (c26 : PySem.W.codeIn K cd26 "is_span" = true) (k26 : PySem.W.keepIn K (.ref f26) = true)
    {f27 : Addr} {od27 an27 : Option Addr} {sl27 : Array (Option Value)} {oc27 kV27 dc27 pm27 cd27 ct27 : Value}
    (a27 : PySem.W.nsIn K mainGlobals "encloses" = some (some (.ref f27))) (l27 : K.lookup f27 = some ⟨oc27, od27, .func (PySem.W.fnOf "encloses" "encloses" (defArgs sEncloses) (defBody sEncloses) (defScope sEncloses) .none kV27 dc27 pm27 an27 cd27 ct27), sl27⟩) (c27 : PySem.W.codeIn K cd27 "encloses" = true) (k27 : PySem.W.keepIn K (.ref f27) = true)
    {f28 : Addr} {od28 an28 : Option Addr} {sl28 : Array (Option Value)} {oc28 kV28 dc28 pm28 cd28 ct28 : Value}
    (a28 : PySem.W.nsIn K mainGlobals "has_ends" = some (some (.ref f28))) (l28 : K.lookup f28 = some ⟨oc28, od28, .func (PySem.W.fnOf "has_ends" "has_ends" (defArgs sHasEnds) (defBody sHasEnds) (defScope sHasEnds) .none kV28 dc28 pm28 an28 cd28 ct28), sl28⟩) (c28 : PySem.W.codeIn K cd28 "has_ends" = true) (k28 : PySem.W.keepIn K (.ref f28) = true)
    {f29 : Addr} {od29 an29 : Option Addr} {sl29 : Array (Option Value)} {oc29 kV29 dc29 pm29 cd29 ct29 : Value}
    (a29 : PySem.W.nsIn K mainGlobals "allows" = some (some (.ref f29))) (l29 : K.lookup f29 = some ⟨oc29, od29, .func (PySem.W.fnOf "allows" "allows" (defArgs sAllows) (defBody sAllows) (defScope sAllows) .none kV29 dc29 pm29 an29 cd29 ct29), sl29⟩) (c29 : PySem.W.codeIn K cd29 "allows" = true) (k29 : PySem.W.keepIn K (.ref f29) = true)
    {f30 : Addr} {od30 an30 : Option Addr} {sl30 : Array (Option Value)} {oc30 kV30 dc30 pm30 cd30 ct30 : Value}
    (a30 : PySem.W.nsIn K mainGlobals "are_of_one_kind" = some (some (.ref f30))) (l30 : K.lookup f30 = some ⟨oc30, od30, .func (PySem.W.fnOf "are_of_one_kind" "are_of_one_kind" (defArgs sAreOfOneKind) (defBody sAreOfOneKind) (defScope sAreOfOneKind) .none kV30 dc30 pm30 an30 cd30 ct30), sl30⟩) (c30 : PySem.W.codeIn K cd30 "are_of_one_kind" = true) (k30 : PySem.W.keepIn K (.ref f30) = true)
    {f31 : Addr} {od31 an31 : Option Addr} {sl31 : Array (Option Value)} {oc31 kV31 dc31 pm31 cd31 ct31 : Value}
    (a31 : PySem.W.nsIn K mainGlobals "can_pass" = some (some (.ref f31))) (l31 : K.lookup f31 = some ⟨oc31, od31, .func (PySem.W.fnOf "can_pass" "can_pass" (defArgs sCanPass) (defBody sCanPass) (defScope sCanPass) .none kV31 dc31 pm31 an31 cd31 ct31), sl31⟩) (c31 : PySem.W.codeIn K cd31 "can_pass" = true) (k31 : PySem.W.keepIn K (.ref f31) = true)
    {f32 : Addr} {od32 an32 : Option Addr} {sl32 : Array (Option Value)} {oc32 kV32 dc32 pm32 cd32 ct32 : Value}
    (a32 : PySem.W.nsIn K mainGlobals "span_from" = some (some (.ref f32))) (l32 : K.lookup f32 = some ⟨oc32, od32, .func (PySem.W.fnOf "span_from" "span_from" (defArgs sSpanFrom) (defBody sSpanFrom) (defScope sSpanFrom) .none kV32 dc32 pm32 an32 cd32 ct32), sl32⟩) (c32 : PySem.W.codeIn K cd32 "span_from" = true) (k32 : PySem.W.keepIn K (.ref f32) = true)
    {f33 : Addr} {od33 an33 : Option Addr} {sl33 : Array (Option Value)} {oc33 kV33 dc33 pm33 cd33 ct33 : Value}
    (a33 : PySem.W.nsIn K mainGlobals "span_of_value" = some (some (.ref f33))) (l33 : K.lookup f33 = some ⟨oc33, od33, .func (PySem.W.fnOf "span_of_value" "span_of_value" (defArgs sSpanOfValue) (defBody sSpanOfValue) (defScope sSpanOfValue) .none kV33 dc33 pm33 an33 cd33 ct33), sl33⟩) (c33 : PySem.W.codeIn K cd33 "span_of_value" = true) (k33 : PySem.W.keepIn K (.ref f33) = true)
    {f34 : Addr} {od34 an34 : Option Addr} {sl34 : Array (Option Value)} {oc34 kV34 dc34 pm34 cd34 ct34 : Value}
    (a34 : PySem.W.nsIn K mainGlobals "strict_span" = some (some (.ref f34))) (l34 : K.lookup f34 = some ⟨oc34, od34, .func (PySem.W.fnOf "strict_span" "strict_span" (defArgs sStrictSpan) (defBody sStrictSpan) (defScope sStrictSpan) .none kV34 dc34 pm34 an34 cd34 ct34), sl34⟩) (c34 : PySem.W.codeIn K cd34 "strict_span" = true) (k34 : PySem.W.keepIn K (.ref f34) = true)
    {f35 : Addr} {od35 an35 : Option Addr} {sl35 : Array (Option Value)} {oc35 kV35 dc35 pm35 cd35 ct35 : Value}
    (a35 : PySem.W.nsIn K mainGlobals "within_bounds" = some (some (.ref f35))) (l35 : K.lookup f35 = some ⟨oc35, od35, .func (PySem.W.fnOf "within_bounds" "within_bounds" (defArgs sWithinBounds) (defBody sWithinBounds) (defScope sWithinBounds) .none kV35 dc35 pm35 an35 cd35 ct35), sl35⟩) (c35 : PySem.W.codeIn K cd35 "within_bounds" = true) (k35 : PySem.W.keepIn K (.ref f35) = true)
    {f36 : Addr} {od36 an36 : Option Addr} {sl36 : Array (Option Value)} {oc36 kV36 dc36 pm36 cd36 ct36 : Value}
    (a36 : PySem.W.nsIn K mainGlobals "neg_span" = some (some (.ref f36))) (l36 : K.lookup f36 = some ⟨oc36, od36, .func (PySem.W.fnOf "neg_span" "neg_span" (defArgs sNegSpan) (defBody sNegSpan) (defScope sNegSpan) .none kV36 dc36 pm36 an36 cd36 ct36), sl36⟩) (c36 : PySem.W.codeIn K cd36 "neg_span" = true) (k36 : PySem.W.keepIn K (.ref f36) = true)
    {f37 : Addr} {od37 an37 : Option Addr} {sl37 : Array (Option Value)} {oc37 kV37 dc37 pm37 cd37 ct37 : Value}
    (a37 : PySem.W.nsIn K mainGlobals "abs_span" = some (some (.ref f37))) (l37 : K.lookup f37 = some ⟨oc37, od37, .func (PySem.W.fnOf "abs_span" "abs_span" (defArgs sAbsSpan) (defBody sAbsSpan) (defScope sAbsSpan) .none kV37 dc37 pm37 an37 cd37 ct37), sl37⟩) (c37 : PySem.W.codeIn K cd37 "abs_span" = true) (k37 : PySem.W.keepIn K (.ref f37) = true)
    {f38 : Addr} {od38 an38 : Option Addr} {sl38 : Array (Option Value)} {oc38 kV38 dc38 pm38 cd38 ct38 : Value}
    (a38 : PySem.W.nsIn K mainGlobals "length_span" = some (some (.ref f38))) (l38 : K.lookup f38 = some ⟨oc38, od38, .func (PySem.W.fnOf "length_span" "length_span" (defArgs sLengthSpan) (defBody sLengthSpan) (defScope sLengthSpan) .none kV38 dc38 pm38 an38 cd38 ct38), sl38⟩) (c38 : PySem.W.codeIn K cd38 "length_span" = true) (k38 : PySem.W.keepIn K (.ref f38) = true)
    {f39 : Addr} {od39 an39 : Option Addr} {sl39 : Array (Option Value)} {oc39 kV39 dc39 pm39 cd39 ct39 : Value}
    (a39 : PySem.W.nsIn K mainGlobals "add_span" = some (some (.ref f39))) (l39 : K.lookup f39 = some ⟨oc39, od39, .func (PySem.W.fnOf "add_span" "add_span" (defArgs sAddSpan) (defBody sAddSpan) (defScope sAddSpan) .none kV39 dc39 pm39 an39 cd39 ct39), sl39⟩) (c39 : PySem.W.codeIn K cd39 "add_span" = true) (k39 : PySem.W.keepIn K (.ref f39) = true)
    {f40 : Addr} {od40 an40 : Option Addr} {sl40 : Array (Option Value)} {oc40 kV40 dc40 pm40 cd40 ct40 : Value}
    (a40 : PySem.W.nsIn K mainGlobals "sub_span" = some (some (.ref f40))) (l40 : K.lookup f40 = some ⟨oc40, od40, .func (PySem.W.fnOf "sub_span" "sub_span" (defArgs sSubSpan) (defBody sSubSpan) (defScope sSubSpan) .none kV40 dc40 pm40 an40 cd40 ct40), sl40⟩) (c40 : PySem.W.codeIn K cd40 "sub_span" = true) (k40 : PySem.W.keepIn K (.ref f40) = true)
    {f41 : Addr} {od41 an41 : Option Addr} {sl41 : Array (Option Value)} {oc41 kV41 dc41 pm41 cd41 ct41 : Value}
    (a41 : PySem.W.nsIn K mainGlobals "mul_span" = some (some (.ref f41))) (l41 : K.lookup f41 = some ⟨oc41, od41, .func (PySem.W.fnOf "mul_span" "mul_span" (defArgs sMulSpan) (defBody sMulSpan) (defScope sMulSpan) .none kV41 dc41 pm41 an41 cd41 ct41), sl41⟩) (c41 : PySem.W.codeIn K cd41 "mul_span" = true) (k41 : PySem.W.keepIn K (.ref f41) = true)
    {f42 : Addr} {od42 an42 : Option Addr} {sl42 : Array (Option Value)} {oc42 kV42 dc42 pm42 cd42 ct42 : Value}
    (a42 : PySem.W.nsIn K mainGlobals "div_span" = some (some (.ref f42))) (l42 : K.lookup f42 = some ⟨oc42, od42, .func (PySem.W.fnOf "div_span" "div_span" (defArgs sDivSpan) (defBody sDivSpan) (defScope sDivSpan) .none kV42 dc42 pm42 an42 cd42 ct42), sl42⟩) (c42 : PySem.W.codeIn K cd42 "div_span" = true) (k42 : PySem.W.keepIn K (.ref f42) = true)
    {f43 : Addr} {od43 an43 : Option Addr} {sl43 : Array (Option Value)} {oc43 kV43 dc43 pm43 cd43 ct43 : Value}
    (a43 : PySem.W.nsIn K mainGlobals "ends_without_zero" = some (some (.ref f43))) (l43 : K.lookup f43 = some ⟨oc43, od43, .func (PySem.W.fnOf "ends_without_zero" "ends_without_zero" (defArgs sEndsWithoutZero) (defBody sEndsWithoutZero) (defScope sEndsWithoutZero) .none kV43 dc43 pm43 an43 cd43 ct43), sl43⟩) (c43 : PySem.W.codeIn K cd43 "ends_without_zero" = true) (k43 : PySem.W.keepIn K (.ref f43) = true)
    {f44 : Addr} {od44 an44 : Option Addr} {sl44 : Array (Option Value)} {oc44 kV44 dc44 pm44 cd44 ct44 : Value}
    (a44 : PySem.W.nsIn K mainGlobals "mod_span" = some (some (.ref f44))) (l44 : K.lookup f44 = some ⟨oc44, od44, .func (PySem.W.fnOf "mod_span" "mod_span" (defArgs sModSpan) (defBody sModSpan) (defScope sModSpan) .none kV44 dc44 pm44 an44 cd44 ct44), sl44⟩) (c44 : PySem.W.codeIn K cd44 "mod_span" = true) (k44 : PySem.W.keepIn K (.ref f44) = true)
    {f45 : Addr} {od45 an45 : Option Addr} {sl45 : Array (Option Value)} {oc45 kV45 dc45 pm45 cd45 ct45 : Value}
    (a45 : PySem.W.nsIn K mainGlobals "not_span" = some (some (.ref f45))) (l45 : K.lookup f45 = some ⟨oc45, od45, .func (PySem.W.fnOf "not_span" "not_span" (defArgs sNotSpan) (defBody sNotSpan) (defScope sNotSpan) .none kV45 dc45 pm45 an45 cd45 ct45), sl45⟩) (c45 : PySem.W.codeIn K cd45 "not_span" = true) (k45 : PySem.W.keepIn K (.ref f45) = true)
    {f46 : Addr} {od46 an46 : Option Addr} {sl46 : Array (Option Value)} {oc46 kV46 dc46 pm46 cd46 ct46 : Value}
    (a46 : PySem.W.nsIn K mainGlobals "joined_span" = some (some (.ref f46))) (l46 : K.lookup f46 = some ⟨oc46, od46, .func (PySem.W.fnOf "joined_span" "joined_span" (defArgs sJoinedSpan) (defBody sJoinedSpan) (defScope sJoinedSpan) .none kV46 dc46 pm46 an46 cd46 ct46), sl46⟩) (c46 : PySem.W.codeIn K cd46 "joined_span" = true) (k46 : PySem.W.keepIn K (.ref f46) = true)
    {f47 : Addr} {od47 an47 : Option Addr} {sl47 : Array (Option Value)} {oc47 kV47 dc47 pm47 cd47 ct47 : Value}
    (a47 : PySem.W.nsIn K mainGlobals "truth_span" = some (some (.ref f47))) (l47 : K.lookup f47 = some ⟨oc47, od47, .func (PySem.W.fnOf "truth_span" "truth_span" (defArgs sTruthSpan) (defBody sTruthSpan) (defScope sTruthSpan) .none kV47 dc47 pm47 an47 cd47 ct47), sl47⟩) (c47 : PySem.W.codeIn K cd47 "truth_span" = true) (k47 : PySem.W.keepIn K (.ref f47) = true)
    {f48 : Addr} {od48 an48 : Option Addr} {sl48 : Array (Option Value)} {oc48 kV48 dc48 pm48 cd48 ct48 : Value}
    (a48 : PySem.W.nsIn K mainGlobals "are_all_equal" = some (some (.ref f48))) (l48 : K.lookup f48 = some ⟨oc48, od48, .func (PySem.W.fnOf "are_all_equal" "are_all_equal" (defArgs sAreAllEqual) (defBody sAreAllEqual) (defScope sAreAllEqual) .none kV48 dc48 pm48 an48 cd48 ct48), sl48⟩) (c48 : PySem.W.codeIn K cd48 "are_all_equal" = true) (k48 : PySem.W.keepIn K (.ref f48) = true)
    {f49 : Addr} {od49 an49 : Option Addr} {sl49 : Array (Option Value)} {oc49 kV49 dc49 pm49 cd49 ct49 : Value}
    (a49 : PySem.W.nsIn K mainGlobals "share_values" = some (some (.ref f49))) (l49 : K.lookup f49 = some ⟨oc49, od49, .func (PySem.W.fnOf "share_values" "share_values" (defArgs sShareValues) (defBody sShareValues) (defScope sShareValues) .none kV49 dc49 pm49 an49 cd49 ct49), sl49⟩) (c49 : PySem.W.codeIn K cd49 "share_values" = true) (k49 : PySem.W.keepIn K (.ref f49) = true)
    {f50 : Addr} {od50 an50 : Option Addr} {sl50 : Array (Option Value)} {oc50 kV50 dc50 pm50 cd50 ct50 : Value}
    (a50 : PySem.W.nsIn K mainGlobals "eq_span" = some (some (.ref f50))) (l50 : K.lookup f50 = some ⟨oc50, od50, .func (PySem.W.fnOf "eq_span" "eq_span" (defArgs sEqSpan) (defBody sEqSpan) (defScope sEqSpan) .none kV50 dc50 pm50 an50 cd50 ct50), sl50⟩) (c50 : PySem.W.codeIn K cd50 "eq_span" = true) (k50 : PySem.W.keepIn K (.ref f50) = true)
    {f51 : Addr} {od51 an51 : Option Addr} {sl51 : Array (Option Value)} {oc51 kV51 dc51 pm51 cd51 ct51 : Value}
    (a51 : PySem.W.nsIn K mainGlobals "ne_span" = some (some (.ref f51))) (l51 : K.lookup f51 = some ⟨oc51, od51, .func (PySem.W.fnOf "ne_span" "ne_span" (defArgs sNeSpan) (defBody sNeSpan) (defScope sNeSpan) .none kV51 dc51 pm51 an51 cd51 ct51), sl51⟩) (c51 : PySem.W.codeIn K cd51 "ne_span" = true) (k51 : PySem.W.keepIn K (.ref f51) = true)
    {f52 : Addr} {od52 an52 : Option Addr} {sl52 : Array (Option Value)} {oc52 kV52 dc52 pm52 cd52 ct52 : Value}
    (a52 : PySem.W.nsIn K mainGlobals "lt_span" = some (some (.ref f52))) (l52 : K.lookup f52 = some ⟨oc52, od52, .func (PySem.W.fnOf "lt_span" "lt_span" (defArgs sLtSpan) (defBody sLtSpan) (defScope sLtSpan) .none kV52 dc52 pm52 an52 cd52 ct52), sl52⟩) (c52 : PySem.W.codeIn K cd52 "lt_span" = true) (k52 : PySem.W.keepIn K (.ref f52) = true)
    {f53 : Addr} {od53 an53 : Option Addr} {sl53 : Array (Option Value)} {oc53 kV53 dc53 pm53 cd53 ct53 : Value}
    (a53 : PySem.W.nsIn K mainGlobals "le_span" = some (some (.ref f53))) (l53 : K.lookup f53 = some ⟨oc53, od53, .func (PySem.W.fnOf "le_span" "le_span" (defArgs sLeSpan) (defBody sLeSpan) (defScope sLeSpan) .none kV53 dc53 pm53 an53 cd53 ct53), sl53⟩) (c53 : PySem.W.codeIn K cd53 "le_span" = true) (k53 : PySem.W.keepIn K (.ref f53) = true)
    {f54 : Addr} {od54 an54 : Option Addr} {sl54 : Array (Option Value)} {oc54 kV54 dc54 pm54 cd54 ct54 : Value}
    (a54 : PySem.W.nsIn K mainGlobals "gt_span" = some (some (.ref f54))) (l54 : K.lookup f54 = some ⟨oc54, od54, .func (PySem.W.fnOf "gt_span" "gt_span" (defArgs sGtSpan) (defBody sGtSpan) (defScope sGtSpan) .none kV54 dc54 pm54 an54 cd54 ct54), sl54⟩) (c54 : PySem.W.codeIn K cd54 "gt_span" = true) (k54 : PySem.W.keepIn K (.ref f54) = true)
    {f55 : Addr} {od55 an55 : Option Addr} {sl55 : Array (Option Value)} {oc55 kV55 dc55 pm55 cd55 ct55 : Value}
    (a55 : PySem.W.nsIn K mainGlobals "ge_span" = some (some (.ref f55))) (l55 : K.lookup f55 = some ⟨oc55, od55, .func (PySem.W.fnOf "ge_span" "ge_span" (defArgs sGeSpan) (defBody sGeSpan) (defScope sGeSpan) .none kV55 dc55 pm55 an55 cd55 ct55), sl55⟩) (c55 : PySem.W.codeIn K cd55 "ge_span" = true) (k55 : PySem.W.keepIn K (.ref f55) = true)
    {f56 : Addr} {od56 an56 : Option Addr} {sl56 : Array (Option Value)} {oc56 kV56 dc56 pm56 cd56 ct56 : Value}
    (a56 : PySem.W.nsIn K mainGlobals "is_missing_span" = some (some (.ref f56))) (l56 : K.lookup f56 = some ⟨oc56, od56, .func (PySem.W.fnOf "is_missing_span" "is_missing_span" (defArgs sIsMissingSpan) (defBody sIsMissingSpan) (defScope sIsMissingSpan) .none kV56 dc56 pm56 an56 cd56 ct56), sl56⟩) (c56 : PySem.W.codeIn K cd56 "is_missing_span" = true) (k56 : PySem.W.keepIn K (.ref f56) = true)
    {f57 : Addr} {od57 an57 : Option Addr} {sl57 : Array (Option Value)} {oc57 kV57 dc57 pm57 cd57 ct57 : Value}
    (a57 : PySem.W.nsIn K mainGlobals "and_span" = some (some (.ref f57))) (l57 : K.lookup f57 = some ⟨oc57, od57, .func (PySem.W.fnOf "and_span" "and_span" (defArgs sAndSpan) (defBody sAndSpan) (defScope sAndSpan) .none kV57 dc57 pm57 an57 cd57 ct57), sl57⟩) (c57 : PySem.W.codeIn K cd57 "and_span" = true) (k57 : PySem.W.keepIn K (.ref f57) = true)
    {f58 : Addr} {od58 an58 : Option Addr} {sl58 : Array (Option Value)} {oc58 kV58 dc58 pm58 cd58 ct58 : Value}
    (a58 : PySem.W.nsIn K mainGlobals "or_span" = some (some (.ref f58))) (l58 : K.lookup f58 = some ⟨oc58, od58, .func (PySem.W.fnOf "or_span" "or_span" (defArgs sOrSpan) (defBody sOrSpan) (defScope sOrSpan) .none kV58 dc58 pm58 an58 cd58 ct58), sl58⟩) (c58 : PySem.W.codeIn K cd58 "or_span" = true) (k58 : PySem.W.keepIn K (.ref f58) = true)
    {f59 : Addr} {od59 an59 : Option Addr} {sl59 : Array (Option Value)} {oc59 kV59 dc59 pm59 cd59 ct59 : Value}
    (a59 : PySem.W.nsIn K mainGlobals "truths_in" = some (some (.ref f59))) (l59 : K.lookup f59 = some ⟨oc59, od59, .func (PySem.W.fnOf "truths_in" "truths_in" (defArgs sTruthsIn) (defBody sTruthsIn) (defScope sTruthsIn) .none kV59 dc59 pm59 an59 cd59 ct59), sl59⟩) (c59 : PySem.W.codeIn K cd59 "truths_in" = true) (k59 : PySem.W.keepIn K (.ref f59) = true)
    {f60 : Addr} {od60 an60 : Option Addr} {sl60 : Array (Option Value)} {oc60 kV60 dc60 pm60 cd60 ct60 : Value}
    (a60 : PySem.W.nsIn K mainGlobals "span_of_results" = some (some (.ref f60))) (l60 : K.lookup f60 = some ⟨oc60, od60, .func (PySem.W.fnOf "span_of_results" "span_of_results" (defArgs sSpanOfResults) (defBody sSpanOfResults) (defScope sSpanOfResults) .none kV60 dc60 pm60 an60 cd60 ct60), sl60⟩) (c60 : PySem.W.codeIn K cd60 "span_of_results" = true) (k60 : PySem.W.keepIn K (.ref f60) = true)
    {f61 : Addr} {od61 an61 : Option Addr} {sl61 : Array (Option Value)} {oc61 kV61 dc61 pm61 cd61 ct61 : Value}
    (a61 : PySem.W.nsIn K mainGlobals "holding" = some (some (.ref f61))) (l61 : K.lookup f61 = some ⟨oc61, od61, .func (PySem.W.fnOf "holding" "holding" (defArgs sHolding) (defBody sHolding) (defScope sHolding) .none kV61 dc61 pm61 an61 cd61 ct61), sl61⟩) (c61 : PySem.W.codeIn K cd61 "holding" = true) (k61 : PySem.W.keepIn K (.ref f61) = true)
    {f62 : Addr} {od62 an62 : Option Addr} {sl62 : Array (Option Value)} {oc62 kV62 dc62 pm62 cd62 ct62 : Value}
    (a62 : PySem.W.nsIn K mainGlobals "if_span" = some (some (.ref f62))) (l62 : K.lookup f62 = some ⟨oc62, od62, .func (PySem.W.fnOf "if_span" "if_span" (defArgs sIfSpan) (defBody sIfSpan) (defScope sIfSpan) .none kV62 dc62 pm62 an62 cd62 ct62), sl62⟩) (c62 : PySem.W.codeIn K cd62 "if_span" = true) (k62 : PySem.W.keepIn K (.ref f62) = true)
    {f63 : Addr} {od63 an63 : Option Addr} {sl63 : Array (Option Value)} {oc63 kV63 dc63 pm63 cd63 ct63 : Value}
    (a63 : PySem.W.nsIn K mainGlobals "or_else_span" = some (some (.ref f63))) (l63 : K.lookup f63 = some ⟨oc63, od63, .func (PySem.W.fnOf "or_else_span" "or_else_span" (defArgs sOrElseSpan) (defBody sOrElseSpan) (defScope sOrElseSpan) .none kV63 dc63 pm63 an63 cd63 ct63), sl63⟩) (c63 : PySem.W.codeIn K cd63 "or_else_span" = true) (k63 : PySem.W.keepIn K (.ref f63) = true)
    {f64 : Addr} {od64 an64 : Option Addr} {sl64 : Array (Option Value)} {oc64 kV64 dc64 pm64 cd64 ct64 : Value}
    (a64 : PySem.W.nsIn K mainGlobals "marks_of" = some (some (.ref f64))) (l64 : K.lookup f64 = some ⟨oc64, od64, .func (PySem.W.fnOf "marks_of" "marks_of" (defArgs sMarksOf) (defBody sMarksOf) (defScope sMarksOf) .none kV64 dc64 pm64 an64 cd64 ct64), sl64⟩) (c64 : PySem.W.codeIn K cd64 "marks_of" = true) (k64 : PySem.W.keepIn K (.ref f64) = true)
    {f65 : Addr} {od65 an65 : Option Addr} {sl65 : Array (Option Value)} {oc65 kV65 dc65 pm65 cd65 ct65 : Value}
    (a65 : PySem.W.nsIn K mainGlobals "entry_of" = some (some (.ref f65))) (l65 : K.lookup f65 = some ⟨oc65, od65, .func (PySem.W.fnOf "entry_of" "entry_of" (defArgs sEntryOf) (defBody sEntryOf) (defScope sEntryOf) .none kV65 dc65 pm65 an65 cd65 ct65), sl65⟩) (c65 : PySem.W.codeIn K cd65 "entry_of" = true) (k65 : PySem.W.keepIn K (.ref f65) = true)
    {f66 : Addr} {od66 an66 : Option Addr} {sl66 : Array (Option Value)} {oc66 kV66 dc66 pm66 cd66 ct66 : Value}
    (a66 : PySem.W.nsIn K mainGlobals "keeps_to" = some (some (.ref f66))) (l66 : K.lookup f66 = some ⟨oc66, od66, .func (PySem.W.fnOf "keeps_to" "keeps_to" (defArgs sKeepsTo) (defBody sKeepsTo) (defScope sKeepsTo) .none kV66 dc66 pm66 an66 cd66 ct66), sl66⟩) (c66 : PySem.W.codeIn K cd66 "keeps_to" = true) (k66 : PySem.W.keepIn K (.ref f66) = true)
    {f67 : Addr} {od67 an67 : Option Addr} {sl67 : Array (Option Value)} {oc67 kV67 dc67 pm67 cd67 ct67 : Value}
    (a67 : PySem.W.nsIn K mainGlobals "fits" = some (some (.ref f67))) (l67 : K.lookup f67 = some ⟨oc67, od67, .func (PySem.W.fnOf "fits" "fits" (defArgs sFits) (defBody sFits) (defScope sFits) .none kV67 dc67 pm67 an67 cd67 ct67), sl67⟩) (c67 : PySem.W.codeIn K cd67 "fits" = true) (k67 : PySem.W.keepIn K (.ref f67) = true)
    {f68 : Addr} {od68 an68 : Option Addr} {sl68 : Array (Option Value)} {oc68 kV68 dc68 pm68 cd68 ct68 : Value}
    (a68 : PySem.W.nsIn K mainGlobals "_law_draw" = some (some (.ref f68))) (l68 : K.lookup f68 = some ⟨oc68, od68, .func (PySem.W.fnOf "_law_draw" "_law_draw" (defArgs sDraw) (defBody sDraw) (defScope sDraw) .none kV68 dc68 pm68 an68 cd68 ct68), sl68⟩) (c68 : PySem.W.codeIn K cd68 "_law_draw" = true) (k68 : PySem.W.keepIn K (.ref f68) = true)
    {f69 : Addr} {od69 an69 : Option Addr} {sl69 : Array (Option Value)} {oc69 kV69 dc69 pm69 cd69 ct69 : Value}
    (a69 : PySem.W.nsIn K mainGlobals "_law_draws" = some (some (.ref f69))) (l69 : K.lookup f69 = some ⟨oc69, od69, .func (PySem.W.fnOf "_law_draws" "_law_draws" (defArgs sDraws) (defBody sDraws) (defScope sDraws) .none kV69 dc69 pm69 an69 cd69 ct69), sl69⟩) (c69 : PySem.W.codeIn K cd69 "_law_draws" = true) (k69 : PySem.W.keepIn K (.ref f69) = true)
    {f70 : Addr} {od70 an70 : Option Addr} {sl70 : Array (Option Value)} {oc70 kV70 dc70 pm70 cd70 ct70 : Value}
    (a70 : PySem.W.nsIn K mainGlobals "_law_next" = some (some (.ref f70))) (l70 : K.lookup f70 = some ⟨oc70, od70, .func (PySem.W.fnOf "_law_next" "_law_next" (defArgs sNext) (defBody sNext) (defScope sNext) .none kV70 dc70 pm70 an70 cd70 ct70), sl70⟩) (c70 : PySem.W.codeIn K cd70 "_law_next" = true) (k70 : PySem.W.keepIn K (.ref f70) = true)
    {f71 : Addr} {od71 an71 : Option Addr} {sl71 : Array (Option Value)} {oc71 kV71 dc71 pm71 cd71 ct71 : Value}
    (a71 : PySem.W.nsIn K mainGlobals "_law_word" = some (some (.ref f71))) (l71 : K.lookup f71 = some ⟨oc71, od71, .func (PySem.W.fnOf "_law_word" "_law_word" (defArgs sWord) (defBody sWord) (defScope sWord) .none kV71 dc71 pm71 an71 cd71 ct71), sl71⟩) (c71 : PySem.W.codeIn K cd71 "_law_word" = true) (k71 : PySem.W.keepIn K (.ref f71) = true)
    {f72 : Addr} {od72 an72 : Option Addr} {sl72 : Array (Option Value)} {oc72 kV72 dc72 pm72 cd72 ct72 : Value}
    (a72 : PySem.W.nsIn K mainGlobals "_law_number" = some (some (.ref f72))) (l72 : K.lookup f72 = some ⟨oc72, od72, .func (PySem.W.fnOf "_law_number" "_law_number" (defArgs sNumber) (defBody sNumber) (defScope sNumber) .none kV72 dc72 pm72 an72 cd72 ct72), sl72⟩) (c72 : PySem.W.codeIn K cd72 "_law_number" = true) (k72 : PySem.W.keepIn K (.ref f72) = true)
    {f73 : Addr} {od73 an73 : Option Addr} {sl73 : Array (Option Value)} {oc73 kV73 dc73 pm73 cd73 ct73 : Value}
    (a73 : PySem.W.nsIn K mainGlobals "_law_thing" = some (some (.ref f73))) (l73 : K.lookup f73 = some ⟨oc73, od73, .func (PySem.W.fnOf "_law_thing" "_law_thing" (defArgs sThing) (defBody sThing) (defScope sThing) .none kV73 dc73 pm73 an73 cd73 ct73), sl73⟩) (c73 : PySem.W.codeIn K cd73 "_law_thing" = true) (k73 : PySem.W.keepIn K (.ref f73) = true)
    {f74 : Addr} {od74 an74 : Option Addr} {sl74 : Array (Option Value)} {oc74 kV74 dc74 pm74 cd74 ct74 : Value}
    (a74 : PySem.W.nsIn K mainGlobals "_law_shape" = some (some (.ref f74))) (l74 : K.lookup f74 = some ⟨oc74, od74, .func (PySem.W.fnOf "_law_shape" "_law_shape" (defArgs sShape) (defBody sShape) (defScope sShape) .none kV74 dc74 pm74 an74 cd74 ct74), sl74⟩) (c74 : PySem.W.codeIn K cd74 "_law_shape" = true) (k74 : PySem.W.keepIn K (.ref f74) = true)
    {f75 : Addr} {od75 an75 : Option Addr} {sl75 : Array (Option Value)} {oc75 kV75 dc75 pm75 cd75 ct75 : Value}
    (a75 : PySem.W.nsIn K mainGlobals "_law_place" = some (some (.ref f75))) (l75 : K.lookup f75 = some ⟨oc75, od75, .func (PySem.W.fnOf "_law_place" "_law_place" (defArgs sLPlace) (defBody sLPlace) (defScope sLPlace) .none kV75 dc75 pm75 an75 cd75 ct75), sl75⟩) (c75 : PySem.W.codeIn K cd75 "_law_place" = true) (k75 : PySem.W.keepIn K (.ref f75) = true)
    {f76 : Addr} {od76 an76 : Option Addr} {sl76 : Array (Option Value)} {oc76 kV76 dc76 pm76 cd76 ct76 : Value}
    (a76 : PySem.W.nsIn K mainGlobals "_law_values" = some (some (.ref f76))) (l76 : K.lookup f76 = some ⟨oc76, od76, .func (PySem.W.fnOf "_law_values" "_law_values" (defArgs sLValues) (defBody sLValues) (defScope sLValues) .none kV76 dc76 pm76 an76 cd76 ct76), sl76⟩) (c76 : PySem.W.codeIn K cd76 "_law_values" = true) (k76 : PySem.W.keepIn K (.ref f76) = true)
    {f77 : Addr} {od77 an77 : Option Addr} {sl77 : Array (Option Value)} {oc77 kV77 dc77 pm77 cd77 ct77 : Value}
    (a77 : PySem.W.nsIn K mainGlobals "_law_cells" = some (some (.ref f77))) (l77 : K.lookup f77 = some ⟨oc77, od77, .func (PySem.W.fnOf "_law_cells" "_law_cells" (defArgs sLCells) (defBody sLCells) (defScope sLCells) .none kV77 dc77 pm77 an77 cd77 ct77), sl77⟩) (c77 : PySem.W.codeIn K cd77 "_law_cells" = true) (k77 : PySem.W.keepIn K (.ref f77) = true)
    {f78 : Addr} {od78 an78 : Option Addr} {sl78 : Array (Option Value)} {oc78 kV78 dc78 pm78 cd78 ct78 : Value}
    (a78 : PySem.W.nsIn K mainGlobals "_law_leaf" = some (some (.ref f78))) (l78 : K.lookup f78 = some ⟨oc78, od78, .func (PySem.W.fnOf "_law_leaf" "_law_leaf" (defArgs sLeaf) (defBody sLeaf) (defScope sLeaf) .none kV78 dc78 pm78 an78 cd78 ct78), sl78⟩) (c78 : PySem.W.codeIn K cd78 "_law_leaf" = true) (k78 : PySem.W.keepIn K (.ref f78) = true)
    {f79 : Addr} {od79 an79 : Option Addr} {sl79 : Array (Option Value)} {oc79 kV79 dc79 pm79 cd79 ct79 : Value}
    (a79 : PySem.W.nsIn K mainGlobals "_law_flag" = some (some (.ref f79))) (l79 : K.lookup f79 = some ⟨oc79, od79, .func (PySem.W.fnOf "_law_flag" "_law_flag" (defArgs sFlag) (defBody sFlag) (defScope sFlag) .none kV79 dc79 pm79 an79 cd79 ct79), sl79⟩) (c79 : PySem.W.codeIn K cd79 "_law_flag" = true) (k79 : PySem.W.keepIn K (.ref f79) = true)
    {f80 : Addr} {od80 an80 : Option Addr} {sl80 : Array (Option Value)} {oc80 kV80 dc80 pm80 cd80 ct80 : Value}
    (a80 : PySem.W.nsIn K mainGlobals "_law_expression" = some (some (.ref f80))) (l80 : K.lookup f80 = some ⟨oc80, od80, .func (PySem.W.fnOf "_law_expression" "_law_expression" (defArgs sExpr) (defBody sExpr) (defScope sExpr) .none kV80 dc80 pm80 an80 cd80 ct80), sl80⟩) (c80 : PySem.W.codeIn K cd80 "_law_expression" = true) (k80 : PySem.W.keepIn K (.ref f80) = true)
    {f81 : Addr} {od81 an81 : Option Addr} {sl81 : Array (Option Value)} {oc81 kV81 dc81 pm81 cd81 ct81 : Value}
    (a81 : PySem.W.nsIn K mainGlobals "_law_wider" = some (some (.ref f81))) (l81 : K.lookup f81 = some ⟨oc81, od81, .func (PySem.W.fnOf "_law_wider" "_law_wider" (defArgs sLWider) (defBody sLWider) (defScope sLWider) .none kV81 dc81 pm81 an81 cd81 ct81), sl81⟩) (c81 : PySem.W.codeIn K cd81 "_law_wider" = true) (k81 : PySem.W.keepIn K (.ref f81) = true)
    {f82 : Addr} {od82 an82 : Option Addr} {sl82 : Array (Option Value)} {oc82 kV82 dc82 pm82 cd82 ct82 : Value}
    (a82 : PySem.W.nsIn K mainGlobals "_law_box" = some (some (.ref f82))) (l82 : K.lookup f82 = some ⟨oc82, od82, .func (PySem.W.fnOf "_law_box" "_law_box" (defArgs sLBox) (defBody sLBox) (defScope sLBox) .none kV82 dc82 pm82 an82 cd82 ct82), sl82⟩) (c82 : PySem.W.codeIn K cd82 "_law_box" = true) (k82 : PySem.W.keepIn K (.ref f82) = true)
    {f83 : Addr} {od83 an83 : Option Addr} {sl83 : Array (Option Value)} {oc83 kV83 dc83 pm83 cd83 ct83 : Value}
    (a83 : PySem.W.nsIn K mainGlobals "law" = some (some (.ref f83))) (l83 : K.lookup f83 = some ⟨oc83, od83, .func (PySem.W.fnOf "law" "law" (defArgs sLaw) (defBody sLaw) (defScope sLaw) .none kV83 dc83 pm83 an83 cd83 ct83), sl83⟩) (c83 : PySem.W.codeIn K cd83 "law" = true) (k83 : PySem.W.keepIn K (.ref f83) = true)
    (z1 : PySem.W.nsIn K mainGlobals "range" = some none)
    (z2 : PySem.W.nsIn K mainGlobals "int" = some none)
    (z3 : PySem.W.nsIn K mainGlobals "len" = some none)
    (z4 : PySem.W.nsIn K mainGlobals "isinstance" = some none)
    (z5 : PySem.W.nsIn K mainGlobals "bool" = some none)
    (z6 : PySem.W.nsIn K mainGlobals "str" = some none)
    (z7 : PySem.W.nsIn K mainGlobals "min" = some none)
    (z8 : PySem.W.nsIn K mainGlobals "max" = some none)
    (z9 : PySem.W.nsIn K mainGlobals "sum" = some none)
    (z10 : PySem.W.nsIn K mainGlobals "abs" = some none)
    (z11 : PySem.W.nsIn K mainGlobals "enumerate" = some none)
    (z12 : PySem.W.nsIn K mainGlobals "tuple" = some none)
    (z13 : PySem.W.nsIn K mainGlobals "list" = some none)
    (z14 : PySem.W.nsIn K mainGlobals "sorted" = some none)
    (z15 : PySem.W.nsIn K mainGlobals "zip" = some none)
    (z16 : PySem.W.nsIn K mainGlobals "reversed" = some none)
    (z17 : PySem.W.nsIn K mainGlobals "dict" = some none)
    (z18 : PySem.W.nsIn K mainGlobals "ValueError" = some none)
    (z19 : PySem.W.nsIn K mainGlobals "all" = some none)
    (z20 : PySem.W.nsIn K mainGlobals "any" = some none)
    {t1 : Tok} (g1 : PySem.W.nsIn K mainGlobals "CHARACTERS" = some (some (.str CHS t1)))
    {t2 : Tok} (g2 : PySem.W.nsIn K mainGlobals "INT_BOUND" = some (some (.int (10 ^ 30) t2)))
    {t3 : Tok} (g3 : PySem.W.nsIn K mainGlobals "TEXT_BOUND" = some (some (.int 200 t3)))
    {kT0 : Addr} {T0k0 T0k1 T0k2 : Tok} {nT0 : Nat} {ddT0 : Option Addr} {slT0 : Array (Option Value)} {kT1 : Addr} {T1k0 T1k1 T1k2 : Tok} {nT1 : Nat} {ddT1 : Option Addr} {slT1 : Array (Option Value)} {kT2 : Addr} {T2k0 T2k1 T2k2 T2k3 T2k4 T2k5 T2k6 T2k7 : Tok} {nT2 : Nat} {ddT2 : Option Addr} {slT2 : Array (Option Value)} {kT3 : Addr} {T3k0 T3k1 T3k2 T3k3 T3k4 T3k5 : Tok} {nT3 : Nat} {ddT3 : Option Addr} {slT3 : Array (Option Value)} {kT4 : Addr} {T4k0 T4k1 T4k2 T4k3 T4k4 : Tok} {nT4 : Nat} {ddT4 : Option Addr} {slT4 : Array (Option Value)} {S : Addr} {fSI : Addr} {odSI anSI : Option Addr} {slSI : Array (Option Value)} {ocSI kVSI dcSI pmSI cdSI ctSI : Value} {fE : Addr} {kam kst klo : Addr} {nam nst nlo : Nat} {dam : Option Addr} {sam : Array (Option Value)} {est elo : Array DictEntry} {sd : Addr} {es : Array DictEntry} {nD : Nat} {wa0 wb0 : Addr} {wc0 xc0 : Option Addr} {wt0 xt00 : Tok} {wm0 xm0 : Nat} {ws0_ xs0 : Array (Option Value)} {wa1 wb1 : Addr} {wc1 xc1 : Option Addr} {wt1 xt10 : Tok} {wm1 xm1 : Nat} {ws1_ xs1 : Array (Option Value)} {wa2 wb2 : Addr} {wc2 xc2 : Option Addr} {wt2 xt20 : Tok} {wm2 xm2 : Nat} {ws2_ xs2 : Array (Option Value)} {wa3 wb3 : Addr} {wc3 xc3 : Option Addr} {wt3 xt30 : Tok} {wm3 xm3 : Nat} {ws3_ xs3 : Array (Option Value)} {wa4 wb4 : Addr} {wc4 xc4 : Option Addr} {wt4 xt40 xt41 : Tok} {wm4 xm4 : Nat} {ws4_ xs4 : Array (Option Value)} {wa5 wb5 : Addr} {wc5 xc5 : Option Addr} {wt5 xt50 xt51 : Tok} {wm5 xm5 : Nat} {ws5_ xs5 : Array (Option Value)} {wa6 wb6 : Addr} {wc6 xc6 : Option Addr} {wt6 xt60 xt61 : Tok} {wm6 xm6 : Nat} {ws6_ xs6 : Array (Option Value)} {wa7 wb7 : Addr} {wc7 xc7 : Option Addr} {wt7 xt70 xt71 : Tok} {wm7 xm7 : Nat} {ws7_ xs7 : Array (Option Value)} {wa8 wb8 : Addr} {wc8 xc8 : Option Addr} {wt8 xt80 xt81 : Tok} {wm8 xm8 : Nat} {ws8_ xs8 : Array (Option Value)} {wa9 wb9 : Addr} {wc9 xc9 : Option Addr} {wt9 xt90 xt91 : Tok} {wm9 xm9 : Nat} {ws9_ xs9 : Array (Option Value)} {wa10 wb10 : Addr} {wc10 xc10 : Option Addr} {wt10 xt100 xt101 : Tok} {wm10 xm10 : Nat} {ws10_ xs10 : Array (Option Value)} {wa11 wb11 : Addr} {wc11 xc11 : Option Addr} {wt11 xt110 xt111 : Tok} {wm11 xm11 : Nat} {ws11_ xs11 : Array (Option Value)}
    (eT0 : PySem.W.nsIn K mainGlobals "LEAVES" = some (some (.ref kT0)))
    (lT0 : K.lookup kT0 = some ⟨.type "tuple", ddT0, .seq #[.str "value" T0k0, .str "attr" T0k1, .str "dim" T0k2] nT0, slT0⟩)
    (eT1 : PySem.W.nsIn K mainGlobals "KINDS" = some (some (.ref kT1)))
    (lT1 : K.lookup kT1 = some ⟨.type "tuple", ddT1, .seq #[.str "int" T1k0, .str "flag" T1k1, .str "text" T1k2] nT1, slT1⟩)
    (eT2 : PySem.W.nsIn K mainGlobals "INT_WORDS" = some (some (.ref kT2)))
    (lT2 : K.lookup kT2 = some ⟨.type "tuple", ddT2, .seq #[.str "neg" T2k0, .str "abs" T2k1, .str "length" T2k2, .str "add" T2k3, .str "sub" T2k4, .str "mul" T2k5, .str "div" T2k6, .str "mod" T2k7] nT2, slT2⟩)
    (eT3 : PySem.W.nsIn K mainGlobals "COMPARISONS" = some (some (.ref kT3)))
    (lT3 : K.lookup kT3 = some ⟨.type "tuple", ddT3, .seq #[.str "eq" T3k0, .str "ne" T3k1, .str "lt" T3k2, .str "le" T3k3, .str "gt" T3k4, .str "ge" T3k5] nT3, slT3⟩)
    (eT4 : PySem.W.nsIn K mainGlobals "LOOSE_WORDS" = some (some (.ref kT4)))
    (lT4 : K.lookup kT4 = some ⟨.type "tuple", ddT4, .seq #[.str "is missing" T4k0, .str "and" T4k1, .str "or" T4k2, .str "if" T4k3, .str "or else" T4k4] nT4, slT4⟩)
    (xSe : PySem.W.nsIn K mainGlobals "Shape" = some (some (.ref S)))
    (xS1 : PySem.W.makesIn K S = true)
    (xS2 : PySem.W.findIn K (.ref S) "__init__" = some (some (.ref fSI)))
    (xS3 : PySem.W.isFn K (.ref fSI) = true)
    (xS4 : PySem.W.keepIn K (.ref S) = true)
    (xS5 : PySem.W.plainGet K S Str.empty = true)
    (xS6 : PySem.W.hasDictIn K S = true)
    (xS7 : PySem.W.plainOver K S = true)
    (xS8 : PySem.W.findIn K (.ref S) "__setattr__" = some (some (.builtin "object.__setattr__")))
    (xSn0 : PySem.W.findIn K (.ref S) "dims" = some none)
    (xSn1 : PySem.W.findIn K (.ref S) "attrs" = some none)
    (lSI : K.lookup fSI = some ⟨ocSI, odSI, .func (PySem.W.fnOf "__init__" "Shape.__init__" (defArgs sShInit) (defBody sShInit) (defScope sShInit) .none kVSI dcSI pmSI anSI cdSI ctSI), slSI⟩)
    (cSI : PySem.W.codeIn K cdSI "Shape.__init__" = true)
    (kSI : PySem.W.keepIn K (.ref fSI) = true)
    (s11 : PySem.W.findIn K (.ref S) "__eq__" = some (some (.ref fE)))
    (s12 : PySem.W.isFn K (.ref fE) = true)
    (s13 : PySem.W.notFirst K S (.ref S) = true)
    (s14 : PySem.W.notFirst K S (.type "tuple") = true)
    (s17 : PySem.W.kitOne K (.ref S) (.ref S) = some true)
    (s18 : PySem.W.kitOne K (.type "tuple") (.ref S) = some false)
    (s15 : PySem.W.findIn K (.ref S) "__class__" = some (some (.builtin "object.__class__")))
    (s16 : PySem.W.mroIn K S (.type "object") = some true)
    (hn : PySem.W.specialIn K (.builtin "object.__class__") "__get__" = some (some (.builtin "getset_descriptor.__get__")))
    (ht : PySem.W.takesIn K (.builtin "object.__class__") = some true)
    (eAM : PySem.W.nsIn K mainGlobals "ALWAYS_MISSING" = some (some (.ref kam)))
    (lAM : K.lookup kam = some ⟨.type "tuple", dam, .seq #[.none, .none, .bool true] nam, sam⟩)
    (eST : PySem.W.nsIn K mainGlobals "STRICT_SPANS" = some (some (.ref kst)))
    (lST : K.lookup kst = some ⟨.type "dict", none, .dict est nst, #[]⟩)
    (kST : PySem.W.KeysLit w.params est.toList)
    (eLO : PySem.W.nsIn K mainGlobals "LOOSE_SPANS" = some (some (.ref klo)))
    (lLO : K.lookup klo = some ⟨.type "dict", none, .dict elo nlo, #[]⟩)
    (kLO : PySem.W.KeysLit w.params elo.toList)
    (wLO : (klo == sysModules) = false)
    (ws0 : PySem.W.nsIn K kst "neg" = some (some (.ref f36)))
    (wo0 : PySem.W.nsIn K klo "neg" = some none)
    (ws1 : PySem.W.nsIn K kst "abs" = some (some (.ref f37)))
    (wo1 : PySem.W.nsIn K klo "abs" = some none)
    (ws2 : PySem.W.nsIn K kst "not" = some (some (.ref f45)))
    (wo2 : PySem.W.nsIn K klo "not" = some none)
    (ws3 : PySem.W.nsIn K kst "length" = some (some (.ref f38)))
    (wo3 : PySem.W.nsIn K klo "length" = some none)
    (ws4 : PySem.W.nsIn K kst "joined" = some (some (.ref f46)))
    (wo4 : PySem.W.nsIn K klo "joined" = some none)
    (ws5 : PySem.W.nsIn K kst "eq" = some (some (.ref f50)))
    (wo5 : PySem.W.nsIn K klo "eq" = some none)
    (ws6 : PySem.W.nsIn K kst "ne" = some (some (.ref f51)))
    (wo6 : PySem.W.nsIn K klo "ne" = some none)
    (ws7 : PySem.W.nsIn K kst "lt" = some (some (.ref f52)))
    (wo7 : PySem.W.nsIn K klo "lt" = some none)
    (ws8 : PySem.W.nsIn K kst "le" = some (some (.ref f53)))
    (wo8 : PySem.W.nsIn K klo "le" = some none)
    (ws9 : PySem.W.nsIn K kst "gt" = some (some (.ref f54)))
    (wo9 : PySem.W.nsIn K klo "gt" = some none)
    (ws10 : PySem.W.nsIn K kst "ge" = some (some (.ref f55)))
    (wo10 : PySem.W.nsIn K klo "ge" = some none)
    (ws11 : PySem.W.nsIn K kst "add" = some (some (.ref f39)))
    (wo11 : PySem.W.nsIn K klo "add" = some none)
    (ws12 : PySem.W.nsIn K kst "sub" = some (some (.ref f40)))
    (wo12 : PySem.W.nsIn K klo "sub" = some none)
    (ws13 : PySem.W.nsIn K kst "mul" = some (some (.ref f41)))
    (wo13 : PySem.W.nsIn K klo "mul" = some none)
    (ws14 : PySem.W.nsIn K kst "div" = some (some (.ref f42)))
    (wo14 : PySem.W.nsIn K klo "div" = some none)
    (ws15 : PySem.W.nsIn K kst "mod" = some (some (.ref f44)))
    (wo15 : PySem.W.nsIn K klo "mod" = some none)
    (wl0 : PySem.W.nsIn K klo "is missing" = some (some (.ref f56)))
    (wl1 : PySem.W.nsIn K klo "and" = some (some (.ref f57)))
    (wl2 : PySem.W.nsIn K klo "or" = some (some (.ref f58)))
    (wl3 : PySem.W.nsIn K klo "if" = some (some (.ref f62)))
    (wl4 : PySem.W.nsIn K klo "or else" = some (some (.ref f63)))
    (eG : PySem.W.nsIn K mainGlobals "SIGNATURES" = some (some (.ref sd)))
    (lD : K.lookup sd = some ⟨.type "dict", none, .dict es nD, #[]⟩)
    (sK : PySem.W.KeysLit w.params es.toList)
    (wn0 : PySem.W.nsIn K sd "neg" = some (some (.ref wa0)))
    (wL0 : K.lookup wa0 = some ⟨.type "tuple", wc0, .seq #[.ref wb0, .str "int" wt0] wm0, ws0_⟩)
    (wk0 : K.lookup wb0 = some ⟨.type "tuple", xc0, .seq #[.str "int" xt00] xm0, xs0⟩)
    (wn1 : PySem.W.nsIn K sd "abs" = some (some (.ref wa1)))
    (wL1 : K.lookup wa1 = some ⟨.type "tuple", wc1, .seq #[.ref wb1, .str "int" wt1] wm1, ws1_⟩)
    (wk1 : K.lookup wb1 = some ⟨.type "tuple", xc1, .seq #[.str "int" xt10] xm1, xs1⟩)
    (wn2 : PySem.W.nsIn K sd "not" = some (some (.ref wa2)))
    (wL2 : K.lookup wa2 = some ⟨.type "tuple", wc2, .seq #[.ref wb2, .str "flag" wt2] wm2, ws2_⟩)
    (wk2 : K.lookup wb2 = some ⟨.type "tuple", xc2, .seq #[.str "flag" xt20] xm2, xs2⟩)
    (wn3 : PySem.W.nsIn K sd "length" = some (some (.ref wa3)))
    (wL3 : K.lookup wa3 = some ⟨.type "tuple", wc3, .seq #[.ref wb3, .str "int" wt3] wm3, ws3_⟩)
    (wk3 : K.lookup wb3 = some ⟨.type "tuple", xc3, .seq #[.str "text" xt30] xm3, xs3⟩)
    (wn4 : PySem.W.nsIn K sd "add" = some (some (.ref wa4)))
    (wL4 : K.lookup wa4 = some ⟨.type "tuple", wc4, .seq #[.ref wb4, .str "int" wt4] wm4, ws4_⟩)
    (wk4 : K.lookup wb4 = some ⟨.type "tuple", xc4, .seq #[.str "int" xt40, .str "int" xt41] xm4, xs4⟩)
    (wn5 : PySem.W.nsIn K sd "sub" = some (some (.ref wa5)))
    (wL5 : K.lookup wa5 = some ⟨.type "tuple", wc5, .seq #[.ref wb5, .str "int" wt5] wm5, ws5_⟩)
    (wk5 : K.lookup wb5 = some ⟨.type "tuple", xc5, .seq #[.str "int" xt50, .str "int" xt51] xm5, xs5⟩)
    (wn6 : PySem.W.nsIn K sd "mul" = some (some (.ref wa6)))
    (wL6 : K.lookup wa6 = some ⟨.type "tuple", wc6, .seq #[.ref wb6, .str "int" wt6] wm6, ws6_⟩)
    (wk6 : K.lookup wb6 = some ⟨.type "tuple", xc6, .seq #[.str "int" xt60, .str "int" xt61] xm6, xs6⟩)
    (wn7 : PySem.W.nsIn K sd "div" = some (some (.ref wa7)))
    (wL7 : K.lookup wa7 = some ⟨.type "tuple", wc7, .seq #[.ref wb7, .str "int" wt7] wm7, ws7_⟩)
    (wk7 : K.lookup wb7 = some ⟨.type "tuple", xc7, .seq #[.str "int" xt70, .str "int" xt71] xm7, xs7⟩)
    (wn8 : PySem.W.nsIn K sd "mod" = some (some (.ref wa8)))
    (wL8 : K.lookup wa8 = some ⟨.type "tuple", wc8, .seq #[.ref wb8, .str "int" wt8] wm8, ws8_⟩)
    (wk8 : K.lookup wb8 = some ⟨.type "tuple", xc8, .seq #[.str "int" xt80, .str "int" xt81] xm8, xs8⟩)
    (wn9 : PySem.W.nsIn K sd "and" = some (some (.ref wa9)))
    (wL9 : K.lookup wa9 = some ⟨.type "tuple", wc9, .seq #[.ref wb9, .str "flag" wt9] wm9, ws9_⟩)
    (wk9 : K.lookup wb9 = some ⟨.type "tuple", xc9, .seq #[.str "flag" xt90, .str "flag" xt91] xm9, xs9⟩)
    (wn10 : PySem.W.nsIn K sd "or" = some (some (.ref wa10)))
    (wL10 : K.lookup wa10 = some ⟨.type "tuple", wc10, .seq #[.ref wb10, .str "flag" wt10] wm10, ws10_⟩)
    (wk10 : K.lookup wb10 = some ⟨.type "tuple", xc10, .seq #[.str "flag" xt100, .str "flag" xt101] xm10, xs10⟩)
    (wn11 : PySem.W.nsIn K sd "joined" = some (some (.ref wa11)))
    (wL11 : K.lookup wa11 = some ⟨.type "tuple", wc11, .seq #[.ref wb11, .str "text" wt11] wm11, ws11_⟩)
    (wk11 : K.lookup wb11 = some ⟨.type "tuple", xc11, .seq #[.str "text" xt110, .str "text" xt111] xm11, xs11⟩)
    : ∃ fd : FuncData, (∀ (s : Shared) (v : Value), BindsTo s fd ⟨[v], []⟩ [("script", v)]) ∧ ∀ base : Heap, K.In base → base.Ns mainGlobals mg → FnOk l.prog w K mg base CX0 18 fa fd ["script"] (spLaw K) := by
  have e := hfa.symm.trans (PySem.W.mg_of X G a83)
  cases e
  have F1 := fun_mk (st := sIsText) l1 c1 k1
  have F2 := fun_mk (st := sIsValue) l2 c2 k2
  have F3 := fun_mk (st := sLeastOf) l3 c3 k3
  have F4 := fun_mk (st := sGreatestOf) l4 c4 k4
  have F5 := fun_mk (st := sIsBefore) l5 c5 k5
  have F6 := fun_mk (st := sIsBetween) l6 c6 k6
  have F7 := fun_mk (st := sDimIx) l7 c7 k7
  have F8 := fun_mk (st := sAttrIx) l8 c8 k8
  have F9 := fun_mk (st := sIndex) l9 c9 k9
  have F10 := fun_mk (st := sPartsOf) l10 c10 k10
  have F11 := fun_mk (st := sKindOf) l11 c11 k11
  have F12 := fun_mk (st := sKindFrom) l12 c12 k12
  have F13 := fun_mk (st := sLeafKind) l13 c13 k13
  have F14 := fun_mk (st := sKindOver) l14 c14 k14
  have F15 := fun_mk (st := sValueOf) l15 c15 k15
  have F16 := fun_mk (st := sLooseValue) l16 c16 k16
  have F17 := fun_mk (st := sBoth) l17 c17 k17
  have F18 := fun_mk (st := sEither) l18 c18 k18
  have F19 := fun_mk (st := sChosen) l19 c19 k19
  have F20 := fun_mk (st := sStrictValue) l20 c20 k20
  have F21 := fun_mk (st := sCompared) l21 c21 k21
  have F22 := fun_mk (st := sReckoned) l22 c22 k22
  have F23 := fun_mk (st := sSpanOf) l23 c23 k23
  have F24 := fun_mk (st := sPaperOf) l24 c24 k24
  have F25 := fun_mk (st := sShows) l25 c25 k25
  have F26 := fun_mk (st := sIsSpan) l26 c26 k26
  have F27 := fun_mk (st := sEncloses) l27 c27 k27
  have F28 := fun_mk (st := sHasEnds) l28 c28 k28
  have F29 := fun_mk (st := sAllows) l29 c29 k29
  have F30 := fun_mk (st := sAreOfOneKind) l30 c30 k30
  have F31 := fun_mk (st := sCanPass) l31 c31 k31
  have F32 := fun_mk (st := sSpanFrom) l32 c32 k32
  have F33 := fun_mk (st := sSpanOfValue) l33 c33 k33
  have F34 := fun_mk (st := sStrictSpan) l34 c34 k34
  have F35 := fun_mk (st := sWithinBounds) l35 c35 k35
  have F36 := fun_mk (st := sNegSpan) l36 c36 k36
  have F37 := fun_mk (st := sAbsSpan) l37 c37 k37
  have F38 := fun_mk (st := sLengthSpan) l38 c38 k38
  have F39 := fun_mk (st := sAddSpan) l39 c39 k39
  have F40 := fun_mk (st := sSubSpan) l40 c40 k40
  have F41 := fun_mk (st := sMulSpan) l41 c41 k41
  have F42 := fun_mk (st := sDivSpan) l42 c42 k42
  have F43 := fun_mk (st := sEndsWithoutZero) l43 c43 k43
  have F44 := fun_mk (st := sModSpan) l44 c44 k44
  have F45 := fun_mk (st := sNotSpan) l45 c45 k45
  have F46 := fun_mk (st := sJoinedSpan) l46 c46 k46
  have F47 := fun_mk (st := sTruthSpan) l47 c47 k47
  have F48 := fun_mk (st := sAreAllEqual) l48 c48 k48
  have F49 := fun_mk (st := sShareValues) l49 c49 k49
  have F50 := fun_mk (st := sEqSpan) l50 c50 k50
  have F51 := fun_mk (st := sNeSpan) l51 c51 k51
  have F52 := fun_mk (st := sLtSpan) l52 c52 k52
  have F53 := fun_mk (st := sLeSpan) l53 c53 k53
  have F54 := fun_mk (st := sGtSpan) l54 c54 k54
  have F55 := fun_mk (st := sGeSpan) l55 c55 k55
  have F56 := fun_mk (st := sIsMissingSpan) l56 c56 k56
  have F57 := fun_mk (st := sAndSpan) l57 c57 k57
  have F58 := fun_mk (st := sOrSpan) l58 c58 k58
  have F59 := fun_mk (st := sTruthsIn) l59 c59 k59
  have F60 := fun_mk (st := sSpanOfResults) l60 c60 k60
  have F61 := fun_mk (st := sHolding) l61 c61 k61
  have F62 := fun_mk (st := sIfSpan) l62 c62 k62
  have F63 := fun_mk (st := sOrElseSpan) l63 c63 k63
  have F64 := fun_mk (st := sMarksOf) l64 c64 k64
  have F65 := fun_mk (st := sEntryOf) l65 c65 k65
  have F66 := fun_mk (st := sKeepsTo) l66 c66 k66
  have F67 := fun_mk (st := sFits) l67 c67 k67
  have F68 := fun_mk (st := sDraw) l68 c68 k68
  have F69 := fun_mk (st := sDraws) l69 c69 k69
  have F70 := fun_mk (st := sNext) l70 c70 k70
  have F71 := fun_mk (st := sWord) l71 c71 k71
  have F72 := fun_mk (st := sNumber) l72 c72 k72
  have F73 := fun_mk (st := sThing) l73 c73 k73
  have F74 := fun_mk (st := sShape) l74 c74 k74
  have F75 := fun_mk (st := sLPlace) l75 c75 k75
  have F76 := fun_mk (st := sLValues) l76 c76 k76
  have F77 := fun_mk (st := sLCells) l77 c77 k77
  have F78 := fun_mk (st := sLeaf) l78 c78 k78
  have F79 := fun_mk (st := sFlag) l79 c79 k79
  have F80 := fun_mk (st := sExpr) l80 c80 k80
  have F81 := fun_mk (st := sLWider) l81 c81 k81
  have F82 := fun_mk (st := sLBox) l82 c82 k82
  have F83 := fun_mk (st := sLaw) l83 c83 k83
  have b1 := F1.binds (ps := ["text"]) fun _ _ _ _ _ _ us hl => match us, hl with | [_], _ => rfl
  have b2 := F2.binds (ps := ["kind", "value"]) fun _ _ _ _ _ _ us hl => match us, hl with | [_, _], _ => rfl
  have b3 := F3.binds (ps := ["kind"]) fun _ _ _ _ _ _ us hl => match us, hl with | [_], _ => rfl
  have b4 := F4.binds (ps := ["kind"]) fun _ _ _ _ _ _ us hl => match us, hl with | [_], _ => rfl
  have b5 := F5.binds (ps := ["first", "second"]) fun _ _ _ _ _ _ us hl => match us, hl with | [_, _], _ => rfl
  have b6 := F6.binds (ps := ["least", "value", "greatest"]) fun _ _ _ _ _ _ us hl => match us, hl with | [_, _, _], _ => rfl
  have b7 := F7.binds (ps := ["shape", "name"]) fun _ _ _ _ _ _ us hl => match us, hl with | [_, _], _ => rfl
  have b8 := F8.binds (ps := ["shape", "name"]) fun _ _ _ _ _ _ us hl => match us, hl with | [_, _], _ => rfl
  have b9 := F9.binds (ps := ["rows", "name"]) fun _ _ _ _ _ _ us hl => match us, hl with | [_, _], _ => rfl
  have b10 := F10.binds (ps := ["expression"]) fun _ _ _ _ _ _ us hl => match us, hl with | [_], _ => rfl
  have b11 := F11.binds (ps := ["expression", "shape"]) fun _ _ _ _ _ _ us hl => match us, hl with | [_, _], _ => rfl
  have b12 := F12.binds (ps := ["expression", "shape", "number"]) fun _ _ _ _ _ _ us hl => match us, hl with | [_, _, _], _ => rfl
  have b13 := F13.binds (ps := ["expression", "shape"]) fun _ _ _ _ _ _ us hl => match us, hl with | [_, _], _ => rfl
  have b14 := F14.binds (ps := ["word", "kinds"]) fun _ _ _ _ _ _ us hl => match us, hl with | [_, _], _ => rfl
  have b15 := F15.binds (ps := ["expression", "shape", "place", "values"]) fun _ _ _ _ _ _ us hl => match us, hl with | [_, _, _, _], _ => rfl
  have b16 := F16.binds (ps := ["word", "parts"]) fun _ _ _ _ _ _ us hl => match us, hl with | [_, _], _ => rfl
  have b17 := F17.binds (ps := ["first", "second"]) fun _ _ _ _ _ _ us hl => match us, hl with | [_, _], _ => rfl
  have b18 := F18.binds (ps := ["first", "second"]) fun _ _ _ _ _ _ us hl => match us, hl with | [_, _], _ => rfl
  have b19 := F19.binds (ps := ["condition", "first", "second"]) fun _ _ _ _ _ _ us hl => match us, hl with | [_, _, _], _ => rfl
  have b20 := F20.binds (ps := ["word", "parts"]) fun _ _ _ _ _ _ us hl => match us, hl with | [_, _], _ => rfl
  have b21 := F21.binds (ps := ["word", "first", "second"]) fun _ _ _ _ _ _ us hl => match us, hl with | [_, _, _], _ => rfl
  have b22 := F22.binds (ps := ["word", "first", "second"]) fun _ _ _ _ _ _ us hl => match us, hl with | [_, _, _], _ => rfl
  have b23 := F23.binds (ps := ["expression", "shape", "box", "marks"]) fun _ _ _ _ _ _ us hl => match us, hl with | [_, _, _, _], _ => rfl
  have b24 := F24.binds (ps := ["expression", "shape", "box", "marks"]) fun _ _ _ _ _ _ us hl => match us, hl with | [_, _, _, _], _ => rfl
  have b25 := F25.binds (ps := ["expression", "shape", "box", "marks", "paper"]) fun _ _ _ _ _ _ us hl => match us, hl with | [_, _, _, _, _], _ => rfl
  have b26 := F26.binds (ps := ["kind", "span"]) fun _ _ _ _ _ _ us hl => match us, hl with | [_, _], _ => rfl
  have b27 := F27.binds (ps := ["outer", "inner"]) fun _ _ _ _ _ _ us hl => match us, hl with | [_, _], _ => rfl
  have b28 := F28.binds (ps := ["span"]) fun _ _ _ _ _ _ us hl => match us, hl with | [_], _ => rfl
  have b29 := F29.binds (ps := ["span", "value"]) fun _ _ _ _ _ _ us hl => match us, hl with | [_, _], _ => rfl
  have b30 := F30.binds (ps := ["first", "second"]) fun _ _ _ _ _ _ us hl => match us, hl with | [_, _], _ => rfl
  have b31 := F31.binds (ps := ["paper"]) fun _ _ _ _ _ _ us hl => match us, hl with | [_], _ => rfl
  have b32 := F32.binds (ps := ["expression", "shape", "box", "marks", "spans"]) fun _ _ _ _ _ _ us hl => match us, hl with | [_, _, _, _, _], _ => rfl
  have b33 := F33.binds (ps := ["value"]) fun _ _ _ _ _ _ us hl => match us, hl with | [_], _ => rfl
  have b34 := F34.binds (ps := ["word", "spans"]) fun _ _ _ _ _ _ us hl => match us, hl with | [_, _], _ => rfl
  have b35 := F35.binds (ps := ["span"]) fun _ _ _ _ _ _ us hl => match us, hl with | [_], _ => rfl
  have b36 := F36.binds (ps := ["part"]) fun _ _ _ _ _ _ us hl => match us, hl with | [_], _ => rfl
  have b37 := F37.binds (ps := ["part"]) fun _ _ _ _ _ _ us hl => match us, hl with | [_], _ => rfl
  have b38 := F38.binds (ps := ["part"]) fun _ _ _ _ _ _ us hl => match us, hl with | [_], _ => rfl
  have b39 := F39.binds (ps := ["first", "second"]) fun _ _ _ _ _ _ us hl => match us, hl with | [_, _], _ => rfl
  have b40 := F40.binds (ps := ["first", "second"]) fun _ _ _ _ _ _ us hl => match us, hl with | [_, _], _ => rfl
  have b41 := F41.binds (ps := ["first", "second"]) fun _ _ _ _ _ _ us hl => match us, hl with | [_, _], _ => rfl
  have b42 := F42.binds (ps := ["first", "second"]) fun _ _ _ _ _ _ us hl => match us, hl with | [_, _], _ => rfl
  have b43 := F43.binds (ps := ["least", "greatest"]) fun _ _ _ _ _ _ us hl => match us, hl with | [_, _], _ => rfl
  have b44 := F44.binds (ps := ["first", "second"]) fun _ _ _ _ _ _ us hl => match us, hl with | [_, _], _ => rfl
  have b45 := F45.binds (ps := ["part"]) fun _ _ _ _ _ _ us hl => match us, hl with | [_], _ => rfl
  have b46 := F46.binds (ps := ["first", "second"]) fun _ _ _ _ _ _ us hl => match us, hl with | [_, _], _ => rfl
  have b47 := F47.binds (ps := ["can_be_true", "can_be_false"]) fun _ _ _ _ _ _ us hl => match us, hl with | [_, _], _ => rfl
  have b48 := F48.binds (ps := ["first", "second"]) fun _ _ _ _ _ _ us hl => match us, hl with | [_, _], _ => rfl
  have b49 := F49.binds (ps := ["first", "second"]) fun _ _ _ _ _ _ us hl => match us, hl with | [_, _], _ => rfl
  have b50 := F50.binds (ps := ["first", "second"]) fun _ _ _ _ _ _ us hl => match us, hl with | [_, _], _ => rfl
  have b51 := F51.binds (ps := ["first", "second"]) fun _ _ _ _ _ _ us hl => match us, hl with | [_, _], _ => rfl
  have b52 := F52.binds (ps := ["first", "second"]) fun _ _ _ _ _ _ us hl => match us, hl with | [_, _], _ => rfl
  have b53 := F53.binds (ps := ["first", "second"]) fun _ _ _ _ _ _ us hl => match us, hl with | [_, _], _ => rfl
  have b54 := F54.binds (ps := ["first", "second"]) fun _ _ _ _ _ _ us hl => match us, hl with | [_, _], _ => rfl
  have b55 := F55.binds (ps := ["first", "second"]) fun _ _ _ _ _ _ us hl => match us, hl with | [_, _], _ => rfl
  have b56 := F56.binds (ps := ["part"]) fun _ _ _ _ _ _ us hl => match us, hl with | [_], _ => rfl
  have b57 := F57.binds (ps := ["first", "second"]) fun _ _ _ _ _ _ us hl => match us, hl with | [_, _], _ => rfl
  have b58 := F58.binds (ps := ["first", "second"]) fun _ _ _ _ _ _ us hl => match us, hl with | [_, _], _ => rfl
  have b59 := F59.binds (ps := ["span"]) fun _ _ _ _ _ _ us hl => match us, hl with | [_], _ => rfl
  have b60 := F60.binds (ps := ["truths"]) fun _ _ _ _ _ _ us hl => match us, hl with | [_], _ => rfl
  have b61 := F61.binds (ps := ["spans"]) fun _ _ _ _ _ _ us hl => match us, hl with | [_], _ => rfl
  have b62 := F62.binds (ps := ["condition", "first", "second"]) fun _ _ _ _ _ _ us hl => match us, hl with | [_, _, _], _ => rfl
  have b63 := F63.binds (ps := ["first", "second"]) fun _ _ _ _ _ _ us hl => match us, hl with | [_, _], _ => rfl
  have b64 := F64.binds (ps := ["shape", "cells"]) fun _ _ _ _ _ _ us hl => match us, hl with | [_, _], _ => rfl
  have b65 := F65.binds (ps := ["values"]) fun _ _ _ _ _ _ us hl => match us, hl with | [_], _ => rfl
  have b66 := F66.binds (ps := ["shape", "cells", "marks"]) fun _ _ _ _ _ _ us hl => match us, hl with | [_, _, _], _ => rfl
  have b67 := F67.binds (ps := ["value", "entry"]) fun _ _ _ _ _ _ us hl => match us, hl with | [_, _], _ => rfl
  have b68 := F68.binds (ps := ["cell", "many", "bound"]) fun _ _ _ _ _ _ us hl => match us, hl with | [_, _, _], _ => rfl
  have b69 := F69.binds (ps := ["cells"]) fun _ _ _ _ _ _ us hl => match us, hl with | [_], _ => rfl
  have b70 := F70.binds (ps := ["state", "bound"]) fun _ _ _ _ _ _ us hl => match us, hl with | [_, _], _ => rfl
  have b71 := F71.binds (ps := ["state"]) fun _ _ _ _ _ _ us hl => match us, hl with | [_], _ => rfl
  have b72 := F72.binds (ps := ["state"]) fun _ _ _ _ _ _ us hl => match us, hl with | [_], _ => rfl
  have b73 := F73.binds (ps := ["state", "kind"]) fun _ _ _ _ _ _ us hl => match us, hl with | [_, _], _ => rfl
  have b74 := F74.binds (ps := ["state"]) fun _ _ _ _ _ _ us hl => match us, hl with | [_], _ => rfl
  have b75 := F75.binds (ps := ["state", "dims"]) fun _ _ _ _ _ _ us hl => match us, hl with | [_, _], _ => rfl
  have b76 := F76.binds (ps := ["state", "attrs", "few"]) fun _ _ _ _ _ _ us hl => match us, hl with | [_, _, _], _ => rfl
  have b77 := F77.binds (ps := ["state", "shape", "most"]) fun _ _ _ _ _ _ us hl => match us, hl with | [_, _, _], _ => rfl
  have b78 := F78.binds (ps := ["state", "shape", "kind"]) fun _ _ _ _ _ _ us hl => match us, hl with | [_, _, _], _ => rfl
  have b79 := F79.binds (ps := ["state", "shape", "depth"]) fun _ _ _ _ _ _ us hl => match us, hl with | [_, _, _], _ => rfl
  have b80 := F80.binds (ps := ["state", "shape", "kind", "depth"]) fun _ _ _ _ _ _ us hl => match us, hl with | [_, _, _, _], _ => rfl
  have b81 := F81.binds (ps := ["state", "shape", "marks"]) fun _ _ _ _ _ _ us hl => match us, hl with | [_, _, _], _ => rfl
  have b82 := F82.binds (ps := ["shape", "cells"]) fun _ _ _ _ _ _ us hl => match us, hl with | [_, _], _ => rfl
  have M : Nm mg := ⟨PySem.W.mg_none_of X G z1, PySem.W.mg_none_of X G z2, PySem.W.mg_none_of X G z3, PySem.W.mg_none_of X G z4, PySem.W.mg_none_of X G z5, PySem.W.mg_none_of X G z6, PySem.W.mg_none_of X G z7, PySem.W.mg_none_of X G z8, PySem.W.mg_none_of X G z9, PySem.W.mg_none_of X G z10, PySem.W.mg_none_of X G z11, PySem.W.mg_none_of X G z12, PySem.W.mg_none_of X G z13, PySem.W.mg_none_of X G z14, PySem.W.mg_none_of X G z15, PySem.W.mg_none_of X G z16, PySem.W.mg_none_of X G z17, PySem.W.mg_none_of X G z18⟩
  have hall := PySem.W.mg_none_of X G z19
  have hany := PySem.W.mg_none_of X G z20
  have FG := fun_mk (st := sShInit) lSI cSI kSI
  have bG := FG.binds (ps := ["self", "dims", "attrs"]) fun _ _ _ _ _ _ us hl => match us, hl with | [_, _, _], _ => rfl
  have SH : ShC K S fSI fE := ⟨⟨xS1, xS2, xS3, xS4⟩, ⟨xS5, xS6, xS7, xS8⟩, xSn0, xSn1, s11, s12, s13, s14, s15, hn, ht, s16, s17, s18⟩
  have N2 : Ct mg := ⟨⟨_, PySem.W.mg_of X G g1, ⟨_, rfl⟩⟩, ⟨_, PySem.W.mg_of X G g2, ⟨_, rfl⟩⟩, ⟨_, PySem.W.mg_of X G g3, ⟨_, rfl⟩⟩⟩
  have mam := PySem.W.mg_of X G eAM
  have ham : ∀ H : Hp, SqT K H kam AM.v := fun _ => .inr ⟨_, _, _, lAM, rfl, rfl, (by show 3 ≤ sizeLine; decide), .cons rfl (.cons rfl (.cons rfl .nil))⟩
  have mst := PySem.W.mg_of X G eST
  have mlo := PySem.W.mg_of X G eLO
  have miw := PySem.W.mg_of X G eT2
  have hiw : ∀ H : Hp, SqT K H kT2 ((IW : List Str).map V.str) := fun _ => .inr ⟨_, _, _, lT2, rfl, rfl, (by show 8 ≤ sizeLine; decide), .cons ⟨_, rfl⟩ (.cons ⟨_, rfl⟩ (.cons ⟨_, rfl⟩ (.cons ⟨_, rfl⟩ (.cons ⟨_, rfl⟩ (.cons ⟨_, rfl⟩ (.cons ⟨_, rfl⟩ (.cons ⟨_, rfl⟩ (.nil))))))))⟩
  have mkk := PySem.W.mg_of X G eT1
  have hkk : ∀ H : Hp, SqT K H kT1 ((["int", "flag", "text"] : List Str).map V.str) := fun _ => .inr ⟨_, _, _, lT1, rfl, rfl, (by show 3 ≤ sizeLine; decide), .cons ⟨_, rfl⟩ (.cons ⟨_, rfl⟩ (.cons ⟨_, rfl⟩ (.nil)))⟩
  have N : Nk K mg := ⟨M.tuple, ⟨kT0, PySem.W.mg_of X G eT0, fun _ => .inr ⟨_, _, _, lT0, rfl, rfl, (by show 3 ≤ sizeLine; decide), .cons ⟨_, rfl⟩ (.cons ⟨_, rfl⟩ (.cons ⟨_, rfl⟩ (.nil)))⟩⟩, ⟨kT1, PySem.W.mg_of X G eT1, fun _ => .inr ⟨_, _, _, lT1, rfl, rfl, (by show 3 ≤ sizeLine; decide), .cons ⟨_, rfl⟩ (.cons ⟨_, rfl⟩ (.cons ⟨_, rfl⟩ (.nil)))⟩⟩, ⟨kT3, PySem.W.mg_of X G eT3, fun _ => .inr ⟨_, _, _, lT3, rfl, rfl, (by show 6 ≤ sizeLine; decide), .cons ⟨_, rfl⟩ (.cons ⟨_, rfl⟩ (.cons ⟨_, rfl⟩ (.cons ⟨_, rfl⟩ (.cons ⟨_, rfl⟩ (.cons ⟨_, rfl⟩ (.nil))))))⟩⟩⟩
  have SG : Sg K w mg := by
    refine ⟨sd, PySem.W.mg_of X G eG, fun p hp => ?_⟩
    rcases List.mem_cons.mp hp with rfl | hp
    · exact ⟨wa0, wb0, ⟨_, _, _, lD, sK, wn0, rfl⟩, fun _ => .inr ⟨_, _, _, wL0, rfl, rfl, (by show 2 ≤ sizeLine; decide), .cons rfl (.cons ⟨_, rfl⟩ .nil)⟩, fun _ => .inr ⟨_, _, _, wk0, rfl, rfl, (by show 1 ≤ sizeLine; decide), .cons ⟨_, rfl⟩ (.nil)⟩⟩
    rcases List.mem_cons.mp hp with rfl | hp
    · exact ⟨wa1, wb1, ⟨_, _, _, lD, sK, wn1, rfl⟩, fun _ => .inr ⟨_, _, _, wL1, rfl, rfl, (by show 2 ≤ sizeLine; decide), .cons rfl (.cons ⟨_, rfl⟩ .nil)⟩, fun _ => .inr ⟨_, _, _, wk1, rfl, rfl, (by show 1 ≤ sizeLine; decide), .cons ⟨_, rfl⟩ (.nil)⟩⟩
    rcases List.mem_cons.mp hp with rfl | hp
    · exact ⟨wa2, wb2, ⟨_, _, _, lD, sK, wn2, rfl⟩, fun _ => .inr ⟨_, _, _, wL2, rfl, rfl, (by show 2 ≤ sizeLine; decide), .cons rfl (.cons ⟨_, rfl⟩ .nil)⟩, fun _ => .inr ⟨_, _, _, wk2, rfl, rfl, (by show 1 ≤ sizeLine; decide), .cons ⟨_, rfl⟩ (.nil)⟩⟩
    rcases List.mem_cons.mp hp with rfl | hp
    · exact ⟨wa3, wb3, ⟨_, _, _, lD, sK, wn3, rfl⟩, fun _ => .inr ⟨_, _, _, wL3, rfl, rfl, (by show 2 ≤ sizeLine; decide), .cons rfl (.cons ⟨_, rfl⟩ .nil)⟩, fun _ => .inr ⟨_, _, _, wk3, rfl, rfl, (by show 1 ≤ sizeLine; decide), .cons ⟨_, rfl⟩ (.nil)⟩⟩
    rcases List.mem_cons.mp hp with rfl | hp
    · exact ⟨wa4, wb4, ⟨_, _, _, lD, sK, wn4, rfl⟩, fun _ => .inr ⟨_, _, _, wL4, rfl, rfl, (by show 2 ≤ sizeLine; decide), .cons rfl (.cons ⟨_, rfl⟩ .nil)⟩, fun _ => .inr ⟨_, _, _, wk4, rfl, rfl, (by show 2 ≤ sizeLine; decide), .cons ⟨_, rfl⟩ (.cons ⟨_, rfl⟩ (.nil))⟩⟩
    rcases List.mem_cons.mp hp with rfl | hp
    · exact ⟨wa5, wb5, ⟨_, _, _, lD, sK, wn5, rfl⟩, fun _ => .inr ⟨_, _, _, wL5, rfl, rfl, (by show 2 ≤ sizeLine; decide), .cons rfl (.cons ⟨_, rfl⟩ .nil)⟩, fun _ => .inr ⟨_, _, _, wk5, rfl, rfl, (by show 2 ≤ sizeLine; decide), .cons ⟨_, rfl⟩ (.cons ⟨_, rfl⟩ (.nil))⟩⟩
    rcases List.mem_cons.mp hp with rfl | hp
    · exact ⟨wa6, wb6, ⟨_, _, _, lD, sK, wn6, rfl⟩, fun _ => .inr ⟨_, _, _, wL6, rfl, rfl, (by show 2 ≤ sizeLine; decide), .cons rfl (.cons ⟨_, rfl⟩ .nil)⟩, fun _ => .inr ⟨_, _, _, wk6, rfl, rfl, (by show 2 ≤ sizeLine; decide), .cons ⟨_, rfl⟩ (.cons ⟨_, rfl⟩ (.nil))⟩⟩
    rcases List.mem_cons.mp hp with rfl | hp
    · exact ⟨wa7, wb7, ⟨_, _, _, lD, sK, wn7, rfl⟩, fun _ => .inr ⟨_, _, _, wL7, rfl, rfl, (by show 2 ≤ sizeLine; decide), .cons rfl (.cons ⟨_, rfl⟩ .nil)⟩, fun _ => .inr ⟨_, _, _, wk7, rfl, rfl, (by show 2 ≤ sizeLine; decide), .cons ⟨_, rfl⟩ (.cons ⟨_, rfl⟩ (.nil))⟩⟩
    rcases List.mem_cons.mp hp with rfl | hp
    · exact ⟨wa8, wb8, ⟨_, _, _, lD, sK, wn8, rfl⟩, fun _ => .inr ⟨_, _, _, wL8, rfl, rfl, (by show 2 ≤ sizeLine; decide), .cons rfl (.cons ⟨_, rfl⟩ .nil)⟩, fun _ => .inr ⟨_, _, _, wk8, rfl, rfl, (by show 2 ≤ sizeLine; decide), .cons ⟨_, rfl⟩ (.cons ⟨_, rfl⟩ (.nil))⟩⟩
    rcases List.mem_cons.mp hp with rfl | hp
    · exact ⟨wa9, wb9, ⟨_, _, _, lD, sK, wn9, rfl⟩, fun _ => .inr ⟨_, _, _, wL9, rfl, rfl, (by show 2 ≤ sizeLine; decide), .cons rfl (.cons ⟨_, rfl⟩ .nil)⟩, fun _ => .inr ⟨_, _, _, wk9, rfl, rfl, (by show 2 ≤ sizeLine; decide), .cons ⟨_, rfl⟩ (.cons ⟨_, rfl⟩ (.nil))⟩⟩
    rcases List.mem_cons.mp hp with rfl | hp
    · exact ⟨wa10, wb10, ⟨_, _, _, lD, sK, wn10, rfl⟩, fun _ => .inr ⟨_, _, _, wL10, rfl, rfl, (by show 2 ≤ sizeLine; decide), .cons rfl (.cons ⟨_, rfl⟩ .nil)⟩, fun _ => .inr ⟨_, _, _, wk10, rfl, rfl, (by show 2 ≤ sizeLine; decide), .cons ⟨_, rfl⟩ (.cons ⟨_, rfl⟩ (.nil))⟩⟩
    rcases List.mem_cons.mp hp with rfl | hp
    · exact ⟨wa11, wb11, ⟨_, _, _, lD, sK, wn11, rfl⟩, fun _ => .inr ⟨_, _, _, wL11, rfl, rfl, (by show 2 ≤ sizeLine; decide), .cons rfl (.cons ⟨_, rfl⟩ .nil)⟩, fun _ => .inr ⟨_, _, _, wk11, rfl, rfl, (by show 2 ≤ sizeLine; decide), .cons ⟨_, rfl⟩ (.cons ⟨_, rfl⟩ (.nil))⟩⟩
    exact absurd hp List.not_mem_nil
  exact ⟨PySem.W.fnOf "law" "law" (defArgs sLaw) (defBody sLaw) (defScope sLaw) .none kV83 dc83 pm83 an83 cd83 ct83, fun s v => .of_eq rfl, fun base _ _ => (by
      have G_least_of := ok_least (P := l.prog) (w := w) (K := K) (mg := mg) (base := base) F3 N2
      have G_greatest_of := ok_great (P := l.prog) (w := w) (K := K) (mg := mg) (base := base) F4 N2
      have G_is_before := ok_before (P := l.prog) (w := w) (K := K) (mg := mg) (base := base) F5 
      have G_is_between := ok_between (P := l.prog) (w := w) (K := K) (mg := mg) (base := base) F6 G_is_before k5 b5 (PySem.W.mg_of X G a5)
      have G_has_ends := ok_has (P := l.prog) (w := w) (K := K) (mg := mg) (base := base) F28 
      have G_are_of_one_kind := ok_one (P := l.prog) (w := w) (K := K) (mg := mg) (base := base) F30 M hany mkk hkk (ok_isValue F2 M N2 F1 b1 (PySem.W.mg_of X G a1)) k2 b2 (PySem.W.mg_of X G a2)
      have G_allows := ok_allows (P := l.prog) (w := w) (K := K) (mg := mg) (base := base) F29 G_are_of_one_kind k30 b30 (PySem.W.mg_of X G a30) G_is_between k6 b6 (PySem.W.mg_of X G a6)
      have G_span_of_value := ok_spv (P := l.prog) (w := w) (K := K) (mg := mg) (base := base) F33 mam ham
      have G_within_bounds := ok_wb (P := l.prog) (w := w) (K := K) (mg := mg) (base := base) F35 mam ham M G_has_ends k28 b28 (PySem.W.mg_of X G a28) G_least_of k3 b3 (PySem.W.mg_of X G a3) G_greatest_of k4 b4 (PySem.W.mg_of X G a4)
      have G_neg_span := ok_neg (P := l.prog) (w := w) (K := K) (mg := mg) (base := base) F36 
      have G_abs_span := ok_abs (P := l.prog) (w := w) (K := K) (mg := mg) (base := base) F37 M
      have G_length_span := ok_len (P := l.prog) (w := w) (K := K) (mg := mg) (base := base) F38 M N2
      have G_add_span := ok_addS (P := l.prog) (w := w) (K := K) (mg := mg) (base := base) F39 
      have G_sub_span := ok_subS (P := l.prog) (w := w) (K := K) (mg := mg) (base := base) F40 
      have G_not_span := ok_not (P := l.prog) (w := w) (K := K) (mg := mg) (base := base) F45 
      have G_mod_span := ok_mod (P := l.prog) (w := w) (K := K) (mg := mg) (base := base) F44 mam ham
      have G_joined_span := ok_joined (P := l.prog) (w := w) (K := K) (mg := mg) (base := base) F46 M N2 mam ham G_greatest_of k4 b4 (PySem.W.mg_of X G a4)
      have G_truth_span := ok_truth (P := l.prog) (w := w) (K := K) (mg := mg) (base := base) F47 
      have G_are_all_equal := ok_allEq (P := l.prog) (w := w) (K := K) (mg := mg) (base := base) F48 
      have G_share_values := ok_share (P := l.prog) (w := w) (K := K) (mg := mg) (base := base) F49 
      have G_eq_span := ok_eq (P := l.prog) (w := w) (K := K) (mg := mg) (base := base) F50 G_truth_span k47 b47 (PySem.W.mg_of X G a47) G_share_values k49 b49 (PySem.W.mg_of X G a49) G_are_all_equal k48 b48 (PySem.W.mg_of X G a48)
      have G_ne_span := ok_ne (P := l.prog) (w := w) (K := K) (mg := mg) (base := base) F51 G_truth_span k47 b47 (PySem.W.mg_of X G a47) G_share_values k49 b49 (PySem.W.mg_of X G a49) G_are_all_equal k48 b48 (PySem.W.mg_of X G a48)
      have G_lt_span := ok_lt (P := l.prog) (w := w) (K := K) (mg := mg) (base := base) F52 G_truth_span k47 b47 (PySem.W.mg_of X G a47)
      have G_le_span := ok_le (P := l.prog) (w := w) (K := K) (mg := mg) (base := base) F53 G_truth_span k47 b47 (PySem.W.mg_of X G a47)
      have G_gt_span := ok_gt (P := l.prog) (w := w) (K := K) (mg := mg) (base := base) F54 G_lt_span k52 b52 (PySem.W.mg_of X G a52)
      have G_ge_span := ok_ge (P := l.prog) (w := w) (K := K) (mg := mg) (base := base) F55 G_le_span k53 b53 (PySem.W.mg_of X G a53)
      have G_is_missing_span := ok_ismis (P := l.prog) (w := w) (K := K) (mg := mg) (base := base) F56 G_truth_span k47 b47 (PySem.W.mg_of X G a47) G_has_ends k28 b28 (PySem.W.mg_of X G a28)
      have G_ends_without_zero := ok_ewz (P := l.prog) (w := w) (K := K) (mg := mg) (base := base) F43 M
      have G_mul_span := ok_mul (P := l.prog) (w := w) (K := K) (mg := mg) (base := base) F41 M
      have G_div_span := ok_div (P := l.prog) (w := w) (K := K) (mg := mg) (base := base) F42 M mam ham G_ends_without_zero k43 b43 (PySem.W.mg_of X G a43)
      have G_holding := ok_hold (P := l.prog) (w := w) (K := K) (mg := mg) (base := base) F61 M hany mam ham G_has_ends k28 b28 (PySem.W.mg_of X G a28)
      have G_truths_in := ok_tru (P := l.prog) (w := w) (K := K) (mg := mg) (base := base) F59 G_allows k29 b29 (PySem.W.mg_of X G a29)
      have G_span_of_results := ok_sor (P := l.prog) (w := w) (K := K) (mg := mg) (base := base) F60 G_holding k61 b61 (PySem.W.mg_of X G a61) G_span_of_value k33 b33 (PySem.W.mg_of X G a33)
      have G_both := ok_both (P := l.prog) (w := w) (K := K) (mg := mg) (base := base) F17 
      have G_either := ok_either (P := l.prog) (w := w) (K := K) (mg := mg) (base := base) F18 
      have G_and_span := ok_andS (P := l.prog) (w := w) (K := K) (mg := mg) (base := base) F57 G_span_of_results k60 b60 (PySem.W.mg_of X G a60) G_truths_in k59 b59 (PySem.W.mg_of X G a59) G_both k17 b17 (PySem.W.mg_of X G a17)
      have G_or_span := ok_orS (P := l.prog) (w := w) (K := K) (mg := mg) (base := base) F58 G_span_of_results k60 b60 (PySem.W.mg_of X G a60) G_truths_in k59 b59 (PySem.W.mg_of X G a59) G_either k18 b18 (PySem.W.mg_of X G a18)
      have G_if_span := ok_if (P := l.prog) (w := w) (K := K) (mg := mg) (base := base) F62 M mam ham G_allows k29 b29 (PySem.W.mg_of X G a29) G_holding k61 b61 (PySem.W.mg_of X G a61)
      have G_or_else_span := ok_orElse (P := l.prog) (w := w) (K := K) (mg := mg) (base := base) F63 G_holding k61 b61 (PySem.W.mg_of X G a61)
      have T : StrT l.prog w K mg base kst := (show ∀ wd ∈ (["neg", "abs", "not", "length", "joined", "eq", "ne", "lt", "le", "gt", "ge", "add", "sub", "mul", "div", "mod"] : List Str), ∃ f, KDct K w kst wd (.ref f) ∧ FnR l.prog w K mg base CX0 6 f (spW K wd) ∧ PySem.W.keepIn K (.ref f) = true from List.forall_mem_cons.mpr ⟨⟨_, ⟨_, _, _, lST, kST, ws0, rfl⟩, fr G_neg_span b36 (by decide) (imp1 cw_neg), k36⟩, List.forall_mem_cons.mpr ⟨⟨_, ⟨_, _, _, lST, kST, ws1, rfl⟩, fr G_abs_span b37 (by decide) (imp1 cw_abs), k37⟩, List.forall_mem_cons.mpr ⟨⟨_, ⟨_, _, _, lST, kST, ws2, rfl⟩, fr G_not_span b45 (by decide) (imp1 cw_not), k45⟩, List.forall_mem_cons.mpr ⟨⟨_, ⟨_, _, _, lST, kST, ws3, rfl⟩, fr G_length_span b38 (by decide) (imp1 cw_length), k38⟩, List.forall_mem_cons.mpr ⟨⟨_, ⟨_, _, _, lST, kST, ws4, rfl⟩, fr G_joined_span b46 (by decide) (imp2 cw_joined), k46⟩, List.forall_mem_cons.mpr ⟨⟨_, ⟨_, _, _, lST, kST, ws5, rfl⟩, fr G_eq_span b50 (by decide) (imp2 cw_eq), k50⟩, List.forall_mem_cons.mpr ⟨⟨_, ⟨_, _, _, lST, kST, ws6, rfl⟩, fr G_ne_span b51 (by decide) (imp2 cw_ne), k51⟩, List.forall_mem_cons.mpr ⟨⟨_, ⟨_, _, _, lST, kST, ws7, rfl⟩, fr G_lt_span b52 (by decide) (imp2 cw_lt), k52⟩, List.forall_mem_cons.mpr ⟨⟨_, ⟨_, _, _, lST, kST, ws8, rfl⟩, fr G_le_span b53 (by decide) (imp2 cw_le), k53⟩, List.forall_mem_cons.mpr ⟨⟨_, ⟨_, _, _, lST, kST, ws9, rfl⟩, fr G_gt_span b54 (by decide) (imp2 cw_gt), k54⟩, List.forall_mem_cons.mpr ⟨⟨_, ⟨_, _, _, lST, kST, ws10, rfl⟩, fr G_ge_span b55 (by decide) (imp2 cw_ge), k55⟩, List.forall_mem_cons.mpr ⟨⟨_, ⟨_, _, _, lST, kST, ws11, rfl⟩, fr G_add_span b39 (by decide) (imp2 cw_add), k39⟩, List.forall_mem_cons.mpr ⟨⟨_, ⟨_, _, _, lST, kST, ws12, rfl⟩, fr G_sub_span b40 (by decide) (imp2 cw_sub), k40⟩, List.forall_mem_cons.mpr ⟨⟨_, ⟨_, _, _, lST, kST, ws13, rfl⟩, fr G_mul_span b41 (by decide) (imp2 cw_mul), k41⟩, List.forall_mem_cons.mpr ⟨⟨_, ⟨_, _, _, lST, kST, ws14, rfl⟩, fr G_div_span b42 (by decide) (imp2 cw_div), k42⟩, List.forall_mem_cons.mpr ⟨⟨_, ⟨_, _, _, lST, kST, ws15, rfl⟩, fr G_mod_span b44 (by decide) (imp2 cw_mod), k44⟩, fun _ h => absurd h List.not_mem_nil⟩⟩⟩⟩⟩⟩⟩⟩⟩⟩⟩⟩⟩⟩⟩⟩)
      have L : LooT l.prog w K mg base klo elo nlo := ⟨⟨lLO, kLO, wLO⟩, (show ∀ wd ∈ (["is missing", "and", "or", "if", "or else"] : List Str), ∃ f, KDct K w klo wd (.ref f) ∧ FnR l.prog w K mg base CX0 6 f (spWL K wd) ∧ PySem.W.keepIn K (.ref f) = true from List.forall_mem_cons.mpr ⟨⟨_, ⟨_, _, _, lLO, kLO, wl0, rfl⟩, fr G_is_missing_span b56 (by decide) il_mis, k56⟩, List.forall_mem_cons.mpr ⟨⟨_, ⟨_, _, _, lLO, kLO, wl1, rfl⟩, fr G_and_span b57 (by decide) il_and, k57⟩, List.forall_mem_cons.mpr ⟨⟨_, ⟨_, _, _, lLO, kLO, wl2, rfl⟩, fr G_or_span b58 (by decide) il_or, k58⟩, List.forall_mem_cons.mpr ⟨⟨_, ⟨_, _, _, lLO, kLO, wl3, rfl⟩, fr G_if_span b62 (by decide) il_if, k62⟩, List.forall_mem_cons.mpr ⟨⟨_, ⟨_, _, _, lLO, kLO, wl4, rfl⟩, fr G_or_else_span b63 (by decide) il_els, k63⟩, fun _ h => absurd h List.not_mem_nil⟩⟩⟩⟩⟩), (show ∀ wd ∈ (["neg", "abs", "not", "length", "joined", "eq", "ne", "lt", "le", "gt", "ge", "add", "sub", "mul", "div", "mod"] : List Str), PySem.W.nsIn K klo wd = some none from List.forall_mem_cons.mpr ⟨wo0, List.forall_mem_cons.mpr ⟨wo1, List.forall_mem_cons.mpr ⟨wo2, List.forall_mem_cons.mpr ⟨wo3, List.forall_mem_cons.mpr ⟨wo4, List.forall_mem_cons.mpr ⟨wo5, List.forall_mem_cons.mpr ⟨wo6, List.forall_mem_cons.mpr ⟨wo7, List.forall_mem_cons.mpr ⟨wo8, List.forall_mem_cons.mpr ⟨wo9, List.forall_mem_cons.mpr ⟨wo10, List.forall_mem_cons.mpr ⟨wo11, List.forall_mem_cons.mpr ⟨wo12, List.forall_mem_cons.mpr ⟨wo13, List.forall_mem_cons.mpr ⟨wo14, List.forall_mem_cons.mpr ⟨wo15, fun _ h => absurd h List.not_mem_nil⟩⟩⟩⟩⟩⟩⟩⟩⟩⟩⟩⟩⟩⟩⟩⟩)⟩
      have G_strict_span := ok_strictS (P := l.prog) (w := w) (K := K) (mg := mg) (base := base) F34 M hany hall mst T miw hiw mam ham G_has_ends k28 b28 (PySem.W.mg_of X G a28) G_within_bounds k35 b35 (PySem.W.mg_of X G a35)
      have G_span_from_old := ok_sf (P := l.prog) (w := w) (K := K) (mg := mg) (base := base) (C := S) F32 M mlo L G_span_of_value k33 b33 (PySem.W.mg_of X G a33) (ok_attrIx F8 M SH F9 b9 (PySem.W.mg_of X G a9)) k8 b8 (PySem.W.mg_of X G a8) (ok_dimIx F7 M SH F9 b9 (PySem.W.mg_of X G a9)) k7 b7 (PySem.W.mg_of X G a7) G_strict_span k34 b34 (PySem.W.mg_of X G a34)
      have G_span_from := ok_sf2 (P := l.prog) (w := w) (K := K) (mg := mg) (base := base) (C := S) F32 M mlo L G_span_of_value k33 b33 (PySem.W.mg_of X G a33) (ok_attrIx F8 M SH F9 b9 (PySem.W.mg_of X G a9)) k8 b8 (PySem.W.mg_of X G a8) (ok_dimIx F7 M SH F9 b9 (PySem.W.mg_of X G a9)) k7 b7 (PySem.W.mg_of X G a7) G_strict_span k34 b34 (PySem.W.mg_of X G a34)
      have G_paper_of := ok_paper (P := l.prog) (w := w) (K := K) (mg := mg) (base := base) (C := S) F24 M (PySem.W.mg_of X G a24) b24 (ok_parts F10 M ⟨kT0, PySem.W.mg_of X G eT0, fun _ => .inr ⟨_, _, _, lT0, rfl, rfl, (by show 3 ≤ sizeLine; decide), .cons ⟨_, rfl⟩ (.cons ⟨_, rfl⟩ (.cons ⟨_, rfl⟩ (.nil)))⟩⟩) k10 b10 (PySem.W.mg_of X G a10)  G_span_from_old k32 b32 (PySem.W.mg_of X G a32) 5
      have G_span_of := ok_spanOf (P := l.prog) (w := w) (K := K) (mg := mg) (base := base) (C := S) F23 G_paper_of k24 b24 (PySem.W.mg_of X G a24)
      have G_can_pass := ok_canW (P := l.prog) (w := w) (K := K) (mg := mg) (base := base) F31 G_allows k29 b29 (PySem.W.mg_of X G a29)
      have G_is_span := ok_isSpan (P := l.prog) (w := w) (K := K) (mg := mg) (base := base) F26 M (ok_isValue F2 M N2 F1 b1 (PySem.W.mg_of X G a1)) k2 b2 (PySem.W.mg_of X G a2) G_is_before k5 b5 (PySem.W.mg_of X G a5)
      have G_encloses := ok_enc (P := l.prog) (w := w) (K := K) (mg := mg) (base := base) F27 G_has_ends k28 b28 (PySem.W.mg_of X G a28) G_is_before k5 b5 (PySem.W.mg_of X G a5)
      have G_kind_from := ok_kf (P := l.prog) (w := w) (K := K) (mg := mg) (base := base) (C := S) F12 (PySem.W.mg_of X G a12) b12 N (ok_parts F10 M ⟨kT0, PySem.W.mg_of X G eT0, fun _ => .inr ⟨_, _, _, lT0, rfl, rfl, (by show 3 ≤ sizeLine; decide), .cons ⟨_, rfl⟩ (.cons ⟨_, rfl⟩ (.cons ⟨_, rfl⟩ (.nil)))⟩⟩) k10 b10 (PySem.W.mg_of X G a10) (ok_leafKind F13 N M N2 SH F8 b8 (PySem.W.mg_of X G a8) F7 b7 (PySem.W.mg_of X G a7) F9 b9 (PySem.W.mg_of X G a9) F2 b2 (PySem.W.mg_of X G a2) F1 b1 (PySem.W.mg_of X G a1)) k13 b13 (PySem.W.mg_of X G a13) (ok_over F14 N SG) k14 b14 (PySem.W.mg_of X G a14) 5
      have G_kind_of := ok_kindOf (P := l.prog) (w := w) (K := K) (mg := mg) (base := base) (C := S) F11 G_kind_from k12 b12 (PySem.W.mg_of X G a12)
      have G_shows := ok_shows (P := l.prog) (w := w) (K := K) (mg := mg) (base := base) (C := S) F25 M (PySem.W.mg_of X G a25) b25 (ok_parts F10 M ⟨kT0, PySem.W.mg_of X G eT0, fun _ => .inr ⟨_, _, _, lT0, rfl, rfl, (by show 3 ≤ sizeLine; decide), .cons ⟨_, rfl⟩ (.cons ⟨_, rfl⟩ (.cons ⟨_, rfl⟩ (.nil)))⟩⟩) k10 b10 (PySem.W.mg_of X G a10) G_kind_of k11 b11 (PySem.W.mg_of X G a11) G_is_span k26 b26 (PySem.W.mg_of X G a26) G_span_from k32 b32 (PySem.W.mg_of X G a32) G_encloses k27 b27 (PySem.W.mg_of X G a27) 5
      have G__law_cells := ok_cells (P := l.prog) (w := w) (K := K) (mg := mg) (base := base) (C := S) F77 M SH (ok_next F70 M.int M.len) k70 b70 (PySem.W.mg_of X G a70) (ok_place F75 M F70 b70 (PySem.W.mg_of X G a70)) k75 b75 (PySem.W.mg_of X G a75) (ok_values F76 M F70 b70 (PySem.W.mg_of X G a70) (ok_thing F73 M F70 b70 (PySem.W.mg_of X G a70) F71 b71 (PySem.W.mg_of X G a71) F72 b72 (PySem.W.mg_of X G a72)) k73 b73 (PySem.W.mg_of X G a73)) k76 b76 (PySem.W.mg_of X G a76)
      have G__law_box := ok_box (P := l.prog) (w := w) (K := K) (mg := mg) (base := base) (C := S) F82 M SH
      have G_entry_of := ok_entry (P := l.prog) (w := w) (K := K) (mg := mg) (base := base) F65 M
      have G_marks_of := ok_marks (P := l.prog) (w := w) (K := K) (mg := mg) (base := base) (C := S) F64 M SH G_entry_of k65 b65 (PySem.W.mg_of X G a65)
      have G_value_of := ok_vo (P := l.prog) (w := w) (K := K) (mg := mg) (base := base) (C := S) F15 (PySem.W.mg_of X G a15) b15 ⟨kT4, PySem.W.mg_of X G eT4, fun _ => .inr ⟨_, _, _, lT4, rfl, rfl, (by show 5 ≤ sizeLine; decide), .cons ⟨_, rfl⟩ (.cons ⟨_, rfl⟩ (.cons ⟨_, rfl⟩ (.cons ⟨_, rfl⟩ (.cons ⟨_, rfl⟩ (.nil)))))⟩⟩ (ok_parts F10 M ⟨kT0, PySem.W.mg_of X G eT0, fun _ => .inr ⟨_, _, _, lT0, rfl, rfl, (by show 3 ≤ sizeLine; decide), .cons ⟨_, rfl⟩ (.cons ⟨_, rfl⟩ (.cons ⟨_, rfl⟩ (.nil)))⟩⟩) k10 b10 (PySem.W.mg_of X G a10) (ok_attrIx F8 M SH F9 b9 (PySem.W.mg_of X G a9)) k8 b8 (PySem.W.mg_of X G a8) (ok_dimIx F7 M SH F9 b9 (PySem.W.mg_of X G a9)) k7 b7 (PySem.W.mg_of X G a7) (ok_loose F16 F17 b17 (PySem.W.mg_of X G a17) F18 b18 (PySem.W.mg_of X G a18) F19 b19 (PySem.W.mg_of X G a19)) k16 b16 (PySem.W.mg_of X G a16) (ok_strict F20 M N2 ⟨kT3, PySem.W.mg_of X G eT3, fun _ => .inr ⟨_, _, _, lT3, rfl, rfl, (by show 6 ≤ sizeLine; decide), .cons ⟨_, rfl⟩ (.cons ⟨_, rfl⟩ (.cons ⟨_, rfl⟩ (.cons ⟨_, rfl⟩ (.cons ⟨_, rfl⟩ (.cons ⟨_, rfl⟩ (.nil))))))⟩⟩ F21 b21 (PySem.W.mg_of X G a21) F22 b22 (PySem.W.mg_of X G a22) (ok_isValue F2 M N2 F1 b1 (PySem.W.mg_of X G a1)) k2 b2 (PySem.W.mg_of X G a2)) k20 b20 (PySem.W.mg_of X G a20) 5
      have G_fits := ok_fits (P := l.prog) (w := w) (K := K) (mg := mg) (base := base) F67 G_is_between k6 b6 (PySem.W.mg_of X G a6)
      have G_keeps_to := ok_keeps (P := l.prog) (w := w) (K := K) (mg := mg) (base := base) (C := S) F66 M SH G_fits k67 b67 (PySem.W.mg_of X G a67)
      have G__law_wider := ok_wider (P := l.prog) (w := w) (K := K) (mg := mg) (base := base) (C := S) F81 M SH (ok_next F70 M.int M.len) k70 b70 (PySem.W.mg_of X G a70) (ok_thing F73 M F70 b70 (PySem.W.mg_of X G a70) F71 b71 (PySem.W.mg_of X G a71) F72 b72 (PySem.W.mg_of X G a72)) k73 b73 (PySem.W.mg_of X G a73)
      exact ok_law (C := S) F83 M SH (ok_draws F69 F68 b68 (PySem.W.mg_of X G a68) M.range M.int) k69 b69 (PySem.W.mg_of X G a69) (ok_shape F74 M F70 b70 (PySem.W.mg_of X G a70) SH (PySem.W.mg_of X G xSe) (ok_shInit FG SH) bG) k74 b74 (PySem.W.mg_of X G a74) G__law_cells k77 b77 (PySem.W.mg_of X G a77) (ok_place F75 M F70 b70 (PySem.W.mg_of X G a70)) k75 b75 (PySem.W.mg_of X G a75) (ok_values F76 M F70 b70 (PySem.W.mg_of X G a70) (ok_thing F73 M F70 b70 (PySem.W.mg_of X G a70) F71 b71 (PySem.W.mg_of X G a71) F72 b72 (PySem.W.mg_of X G a72)) k73 b73 (PySem.W.mg_of X G a73)) k76 b76 (PySem.W.mg_of X G a76) G__law_box k82 b82 (PySem.W.mg_of X G a82) G_marks_of k64 b64 (PySem.W.mg_of X G a64) (ok_next F70 M.int M.len) k70 b70 (PySem.W.mg_of X G a70) G__law_wider k81 b81 (PySem.W.mg_of X G a81) G_keeps_to k66 b66 (PySem.W.mg_of X G a66) (ok_expr F80 (PySem.W.mg_of X G a80) b80 M F70 b70 (PySem.W.mg_of X G a70) (ok_leaf F78 M SH F70 b70 (PySem.W.mg_of X G a70) (ok_thing F73 M F70 b70 (PySem.W.mg_of X G a70) F71 b71 (PySem.W.mg_of X G a71) F72 b72 (PySem.W.mg_of X G a72)) k73 b73 (PySem.W.mg_of X G a73)) k78 b78 (PySem.W.mg_of X G a78) F79 b79 (PySem.W.mg_of X G a79) 5) k80 b80 (PySem.W.mg_of X G a80) G_span_of k23 b23 (PySem.W.mg_of X G a23) G_paper_of k24 b24 (PySem.W.mg_of X G a24) G_shows k25 b25 (PySem.W.mg_of X G a25) G_value_of k15 b15 (PySem.W.mg_of X G a15) G_allows k29 b29 (PySem.W.mg_of X G a29) G_can_pass k31 b31 (PySem.W.mg_of X G a31))⟩
end K2
open PySem PySem.W PyProof.Rows
set_option maxRecDepth 100000 in
set_option maxHeartbeats 0 in
theorem PySem.Challenge.cw_manysides_k12_whole_values_lie_in_spans_holds : PySem.Challenge.rw_manysides_k12_whole_values_lie_in_spans.Holds := by
  w_on; o_law; k_head; (case hw => w_witness2)
  k_fill
  refine L2.walk_of (l := PySem.Challenge.rw_manysides_k12_whole_values_lie_in_spans) (n := 63) (k := 18) (x := "script") (CX := fun _ => L2.CX0) (sp := fun w => K2.spLaw _) rfl (by decide) rfl ⟨rfl, by decide, by decide⟩ (fun w h Y => PySem.W.kIn_of Y) ?F (fun _ _ a ns hl _ hS => ⟨a, ns, rfl, hS, hl, fun _ => rfl⟩) (fun _ _ _ _ _ h => h)
  case F =>
    intro w mg fa h KX G hmg
    refine' K2.all_mk KX G hmg ?a1 ?l1 ?c1 ?k1 ?a2 ?l2 ?c2 ?k2 ?a3 ?l3 ?c3 ?k3 ?a4 ?l4 ?c4 ?k4 ?a5 ?l5 ?c5 ?k5 ?a6 ?l6 ?c6 ?k6 ?a7 ?l7 ?c7 ?k7 ?a8 ?l8 ?c8 ?k8 ?a9 ?l9 ?c9 ?k9 ?a10 ?l10 ?c10 ?k10 ?a11 ?l11 ?c11 ?k11 ?a12 ?l12 ?c12 ?k12 ?a13 ?l13 ?c13 ?k13 ?a14 ?l14 ?c14 ?k14 ?a15 ?l15 ?c15 ?k15 ?a16 ?l16 ?c16 ?k16 ?a17 ?l17 ?c17 ?k17 ?a18 ?l18 ?c18 ?k18 ?a19 ?l19 ?c19 ?k19 ?a20 ?l20 ?c20 ?k20 ?a21 ?l21 ?c21 ?k21 ?a22 ?l22 ?c22 ?k22 ?a23 ?l23 ?c23 ?k23 ?a24 ?l24 ?c24 ?k24 ?a25 ?l25 ?c25 ?k25 ?a26 ?l26 ?c26 ?k26 ?a27 ?l27 ?c27 ?k27 ?a28 ?l28 ?c28 ?k28 ?a29 ?l29 ?c29 ?k29 ?a30 ?l30 ?c30 ?k30 ?a31 ?l31 ?c31 ?k31 ?a32 ?l32 ?c32 ?k32 ?a33 ?l33 ?c33 ?k33 ?a34 ?l34 ?c34 ?k34 ?a35 ?l35 ?c35 ?k35 ?a36 ?l36 ?c36 ?k36 ?a37 ?l37 ?c37 ?k37 ?a38 ?l38 ?c38 ?k38 ?a39 ?l39 ?c39 ?k39 ?a40 ?l40 ?c40 ?k40 ?a41 ?l41 ?c41 ?k41 ?a42 ?l42 ?c42 ?k42 ?a43 ?l43 ?c43 ?k43 ?a44 ?l44 ?c44 ?k44 ?a45 ?l45 ?c45 ?k45 ?a46 ?l46 ?c46 ?k46 ?a47 ?l47 ?c47 ?k47 ?a48 ?l48 ?c48 ?k48 ?a49 ?l49 ?c49 ?k49 ?a50 ?l50 ?c50 ?k50 ?a51 ?l51 ?c51 ?k51 ?a52 ?l52 ?c52 ?k52 ?a53 ?l53 ?c53 ?k53 ?a54 ?l54 ?c54 ?k54 ?a55 ?l55 ?c55 ?k55 ?a56 ?l56 ?c56 ?k56 ?a57 ?l57 ?c57 ?k57 ?a58 ?l58 ?c58 ?k58 ?a59 ?l59 ?c59 ?k59 ?a60 ?l60 ?c60 ?k60 ?a61 ?l61 ?c61 ?k61 ?a62 ?l62 ?c62 ?k62 ?a63 ?l63 ?c63 ?k63 ?a64 ?l64 ?c64 ?k64 ?a65 ?l65 ?c65 ?k65 ?a66 ?l66 ?c66 ?k66 ?a67 ?l67 ?c67 ?k67 ?a68 ?l68 ?c68 ?k68 ?a69 ?l69 ?c69 ?k69 ?a70 ?l70 ?c70 ?k70 ?a71 ?l71 ?c71 ?k71 ?a72 ?l72 ?c72 ?k72 ?a73 ?l73 ?c73 ?k73 ?a74 ?l74 ?c74 ?k74 ?a75 ?l75 ?c75 ?k75 ?a76 ?l76 ?c76 ?k76 ?a77 ?l77 ?c77 ?k77 ?a78 ?l78 ?c78 ?k78 ?a79 ?l79 ?c79 ?k79 ?a80 ?l80 ?c80 ?k80 ?a81 ?l81 ?c81 ?k81 ?a82 ?l82 ?c82 ?k82 ?a83 ?l83 ?c83 ?k83 ?z1 ?z2 ?z3 ?z4 ?z5 ?z6 ?z7 ?z8 ?z9 ?z10 ?z11 ?z12 ?z13 ?z14 ?z15 ?z16 ?z17 ?z18 ?z19 ?z20 ?g1 ?g2 ?g3 ?eT0 ?lT0 ?eT1 ?lT1 ?eT2 ?lT2 ?eT3 ?lT3 ?eT4 ?lT4 ?xSe ?xS1 ?xS2 ?xS3 ?xS4 ?xS5 ?xS6 ?xS7 ?xS8 ?xSn0 ?xSn1 ?lSI ?cSI ?kSI ?s11 ?s12 ?s13 ?s14 ?s17 ?s18 ?s15 ?s16 ?hn ?ht ?eAM ?lAM ?eST ?lST ?kST ?eLO ?lLO ?kLO ?wLO ?ws0 ?wo0 ?ws1 ?wo1 ?ws2 ?wo2 ?ws3 ?wo3 ?ws4 ?wo4 ?ws5 ?wo5 ?ws6 ?wo6 ?ws7 ?wo7 ?ws8 ?wo8 ?ws9 ?wo9 ?ws10 ?wo10 ?ws11 ?wo11 ?ws12 ?wo12 ?ws13 ?wo13 ?ws14 ?wo14 ?ws15 ?wo15 ?wl0 ?wl1 ?wl2 ?wl3 ?wl4 ?eG ?lD ?sK ?wn0 ?wL0 ?wk0 ?wn1 ?wL1 ?wk1 ?wn2 ?wL2 ?wk2 ?wn3 ?wL3 ?wk3 ?wn4 ?wL4 ?wk4 ?wn5 ?wL5 ?wk5 ?wn6 ?wL6 ?wk6 ?wn7 ?wL7 ?wk7 ?wn8 ?wL8 ?wk8 ?wn9 ?wL9 ?wk9 ?wn10 ?wL10 ?wk10 ?wn11 ?wL11 ?wk11
    (case a1 => k_is)
    (case l1 => k_is)
    (case c1 => k_is)
    (case k1 => k_is)
    (case a2 => k_is)
    (case l2 => k_is)
    (case c2 => k_is)
    (case k2 => k_is)
    (case a3 => k_is)
    (case l3 => k_is)
    (case c3 => k_is)
    (case k3 => k_is)
    (case a4 => k_is)
    (case l4 => k_is)
    (case c4 => k_is)
    (case k4 => k_is)
    (case a5 => k_is)
    (case l5 => k_is)
    (case c5 => k_is)
    (case k5 => k_is)
    (case a6 => k_is)
    (case l6 => k_is)
    (case c6 => k_is)
    (case k6 => k_is)
    (case a7 => k_is)
    (case l7 => k_is)
    (case c7 => k_is)
    (case k7 => k_is)
    (case a8 => k_is)
    (case l8 => k_is)
    (case c8 => k_is)
    (case k8 => k_is)
    (case a9 => k_is)
    (case l9 => k_is)
    (case c9 => k_is)
    (case k9 => k_is)
    (case a10 => k_is)
    (case l10 => k_is)
    (case c10 => k_is)
    (case k10 => k_is)
    (case a11 => k_is)
    (case l11 => k_is)
    (case c11 => k_is)
    (case k11 => k_is)
    (case a12 => k_is)
    (case l12 => k_is)
    (case c12 => k_is)
    (case k12 => k_is)
    (case a13 => k_is)
    (case l13 => k_is)
    (case c13 => k_is)
    (case k13 => k_is)
    (case a14 => k_is)
    (case l14 => k_is)
    (case c14 => k_is)
    (case k14 => k_is)
    (case a15 => k_is)
    (case l15 => k_is)
    (case c15 => k_is)
    (case k15 => k_is)
    (case a16 => k_is)
    (case l16 => k_is)
    (case c16 => k_is)
    (case k16 => k_is)
    (case a17 => k_is)
    (case l17 => k_is)
    (case c17 => k_is)
    (case k17 => k_is)
    (case a18 => k_is)
    (case l18 => k_is)
    (case c18 => k_is)
    (case k18 => k_is)
    (case a19 => k_is)
    (case l19 => k_is)
    (case c19 => k_is)
    (case k19 => k_is)
    (case a20 => k_is)
    (case l20 => k_is)
    (case c20 => k_is)
    (case k20 => k_is)
    (case a21 => k_is)
    (case l21 => k_is)
    (case c21 => k_is)
    (case k21 => k_is)
    (case a22 => k_is)
    (case l22 => k_is)
    (case c22 => k_is)
    (case k22 => k_is)
    (case a23 => k_is)
    (case l23 => k_is)
    (case c23 => k_is)
    (case k23 => k_is)
    (case a24 => k_is)
    (case l24 => k_is)
    (case c24 => k_is)
    (case k24 => k_is)
    (case a25 => k_is)
    (case l25 => k_is)
    (case c25 => k_is)
    (case k25 => k_is)
    (case a26 => k_is)
    (case l26 => k_is)
    (case c26 => k_is)
    (case k26 => k_is)
    (case a27 => k_is)
    (case l27 => k_is)
    (case c27 => k_is)
    (case k27 => k_is)
    (case a28 => k_is)
    (case l28 => k_is)
    (case c28 => k_is)
    (case k28 => k_is)
    (case a29 => k_is)
    (case l29 => k_is)
    (case c29 => k_is)
    (case k29 => k_is)
    (case a30 => k_is)
    (case l30 => k_is)
    (case c30 => k_is)
    (case k30 => k_is)
    (case a31 => k_is)
    (case l31 => k_is)
    (case c31 => k_is)
    (case k31 => k_is)
    (case a32 => k_is)
    (case l32 => k_is)
    (case c32 => k_is)
    (case k32 => k_is)
    (case a33 => k_is)
    (case l33 => k_is)
    (case c33 => k_is)
    (case k33 => k_is)
    (case a34 => k_is)
    (case l34 => k_is)
    (case c34 => k_is)
    (case k34 => k_is)
    (case a35 => k_is)
    (case l35 => k_is)
    (case c35 => k_is)
    (case k35 => k_is)
    (case a36 => k_is)
    (case l36 => k_is)
    (case c36 => k_is)
    (case k36 => k_is)
    (case a37 => k_is)
    (case l37 => k_is)
    (case c37 => k_is)
    (case k37 => k_is)
    (case a38 => k_is)
    (case l38 => k_is)
    (case c38 => k_is)
    (case k38 => k_is)
    (case a39 => k_is)
    (case l39 => k_is)
    (case c39 => k_is)
    (case k39 => k_is)
    (case a40 => k_is)
    (case l40 => k_is)
    (case c40 => k_is)
    (case k40 => k_is)
    (case a41 => k_is)
    (case l41 => k_is)
    (case c41 => k_is)
    (case k41 => k_is)
    (case a42 => k_is)
    (case l42 => k_is)
    (case c42 => k_is)
    (case k42 => k_is)
    (case a43 => k_is)
    (case l43 => k_is)
    (case c43 => k_is)
    (case k43 => k_is)
    (case a44 => k_is)
    (case l44 => k_is)
    (case c44 => k_is)
    (case k44 => k_is)
    (case a45 => k_is)
    (case l45 => k_is)
    (case c45 => k_is)
    (case k45 => k_is)
    (case a46 => k_is)
    (case l46 => k_is)
    (case c46 => k_is)
    (case k46 => k_is)
    (case a47 => k_is)
    (case l47 => k_is)
    (case c47 => k_is)
    (case k47 => k_is)
    (case a48 => k_is)
    (case l48 => k_is)
    (case c48 => k_is)
    (case k48 => k_is)
    (case a49 => k_is)
    (case l49 => k_is)
    (case c49 => k_is)
    (case k49 => k_is)
    (case a50 => k_is)
    (case l50 => k_is)
    (case c50 => k_is)
    (case k50 => k_is)
    (case a51 => k_is)
    (case l51 => k_is)
    (case c51 => k_is)
    (case k51 => k_is)
    (case a52 => k_is)
    (case l52 => k_is)
    (case c52 => k_is)
    (case k52 => k_is)
    (case a53 => k_is)
    (case l53 => k_is)
    (case c53 => k_is)
    (case k53 => k_is)
    (case a54 => k_is)
    (case l54 => k_is)
    (case c54 => k_is)
    (case k54 => k_is)
    (case a55 => k_is)
    (case l55 => k_is)
    (case c55 => k_is)
    (case k55 => k_is)
    (case a56 => k_is)
    (case l56 => k_is)
    (case c56 => k_is)
    (case k56 => k_is)
    (case a57 => k_is)
    (case l57 => k_is)
    (case c57 => k_is)
    (case k57 => k_is)
    (case a58 => k_is)
    (case l58 => k_is)
    (case c58 => k_is)
    (case k58 => k_is)
    (case a59 => k_is)
    (case l59 => k_is)
    (case c59 => k_is)
    (case k59 => k_is)
    (case a60 => k_is)
    (case l60 => k_is)
    (case c60 => k_is)
    (case k60 => k_is)
    (case a61 => k_is)
    (case l61 => k_is)
    (case c61 => k_is)
    (case k61 => k_is)
    (case a62 => k_is)
    (case l62 => k_is)
    (case c62 => k_is)
    (case k62 => k_is)
    (case a63 => k_is)
    (case l63 => k_is)
    (case c63 => k_is)
    (case k63 => k_is)
    (case a64 => k_is)
    (case l64 => k_is)
    (case c64 => k_is)
    (case k64 => k_is)
    (case a65 => k_is)
    (case l65 => k_is)
    (case c65 => k_is)
    (case k65 => k_is)
    (case a66 => k_is)
    (case l66 => k_is)
    (case c66 => k_is)
    (case k66 => k_is)
    (case a67 => k_is)
    (case l67 => k_is)
    (case c67 => k_is)
    (case k67 => k_is)
    (case a68 => k_is)
    (case l68 => k_is)
    (case c68 => k_is)
    (case k68 => k_is)
    (case a69 => k_is)
    (case l69 => k_is)
    (case c69 => k_is)
    (case k69 => k_is)
    (case a70 => k_is)
    (case l70 => k_is)
    (case c70 => k_is)
    (case k70 => k_is)
    (case a71 => k_is)
    (case l71 => k_is)
    (case c71 => k_is)
    (case k71 => k_is)
    (case a72 => k_is)
    (case l72 => k_is)
    (case c72 => k_is)
    (case k72 => k_is)
    (case a73 => k_is)
    (case l73 => k_is)
    (case c73 => k_is)
    (case k73 => k_is)
    (case a74 => k_is)
    (case l74 => k_is)
    (case c74 => k_is)
    (case k74 => k_is)
    (case a75 => k_is)
    (case l75 => k_is)
    (case c75 => k_is)
    (case k75 => k_is)
    (case a76 => k_is)
    (case l76 => k_is)
    (case c76 => k_is)
    (case k76 => k_is)
    (case a77 => k_is)
    (case l77 => k_is)
    (case c77 => k_is)
    (case k77 => k_is)
    (case a78 => k_is)
    (case l78 => k_is)
    (case c78 => k_is)
    (case k78 => k_is)
    (case a79 => k_is)
    (case l79 => k_is)
    (case c79 => k_is)
    (case k79 => k_is)
    (case a80 => k_is)
    (case l80 => k_is)
    (case c80 => k_is)
    (case k80 => k_is)
    (case a81 => k_is)
    (case l81 => k_is)
    (case c81 => k_is)
    (case k81 => k_is)
    (case a82 => k_is)
    (case l82 => k_is)
    (case c82 => k_is)
    (case k82 => k_is)
    (case a83 => k_is)
    (case l83 => k_is)
    (case c83 => k_is)
    (case k83 => k_is)
    (case z1 => k_is)
    (case z2 => k_is)
    (case z3 => k_is)
    (case z4 => k_is)
    (case z5 => k_is)
    (case z6 => k_is)
    (case z7 => k_is)
    (case z8 => k_is)
    (case z9 => k_is)
    (case z10 => k_is)
    (case z11 => k_is)
    (case z12 => k_is)
    (case z13 => k_is)
    (case z14 => k_is)
    (case z15 => k_is)
    (case z16 => k_is)
    (case z17 => k_is)
    (case z18 => k_is)
    (case z19 => k_is)
    (case z20 => k_is)
    (case g1 => k_is)
    (case g2 => k_is)
    (case g3 => k_is)
    (case eT0 => first | k_is | kit_is | rfl)
    (case lT0 => first | k_is | kit_is | rfl)
    (case eT1 => first | k_is | kit_is | rfl)
    (case lT1 => first | k_is | kit_is | rfl)
    (case eT2 => first | k_is | kit_is | rfl)
    (case lT2 => first | k_is | kit_is | rfl)
    (case eT3 => first | k_is | kit_is | rfl)
    (case lT3 => first | k_is | kit_is | rfl)
    (case eT4 => first | k_is | kit_is | rfl)
    (case lT4 => first | k_is | kit_is | rfl)
    (case xSe => first | k_is | kit_is | rfl)
    (case xS1 => first | k_is | kit_is | rfl)
    (case xS2 => first | k_is | kit_is | rfl)
    (case xS3 => first | k_is | kit_is | rfl)
    (case xS4 => first | k_is | kit_is | rfl)
    (case xS5 => first | k_is | kit_is | rfl)
    (case xS6 => first | k_is | kit_is | rfl)
    (case xS7 => first | k_is | kit_is | rfl)
    (case xS8 => first | k_is | kit_is | rfl)
    (case xSn0 => first | k_is | kit_is | rfl)
    (case xSn1 => first | k_is | kit_is | rfl)
    (case lSI => first | k_is | kit_is | rfl)
    (case cSI => first | k_is | kit_is | rfl)
    (case kSI => first | k_is | kit_is | rfl)
    (case s11 => first | k_is | kit_is | rfl)
    (case s12 => first | k_is | kit_is | rfl)
    (case s13 => first | k_is | kit_is | rfl)
    (case s14 => first | k_is | kit_is | rfl)
    (case s17 => first | k_is | kit_is | rfl)
    (case s18 => first | k_is | kit_is | rfl)
    (case s15 => first | k_is | kit_is | rfl)
    (case s16 => first | k_is | kit_is | rfl)
    (case hn => first | k_is | kit_is | rfl)
    (case ht => first | k_is | kit_is | rfl)
    (case eAM => first | k_is | kit_is | rfl)
    (case lAM => first | k_is | kit_is | rfl)
    (case eST => first | k_is | kit_is | rfl)
    (case lST => first | k_is | kit_is | rfl)
    (case kST => exact ⟨⟨_, _, rfl, rfl⟩, ⟨_, _, rfl, rfl⟩, ⟨_, _, rfl, rfl⟩, ⟨_, _, rfl, rfl⟩, ⟨_, _, rfl, rfl⟩, ⟨_, _, rfl, rfl⟩, ⟨_, _, rfl, rfl⟩, ⟨_, _, rfl, rfl⟩, ⟨_, _, rfl, rfl⟩, ⟨_, _, rfl, rfl⟩, ⟨_, _, rfl, rfl⟩, ⟨_, _, rfl, rfl⟩, ⟨_, _, rfl, rfl⟩, ⟨_, _, rfl, rfl⟩, ⟨_, _, rfl, rfl⟩, ⟨_, _, rfl, rfl⟩, True.intro⟩)
    (case eLO => first | k_is | kit_is | rfl)
    (case lLO => first | k_is | kit_is | rfl)
    (case kLO => exact ⟨⟨_, _, rfl, rfl⟩, ⟨_, _, rfl, rfl⟩, ⟨_, _, rfl, rfl⟩, ⟨_, _, rfl, rfl⟩, ⟨_, _, rfl, rfl⟩, True.intro⟩)
    (case wLO => first | k_is | rfl | decide)
    (case ws0 => first | k_is | kit_is | rfl)
    (case wo0 => first | k_is | kit_is | rfl)
    (case ws1 => first | k_is | kit_is | rfl)
    (case wo1 => first | k_is | kit_is | rfl)
    (case ws2 => first | k_is | kit_is | rfl)
    (case wo2 => first | k_is | kit_is | rfl)
    (case ws3 => first | k_is | kit_is | rfl)
    (case wo3 => first | k_is | kit_is | rfl)
    (case ws4 => first | k_is | kit_is | rfl)
    (case wo4 => first | k_is | kit_is | rfl)
    (case ws5 => first | k_is | kit_is | rfl)
    (case wo5 => first | k_is | kit_is | rfl)
    (case ws6 => first | k_is | kit_is | rfl)
    (case wo6 => first | k_is | kit_is | rfl)
    (case ws7 => first | k_is | kit_is | rfl)
    (case wo7 => first | k_is | kit_is | rfl)
    (case ws8 => first | k_is | kit_is | rfl)
    (case wo8 => first | k_is | kit_is | rfl)
    (case ws9 => first | k_is | kit_is | rfl)
    (case wo9 => first | k_is | kit_is | rfl)
    (case ws10 => first | k_is | kit_is | rfl)
    (case wo10 => first | k_is | kit_is | rfl)
    (case ws11 => first | k_is | kit_is | rfl)
    (case wo11 => first | k_is | kit_is | rfl)
    (case ws12 => first | k_is | kit_is | rfl)
    (case wo12 => first | k_is | kit_is | rfl)
    (case ws13 => first | k_is | kit_is | rfl)
    (case wo13 => first | k_is | kit_is | rfl)
    (case ws14 => first | k_is | kit_is | rfl)
    (case wo14 => first | k_is | kit_is | rfl)
    (case ws15 => first | k_is | kit_is | rfl)
    (case wo15 => first | k_is | kit_is | rfl)
    (case wl0 => first | k_is | kit_is | rfl)
    (case wl1 => first | k_is | kit_is | rfl)
    (case wl2 => first | k_is | kit_is | rfl)
    (case wl3 => first | k_is | kit_is | rfl)
    (case wl4 => first | k_is | kit_is | rfl)
    (case eG => first | k_is | kit_is | rfl)
    (case lD => first | k_is | kit_is | rfl)
    (case sK => exact ⟨⟨_, _, rfl, rfl⟩, ⟨_, _, rfl, rfl⟩, ⟨_, _, rfl, rfl⟩, ⟨_, _, rfl, rfl⟩, ⟨_, _, rfl, rfl⟩, ⟨_, _, rfl, rfl⟩, ⟨_, _, rfl, rfl⟩, ⟨_, _, rfl, rfl⟩, ⟨_, _, rfl, rfl⟩, ⟨_, _, rfl, rfl⟩, ⟨_, _, rfl, rfl⟩, ⟨_, _, rfl, rfl⟩, True.intro⟩)
    (case wn0 => first | k_is | kit_is | rfl)
    (case wL0 => first | k_is | kit_is | rfl)
    (case wk0 => first | k_is | kit_is | rfl)
    (case wn1 => first | k_is | kit_is | rfl)
    (case wL1 => first | k_is | kit_is | rfl)
    (case wk1 => first | k_is | kit_is | rfl)
    (case wn2 => first | k_is | kit_is | rfl)
    (case wL2 => first | k_is | kit_is | rfl)
    (case wk2 => first | k_is | kit_is | rfl)
    (case wn3 => first | k_is | kit_is | rfl)
    (case wL3 => first | k_is | kit_is | rfl)
    (case wk3 => first | k_is | kit_is | rfl)
    (case wn4 => first | k_is | kit_is | rfl)
    (case wL4 => first | k_is | kit_is | rfl)
    (case wk4 => first | k_is | kit_is | rfl)
    (case wn5 => first | k_is | kit_is | rfl)
    (case wL5 => first | k_is | kit_is | rfl)
    (case wk5 => first | k_is | kit_is | rfl)
    (case wn6 => first | k_is | kit_is | rfl)
    (case wL6 => first | k_is | kit_is | rfl)
    (case wk6 => first | k_is | kit_is | rfl)
    (case wn7 => first | k_is | kit_is | rfl)
    (case wL7 => first | k_is | kit_is | rfl)
    (case wk7 => first | k_is | kit_is | rfl)
    (case wn8 => first | k_is | kit_is | rfl)
    (case wL8 => first | k_is | kit_is | rfl)
    (case wk8 => first | k_is | kit_is | rfl)
    (case wn9 => first | k_is | kit_is | rfl)
    (case wL9 => first | k_is | kit_is | rfl)
    (case wk9 => first | k_is | kit_is | rfl)
    (case wn10 => first | k_is | kit_is | rfl)
    (case wL10 => first | k_is | kit_is | rfl)
    (case wk10 => first | k_is | kit_is | rfl)
    (case wn11 => first | k_is | kit_is | rfl)
    (case wL11 => first | k_is | kit_is | rfl)
    (case wk11 => first | k_is | kit_is | rfl)
