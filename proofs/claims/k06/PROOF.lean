import PyProof.Rows.All
import Wide.All
import OpenK.AllK
import Wide.FinOn
import HandS.Evl
import HandS.ForMost
import HandS.IsInst
import HandS.More
import HandS.Replace
import HandS.Steps
import HandS.StrMore
import HandS.Style
import HandS.Text
import HandS.Walk
import HandS.Wide
import KE.GoesEnum
import PySem.Challenge.RW_manysides_k06_values_of_expressions
set_option Elab.async false
set_option linter.all false
set_option maxRecDepth 100000
set_option maxHeartbeats 4000000
namespace K2
open PySem L2
def top (i : Nat) : Stmt := PySem.Challenge.pw_manysides_k06_values_of_expressions.main.body.getD i (.Pass ⟨0, 0, 0, 0⟩)
abbrev sIsText : Stmt := top 2
abbrev sIsValue : Stmt := top 6
abbrev sShInit : Stmt := inClass (top 8) 0
abbrev sShEq : Stmt := inClass (top 8) 1
abbrev sDimIx : Stmt := top 9
abbrev sAttrIx : Stmt := top 10
abbrev sIndex : Stmt := top 11
abbrev sPartsOf : Stmt := top 16
abbrev sValueOf : Stmt := top 17
abbrev sLooseValue : Stmt := top 18
abbrev sBoth : Stmt := top 19
abbrev sEither : Stmt := top 20
abbrev sChosen : Stmt := top 21
abbrev sStrictValue : Stmt := top 22
abbrev sCompared : Stmt := top 23
abbrev sReckoned : Stmt := top 24
abbrev sDraw : Stmt := top 26
abbrev sDraws : Stmt := top 27
abbrev sNext : Stmt := top 28
abbrev sWord : Stmt := top 29
abbrev sNumber : Stmt := top 30
abbrev sThing : Stmt := top 31
abbrev sShape : Stmt := top 32
abbrev sLPlace : Stmt := top 33
abbrev sLValues : Stmt := top 34
abbrev sLCells : Stmt := top 35
abbrev sLeaf : Stmt := top 36
abbrev sFlag : Stmt := top 37
abbrev sExpr : Stmt := top 38
abbrev sLPair : Stmt := top 39
abbrev sLValue : Stmt := top 40
abbrev sLaw : Stmt := top 41
end K2

namespace K2
open PySem L2
/-! heaps -/
theorem same_new {H : Hp} {p : Addr} {o : HO} (h : H p = none) : Same H (upd H p o) := fun b x e => by
  rw [upd_ne (ne_of_none e h)]
  exact e
theorem same_put {H H1 : Hp} {p : Addr} {o : HO} (s : Same H H1) (h : H p = none) : Same H (upd H1 p o) := fun b x e => by
  rw [upd_ne (ne_of_none e h)]
  exact s b x e
section
variable {P : Program} {w : World} {K : PySem.W.Frag} {mg : Str → Option Value} {base : Heap}
def spDraw : Sp := fun vs H Q _ => ∃ (c m b : Int), vs = [.int c, .int m, .int b] ∧ 0 ≤ m ∧ m ≤ 1000 ∧ 0 < b ∧ b < 1073741824 ∧
  ∀ H' p (ns : List Int), Same H H' → H p = none → ns.length = m.toNat → H' p = some (.lst (ns.map V.int)) → Q (.ref p) H'
theorem scDraw : FnScope ["cell", "many", "bound", "numbers", "k", "seed", "mixed"] ["cell", "many", "bound"] (defScope sDraw) := ⟨rfl, rfl, rfl, by decide +kernel, rfl, by decide +kernel, by decide +kernel⟩
theorem ok_draw {f : Addr} {fd : FuncData} (F : Fun K "_law_draw" "_law_draw" sDraw f fd) (mr : mg "range" = none) (mi : mg "int" = none) : FnOk P w K mg base CX0 1 f fd ["cell", "many", "bound"] spDraw := by
  refine F.ok scDraw (fun vs H Q E h => ?_) (fun cdv A outer s H vs Q E hr h => ?_)
  · obtain ⟨c, m, b, rfl, _⟩ := h
    rfl
  · obtain ⟨c, m, b, rfl, hm0, hm1, hb0, hb1, q⟩ := h
    refine ⟨_, pss_cons (ps_set (i := 3) scDraw.nd rfl (.inl rfl) (pe_lst pa_nil))
      (pss_cons (ps_if (pt_cmpR op_ge (pv 0) (pe_op op_pow pe_int pe_int) (nomark _))
        (pss_cons (ps_for PassesOwn.never rfl (pi_range1 (by rfl) mr (pa_cons (pv 1) pa_nil)) (pg_name (i := 4) scDraw.nd rfl (.inl rfl))
          (pss_cons (ps_expr (pe_bm PySem.F.plainAttrs_list PySem.F.slot_list_append PySem.F.type_list_append mt_append (pv 3) (pa_cons (pe_op op_mod (pe_callTy call_int1 (by rfl) mi (by decide +kernel) (pa_cons (pv 0) pa_nil)) (pv 2)) pa_nil)))
          (pss_one (ps_set (i := 0) scDraw.nd rfl (.inl rfl) (pe_op op_fdiv (pv 0) (pv 2))))))
        (pss_one (ps_ret (pv 3)))) pss_nil)
      (pss_cons (ps_set (i := 5) scDraw.nd rfl (.inl rfl) (pe_op op_mod (pe_callTy call_int1 (by rfl) mi (by decide +kernel) (pa_cons (pv 0) pa_nil)) pe_int))
      (pss_cons (ps_for PassesOwn.never rfl (pi_range1 (by rfl) mr (pa_cons (pv 1) pa_nil)) (pg_name (i := 4) scDraw.nd rfl (.inl rfl))
          (pss_cons (ps_set (i := 5) scDraw.nd rfl (.inl rfl) (pe_op op_mod (pe_callTy call_int1 (by rfl) mi (by decide +kernel) (pa_cons (pe_op op_add (pe_op op_add (pe_op op_mul (pv 5) pe_int) pe_int) (pv 4)) pa_nil)) pe_int))
          (pss_cons (ps_set (i := 6) scDraw.nd rfl (.inl rfl) (pe_op op_mod (pe_callTy call_int1 (by rfl) mi (by decide +kernel) (pa_cons (pe_op op_add (pe_op op_mul (pv 5) pe_int) (pe_op op_mul pe_int (pv 4))) pa_nil)) pe_int))
          (pss_one (ps_expr (pe_bm PySem.F.plainAttrs_list PySem.F.slot_list_append PySem.F.type_list_append mt_append (pv 3) (pa_cons (pe_op op_mod (pe_callTy call_int1 (by rfl) mi (by decide +kernel) (pa_cons (pe_op op_fdiv (pv 6) pe_int) pa_nil)) (pv 2)) pa_nil)))))))
      (pss_one (ps_ret (pv 3)))))), ?_⟩
    refine ⟨Nat.zero_le _, fun o no => ?_⟩
    have s1 : Same H (upd H o (.lst [])) := same_new no
    refine ⟨_, rfl, 10, 18, rfl, rfl, ⟨by decide, by decide, by decide⟩, c, _, rfl, rfl, _, rfl, ite2 (fun e => ?_) (fun e => ?_)⟩
    · -- the great cells
      refine ⟨_, rfl, m, rfl, by omega, by omega, for_range (lo := 0) (n := m.toNat) (fun i σ H3 => ∃ (c' : Int) (y4 : Option V), σ = [some (.int c'), some (.int m), some (.int b), some (.ref o), y4, none, none] ∧ Same H H3 ∧ ∃ ns : List Int, ns.length = i ∧ H3 o = some (.lst (ns.map V.int))) ?_ ?_ ?_⟩
      · exact ⟨c, none, rfl, s1, [], rfl, upd_same⟩
      · rintro i σ H3 hi ⟨c', y4, rfl, sm, ns, hn, ho⟩
        refine ⟨_, rfl, .inl ⟨rfl, _, .inl (.inl ho)⟩, _, rfl, .inl ⟨c', rfl, _, rfl, c', b, rfl, rfl, hb0, o, _, _, rfl, rfl, ho, ?_, ?_⟩⟩
        · rw [List.length_map]
          exact small1000 (by omega)
        · refine ⟨_, rfl, _, rfl, c', b, rfl, rfl, ⟨hb0, hb1⟩, c' / b, _, rfl, same_put sm no, ns ++ [c' % b], ?_, ?_⟩
          · rw [List.length_append, hn]
            rfl
          · rw [upd_same, List.map_append]
            rfl
      · rintro σ H3 ⟨c', y4, rfl, sm, ns, hn, ho⟩
        exact ⟨_, rfl, q H3 o ns sm no hn ho⟩
    · -- the others
      refine ⟨_, rfl, .inl ⟨c, rfl, c, 2147483647, rfl, rfl, (by show (0 : Int) < 2147483647; decide), ?_⟩⟩
      refine ⟨_, rfl, m, rfl, by omega, by omega, for_range (lo := 0) (n := m.toNat) (fun i σ H3 => ∃ (sd : Int) (y4 y6 : Option V), σ = [some (.int c), some (.int m), some (.int b), some (.ref o), y4, some (.int sd), y6] ∧ 0 ≤ sd ∧ sd < 2147483647 ∧ Same H H3 ∧ ∃ ns : List Int, ns.length = i ∧ H3 o = some (.lst (ns.map V.int))) ?_ ?_ ?_⟩
      · exact ⟨_, none, none, rfl, Int.emod_nonneg _ (by decide), Int.emod_lt_of_pos _ (by decide), s1, [], rfl, upd_same⟩
      · rintro i σ H3 hi ⟨sd, y4, y6, rfl, h0, h1, sm, ns, hn, ho⟩
        refine ⟨_, rfl, sd, 48271, rfl, rfl, .inl ⟨by omega, by omega⟩, _, _, rfl, rfl, _, rfl, _, _, rfl, rfl, .inl ⟨_, rfl, _, 2147483647, rfl, rfl, (by show (0 : Int) < 2147483647; decide), ?_⟩⟩
        have g0 := Int.emod_nonneg (sd * 48271 + 12345 + (0 + (i : Int))) (by decide : (2147483647 : Int) ≠ 0)
        have g1 := Int.emod_lt_of_pos (sd * 48271 + 12345 + (0 + (i : Int))) (by decide : (0 : Int) < 2147483647)
        refine ⟨_, rfl, (sd * 48271 + 12345 + (0 + (i : Int))) % 2147483647, 69621, rfl, rfl, .inl ⟨by omega, by omega⟩, _, rfl, 977, _, rfl, rfl, .inl ⟨by decide, by decide⟩, _, _, rfl, rfl, .inl ⟨_, rfl, _, 2147483629, rfl, rfl, (by show (0 : Int) < 2147483629; decide), ?_⟩⟩
        refine ⟨_, rfl, .inl ⟨rfl, _, .inl (.inl ho)⟩, _, rfl, _, 3, rfl, rfl, ⟨by decide, by decide⟩, .inl ⟨_, rfl, _, rfl, _, b, rfl, rfl, hb0, o, _, _, rfl, rfl, ho, ?_, ?_⟩⟩
        · rw [List.length_map]
          exact small1000 (by omega)
        · refine ⟨_, _, _, rfl, g0, g1, same_put sm no, ns ++ [(((sd * 48271 + 12345 + (0 + (i : Int))) % 2147483647) * 69621 + 977 * (0 + (i : Int))) % 2147483629 / 3 % b], ?_, ?_⟩
          · rw [List.length_append, hn]
            rfl
          · rw [upd_same, List.map_append]
            rfl
      · rintro σ H3 ⟨sd, y4, y6, rfl, h0, h1, sm, ns, hn, ho⟩
        exact ⟨_, rfl, q H3 o ns sm no hn ho⟩
end
end K2

namespace K2
open PySem L2
/-! the state: a dict of two keys -/
abbrev kN : Key := Sum.inr "numbers"
abbrev kA : Key := Sum.inr "at"
theorem kNA : ¬ kN = kA := by decide +kernel
theorem kAN : ¬ kA = kN := by decide +kernel
def stK (l : Addr) (z : Int) : List (Key × V) := [(kN, .ref l), (kA, .int z)]
theorem stK_N (l : Addr) (z : Int) : valV (stK l z) kN = some (.ref l) := valV_pos rfl
theorem stK_A (l : Addr) (z : Int) : valV (stK l z) kA = some (.int z) := (valV_neg kNA).trans (valV_pos rfl)
theorem stK_put (l : Addr) (z y : Int) : putK (stK l z) kA (.int y) = stK l y := by
  unfold putK stK
  rw [if_pos (by rw [List.any_cons, List.any_cons, decide_eq_true (show kA = kA from rfl), Bool.true_or, Bool.or_true])]
  rw [List.map_cons, List.map_cons, List.map_nil, if_neg kNA, if_pos rfl]
theorem stK_mk (l : Addr) : mergeK [] [(kN, V.ref l), (kA, V.int 0)] = stK l 0 := by
  show putK (putK [] kN (.ref l)) kA (.int 0) = stK l 0
  rw [putK_new (kvs := []) _ rfl]
  rw [putK_new (kvs := [] ++ [(kN, V.ref l)]) _ (valV_neg (p := (kN, V.ref l)) (r := []) kNA)]
  rfl
structure StAt (H : Hp) (d l : Addr) : Prop where
  ex : ∃ (ns : List Int) (z : Int), H d = some (.dK (stK l z)) ∧ H l = some (.lst (ns.map V.int)) ∧ 0 < ns.length ∧ ns.length ≤ 100000
/-- all but the state is as it was, and the state is one again -/
structure Kp (d l : Addr) (H H' : Hp) : Prop where
  keep : ∀ c o, H c = some o → c ≠ d → H' c = some o
  st : StAt H' d l
theorem Kp.trans {d l : Addr} {H H1 H2 : Hp} (a : Kp d l H H1) (b : Kp d l H1 H2) : Kp d l H H2 := ⟨fun c o e n => b.keep c o (a.keep c o e n) n, b.st⟩
theorem StAt.same {d l : Addr} {H H1 : Hp} (s : StAt H d l) (e : Same H H1) : StAt H1 d l := by
  obtain ⟨ns, z, h1, h2, h3⟩ := s.ex
  exact ⟨ns, z, e _ _ h1, e _ _ h2, h3⟩
theorem Kp.same {d l : Addr} {H H1 H2 : Hp} (a : Kp d l H H1) (e : Same H1 H2) : Kp d l H H2 := ⟨fun c o h n => e _ _ (a.keep c o h n), a.st.same e⟩
theorem Kp.new {d l : Addr} {H H1 : Hp} {p : Addr} {o : HO} (a : Kp d l H H1) (h : H1 p = none) : Kp d l H (upd H1 p o) := a.same (same_new h)
theorem Kp.refl {d l : Addr} {H : Hp} (s : StAt H d l) : Kp d l H H := ⟨fun _ _ h _ => h, s⟩
theorem Kp.pre {d l : Addr} {H H1 H2 : Hp} (e : Same H H1) (a : Kp d l H1 H2) : Kp d l H H2 := ⟨fun c o h n => a.keep c o (e _ _ h) n, a.st⟩
/-- what is free is neither the state nor its list -/
theorem StAt.nd {d l : Addr} {H : Hp} (s : StAt H d l) {p : Addr} (h : H p = none) : p ≠ d ∧ p ≠ l := by
  obtain ⟨ns, z, h1, h2, _⟩ := s.ex
  exact ⟨fun e => (by rw [e, h1] at h; cases h), fun e => (by rw [e, h2] at h; cases h)⟩
/-- a store to what was free at first -/
theorem Kp.put {d l : Addr} {H H1 : Hp} {p : Addr} {o : HO} (a : Kp d l H H1) (h : H p = none) (n : p ≠ d ∧ p ≠ l) : Kp d l H (upd H1 p o) := by
  refine ⟨fun c ob e ne => ?_, ?_⟩
  · rw [upd_ne (ne_of_none e h)]
    exact a.keep c ob e ne
  · obtain ⟨ns, z, h1, h2, h3⟩ := a.st.ex
    exact ⟨ns, z, by rw [upd_ne n.1.symm]; exact h1, by rw [upd_ne n.2.symm]; exact h2, h3⟩
/-- what is free is free at first -/
theorem Kp.free {d l : Addr} {H H1 : Hp} (a : Kp d l H H1) {p : Addr} (h : H1 p = none) : H p = none := by
  cases e : H p with
  | none => rfl
  | some o =>
    have := a.keep p o e (a.st.nd h).1
    rw [h] at this
    cases this
section
variable {P : Program} {w : World} {K : PySem.W.Frag} {mg : Str → Option Value} {base : Heap}
def spDraws (K : PySem.W.Frag) : Sp := fun vs H Q _ => ∃ (a : Addr) (cs : List Int), vs = [.ref a] ∧ SqL K H a (cs.map V.int) ∧ cs.length ≤ 1000 ∧ 0 < cs.length ∧
  ∀ H' p l, Same H H' → H p = none → StAt H' p l → Q (.ref p) H'
theorem scDraws : FnScope ["cells", "numbers", "cell"] ["cells"] (defScope sDraws) := ⟨rfl, rfl, rfl, by decide +kernel, rfl, by decide +kernel, by decide +kernel⟩
theorem ok_draws {f fD : Addr} {fd fdD : FuncData} (F : Fun K "_law_draws" "_law_draws" sDraws f fd) (FD : Fun K "_law_draw" "_law_draw" sDraw fD fdD) (bD : Binds K fdD ["cell", "many", "bound"] []) (gD : mg "_law_draw" = some (.ref fD))
    (mr : mg "range" = none) (mi : mg "int" = none) : FnOk P w K mg base CX0 2 f fd ["cells"] (spDraws K) := by
  have GD : FnOk P w K mg base CX0 1 fD fdD ["cell", "many", "bound"] spDraw := ok_draw FD mr mi
  refine F.ok scDraws (fun vs H Q E h => ?_) (fun cdv A outer s H vs Q E hr h => ?_)
  · obtain ⟨a, cs, rfl, _⟩ := h
    rfl
  · obtain ⟨a, cs, rfl, hS, hl, h0, q⟩ := h
    refine ⟨_, pss_cons (ps_set (i := 1) scDraws.nd rfl (.inl rfl) (pe_lst pa_nil))
      (pss_cons (ps_for PassesOwn.never rfl (pi_list (pv 0)) (pg_name (i := 2) scDraws.nd rfl (.inl rfl))
        (pss_one (ps_set (i := 1) scDraws.nd rfl (.inl rfl) (pe_op op_cat (pv 1) (pe_call GD hr (by rfl) gD FD.kp bD .nil pass0 (pa_cons (pv 2) (pa_cons pe_int (pa_cons (pe_op op_shl pe_int pe_int) pa_nil))))))))
      (pss_one (ps_ret (pe_disp (pps_cons pe_str (pv 1) (pps_cons pe_str pe_int pps_nil)) (by rfl) (by rfl) (fun z => by cases z) (by decide))))), ?_⟩
    refine ⟨Nat.zero_le _, fun o no => ?_⟩
    refine ⟨_, rfl, a, rfl, ⟨_, (same_new no).seq hS⟩, for_list (xs := cs.map V.int) (fun i σ H3 => ∃ (l : Addr) (y2 : Option V), σ = [some (.ref a), some (.ref l), y2] ∧ Same H H3 ∧ H l = none ∧ ∃ ns : List Int, ns.length = 40 * i ∧ H3 l = some (.lst (ns.map V.int))) ?_ ?_ ?_ ?_⟩
    · exact ⟨o, none, rfl, same_new no, no, [], rfl, upd_same⟩
    · rintro i σ H3 hi ⟨l, y2, rfl, sm, _⟩
      exact sm.seq hS
    · rintro i x σ H3 hx ⟨l, y2, rfl, sm, nl, ns, hn, hol⟩
      have hi : i < cs.length := by
        have := (List.getElem?_eq_some_iff.mp hx).1
        rwa [List.length_map] at this
      rw [List.getElem?_map, List.getElem?_eq_getElem hi] at hx
      have ex : x = .int cs[i] := (Option.some.inj hx).symm
      subst ex
      refine ⟨_, rfl, _, rfl, 1, 20, rfl, rfl, ⟨by decide, by decide, by decide⟩, cs[i], 40, 1048576, rfl, by decide, by decide, by decide, by decide, fun H4 p ms s4 np hm hp => ?_⟩
      refine ⟨l, p, _, _, rfl, rfl, s4 _ _ hol, hp, ?_, fun r nr => ?_⟩
      · rw [List.length_map, List.length_map, hn, hm]
        exact Nat.le_of_lt (Nat.lt_of_le_of_lt (show 40 * i + (40 : Int).toNat ≤ 100000 by omega) (by decide))
      · have nr3 : H3 r = none := s4.free nr
        refine ⟨r, _, rfl, same_put (sm.trans s4) (sm.free nr3), sm.free nr3, ns ++ ms, ?_, ?_⟩
        · rw [List.length_append, hn, hm]
          show 40 * i + 40 = 40 * (i + 1)
          omega
        · rw [upd_same, List.map_append]
    · rintro σ H3 ⟨l, y2, rfl, sm, nl, ns, hn, hol⟩
      rw [List.length_map] at hn
      intro d nd
      refine ⟨_, rfl, upd_same, [(kN, .ref l), (kA, .int 0)], rfl, (by show 2 ≤ 15; decide), ?_⟩
      have nld : l ≠ d := ne_of_none hol nd
      refine q _ d l ?_ (sm.free nd) ⟨ns, 0, ?_, ?_, by omega, by omega⟩
      · intro b ob e
        have hb : b ≠ d := ne_of_none (sm _ _ e) nd
        rw [upd_ne hb, upd_ne hb]
        exact sm _ _ e
      · rw [upd_same, stK_mk]
      · rw [upd_ne nld, upd_ne nld]
        exact hol
def spNext : Sp := fun vs H Q _ => ∃ (d l : Addr) (b : Int), vs = [.ref d, .int b] ∧ StAt H d l ∧ 0 < b ∧ ∀ H' n, 0 ≤ n → n < b → Kp d l H H' → Q (.int n) H'
theorem scNext : FnScope ["state", "bound", "number"] ["state", "bound"] (defScope sNext) := ⟨rfl, rfl, rfl, by decide +kernel, rfl, by decide +kernel, by decide +kernel⟩
theorem ok_next {f : Addr} {fd : FuncData} (F : Fun K "_law_next" "_law_next" sNext f fd) (mi : mg "int" = none) (ml : mg "len" = none) : FnOk P w K mg base CX0 1 f fd ["state", "bound"] spNext := by
  refine F.ok scNext (fun vs H Q E h => ?_) (fun cdv A outer s H vs Q E hr h => ?_)
  · obtain ⟨d, l, b, rfl, _⟩ := h
    rfl
  · obtain ⟨d, l, b, rfl, S, hb, q⟩ := h
    have hu := hu_of hr
    obtain ⟨ns, z, h1, h2, h3, h4⟩ := id S.ex
    have nld : l ≠ d := ne_of h2 h1 (by intro z; cases z)
    have gN : DGet H d (.str "numbers") (some (.ref l)) := by
      have := DGet.k (k := kN) h1
      rwa [stK_N] at this
    have gA : DGet H d (.str "at") (some (.int z)) := by
      have := DGet.k (k := kA) h1
      rwa [stK_A] at this
    refine ⟨_, pss_cons (ps_set (i := 2) scNext.nd rfl (.inl rfl) (pe_op op_add (pe_ix ix_list (pe_dget hu (pv 0) pe_str (fun _ _ => rfl))
          (pe_op op_mod (pe_callTy call_int1 (by rfl) mi (by decide +kernel) (pa_cons (pe_dget hu (pv 0) pe_str (fun _ _ => rfl)) pa_nil)) (pe_callB call_len_seq (by rfl) ml PySem.boot_len (pa_cons (pe_dget hu (pv 0) pe_str (fun _ _ => rfl)) pa_nil))) (fun _ _ => rfl))
          (pe_op op_fdiv (pe_callTy call_int1 (by rfl) mi (by decide +kernel) (pa_cons (pe_dget hu (pv 0) pe_str (fun _ _ => rfl)) pa_nil)) (pe_callB call_len_seq (by rfl) ml PySem.boot_len (pa_cons (pe_dget hu (pv 0) pe_str (fun _ _ => rfl)) pa_nil)))))
      (pss_cons (ps_dput hu (pv 0) pe_str (pe_op op_add (pe_dget hu (pv 0) pe_str (fun _ _ => rfl)) pe_int) rfl)
      (pss_one (ps_ret (pe_op op_mod (pe_callTy call_int1 (by rfl) mi (by decide +kernel) (pa_cons (pv 2) pa_nil)) (pv 1))))), ?_⟩
    have hlen : ((ns.map V.int).length : Int) = (ns.length : Int) := by rw [List.length_map]
    have m0 : 0 ≤ z % ((ns.map V.int).length : Int) := Int.emod_nonneg _ (by omega)
    have m1 : z % ((ns.map V.int).length : Int) < ((ns.map V.int).length : Int) := Int.emod_lt_of_pos _ (by omega)
    obtain ⟨j, ej⟩ : ∃ j : Nat, z % ((ns.map V.int).length : Int) = (j : Int) := ⟨_, (Int.toNat_of_nonneg m0).symm⟩
    have hj : j < ns.length := by omega
    have gj : (ns.map V.int)[j]? = some (.int ns[j]) := by
      rw [List.getElem?_map, List.getElem?_eq_getElem hj]
      rfl
    refine ⟨_, rfl, d, _, rfl, gN, _, rfl, d, _, rfl, gA, .inl ⟨z, rfl, _, rfl, d, _, rfl, gN, l, _, rfl, .inl (.inl (.inl h2)), _, _, rfl, rfl, (by show (0 : Int) < ((ns.map V.int).length : Int); omega), ?_⟩⟩
    refine ⟨l, _, _, _, rfl, rfl, .inl (.inl h2), at_of ej gj, ?_⟩
    refine ⟨_, rfl, d, _, rfl, gA, .inl ⟨z, rfl, _, rfl, d, _, rfl, gN, l, _, rfl, .inl (.inl (.inl h2)), _, _, rfl, rfl, ⟨(by show (0 : Int) < ((ns.map V.int).length : Int); omega), (by show ((ns.map V.int).length : Int) < 1073741824; omega)⟩, _, _, rfl, rfl, ?_⟩⟩
    refine ⟨_, rfl, d, _, rfl, gA, z, 1, rfl, rfl, _, rfl, d, _, rfl, DPut.k (k := kA) h1 (by show 2 < sizeLine; decide), ?_⟩
    rw [stK_put]
    refine ⟨_, rfl, .inl ⟨_, rfl, _, rfl, _, b, rfl, rfl, hb, ?_⟩⟩
    refine q _ _ (Int.emod_nonneg _ (by omega)) (Int.emod_lt_of_pos _ hb) ⟨fun c o e n => ?_, ns, z + 1, upd_same, ?_, h3, h4⟩
    · rw [upd_ne n]
      exact e
    · rw [upd_ne nld]
      exact h2
end
end K2

namespace K2
open PySem L2
/-! texts of the 95 characters -/
def okc (c : Nat) : Bool := c == 10 || (Nat.ble 32 c && Nat.ble c 126 && !(c == 37))
def Txt95 (z : Str) : Prop := ∀ c ∈ z.cps.toList, okc c = true
abbrev CHS : Str := " !\"#$\n&'()*+,-./0123456789:;<=>?@ABCDEFGHIJKLMNOPQRSTUVWXYZ[\\]^_`abcdefghijklmnopqrstuvwxyz{|}~"
abbrev LATER : Str := "&'()*+,-./0123456789:;<=>?@ABCDEFGHIJKLMNOPQRSTUVWXYZ[\\]^_`abcdefghijklmnopqrstuvwxyz{|}~"
abbrev FIVE : Str := " !\"#$"
theorem okc_lt {c : Nat} (h : okc c = true) : c < 127 := by
  unfold okc at h
  rw [Bool.or_eq_true, Bool.and_eq_true, Bool.and_eq_true, beq_iff_eq, Nat.ble_eq, Nat.ble_eq] at h
  omega
theorem ch_tab : ∀ c, c < 127 → okc c = true → CHS.cps.contains c = true := by decide +kernel
theorem ch_in {c : Nat} (h : okc c = true) : CHS.cps.contains c = true := ch_tab c (okc_lt h) h
theorem takeWhile_all {p : Nat → Bool} : ∀ {l : List Nat}, (∀ c ∈ l, p c = true) → l.takeWhile p = l
  | [], _ => rfl
  | a :: r, h => by
    rw [List.takeWhile_cons, if_pos (h a (List.mem_cons_self ..)), takeWhile_all fun c hc => h c (List.mem_cons_of_mem _ hc)]
theorem strip_ok {z : Str} (h : Txt95 z) : Txt.stripChars z CHS = ("" : Str) := by
  unfold Txt.stripChars
  rw [PyProof.Rows.stripBy_eq]
  have e : stripLo CHS.cps.contains true z = z.length := by
    simp only [stripLo, if_true]
    rw [takeWhile_all fun c hc => ch_in (h c hc)]
    simp [Str.length]
  have l := PyProof.Rows.hi_facts CHS.cps.contains z z.length (Nat.le_refl _)
  have e2 : stripHi CHS.cps.contains true z z.length = z.length := by omega
  rw [e, e2]
  unfold Builtin.Str.strSub
  have e3 : z.cps.extract z.length z.length = #[] := by
    apply Array.eq_empty_of_size_eq_zero
    rw [Array.size_extract]
    have : z.length = z.cps.size := rfl
    omega
  rw [e3]
  decide +kernel
theorem join_mem : ∀ {ys : List Str} {c : Nat}, c ∈ (Str.join ("" : Str) ys).cps.toList → ∃ y ∈ ys, c ∈ y.cps.toList
  | [], c, h => by
    have : c ∈ (Str.empty).cps.toList := h
    simp [Str.empty] at this
  | [x], c, h => ⟨x, List.mem_cons_self .., h⟩
  | x :: y :: r, c, h => by
    have h : c ∈ ((x.cps ++ ("" : Str).cps) ++ (Str.join ("" : Str) (y :: r)).cps).toList := h
    have e0 : ("" : Str).cps = #[] := by decide +kernel
    rw [e0, Array.append_empty, Array.toList_append, List.mem_append] at h
    rcases h with h | h
    · exact ⟨x, List.mem_cons_self .., h⟩
    · obtain ⟨z, hz, hc⟩ := join_mem h
      exact ⟨z, List.mem_cons_of_mem _ hz, hc⟩
theorem join_ok {ys : List Str} (h : ∀ y ∈ ys, Txt95 y) : Txt95 (Txt.join ("" : Str) ys) := fun c hc => by
  have hc : c ∈ (Builtin.Str.glued ("" : Str) ys).cps.toList := hc
  rw [StrLaws.glued_eq_join] at hc
  obtain ⟨y, hy, k⟩ := join_mem hc
  exact h y hy c k
theorem join_len (ys : List Str) : (Txt.join ("" : Str) ys).length ≤ (ys.map (·.length)).sum := by
  have h := StrLaws.join_length_le ("" : Str) ys
  rw [← StrLaws.glued_eq_join] at h
  have e0 : ("" : Str).length = 0 := by decide +kernel
  rw [e0, Nat.mul_zero] at h
  exact h
theorem reps_mem : ∀ {n : Nat} {a b : Array Nat} {c : Nat}, c ∈ ((List.replicate n a).foldl (· ++ ·) b).toList → c ∈ b.toList ∨ c ∈ a.toList
  | 0, a, b, c, h => .inl h
  | n + 1, a, b, c, h => by
    rw [List.replicate_succ, List.foldl_cons] at h
    rcases reps_mem h with h | h
    · rw [Array.toList_append, List.mem_append] at h
      exact h
    · exact .inr h
theorem reps_size : ∀ (n : Nat) (a b : Array Nat), ((List.replicate n a).foldl (· ++ ·) b).size = b.size + n * a.size
  | 0, a, b => by simp
  | n + 1, a, b => by
    rw [List.replicate_succ, List.foldl_cons, reps_size n a (b ++ a), Array.size_append, Nat.succ_mul]
    omega
theorem mul_ok {z : Str} {n : Int} (h : Txt95 z) : Txt95 (Txt.mul z n) := fun c hc => by
  unfold Txt.mul at hc
  split at hc
  · simp [Str.empty] at hc
  · split at hc
    · exact h c hc
    · rcases reps_mem hc with k | k
      · simp at k
      · exact h c k
theorem mul_len {z : Str} {n : Int} : (Txt.mul z n).length ≤ n.toNat * z.length := by
  unfold Txt.mul
  split
  · show (0 : Nat) ≤ _
    omega
  · split
    · have : 1 ≤ n.toNat := by omega
      calc z.length = 1 * z.length := (Nat.one_mul _).symm
        _ ≤ n.toNat * z.length := Nat.mul_le_mul_right _ this
    · show ((List.replicate n.toNat z.cps).foldl (· ++ ·) #[]).size ≤ _
      rw [reps_size]
      show 0 + n.toNat * z.cps.size ≤ n.toNat * z.cps.size
      omega
theorem mul_may {z : Str} {n : Int} (h0 : 0 ≤ n) (h1 : n ≤ 1000) (hz : z.length ≤ 1000) : MulOk z n := by
  refine ⟨?_, fun h2 h3 => ?_, fun h2 h3 => ?_⟩
  · rw [decide_eq_false (by omega), decide_eq_false (by omega)]
    rfl
  · have hn : (0 : Int) < n := by omega
    have h4 : (z.length : Int) * n ≤ 1000 * 1000 := Int.mul_le_mul (by omega) h1 h0 (by decide)
    have h5 : (z.length : Int) ≤ (2 ^ 63 - 1) / n := (Int.le_ediv_iff_mul_le hn).mpr (by omega)
    omega
  · unfold Builtin.Str.tooLong
    have : z.length * n.toNat ≤ 1000 * 1000 := Nat.mul_le_mul hz (by omega)
    have e : sizeLine = 16777216 := by decide
    rw [e]
    apply decide_eq_false
    omega
theorem cat_ok {x y : Str} (hx : Txt95 x) (hy : Txt95 y) : Txt95 (x ++ y) := fun c hc => by
  have hc : c ∈ (x.cps ++ y.cps).toList := hc
  rw [Array.toList_append, List.mem_append] at hc
  rcases hc with h | h
  · exact hx c h
  · exact hy c h
/-! the order of lists of codes -/
theorem lex_at : ∀ {a b : List Nat} {k x y : Nat}, a.take k = b.take k → a[k]? = some x → b[k]? = some y → x ≠ y → (a < b ↔ x < y)
  | [], _, _, _, _, _, h, _, _ => by simp at h
  | _ :: _, [], _, _, _, _, _, h, _ => by simp at h
  | p :: a, q :: b, 0, x, y, _, h1, h2, ne => by
    have e1 : p = x := by simpa using h1
    have e2 : q = y := by simpa using h2
    subst e1 e2
    rw [List.cons_lt_cons_iff]
    constructor
    · rintro (h | ⟨h, _⟩)
      · exact h
      · exact absurd h ne
    · exact .inl
  | p :: a, q :: b, k + 1, x, y, e, h1, h2, ne => by
    rw [List.take_succ_cons, List.take_succ_cons] at e
    injection e with e1 e2
    subst e1
    have ih := lex_at e2 (by simpa using h1) (by simpa using h2) ne
    rw [List.cons_lt_cons_iff, ih]
    constructor
    · rintro (h | ⟨_, h⟩)
      · exact absurd h (Nat.lt_irrefl _)
      · exact h
    · exact fun h => .inr ⟨rfl, h⟩
theorem lex_end : ∀ {a b : List Nat}, a.take (min a.length b.length) = b.take (min a.length b.length) → (a < b ↔ a.length < b.length)
  | [], [], _ => by simp
  | [], q :: b, _ => by simp
  | p :: a, [], _ => by simp
  | p :: a, q :: b, e => by
    rw [List.length_cons, List.length_cons, Nat.succ_min_succ, List.take_succ_cons, List.take_succ_cons] at e
    injection e with e1 e2
    subst e1
    have ih := lex_end e2
    rw [List.cons_lt_cons_iff, ih, List.length_cons, List.length_cons]
    constructor
    · rintro (h | ⟨_, h⟩)
      · exact absurd h (Nat.lt_irrefl _)
      · omega
    · exact fun h => .inr ⟨rfl, by omega⟩
/-! the places of signs -/
theorem five_tab : ∀ c, c < 127 → Nat.ble 32 c = true → Nat.ble c 36 = true → Builtin.Str.occurrences FIVE ⟨#[c]⟩ 0 FIVE.length 1 = [c - 32] := by decide +kernel
theorem later_tab : ∀ c, c < 127 → Nat.ble 38 c = true → Builtin.Str.occurrences LATER ⟨#[c]⟩ 0 LATER.length 1 = [c - 38] := by decide +kernel
theorem five_mem : ∀ c, c < 127 → okc c = true → ¬ c = 10 → (c ∈ FIVE.cps.toList ↔ c < 37) := by decide +kernel
section
variable {X : Cx}
theorem op_mul_str : OpR X (binaryOp .Mult) (fun x y H Q => ∃ z n, x = .str z ∧ y = .int n ∧ MulOk z n ∧ Q (.str (Txt.mul z n)) H) := by
  intro pins s σ H x y v u Q I rx ry h
  obtain ⟨i, j, rfl, rfl, hz, q⟩ := h
  obtain ⟨t, rfl⟩ := rx
  obtain ⟨t', rfl⟩ := ry
  exact SB.mul hz (fun t' tk => ⟨.str (Txt.mul i j), H, I.tok _, ⟨_, rfl⟩, q⟩)
theorem op_lt_bl : OpR X (compareOp .Lt) (fun x y H Q => ∃ i j, x = .bl i ∧ y = .bl j ∧ Q (.bl (decide (PyProof.Rows.b2i i < PyProof.Rows.b2i j))) H) := by
  intro pins s σ H x y v u Q I rx ry h
  obtain ⟨i, j, rfl, rfl, q⟩ := h
  cases (show v = Value.bool i from rx)
  cases (show u = Value.bool j from ry)
  exact PyProof.Rows.lt_bool ⟨.bl _, H, I, rfl, q⟩
end
end K2

namespace K2
open PySem L2
theorem iteB {b : Bool} {A B : Prop} (e : b = true) (h : A) : if b = true then A else B := by
  rw [if_pos e]
  exact h
theorem iteBF {b : Bool} {A B : Prop} (e : b = false) (h : B) : if b = true then A else B := by
  subst e
  exact iteF h
/-! the three kinds -/
inductive Kd where | i | f | t
def kdS : Kd → Str
  | .i => "int" | .f => "flag" | .t => "text"
theorem kd_int : ∀ k : Kd, decide (V.str (kdS k) = V.str "int") = (match k with | .i => true | _ => false)
  | .i => by decide +kernel
  | .f => by decide +kernel
  | .t => by decide +kernel
theorem kd_flag : ∀ k : Kd, decide (V.str (kdS k) = V.str "flag") = (match k with | .f => true | _ => false)
  | .i => by decide +kernel
  | .f => by decide +kernel
  | .t => by decide +kernel
theorem kd_text : ∀ k : Kd, decide (V.str (kdS k) = V.str "text") = (match k with | .t => true | _ => false)
  | .i => by decide +kernel
  | .f => by decide +kernel
  | .t => by decide +kernel
/-! things -/
inductive Thg (K : PySem.W.Frag) (H : Hp) : V → String → Prop where
  | non : Thg K H .non "NoneType"
  | bl (b : Bool) : Thg K H (.bl b) "bool"
  | int (n : Int) : Thg K H (.int n) "int"
  | str (z : Str) (h : Txt95 z) (hl : z.length ≤ 100000) : Thg K H (.str z) "str"
  | lst {a : Addr} {xs : List V} (e : H a = some (.lst xs)) : Thg K H (.ref a) "list"
  | tup {a : Addr} {xs : List V} (e : H a = some (.tup xs)) : Thg K H (.ref a) "tuple"
theorem Thg.ty {K : PySem.W.Frag} {H : Hp} {v : V} {T : String} (h : Thg K H v T) : TyX K H v (.type T) := by
  cases h with
  | non => exact .base .non
  | bl b => exact .base (.bl b)
  | int n => exact .base (.int n)
  | str z _ _ => exact .base (.str z)
  | lst e => exact .base (.lst e)
  | tup e => exact .base (.tup e)
theorem Thg.same {K : PySem.W.Frag} {H H' : Hp} {v : V} {T : String} (h : Thg K H v T) (s : Same H H') : Thg K H' v T := by
  cases h with
  | non => exact .non
  | bl b => exact .bl b
  | int n => exact .int n
  | str z a b => exact .str z a b
  | lst e => exact .lst (s _ _ e)
  | tup e => exact .tup (s _ _ e)
def isI : V → Bool
  | .int _ => true | .bl _ => true | _ => false
def isB : V → Bool
  | .bl _ => true | _ => false
def isS : V → Bool
  | .str _ => true | _ => false
theorem Thg.kI {K : PySem.W.Frag} {H : Hp} {v : V} {T : String} (h : Thg K H v T) : PySem.W.kitOne K (.type T) (.type "int") = some (isI v) := by
  cases h <;> first | exact kit_ty (r := true) (by decide +kernel) | exact kit_ty (r := false) (by decide +kernel)
theorem Thg.kB {K : PySem.W.Frag} {H : Hp} {v : V} {T : String} (h : Thg K H v T) : PySem.W.kitOne K (.type T) (.type "bool") = some (isB v) := by
  cases h <;> first | exact kit_ty (r := true) (by decide +kernel) | exact kit_ty (r := false) (by decide +kernel)
theorem Thg.kS {K : PySem.W.Frag} {H : Hp} {v : V} {T : String} (h : Thg K H v T) : PySem.W.kitOne K (.type T) (.type "str") = some (isS v) := by
  cases h <;> first | exact kit_ty (r := true) (by decide +kernel) | exact kit_ty (r := false) (by decide +kernel)
def isVal : Kd → V → Bool
  | .i, .int n => decide (-(10 ^ 30 : Int) < n) && decide (n < 10 ^ 30)
  | .f, .bl _ => true
  | .t, .str z => decide ((z.length : Int) ≤ 200)
  | _, _ => false
theorem len_line {z : Str} (h : z.length ≤ 100000) : z.length ≤ sizeLine := Nat.le_trans h (by decide)
/-- the names of the top that are still the built-in ones -/
structure Nm (mg : Str → Option Value) : Prop where
  range : mg "range" = none
  int : mg "int" = none
  len : mg "len" = none
  isinstance : mg "isinstance" = none
  bool : mg "bool" = none
  str : mg "str" = none
  min : mg "min" = none
  max : mg "max" = none
  sum : mg "sum" = none
  abs : mg "abs" = none
  enumerate : mg "enumerate" = none
  tuple : mg "tuple" = none
  list : mg "list" = none
  sorted : mg "sorted" = none
  zip : mg "zip" = none
  reversed : mg "reversed" = none
  dict : mg "dict" = none
  ve : mg "ValueError" = none
/-- the constants of texts and kinds -/
structure Ct (mg : Str → Option Value) : Prop where
  ch : ∃ u, mg "CHARACTERS" = some u ∧ RelV (.str CHS) u
  ib : ∃ u, mg "INT_BOUND" = some u ∧ RelV (.int (10 ^ 30)) u
  tb : ∃ u, mg "TEXT_BOUND" = some u ∧ RelV (.int 200) u
def OfK : Kd → V → Prop
  | .i, v => ∃ n, v = .int n
  | .f, v => ∃ b, v = .bl b
  | .t, v => ∃ z, v = .str z ∧ Txt95 z ∧ z.length ≤ 2000
def less : Kd → V → V → Bool
  | .i, .int a, .int b => decide (a < b)
  | .f, .bl a, .bl b => decide (PyProof.Rows.b2i a < PyProof.Rows.b2i b)
  | .t, .str a, .str b => decide (a.cps.toList < b.cps.toList)
  | _, _, _ => false
def OkV (k : Kd) (v : V) : Prop := v = .non ∨ (OfK k v ∧ isVal k v = true)
theorem b2i_eq (p : Bool) : (if p then (1 : Int) else 0) = PyProof.Rows.b2i p := by cases p <;> rfl
theorem OfK.thg {K : PySem.W.Frag} {H : Hp} {k : Kd} {v : V} (h : OfK k v) : ∃ T, Thg K H v T := by
  cases k with
  | i => obtain ⟨n, rfl⟩ := h; exact ⟨_, .int n⟩
  | f => obtain ⟨b, rfl⟩ := h; exact ⟨_, .bl b⟩
  | t => obtain ⟨z, rfl, h1, h2⟩ := h; exact ⟨_, .str z h1 (by omega)⟩
theorem sg_eq {a b : Nat} : decide (V.str ⟨#[a]⟩ = V.str ⟨#[b]⟩) = decide (a = b) := by
  by_cases e : a = b
  · subst e
    rw [decide_eq_true rfl, decide_eq_true rfl]
  · rw [decide_eq_false e, decide_eq_false fun h => ?_]
    injection h with h
    injection h with h
    have := congrArg (fun x : Array Nat => x[0]?) h
    simp at this
    exact e this
theorem nl_eq : ("\n" : Str) = ⟨#[10]⟩ := by decide +kernel
end K2

namespace K2
open PySem L2
section
variable {P : Program} {w : World} {K : PySem.W.Frag} {mg : Str → Option Value} {base : Heap}
/-! ### is_text -/
def spIsText : Sp := fun vs H Q _ => ∃ z : Str, vs = [.str z] ∧ Txt95 z ∧ z.length ≤ 100000 ∧ Q (.bl true) H
theorem scIsText : FnScope ["text"] ["text"] (defScope sIsText) := ⟨rfl, rfl, rfl, by decide +kernel, rfl, by decide +kernel, by decide +kernel⟩
theorem ok_isText {f : Addr} {fd : FuncData} (F : Fun K "is_text" "is_text" sIsText f fd) (N : Nm mg) (N2 : Ct mg) : FnOk P w K mg base CX0 1 f fd ["text"] spIsText := by
  refine F.ok scIsText (fun vs H Q E h => ?_) (fun cdv A outer s H vs Q E hr h => ?_)
  · obtain ⟨z, rfl, _⟩ := h
    rfl
  · obtain ⟨z, rfl, hz, hl, q⟩ := h
    obtain ⟨u, mu, ru⟩ := N2.ch
    refine ⟨_, pss_one (ps_ret (pe_cmpR op_eq (pe_m1 PySem.F.slot_str_strip PySem.F.type_str_strip mt_stripChars (pv 0) (pe_glob (by rfl) mu ru)) pe_str (nomark _))), ?_⟩
    refine ⟨_, rfl, ⟨z, rfl⟩, z, CHS, rfl, rfl, len_line hl, rfl, ?_⟩
    rw [strip_ok hz, decide_eq_true rfl]
    exact q
/-! ### is_value, and the law's own -/
def spVal (K : PySem.W.Frag) : Sp := fun vs H Q _ => ∃ (k : Kd) (v : V) (T : String), vs = [.str (kdS k), v] ∧ Thg K H v T ∧ Q (.bl (isVal k v)) H
theorem scIsValue : FnScope ["kind", "value"] ["kind", "value"] (defScope sIsValue) := ⟨rfl, rfl, rfl, by decide +kernel, rfl, by decide +kernel, by decide +kernel⟩
theorem ok_isValue {f fT : Addr} {fd fdT : FuncData} (F : Fun K "is_value" "is_value" sIsValue f fd) (N : Nm mg) (N2 : Ct mg) (FT : Fun K "is_text" "is_text" sIsText fT fdT) (bT : Binds K fdT ["text"] []) (gT : mg "is_text" = some (.ref fT)) :
    FnOk P w K mg base CX0 2 f fd ["kind", "value"] (spVal K) := by
  have GT : FnOk P w K mg base CX0 1 fT fdT ["text"] spIsText := ok_isText FT N N2
  refine F.ok scIsValue (fun vs H Q E h => ?_) (fun cdv A outer s H vs Q E hr h => ?_)
  · obtain ⟨k, v, T, rfl, _⟩ := h
    rfl
  · obtain ⟨k, v, T, rfl, hv, q⟩ := h
    obtain ⟨ui, mui, rui⟩ := N2.ib
    obtain ⟨ut, mtb, rtb⟩ := N2.tb
    refine ⟨_, pss_cons (ps_if (pt_cmpR op_eq (pv 0) pe_str (nomark _)) (pss_one (ps_ret
        (pe_and (pe_callB call_isi (by rfl) N.isinstance (by decide +kernel) (pa_cons (pv 1) (pa_cons (pe_bltn (v := .ty "int") (by rfl) N.int (by decide +kernel) rfl) pa_nil)))
          (pe_and (pe_not (pe_callB call_isi (by rfl) N.isinstance (by decide +kernel) (pa_cons (pv 1) (pa_cons (pe_bltn (v := .ty "bool") (by rfl) N.bool (by decide +kernel) rfl) pa_nil))))
            (pe_one (pe_chain op_lt op_lt (pe_un un_neg (pe_glob (by rfl) mui rui)) (pv 1) (pe_glob (by rfl) mui rui))))))) pss_nil)
      (pss_cons (ps_if (pt_cmpR op_eq (pv 0) pe_str (nomark _)) (pss_one (ps_ret
        (pe_callB call_isi (by rfl) N.isinstance (by decide +kernel) (pa_cons (pv 1) (pa_cons (pe_bltn (v := .ty "bool") (by rfl) N.bool (by decide +kernel) rfl) pa_nil))))) pss_nil)
      (pss_one (ps_ret (pe_and (pe_cmpR op_eq (pv 0) pe_str (nomark _))
        (pe_and (pe_callB call_isi (by rfl) N.isinstance (by decide +kernel) (pa_cons (pv 1) (pa_cons (pe_bltn (v := .ty "str") (by rfl) N.str (by decide +kernel) rfl) pa_nil)))
          (pe_and (pe_cmpR op_le (pe_callB call_len_str (by rfl) N.len PySem.boot_len (pa_cons (pv 1) pa_nil)) (pe_glob (by rfl) mtb rtb) (nomark _))
            (pe_one (pe_call GT hr (by rfl) gT FT.kp bT .nil pass0 (pa_cons (pv 1) pa_nil))))))))), ?_⟩
    cases k with
    | i =>
      refine ⟨_, rfl, rfl, _, rfl, iteB (kd_int .i) ?_⟩
      refine ⟨_, rfl, v, .ty "int", .type T, .type "int", isI v, rfl, .ty _, hv.ty, hv.kI, _, rfl, ?_⟩
      cases hv with
      | int n =>
        refine iteT ⟨_, rfl, _, .ty "bool", .type "int", .type "bool", false, rfl, .ty _, .base (.int n), kit_ty (by decide +kernel), _, rfl, _, rfl, iteT ?_⟩
        refine ⟨_, rfl, _, rfl, _, n, rfl, rfl, _, rfl, ?_⟩
        by_cases e : -(10 ^ 30 : Int) < n
        · refine iteB (decide_eq_true e) ⟨n, _, rfl, rfl, ?_⟩
          have : isVal .i (.int n) = decide (n < 10 ^ 30) := by
            show (decide (-(10 ^ 30 : Int) < n) && decide (n < 10 ^ 30)) = _
            rw [decide_eq_true e, Bool.true_and]
          rwa [this] at q
        · refine iteBF (decide_eq_false e) ?_
          have : isVal .i (.int n) = false := by
            show (decide (-(10 ^ 30 : Int) < n) && decide (n < 10 ^ 30)) = _
            rw [decide_eq_false e, Bool.false_and]
          rwa [this] at q
      | bl b => exact iteT ⟨_, rfl, _, .ty "bool", .type "bool", .type "bool", true, rfl, .ty _, .base (.bl b), kit_ty (by decide +kernel), _, rfl, _, rfl, iteF q⟩
      | non => exact iteF q
      | str z h hl => exact iteF q
      | lst e => exact iteF q
      | tup e => exact iteF q
    | f =>
      refine ⟨_, rfl, rfl, _, rfl, iteBF (kd_int .f) ?_⟩
      refine ⟨_, rfl, rfl, _, rfl, iteB (kd_flag .f) ?_⟩
      refine ⟨_, rfl, v, .ty "bool", .type T, .type "bool", isB v, rfl, .ty _, hv.ty, hv.kB, ?_⟩
      cases hv <;> exact q
    | t =>
      refine ⟨_, rfl, rfl, _, rfl, iteBF (kd_int .t) ?_⟩
      refine ⟨_, rfl, rfl, _, rfl, iteBF (kd_flag .t) ?_⟩
      refine ⟨_, rfl, rfl, _, rfl, iteB (kd_text .t) ?_⟩
      refine ⟨_, rfl, v, .ty "str", .type T, .type "str", isS v, rfl, .ty _, hv.ty, hv.kS, _, rfl, ?_⟩
      cases hv with
      | str z h hl =>
        refine iteT ⟨_, rfl, z, rfl, len_line hl, _, _, rfl, rfl, _, rfl, ?_⟩
        by_cases e : (z.length : Int) ≤ 200
        · refine iteB (decide_eq_true e) ⟨_, rfl, z, rfl, h, hl, ?_⟩
          have : isVal .t (.str z) = true := decide_eq_true e
          rwa [this] at q
        · refine iteBF (decide_eq_false e) ?_
          have : isVal .t (.str z) = false := decide_eq_false e
          rwa [this] at q
      | int n => exact iteF q
      | bl b => exact iteF q
      | non => exact iteF q
      | lst e => exact iteF q
      | tup e => exact iteF q
end
end K2

namespace K2
open PySem L2
/-! ### drawn things -/
theorem int_at {ms : List Int} {xs : List V} {n : Int} (e : xs = ms.map V.int) (h0 : 0 ≤ n) (h1 : n < ms.length) : ∃ m, atI xs n = some (.int m) := by
  obtain ⟨j, rfl⟩ : ∃ j : Nat, n = (j : Int) := ⟨_, (Int.toNat_of_nonneg h0).symm⟩
  have hj : j < ms.length := by omega
  refine ⟨ms[j], atI_nat ?_⟩
  rw [e, List.getElem?_map, List.getElem?_eq_getElem hj]
  rfl
abbrev SGS : Str := "abXY z09{~.\n"
theorem sgs_ok : ∀ j, j < 12 → okc ((SGS.cps.toList[j]?).getD 0) = true ∧ (SGS.cps.toList[j]?).isSome = true := by decide +kernel
theorem sgs_at {n : Int} (h0 : 0 ≤ n) (h1 : n < 12) : ∃ c, atI SGS.cps.toList n = some c ∧ okc c = true := by
  obtain ⟨j, rfl⟩ : ∃ j : Nat, n = (j : Int) := ⟨_, (Int.toNat_of_nonneg h0).symm⟩
  obtain ⟨h2, h3⟩ := sgs_ok j (by omega)
  obtain ⟨c, hc⟩ := Option.isSome_iff_exists.mp h3
  refine ⟨c, atI_nat hc, ?_⟩
  rw [hc] at h2
  exact h2
theorem one_ok {c : Nat} (h : okc c = true) : Txt95 ⟨#[c]⟩ := fun d hd => by
  have : d = c := by simpa using hd
  rw [this]
  exact h
section
variable {P : Program} {w : World} {K : PySem.W.Frag} {mg : Str → Option Value} {base : Heap}
def spWord : Sp := fun vs H Q _ => ∃ d l : Addr, vs = [.ref d] ∧ StAt H d l ∧ ∀ H' z, Txt95 z → z.length ≤ 10 → Kp d l H H' → Q (.str z) H'
theorem scWord : FnScope ["state", "k"] ["state"] (defScope sWord) := ⟨rfl, rfl, rfl, by decide +kernel, rfl, by decide +kernel, by decide +kernel⟩
theorem sum_ones : ∀ {zs : List Str}, (∀ z ∈ zs, Txt95 z ∧ z.length = 1) → (zs.map (·.length)).sum = zs.length
  | [], _ => rfl
  | z :: r, h => by
    rw [List.map_cons, List.sum_cons, sum_ones fun y hy => h y (List.mem_cons_of_mem _ hy), (h z (List.mem_cons_self ..)).2, List.length_cons]
    omega
theorem ok_word {f fX : Addr} {fd fdX : FuncData} (F : Fun K "_law_word" "_law_word" sWord f fd) (N : Nm mg) (FX : Fun K "_law_next" "_law_next" sNext fX fdX) (bX : Binds K fdX ["state", "bound"] []) (gX : mg "_law_next" = some (.ref fX)) :
    FnOk P w K mg base CX0 2 f fd ["state"] spWord := by
  have GX : FnOk P w K mg base CX0 1 fX fdX ["state", "bound"] spNext := ok_next FX N.int N.len
  refine F.ok scWord (fun vs H Q E h => ?_) (fun cdv A outer s H vs Q E hr h => ?_)
  · obtain ⟨d, l, rfl, _⟩ := h
    rfl
  · obtain ⟨d, l, rfl, S, q⟩ := h
    refine ⟨_, pss_one (ps_ret (pe_join pe_str (pe_lc (own := [("k", 1)]) (g := gName 1) (tt := tYes) rfl scWord.nd
        (pi_range1 (by rfl) N.range (pa_cons (pe_call GX hr (by rfl) gX FX.kp bX .nil pass0 (pa_cons (pv 0) (pa_cons pe_int pa_nil))) pa_nil))
        (blkOk_by (N := ["state", "k"]) (sc := defScope sWord) (by decide +kernel))
        (fun _ _ _ _ _ => pg_name (i := 1) scWord.nd rfl (Or.inl rfl)) (fun _ _ _ _ _ => pts_nil)
        (fun _ _ _ _ _ => pe_ix ix_str pe_str (pe_call GX hr (by rfl) gX FX.kp bX .nil pass0 (pa_cons (pv 0) (pa_cons pe_int pa_nil))) (fun _ _ => rfl))))), ?_⟩
    refine ⟨⟨_, rfl⟩, _, rfl, d, l, 4, rfl, S, by decide, fun H1 n n0 n4 k1 => ?_⟩
    refine ⟨n, rfl, by omega, by omega, fun D nD => ?_⟩
    have nDd := k1.st.nd nD
    have nD0 := k1.free nD
    refine lc_range (lo := 0) (n := n.toNat) (fun i H3 => Kp d l H H3 ∧ ∃ zs : List Str, zs.length = i ∧ (∀ z ∈ zs, Txt95 z ∧ z.length = 1) ∧ H3 D = some (.lst (zs.map V.str))) ?_ ?_ ?_
    · exact ⟨k1.new nD, [], rfl, fun z hz => (List.not_mem_nil hz).elim, upd_same⟩
    · rintro i H3 hi ⟨k3, zs, hl, hz, hD⟩
      refine ⟨rfl, ?_⟩
      dsimp only [tYes]
      rw [if_pos rfl]
      refine ⟨_, rfl, d, l, 12, rfl, k3.st, by decide, fun H4 m m0 m1 k4 => ?_⟩
      obtain ⟨c, ac, oc⟩ := sgs_at m0 m1
      have hD4 := k4.keep _ _ hD nDd.1
      refine ⟨SGS, m, c, rfl, rfl, (by decide +kernel), ac, zs.map V.str, hD4, ?_, ?_⟩
      · rw [List.length_map]
        exact small1000 (by omega)
      · refine ⟨(k3.trans k4).put nD0 nDd, zs ++ [⟨#[c]⟩], ?_, ?_, ?_⟩
        · rw [List.length_append, hl]
          rfl
        · intro z hz'
          rcases List.mem_append.mp hz' with h | h
          · exact hz z h
          · rw [List.mem_singleton.mp h]
            exact ⟨one_ok oc, rfl⟩
        · rw [upd_same, List.map_append]
          rfl
    · rintro H3 ⟨k3, zs, hl, hz, hD⟩
      have hs := sum_ones hz
      refine ⟨("" : Str), D, zs, rfl, rfl, .inl (.inl (.inl hD)), ?_, ?_⟩
      · rw [hs]
        have e0 : ("" : Str).length = 0 := by decide +kernel
        rw [e0]
        omega
      · refine q H3 _ (join_ok fun y hy => (hz y hy).1) ?_ k3
        have := join_len zs
        omega
def NumOk (n : Int) : Prop := -(10 ^ 30) < n ∧ n < 10 ^ 30
theorem num_tab : ∀ m ∈ ([10 ^ (30 : Int).toNat - 1, 1 - 10 ^ (30 : Int).toNat, 10 ^ (15 : Int).toNat, 0 - 10 ^ (15 : Int).toNat, 10 ^ (29 : Int).toNat] : List Int), NumOk m := by unfold NumOk; decide +kernel
theorem num_mul {x y : Int} (x0 : 0 ≤ x) (x1 : x < 1048576) (y0 : 0 ≤ y) (y1 : y < 1048576) : NumOk (x * y - 1 * 2 ^ (39 : Int).toNat) := by
  have h1 : x * y ≤ 1048576 * 1048576 := Int.mul_le_mul (by omega) (by omega) y0 (by decide)
  have h2 : 0 ≤ x * y := Int.mul_nonneg x0 y0
  have e : (1 : Int) * 2 ^ (39 : Int).toNat = 549755813888 := by decide
  rw [e]
  exact ⟨by omega, by omega⟩
theorem int_in {ms : List Int} {xs : List V} {n : Int} (e : xs = ms.map V.int) (h0 : 0 ≤ n) (h1 : n < ms.length) : ∃ m ∈ ms, atI xs n = some (.int m) := by
  obtain ⟨j, rfl⟩ : ∃ j : Nat, n = (j : Int) := ⟨_, (Int.toNat_of_nonneg h0).symm⟩
  have hj : j < ms.length := by omega
  refine ⟨ms[j], List.getElem_mem hj, atI_nat ?_⟩
  rw [e, List.getElem?_map, List.getElem?_eq_getElem hj]
  rfl
def spNumber : Sp := fun vs H Q _ => ∃ d l : Addr, vs = [.ref d] ∧ StAt H d l ∧ ∀ H' n, NumOk n → Kp d l H H' → Q (.int n) H'
theorem scNumber : FnScope ["state", "choice"] ["state"] (defScope sNumber) := ⟨rfl, rfl, rfl, by decide +kernel, rfl, by decide +kernel, by decide +kernel⟩
theorem ok_number {f fX : Addr} {fd fdX : FuncData} (F : Fun K "_law_number" "_law_number" sNumber f fd) (N : Nm mg) (FX : Fun K "_law_next" "_law_next" sNext fX fdX) (bX : Binds K fdX ["state", "bound"] []) (gX : mg "_law_next" = some (.ref fX)) :
    FnOk P w K mg base CX0 2 f fd ["state"] spNumber := by
  have GX : FnOk P w K mg base CX0 1 fX fdX ["state", "bound"] spNext := ok_next FX N.int N.len
  refine F.ok scNumber (fun vs H Q E h => ?_) (fun cdv A outer s H vs Q E hr h => ?_)
  · obtain ⟨d, l, rfl, _⟩ := h
    rfl
  · obtain ⟨d, l, rfl, S, q⟩ := h
    refine ⟨_, pss_cons (ps_set (i := 1) scNumber.nd rfl (.inl rfl) (pe_call GX hr (by rfl) gX FX.kp bX .nil pass0 (pa_cons (pv 0) (pa_cons pe_int pa_nil))))
      (pss_cons (ps_if (pt_cmpR op_eq (pv 1) pe_int (nomark _)) (pss_one (ps_ret (pe_ix ix_list
          (pe_lst (pa_cons (pe_op op_sub (pe_op op_pow pe_int pe_int) pe_int) (pa_cons (pe_op op_sub pe_int (pe_op op_pow pe_int pe_int)) (pa_cons (pe_op op_pow pe_int pe_int) (pa_cons (pe_op op_sub pe_int (pe_op op_pow pe_int pe_int)) (pa_cons (pe_op op_pow pe_int pe_int) pa_nil))))))
          (pe_call GX hr (by rfl) gX FX.kp bX .nil pass0 (pa_cons (pv 0) (pa_cons pe_int pa_nil))) (fun _ _ => rfl)))) pss_nil)
      (pss_cons (ps_if (pt_cmpR op_eq (pv 1) pe_int (nomark _)) (pss_one (ps_ret (pe_op op_sub (pe_op op_mul
          (pe_call GX hr (by rfl) gX FX.kp bX .nil pass0 (pa_cons (pv 0) (pa_cons (pe_op op_shl pe_int pe_int) pa_nil)))
          (pe_call GX hr (by rfl) gX FX.kp bX .nil pass0 (pa_cons (pv 0) (pa_cons (pe_op op_shl pe_int pe_int) pa_nil)))) (pe_op op_shl pe_int pe_int)))) pss_nil)
      (pss_one (ps_ret (pe_op op_sub (pe_call GX hr (by rfl) gX FX.kp bX .nil pass0 (pa_cons (pv 0) (pa_cons pe_int pa_nil))) pe_int))))), ?_⟩
    refine ⟨_, rfl, d, l, 9, rfl, S, by decide, fun H1 n n0 n1 k1 => ?_⟩
    refine ⟨_, rfl, rfl, _, rfl, ite2 (fun _ => ?_) (fun _ => ?_)⟩
    · refine ⟨10, 30, rfl, rfl, ⟨by decide, by decide, by decide⟩, _, 1, rfl, rfl, 10, 30, rfl, rfl, ⟨by decide, by decide, by decide⟩, 1, _, rfl, rfl, 10, 15, rfl, rfl, ⟨by decide, by decide, by decide⟩,
        10, 15, rfl, rfl, ⟨by decide, by decide, by decide⟩, 0, _, rfl, rfl, 10, 29, rfl, rfl, ⟨by decide, by decide, by decide⟩, (by show 5 ≤ sizeLine; decide), fun p np => ?_⟩
      have k2 := k1.new (o := .lst [.int (10 ^ (30 : Int).toNat - 1), .int (1 - 10 ^ (30 : Int).toNat), .int (10 ^ (15 : Int).toNat), .int (0 - 10 ^ (15 : Int).toNat), .int (10 ^ (29 : Int).toNat)]) np
      refine ⟨_, rfl, d, l, 5, rfl, k2.st, by decide, fun H3 m m0 m1 k3 => ?_⟩
      obtain ⟨r, hrm, hr⟩ := int_in (ms := [10 ^ (30 : Int).toNat - 1, 1 - 10 ^ (30 : Int).toNat, 10 ^ (15 : Int).toNat, 0 - 10 ^ (15 : Int).toNat, 10 ^ (29 : Int).toNat]) rfl m0 m1
      exact ⟨p, _, m, _, rfl, rfl, .inl (.inl (k3.keep _ _ upd_same (k1.st.nd np).1)), hr, q H3 r (num_tab r hrm) (k2.trans k3)⟩
    · refine ⟨_, rfl, rfl, _, rfl, ite2 (fun _ => ?_) (fun _ => ?_)⟩
      · refine ⟨_, rfl, 1, 20, rfl, rfl, ⟨by decide, by decide, by decide⟩, d, l, 1048576, rfl, k1.st, by decide, fun H2 x x0 x1 k2 => ?_⟩
        refine ⟨_, rfl, 1, 20, rfl, rfl, ⟨by decide, by decide, by decide⟩, d, l, 1048576, rfl, k2.st, by decide, fun H3 y y0 y1 k3 => ?_⟩
        exact ⟨x, y, rfl, rfl, .inl ⟨by omega, by omega⟩, 1, 39, rfl, rfl, ⟨by decide, by decide, by decide⟩, _, _, rfl, rfl, q H3 _ (num_mul x0 x1 y0 y1) ((k1.trans k2).trans k3)⟩
      · exact ⟨_, rfl, d, l, 13, rfl, k1.st, by decide, fun H2 x x0 x1 k2 => ⟨x, 6, rfl, rfl, q H2 _ ⟨by omega, by omega⟩ (k1.trans k2)⟩⟩
def spThing : Sp := fun vs H Q _ => ∃ (d l : Addr) (k : Kd), vs = [.ref d, .str (kdS k)] ∧ StAt H d l ∧ ∀ H' v, OfK k v → isVal k v = true → Kp d l H H' → Q v H'
theorem scThing : FnScope ["state", "kind"] ["state", "kind"] (defScope sThing) := ⟨rfl, rfl, rfl, by decide +kernel, rfl, by decide +kernel, by decide +kernel⟩
abbrev tilde : Str := "~"
theorem reps_ok : ∀ j, j < 3 → ∃ z, ([("~" : Str), "ab", " "] : List Str)[j]? = some z ∧ Txt95 z ∧ z.length ≤ 2
  | 0, _ => ⟨_, rfl, by unfold Txt95; decide +kernel, by decide +kernel⟩
  | 1, _ => ⟨_, rfl, by unfold Txt95; decide +kernel, by decide +kernel⟩
  | 2, _ => ⟨_, rfl, by unfold Txt95; decide +kernel, by decide +kernel⟩
  | j + 3, h => absurd h (by omega)
theorem str_at {zs : List Str} {xs : List V} {n : Int} (e : xs = zs.map V.str) (h0 : 0 ≤ n) (h1 : n < zs.length) : ∃ j : Nat, n = (j : Int) ∧ j < zs.length ∧ ∀ z, zs[j]? = some z → atI xs n = some (.str z) := by
  obtain ⟨j, rfl⟩ : ∃ j : Nat, n = (j : Int) := ⟨_, (Int.toNat_of_nonneg h0).symm⟩
  refine ⟨j, rfl, by omega, fun z hz => atI_nat ?_⟩
  rw [e, List.getElem?_map, hz]
  rfl
theorem ok_thing {f fX fW fU : Addr} {fd fdX fdW fdU : FuncData} (F : Fun K "_law_thing" "_law_thing" sThing f fd) (N : Nm mg) (FX : Fun K "_law_next" "_law_next" sNext fX fdX) (bX : Binds K fdX ["state", "bound"] []) (gX : mg "_law_next" = some (.ref fX))
    (FW : Fun K "_law_word" "_law_word" sWord fW fdW) (bW : Binds K fdW ["state"] []) (gW : mg "_law_word" = some (.ref fW)) (FU : Fun K "_law_number" "_law_number" sNumber fU fdU) (bU : Binds K fdU ["state"] []) (gU : mg "_law_number" = some (.ref fU)) :
    FnOk P w K mg base CX0 3 f fd ["state", "kind"] spThing := by
  have GX : FnOk P w K mg base CX0 1 fX fdX ["state", "bound"] spNext := ok_next FX N.int N.len
  have GW : FnOk P w K mg base CX0 2 fW fdW ["state"] spWord := ok_word FW N FX bX gX
  have GU : FnOk P w K mg base CX0 2 fU fdU ["state"] spNumber := ok_number FU N FX bX gX
  refine F.ok scThing (fun vs H Q E h => ?_) (fun cdv A outer s H vs Q E hr h => ?_)
  · obtain ⟨d, l, k, rfl, _⟩ := h
    rfl
  · obtain ⟨d, l, k, rfl, S, q⟩ := h
    have hr1 := hr.mono (j := 1) (by decide)
    refine ⟨_, pss_cons (ps_if (pt_cmpR op_eq (pv 1) pe_str (nomark _)) (pss_one (ps_ret (pe_call GU hr (by rfl) gU FU.kp bU .nil pass0 (pa_cons (pv 0) pa_nil)))) pss_nil)
      (pss_cons (ps_if (pt_cmpR op_eq (pv 1) pe_str (nomark _)) (pss_one (ps_ret (pe_cmpR op_eq (pe_call GX hr1 (by rfl) gX FX.kp bX .nil pass0 (pa_cons (pv 0) (pa_cons pe_int pa_nil))) pe_int (nomark _)))) pss_nil)
      (pss_cons (ps_if (pt_cmpR op_eq (pe_call GX hr1 (by rfl) gX FX.kp bX .nil pass0 (pa_cons (pv 0) (pa_cons pe_int pa_nil))) pe_int (nomark _))
        (pss_one (ps_ret (pe_op op_mul_str (pe_ix ix_list (pe_lst (pa_cons pe_str (pa_cons pe_str (pa_cons pe_str pa_nil)))) (pe_call GX hr1 (by rfl) gX FX.kp bX .nil pass0 (pa_cons (pv 0) (pa_cons pe_int pa_nil))) (fun _ _ => rfl))
          (pe_ix ix_list (pe_lst (pa_cons pe_int (pa_cons pe_int (pa_cons pe_int pa_nil)))) (pe_call GX hr1 (by rfl) gX FX.kp bX .nil pass0 (pa_cons (pv 0) (pa_cons pe_int pa_nil))) (fun _ _ => rfl))))) pss_nil)
      (pss_one (ps_ret (pe_call GW hr (by rfl) gW FW.kp bW .nil pass0 (pa_cons (pv 0) pa_nil)))))), ?_⟩
    refine ⟨_, rfl, rfl, _, rfl, ?_⟩
    cases k with
    | i => exact iteB (kd_int .i) ⟨_, rfl, d, l, rfl, S, fun H1 n hn k1 => q H1 _ ⟨n, rfl⟩ (by show (decide _ && decide _) = true; rw [Bool.and_eq_true, decide_eq_true_eq, decide_eq_true_eq]; exact hn) k1⟩
    | f =>
      refine iteBF (kd_int .f) ⟨_, rfl, rfl, _, rfl, iteB (kd_flag .f) ?_⟩
      exact ⟨_, rfl, d, l, 2, rfl, S, by decide, fun H1 n n0 n1 k1 => ⟨rfl, q H1 _ ⟨_, rfl⟩ rfl k1⟩⟩
    | t =>
      refine iteBF (kd_int .t) ⟨_, rfl, rfl, _, rfl, iteBF (kd_flag .t) ?_⟩
      refine ⟨_, rfl, d, l, 12, rfl, S, by decide, fun H1 n n0 n1 k1 => ⟨rfl, _, rfl, ite2 (fun _ => ?_) (fun _ => ?_)⟩⟩
      · refine ⟨(by show 3 ≤ sizeLine; decide), fun p np => ?_⟩
        have k2 := k1.new (o := .lst [.str "~", .str "ab", .str " "]) np
        refine ⟨_, rfl, d, l, 3, rfl, k2.st, by decide, fun H3 m m0 m1 k3 => ?_⟩
        obtain ⟨j, rfl, hj, hat⟩ := str_at (zs := [("~" : Str), "ab", " "]) rfl m0 m1
        obtain ⟨z, hz, oz, lz⟩ := reps_ok j hj
        refine ⟨p, _, _, _, rfl, rfl, .inl (.inl (k3.keep _ _ upd_same (k1.st.nd np).1)), hat z hz, ?_⟩
        refine ⟨(by show 3 ≤ sizeLine; decide), fun p2 np2 => ?_⟩
        have k4 := (k2.trans k3).new (o := .lst [.int 100, .int 99, .int 60]) np2
        refine ⟨_, rfl, d, l, 3, rfl, k4.st, by decide, fun H5 m m0 m1 k5 => ?_⟩
        obtain ⟨j2, rfl⟩ : ∃ j : Nat, m = (j : Int) := ⟨_, (Int.toNat_of_nonneg m0).symm⟩
        obtain ⟨r, hr, r0, r1⟩ : ∃ r : Int, ([.int 100, .int 99, .int 60] : List V)[j2]? = some (.int r) ∧ 0 ≤ r ∧ r ≤ 100 := by
          match j2, m1 with
          | 0, _ => exact ⟨_, rfl, by decide, by decide⟩
          | 1, _ => exact ⟨_, rfl, by decide, by decide⟩
          | 2, _ => exact ⟨_, rfl, by decide, by decide⟩
          | j + 3, h => exact absurd h (by omega)
        refine ⟨p2, _, _, _, rfl, rfl, .inl (.inl (k5.keep _ _ upd_same ((k2.trans k3).st.nd np2).1)), atI_nat hr, ?_⟩
        have h1 := mul_len (z := z) (n := r)
        have h2 : r.toNat * z.length ≤ 100 * 2 := Nat.mul_le_mul (by omega) lz
        refine ⟨z, r, rfl, rfl, mul_may r0 (by omega) (by omega), q H5 _ ⟨_, rfl, mul_ok oz, by omega⟩ (by show decide _ = true; exact decide_eq_true (by omega)) (k4.trans k5)⟩
      · exact ⟨_, rfl, d, l, rfl, k1.st, fun H2 z oz lz k2 => q H2 _ ⟨z, rfl, oz, by omega⟩ (by show decide _ = true; exact decide_eq_true (by omega)) (k1.trans k2)⟩
end
end K2

/-! enumerate over a tuple -/
namespace K2
open PySem PySem.Spec PyProof.Rows L2
section
variable {prog : Program} {w : World} {A : Around} {E : Value → Shared → Prop} {s : Shared}
theorem enew1 {v : Value} {o : Obj} {Hh : Heap → Prop} (B : Begins v o Hh) : Meets (Builtin.«enumerate.__new__» ⟨[.type "enumerate", v], []⟩) (fun _ R s0 => Hh s0.heap ∧
    R (.ok (.ret (.ref (s0.heap.push o).objs.size))) { s0 with heap := (s0.heap.push o).push ⟨.type "enumerate", none, .fields #[.none, .bool false, .ref s0.heap.objs.size, rawInt 0, .none, .none], #[]⟩ }) := .of_wp fun pr w0 A0 R s0 z => by
  obtain ⟨z1, z2⟩ := z
  obtain ⟨hp, g, dd, tk, os⟩ := s0
  have sb := sub_enumerate
  have it1 : ∀ {A' : Around} {E' : Value → Shared → Prop} {Q' : Value → Shared → Prop}, Q' (.ref hp.objs.size) ⟨hp.push o, g, dd, tk, os⟩ → wpAny (model pr w0) A' (pyIter v) Q' E' ⟨hp, g, dd, tk, os⟩ := fun z3 => B.iter pr w0 _ _ ⟨hp, g, dd, tk, os⟩ _ z1 z3
  wp_walk using it1
  refine wpAny_stack_any fun _ => ?_
  refine wpAny_pure ?_
  split
  · rename_i c _ _ _ _ _
    cases (c == Value.type "enumerate") <;> (wp_walk using it1; exact ⟨_, rfl, z2⟩)
  · wp_walk using it1
    exact ⟨_, rfl, z2⟩
theorem ecall1 {v : Value} {o : Obj} {Hh : Heap → Prop} {Q : Value → Shared → Prop} (B : Begins v o Hh) (z1 : Hh s.heap)
    (z : ∀ h2, IsEnum h2 (s.heap.objs.size + 1) s.heap.objs.size 0 .none → h2.get? s.heap.objs.size = some o → (∀ b u, s.heap.get? b = some u → h2.get? b = some u) → Q (.ref (s.heap.objs.size + 1)) { s with heap := h2 }) :
    wpAny (model prog w) A (call (.type "enumerate") [v]) Q E s := by
  have sz : (s.heap.push o).objs.size = s.heap.objs.size + 1 := Heap.size_push ..
  refine callType_new F.called_enumerate (by decide) (F.typeCall_enumerate_1 _) (F.newCall_enumerate_1 _) (fun ob => F.args_object_init_2 ob _) F.entry_enumerate_new (enew1 B) ⟨z1, ?_⟩
  show _ ∧ _
  rw [sz]
  have en : IsEnum ((s.heap.push o).push ⟨.type "enumerate", none, .fields #[.none, .bool false, .ref s.heap.objs.size, rawInt 0, .none, .none], #[]⟩) (s.heap.objs.size + 1) s.heap.objs.size 0 .none := by
    have y := Heap.get?_push_size (s.heap.push o) (o := ⟨.type "enumerate", none, .fields #[.none, .bool false, .ref s.heap.objs.size, rawInt 0, .none, .none], #[]⟩) rfl
    rw [sz] at y
    exact y
  exact ⟨⟨_, en, rfl⟩, z _ en (Heap.get?_push_of_some _ (Heap.get?_push_size _ B.free)) fun b u y => Heap.get?_push_of_some _ (Heap.get?_push_of_some _ y)⟩
end
/-- the tuple at a, each item in a new pair with its number -/
def IteT (K : PySem.W.Frag) (a : Addr) (xs : List V) : It :=
  ⟨fun i H => SqT K H a xs ∧ i < xs.length, fun i H v H' => ∃ T x, v = .ref T ∧ H T = none ∧ H' = upd H T (.tup [.int (i : Nat), x]) ∧ xs[i]? = some x, fun i H => SqT K H a xs ∧ xs.length = i⟩
theorem tu_enumT {P : Program} {w : World} {K : PySem.W.Frag} {elts : List Expr} {kk : Nat} {tpos : Pos} (a e it : Addr) (xs : List V) :
    Turn P w K (.Tuple elts kk tpos) (IteT K a xs) [e, it] e (fun i h => (∃ old, IsEnum h e it ((i : Nat) : Int) old) ∧ h.IsTupleIter it a i ∧ e ≠ it) := by
  have apart : ∀ {h : Heap} {i : Nat} {old : Value} {its : Array Value}, IsEnum h e it (i : Int) old → h.IsTupleIter it a i → h.IsTuple a its → e ≠ a ∧ a ≠ it := by
    rintro h i old its q1 ⟨o, q2, q3, _⟩ ⟨o', q4, q5, _⟩
    refine ⟨fun z => ?_, fun z => ?_⟩
    · rw [← z, q1] at q4
      have y := Option.some.inj q4
      rw [← y] at q5
      exact absurd (Value.type.inj q5) (by decide)
    · rw [z, q2] at q4
      have y := Option.some.inj q4
      rw [← y, q3] at q5
      exact absurd (Value.type.inj q5) (by decide)
  refine ⟨by simp, ?_, ?_, ?_, ?_, ?_⟩
  · rintro i h ⟨⟨old, q1⟩, ⟨o, q2, q3, q4⟩, _⟩ b hb
    rcases List.mem_cons.mp hb with rfl | hb
    · exact ⟨_, q1, fun v z => nomatch z⟩
    · rw [List.mem_singleton.mp hb]
      exact ⟨o, q2, fun v z => by rw [q4] at z; cases z⟩
  · rintro i h h' ⟨⟨old, q1⟩, q2, q3⟩ k
    exact ⟨⟨old, k e (by simp) _ q1⟩, q2.at fun o q => k it (by simp) o q, q3⟩
  · intro X hP hw hK hc i pins s σ H E I hf st hg
    subst hP hw hK
    obtain ⟨⟨old, q1⟩, q2, ne⟩ := st
    obtain ⟨hq, hi⟩ := hg
    obtain ⟨its, rv, p, _⟩ := I.tuple hq
    have pt : s.heap.IsTuple a its.toArray := p
    obtain ⟨na, nt⟩ := apart q1 q2 pt
    have hi2 : i < its.toArray.size := by rw [List.size_toArray, ← rv.length]; exact hi
    obtain ⟨u, hu, ru⟩ := rv.get (List.getElem?_eq_getElem hi)
    have l1 : e < s.heap.objs.size := Heap.lt_size q1
    have l2 : it < s.heap.objs.size := by obtain ⟨_, q, _⟩ := q2; exact Heap.lt_size q
    refine wpAny_pyNext_enum_itemD (Draws.tuple (prog := X.prog) (w := X.w) (A := X.A.in1) (I.ok.hd hc) it a nt its.toArray) q1 ⟨q2, pt⟩ hi2 ne (by simp [ne, na]) fun x h2 tk hPx ho hst hT hsz hk => ?_
    have ex : x = u := by
      have y : its.toArray[i]? = some x := hPx
      rw [List.getElem?_toArray, hu] at y
      exact (Option.some.inj y).symm
    subst ex
    refine ⟨_, rfl, wpAny_letOwnedTupleGo_enum (s := { s with heap := h2, toks := tk + 1 }) ho fun h3 he3 sb => ?_⟩
    have hT3 : h3.get? s.heap.objs.size = some { cls := .type "tuple", data := .seq #[.int i tk, x] } := (sb.2 _ (Nat.ne_of_gt l1)).trans hT
    have sm3 : ∀ b ob, b ∉ [e, it] → s.heap.get? b = some ob → h3.get? b = some ob := fun b ob hb q => by
      have n1 : b ≠ e := fun z => hb (by simp [z])
      have n2 : b ≠ it := fun z => hb (by simp [z])
      exact (sb.2 b n1).trans (hk b ob n1 n2 q)
    have nw : ObjOk X.prog X.w (upd H s.heap.objs.size (.tup [.int (i : Nat), xs[i]])) h3 s.heap.objs.size (.tup [.int (i : Nat), xs[i]]) :=
      ⟨by show 2 ≤ sizeLine; decide, [.int i tk, x], .cons ⟨_, rfl⟩ (.cons ru .nil), _, hT3, rfl, _, rfl⟩
    have I3 := I.turnedNew (t' := tk + 1) (ch := [e, it]) sm3 hf (Nat.le_refl _) nw
    refine ⟨.ref s.heap.objs.size, _, I3, rfl, ⟨_, xs[i], rfl, I.hok.fresh (Nat.le_refl _), rfl, List.getElem?_eq_getElem hi⟩, ⟨⟨x, ?_⟩, hst.1.at fun o q => (sb.2 it ne.symm).trans q, ne⟩, fun b hb => ?_⟩
    · have y : ((i + 1 : Nat) : Int) = (i : Int) + 1 := by omega
      rw [y]
      exact he3
    · have lb : b < s.heap.objs.size := by
        rcases List.mem_cons.mp hb with rfl | hb
        · exact l1
        · rw [List.mem_singleton.mp hb]
          exact l2
      rw [upd_ne (Nat.ne_of_lt lb)]
      exact (hf b hb).1
  · intro X hP hw hK hc i pins s σ H E I hf st hg
    subst hP hw hK
    obtain ⟨⟨old, q1⟩, q2, ne⟩ := st
    obtain ⟨hq, hi⟩ := hg
    obtain ⟨its, rv, p, _⟩ := I.tuple hq
    have pt : s.heap.IsTuple a its.toArray := p
    obtain ⟨na, nt⟩ := apart q1 q2 pt
    obtain ⟨f0, f1, f2, f3, f4, f5⟩ := hf it (by simp)
    have hi2 : i = its.toArray.size := by rw [List.size_toArray, ← rv.length]; exact hi.symm
    subst hi2
    exact wpAny_pyNext_enum_endD (Draws.tuple (prog := X.prog) (w := X.w) (A := X.A.in1) (I.ok.hd hc) it a nt its.toArray) q1 ⟨q2, pt⟩ fun h2 eb => ⟨rfl, I.turned (t' := s.toks) (fun b o hb q => eb b o hb q) f0 f1 f3 f4 f5⟩
  · exact fun A i s Q E st h => let ⟨⟨_, q⟩, _⟩ := st; wpAny_pyIter_enum q h
def iEnumT (K : PySem.W.Frag) (ta : TA) : TI := fun σ H R => ta σ H fun vs H1 => ∃ a xs, vs = [.ref a] ∧ SqT K H1 a xs ∧ R (IteT K a xs) H1
theorem pi_enumT {X : Cx} {e : Expr} {ta : TA} {p pos tpos : Pos} {elts : List Expr} {kk : Nat} (hg : Gl X "enumerate") (hm : X.mg "enumerate" = none) (ha : PA X [e] ta) (hs : starEach [e] X.env = [(false, eval e X.env)] := by rfl) :
    PI X (.Tuple elts kk tpos) (.Call (.Name "enumerate" p) [e] [] pos) (iEnumT X.K ta) := by
  refine ⟨fun pins s σ H R I h => Call_ (ld_blt I hg hm boot_enumerate (PyProof.Rows.callWith_type1 (thn (ha.run pos pins s σ H _ I h) fun us s1 ⟨vs, H1, I1, r1, a, xs, ex, hq, q⟩ => ?_) hs rfl))⟩
  subst ex
  obtain ⟨its, rv, p', _⟩ := I1.tuple hq
  cases r1 with
  | cons r rr =>
    cases rr
    cases r
    refine ecall1 (begins_tuple a its.toArray) p' fun h2 he ht hk => wpAny_pyIter_enum he ?_
    refine ⟨s1.heap.objs.size + 1, [s1.heap.objs.size + 1, s1.heap.objs.size], _, _, H1, rfl, I1.kept (t' := s1.toks) hk, tu_enumT a (s1.heap.objs.size + 1) s1.heap.objs.size xs, ⟨⟨.none, he⟩, ⟨_, ht, rfl, rfl⟩, Nat.succ_ne_self _⟩, fun b hb => ?_, q⟩
    have lb : s1.heap.objs.size ≤ b := by
      rcases List.mem_cons.mp hb with rfl | hb
      · exact Nat.le_succ _
      · rw [List.mem_singleton.mp hb]
        exact Nat.le_refl _
    exact I1.fpOk lb (I1.hok.fresh lb)
theorem walk_enumT {K : PySem.W.Frag} {a : Addr} {xs : List V} : Walk (IteT K a xs) xs.length (fun H => SqT K H a xs) (YPair (fun i => some (.int (i : Nat))) (fun i => xs[i]?)) :=
  ⟨fun i _ hi q => ⟨q, hi⟩, fun _ q => ⟨q, rfl⟩, fun i H v H' _ q ⟨T, x, h1, h2, h3, h4⟩ => ⟨T, .int (i : Nat), x, h1, h2, h3, rfl, h4⟩⟩
end K2

namespace K2
open PySem L2
structure D where
  n : Str
  l : Int
  h : Int
  s : Int
structure T where
  n : Str
  k : Str
def D.v (d : D) : List V := [.str d.n, .int d.l, .int d.h, .int d.s]
def T.v (t : T) : List V := [.str t.n, .str t.k]
def D.p (d : D) : PyData := .tuple [.str d.n, .int d.l, .int d.h, .int d.s]
def T.p (t : T) : PyData := .tuple [.str t.n, .str t.k]
def Rows (H : Hp) (xs : List V) (rs : List (List V)) : Prop := xs.length = rs.length ∧ ∀ (i : Nat) (r : List V), rs[i]? = some r → ∃ a, xs[i]? = some (V.ref a) ∧ H a = some (.tup r)
theorem Rows.same {H H1 : Hp} {xs : List V} {rs : List (List V)} (h : Rows H xs rs) (e : Same H H1) : Rows H1 xs rs := ⟨h.1, fun i r hr => let ⟨a, h1, h2⟩ := h.2 i r hr; ⟨a, h1, e _ _ h2⟩⟩
theorem Rows.keep {H H1 : Hp} {xs : List V} {rs : List (List V)} (h : Rows H xs rs) (e : ∀ a r, H a = some (.tup r) → H1 a = some (.tup r)) : Rows H1 xs rs := ⟨h.1, fun i r hr => let ⟨a, h1, h2⟩ := h.2 i r hr; ⟨a, h1, e _ _ h2⟩⟩
theorem Rows.nil {H : Hp} : Rows H [] [] := ⟨rfl, fun i r h => by simp at h⟩
theorem Rows.push {H : Hp} {xs : List V} {rs : List (List V)} {a : Addr} {r : List V} (h : Rows H xs rs) (e : H a = some (.tup r)) : Rows H (xs ++ [V.ref a]) (rs ++ [r]) := by
  refine ⟨by rw [List.length_append, List.length_append, h.1]; rfl, fun i q hq => ?_⟩
  rcases Nat.lt_trichotomy i rs.length with hi | hi | hi
  · rw [List.getElem?_append_left hi] at hq
    obtain ⟨b, h1, h2⟩ := h.2 i q hq
    exact ⟨b, by rw [List.getElem?_append_left (by rw [h.1]; exact hi)]; exact h1, h2⟩
  · subst hi
    rw [List.getElem?_append_right (Nat.le_refl _), Nat.sub_self] at hq
    have : r = q := Option.some.inj hq
    subst this
    exact ⟨a, by rw [List.getElem?_append_right (Nat.le_of_eq h.1), h.1, Nat.sub_self]; rfl, e⟩
  · rw [List.getElem?_eq_none (by rw [List.length_append, List.length_singleton]; omega)] at hq
    cases hq
theorem Rows.cons {H : Hp} {xs : List V} {rs : List (List V)} {a : Addr} {r : List V} (h : Rows H xs rs) (e : H a = some (.tup r)) : Rows H (V.ref a :: xs) (r :: rs) := by
  refine ⟨by rw [List.length_cons, List.length_cons, h.1], fun i q hq => ?_⟩
  cases i with
  | zero =>
    have : r = q := Option.some.inj hq
    subst this
    exact ⟨a, rfl, e⟩
  | succ i =>
    obtain ⟨b, h1, h2⟩ := h.2 i q hq
    exact ⟨b, h1, h2⟩
theorem Rows.set {H : Hp} {xs : List V} {rs : List (List V)} {a : Addr} {r : List V} (h : Rows H xs rs) (j : Nat) (e : H a = some (.tup r)) : Rows H (xs.set j (V.ref a)) (rs.set j r) := by
  refine ⟨by rw [List.length_set, List.length_set, h.1], fun i q hq => ?_⟩
  rw [List.getElem?_set] at hq
  by_cases hij : j = i
  · subst hij
    rw [if_pos rfl] at hq
    by_cases hj : j < rs.length
    · rw [if_pos hj] at hq
      have : r = q := Option.some.inj hq
      subst this
      exact ⟨a, by rw [List.getElem?_set, if_pos rfl, if_pos (by rw [h.1]; exact hj)], e⟩
    · rw [if_neg hj] at hq
      cases hq
  · rw [if_neg hij] at hq
    obtain ⟨b, h1, h2⟩ := h.2 i q hq
    exact ⟨b, by rw [List.getElem?_set, if_neg hij]; exact h1, h2⟩
def optV : Option Nat → V
  | none => .non
  | some i => .int (i : Int)
/-- the first row of a name -/
def IsIdx (ns : List Str) (n : Str) : Option Nat → Prop
  | none => n ∉ ns
  | some i => ns[i]? = some n ∧ ∀ j < i, ns[j]? ≠ some n
theorem idx_one {ns : List Str} {n : Str} : ∀ {r q : Option Nat}, IsIdx ns n r → IsIdx ns n q → r = q
  | none, none, _, _ => rfl
  | none, some j, h, g => absurd (List.mem_of_getElem? g.1) h
  | some j, none, g, h => absurd (List.mem_of_getElem? g.1) h
  | some i, some j, h, g => by
    rcases Nat.lt_trichotomy i j with e | e | e
    · exact absurd h.1 (g.2 i e)
    · rw [e]
    · exact absurd g.1 (h.2 j e)
structure ShC (K : PySem.W.Frag) (C fI fE : Addr) : Prop where
  mm : Mk K C fI
  cl : Cls K C
  nD : NoAttr K C "dims"
  nA : NoAttr K C "attrs"
  eq : PySem.W.findIn K (.ref C) "__eq__" = some (some (.ref fE))
  ef : PySem.W.isFn K (.ref fE) = true
  n1 : PySem.W.notFirst K C (.ref C) = true
  n2 : PySem.W.notFirst K C (.type "tuple") = true
  ha : PySem.W.findIn K (.ref C) "__class__" = some (some (.builtin "object.__class__"))
  hn : PySem.W.specialIn K (.builtin "object.__class__") "__get__" = some (some (.builtin "getset_descriptor.__get__"))
  htk : PySem.W.takesIn K (.builtin "object.__class__") = some true
  hm : PySem.W.mroIn K C (.type "object") = some true
  k1 : PySem.W.kitOne K (.ref C) (.ref C) = some true
  k2 : PySem.W.kitOne K (.type "tuple") (.ref C) = some false
def ShapeAt (H : Hp) (C a : Addr) (ds : List D) (ts : List T) : Prop := ∃ (dx td ta : Addr) (xs ys : List V), H a = some (.ins C dx [("dims", .ref td), ("attrs", .ref ta)]) ∧ H td = some (.tup xs) ∧ Rows H xs (ds.map D.v) ∧ H ta = some (.tup ys) ∧ Rows H ys (ts.map T.v)
theorem ShapeAt.same {H H1 : Hp} {C a : Addr} {ds : List D} {ts : List T} (h : ShapeAt H C a ds ts) (e : Same H H1) : ShapeAt H1 C a ds ts := by
  obtain ⟨dx, td, ta, xs, ys, h1, h2, h3, h4, h5⟩ := h
  exact ⟨dx, td, ta, xs, ys, e _ _ h1, e _ _ h2, h3.same e, e _ _ h4, h5.same e⟩
section
variable {P : Program} {w : World} {K : PySem.W.Frag} {mg : Str → Option Value} {base : Heap}
/-! ### a shape -/
def spShInit (K : PySem.W.Frag) (C fI fE : Addr) : Sp := fun vs H Q _ => ∃ (x dx : Addr) (u v : V), vs = [.ref x, u, v] ∧ H x = some (.ins C dx []) ∧ Q .non (upd (upd H x (.ins C dx [("dims", u)])) x (.ins C dx [("dims", u), ("attrs", v)]))
theorem scShInit : FnScope ["self", "dims", "attrs"] ["self", "dims", "attrs"] (defScope sShInit) := ⟨rfl, rfl, rfl, by decide +kernel, rfl, by decide +kernel, by decide +kernel⟩
theorem ok_shInit {f C fE : Addr} {fd : FuncData} (F : Fun K "__init__" "Shape.__init__" sShInit f fd) (S : ShC K C f fE) : FnOk P w K mg base CX0 1 f fd ["self", "dims", "attrs"] (spShInit K C f fE) := by
  refine F.ok scShInit (fun vs H Q E h => ?_) (fun cdv A outer s H vs Q E hr h => ?_)
  · obtain ⟨x, dx, u, v, rfl, _⟩ := h
    rfl
  · obtain ⟨x, dx, u, v, rfl, hx, q⟩ := h
    refine ⟨_, pss_cons (ps_fld (pv 0) (pv 1) rfl) (pss_one (ps_fld (pv 0) (pv 2) rfl)), ?_⟩
    refine ⟨_, rfl, _, rfl, x, C, dx, [], rfl, hx, S.cl, S.nD, (by decide), ?_⟩
    exact ⟨_, rfl, _, rfl, x, C, dx, [("dims", u)], rfl, upd_same, S.cl, S.nA, (by show 1 < 1000; decide), q⟩
end
section
variable {P : Program} {w : World} {K : PySem.W.Frag} {mg : Str → Option Value} {base : Heap}
def Heads (rs : List (List V)) (ns : List Str) : Prop := rs.length = ns.length ∧ ∀ (i : Nat) (r : List V), rs[i]? = some r → ∃ m t, ns[i]? = some m ∧ r = .str m :: t
theorem headsD (ds : List D) : Heads (ds.map D.v) (ds.map (·.n)) := by
  refine ⟨by rw [List.length_map, List.length_map], fun i r h => ?_⟩
  rw [List.getElem?_map] at h ⊢
  cases e : ds[i]? with
  | none =>
    rw [e] at h
    cases h
  | some d =>
    rw [e] at h
    have : d.v = r := Option.some.inj h
    subst this
    exact ⟨d.n, _, rfl, rfl⟩
theorem headsT (ds : List T) : Heads (ds.map T.v) (ds.map (·.n)) := by
  refine ⟨by rw [List.length_map, List.length_map], fun i r h => ?_⟩
  rw [List.getElem?_map] at h ⊢
  cases e : ds[i]? with
  | none =>
    rw [e] at h
    cases h
  | some d =>
    rw [e] at h
    have : d.v = r := Option.some.inj h
    subst this
    exact ⟨d.n, _, rfl, rfl⟩
def spIndex : Sp := fun vs H Q _ => ∃ (a : Addr) (n : Str) (xs : List V) (rs : List (List V)) (ns : List Str), vs = [.ref a, .str n] ∧ H a = some (.tup xs) ∧ Rows H xs rs ∧ Heads rs ns ∧ ∀ r, IsIdx ns n r → ∀ H', Same H H' → Q (optV r) H'
theorem scIndex : FnScope ["rows", "name", "index", "row"] ["rows", "name"] (defScope sIndex) := ⟨rfl, rfl, rfl, by decide +kernel, rfl, by decide +kernel, by decide +kernel⟩
theorem str_eq (a b : Str) : decide (V.str a = V.str b) = decide (a = b) := by
  by_cases e : a = b
  · subst e
    rw [decide_eq_true rfl, decide_eq_true rfl]
  · rw [decide_eq_false e, decide_eq_false fun h => e (V.str.inj h)]
theorem row_at {H : Hp} {xs : List V} {rs : List (List V)} {ns : List Str} {i : Nat} (hR : Rows H xs rs) (hN : Heads rs ns) (hi : i < xs.length) : ∃ b m t, xs[i]? = some (V.ref b) ∧ H b = some (.tup (.str m :: t)) ∧ ns[i]? = some m := by
  have h1 : i < rs.length := by rw [← hR.1]; exact hi
  obtain ⟨b, e1, e2⟩ := hR.2 i _ (List.getElem?_eq_getElem h1)
  obtain ⟨m, t, e3, e4⟩ := hN.2 i _ (List.getElem?_eq_getElem h1)
  rw [e4] at e2
  exact ⟨b, m, t, e1, e2, e3⟩
theorem ok_index {f : Addr} {fd : FuncData} (F : Fun K "index_of" "index_of" sIndex f fd) (N : Nm mg) : FnOk P w K mg base CX0 1 f fd ["rows", "name"] spIndex := by
  refine F.ok scIndex (fun vs H Q E h => ?_) (fun cdv A outer s H vs Q E hr h => ?_)
  · obtain ⟨a, n, xs, rs, ns, rfl, _⟩ := h
    rfl
  · obtain ⟨a, n, xs, rs, ns, rfl, ha, hR, hN, q⟩ := h
    refine ⟨_, pss_cons (ps_for PassesOwn.never rfl (pi_enumT (by rfl) N.enumerate (pa_cons (pv 0) pa_nil)) (pg_tup (by rfl) (pgs_cons (pg_name (i := 2) scIndex.nd rfl (.inl rfl)) (pgs_cons (pg_name (i := 3) scIndex.nd rfl (.inl rfl)) pgs_nil)))
        (pss_one (ps_if (pt_cmpR op_eq (pe_ix ix_tup (pv 3) pe_int (fun _ _ => rfl)) (pv 1) (nomark _)) (pss_one (ps_ret (pv 2))) pss_nil)))
      (pss_one (ps_ret pe_non)), ?_⟩
    refine ⟨_, rfl, a, xs, rfl, SqT.of ha, ?_⟩
    refine for_it (walk_enumT (xs := xs)) (fun i σ H3 => ∃ y2 y3, σ = [some (.ref a), some (.str n), y2, y3] ∧ Same H H3 ∧ ∀ j < i, ns[j]? ≠ some n) ⟨_, _, rfl, Same.refl _, fun j h => absurd h (Nat.not_lt_zero _)⟩ (fun i σ H3 hi => ?_) ?_ ?_
    · rintro ⟨y2, y3, rfl, sm, _⟩
      exact SqT.of (sm _ _ ha)
    · rintro i x σ H3 H' hi ⟨y2, y3, rfl, sm, hno⟩ hY
      obtain ⟨b, m, t, e1, e2, e3⟩ := row_at hR hN hi
      obtain ⟨Tp, x1, x2, rfl, nT, rfl, f1, f2⟩ := hY
      obtain rfl : x1 = .int (i : Int) := (Option.some.inj f1).symm
      obtain rfl : x2 = .ref b := Option.some.inj (f2.symm.trans e1)
      have sm' := sm.trans (same_new (o := .tup [V.int (i : Int), V.ref b]) nT)
      refine ⟨Tp, _, rfl, .inl (.inl upd_same), rfl, _, _, rfl, _, _, rfl, rfl, ?_⟩
      refine ⟨_, rfl, b, _, 0, .str m, rfl, rfl, SqT.of (sm' _ _ e2), atI_nat (j := 0) rfl, _, rfl, rfl, _, rfl, ?_⟩
      rw [str_eq]
      by_cases e : m = n
      · subst e
        exact iteB (decide_eq_true rfl) ⟨_, rfl, q (some i) ⟨e3, hno⟩ _ sm'⟩
      · refine iteBF (decide_eq_false e) ⟨_, _, rfl, sm', fun j hj => ?_⟩
        rcases Nat.lt_succ_iff_lt_or_eq.mp hj with h | h
        · exact hno j h
        · subst h
          rw [e3]
          exact fun z => e (Option.some.inj z)
    · rintro σ H3 ⟨y2, y3, rfl, sm, hno⟩
      refine q none (fun hm => ?_) _ sm
      obtain ⟨j, hj⟩ := List.mem_iff_getElem?.mp hm
      have : j < ns.length := (List.getElem?_eq_some_iff.mp hj).1
      exact hno j (by rw [hR.1, hN.1]; exact this) hj
def spDimIx (C : Addr) : Sp := fun vs H Q _ => ∃ (a : Addr) (n : Str) (ds : List D) (ts : List T), vs = [.ref a, .str n] ∧ ShapeAt H C a ds ts ∧ ∀ r, IsIdx (ds.map (·.n)) n r → ∀ H', Same H H' → Q (optV r) H'
theorem scDimIx : FnScope ["shape", "name"] ["shape", "name"] (defScope sDimIx) := ⟨rfl, rfl, rfl, by decide +kernel, rfl, by decide +kernel, by decide +kernel⟩
theorem ok_dimIx {f fI C f1 f2 : Addr} {fd fdI : FuncData} (F : Fun K "dim_index" "dim_index" sDimIx f fd) (N : Nm mg) (S : ShC K C f1 f2) (FI : Fun K "index_of" "index_of" sIndex fI fdI) (bI : Binds K fdI ["rows", "name"] []) (gI : mg "index_of" = some (.ref fI)) :
    FnOk P w K mg base CX0 2 f fd ["shape", "name"] (spDimIx C) := by
  have GI : FnOk P w K mg base CX0 1 fI fdI ["rows", "name"] spIndex := ok_index FI N
  refine F.ok scDimIx (fun vs H Q E h => ?_) (fun cdv A outer s H vs Q E hr h => ?_)
  · obtain ⟨a, n, ds, ts, rfl, _⟩ := h
    rfl
  · obtain ⟨a, n, ds, ts, rfl, ⟨dx, td, ta, xs, ys, h1, h2, h3, h4, h5⟩, q⟩ := h
    refine ⟨_, pss_one (ps_ret (pe_call GI hr (by rfl) gI FI.kp bI .nil pass0 (pa_cons (pe_fld (pv 0) rfl) (pa_cons (pv 1) pa_nil)))), ?_⟩
    exact ⟨_, rfl, a, C, dx, _, .ref td, rfl, h1, S.cl, S.nD, rfl, _, rfl, td, n, xs, _, _, rfl, h2, h3, headsD ds, q⟩
def spAttrIx (C : Addr) : Sp := fun vs H Q _ => ∃ (a : Addr) (n : Str) (ds : List D) (ts : List T), vs = [.ref a, .str n] ∧ ShapeAt H C a ds ts ∧ ∀ r, IsIdx (ts.map (·.n)) n r → ∀ H', Same H H' → Q (optV r) H'
theorem scAttrIx : FnScope ["shape", "name"] ["shape", "name"] (defScope sAttrIx) := ⟨rfl, rfl, rfl, by decide +kernel, rfl, by decide +kernel, by decide +kernel⟩
theorem ok_attrIx {f fI C f1 f2 : Addr} {fd fdI : FuncData} (F : Fun K "attr_index" "attr_index" sAttrIx f fd) (N : Nm mg) (S : ShC K C f1 f2) (FI : Fun K "index_of" "index_of" sIndex fI fdI) (bI : Binds K fdI ["rows", "name"] []) (gI : mg "index_of" = some (.ref fI)) :
    FnOk P w K mg base CX0 2 f fd ["shape", "name"] (spAttrIx C) := by
  have GI : FnOk P w K mg base CX0 1 fI fdI ["rows", "name"] spIndex := ok_index FI N
  refine F.ok scAttrIx (fun vs H Q E h => ?_) (fun cdv A outer s H vs Q E hr h => ?_)
  · obtain ⟨a, n, ds, ts, rfl, _⟩ := h
    rfl
  · obtain ⟨a, n, ds, ts, rfl, ⟨dx, td, ta, xs, ys, h1, h2, h3, h4, h5⟩, q⟩ := h
    refine ⟨_, pss_one (ps_ret (pe_call GI hr (by rfl) gI FI.kp bI .nil pass0 (pa_cons (pe_fld (pv 0) rfl) (pa_cons (pv 1) pa_nil)))), ?_⟩
    exact ⟨_, rfl, a, C, dx, _, .ref ta, rfl, h1, S.cl, S.nA, rfl, _, rfl, ta, n, ys, _, _, rfl, h4, h5, headsT ts, q⟩
end
end K2

namespace K2
open PySem L2
/-! ### expressions -/
inductive Ex where
  | val (k : Str) (v : V)
  | attr (n : Str)
  | dim (n : Str)
  | op (w : Str) (ps : List Ex)
def LV : List Str := ["value", "attr", "dim"]
mutual
def Ex.size : Ex → Nat
  | .op _ ps => 1 + Ex.sizes ps
  | .val _ _ => 1
  | .attr _ => 1
  | .dim _ => 1
def Ex.sizes : List Ex → Nat
  | [] => 0
  | e :: r => e.size + Ex.sizes r
end
mutual
def Ex.dep : Ex → Nat
  | .op _ ps => 1 + Ex.deps ps
  | .val _ _ => 0
  | .attr _ => 0
  | .dim _ => 0
def Ex.deps : List Ex → Nat
  | [] => 0
  | e :: r => max e.dep (Ex.deps r)
end
mutual
inductive ExAt (H : Hp) : V → Ex → Prop
  | val {a : Addr} {k : Str} {v : V} : H a = some (.tup [.str "value", .str k, v]) → ExAt H (.ref a) (.val k v)
  | attr {a : Addr} {n : Str} : H a = some (.tup [.str "attr", .str n]) → ExAt H (.ref a) (.attr n)
  | dim {a : Addr} {n : Str} : H a = some (.tup [.str "dim", .str n]) → ExAt H (.ref a) (.dim n)
  | op {a : Addr} {w : Str} {xs : List V} {ps : List Ex} : H a = some (.tup (.str w :: xs)) → ExAll H xs ps → w ∉ LV → ps ≠ [] → ExAt H (.ref a) (.op w ps)
inductive ExAll (H : Hp) : List V → List Ex → Prop
  | nil : ExAll H [] []
  | cons {x : V} {xs : List V} {e : Ex} {es : List Ex} : ExAt H x e → ExAll H xs es → ExAll H (x :: xs) (e :: es)
end
mutual
theorem ExAt.keep {H H1 : Hp} (k : ∀ a r, H a = some (.tup r) → H1 a = some (.tup r)) : ∀ {e : Ex} {v : V}, ExAt H v e → ExAt H1 v e
  | .val _ _, _, h => by
    cases h with
    | val h => exact .val (k _ _ h)
  | .attr _, _, h => by
    cases h with
    | attr h => exact .attr (k _ _ h)
  | .dim _, _, h => by
    cases h with
    | dim h => exact .dim (k _ _ h)
  | .op _ _, _, h => by
    cases h with
    | op h g nw ne => exact .op (k _ _ h) (ExAll.keep k g) nw ne
theorem ExAll.keep {H H1 : Hp} (k : ∀ a r, H a = some (.tup r) → H1 a = some (.tup r)) : ∀ {es : List Ex} {vs : List V}, ExAll H vs es → ExAll H1 vs es
  | [], _, h => by
    cases h
    exact .nil
  | _ :: _, _, h => by
    cases h with
    | cons h g => exact .cons (ExAt.keep k h) (ExAll.keep k g)
end
theorem ExAt.same {H H1 : Hp} {e : Ex} {v : V} (h : ExAt H v e) (s : Same H H1) : ExAt H1 v e := h.keep fun a r e => s _ _ e
theorem ExAll.same {H H1 : Hp} {e : List Ex} {v : List V} (h : ExAll H v e) (s : Same H H1) : ExAll H1 v e := h.keep fun a r e => s _ _ e
theorem kp_tup {d l : Addr} {H H1 : Hp} (S : StAt H d l) (k : Kp d l H H1) : ∀ a r, H a = some (.tup r) → H1 a = some (.tup r) := fun a r e => k.keep _ _ e fun z => by
  obtain ⟨ns, y, h1, _⟩ := S.ex
  rw [z, h1] at e
  cases e
theorem ExAt.kp {d l : Addr} {H H1 : Hp} {e : Ex} {v : V} (h : ExAt H v e) (S : StAt H d l) (k : Kp d l H H1) : ExAt H1 v e := h.keep (kp_tup S k)
theorem ExAll.kp {d l : Addr} {H H1 : Hp} {e : List Ex} {v : List V} (h : ExAll H v e) (S : StAt H d l) (k : Kp d l H H1) : ExAll H1 v e := h.keep (kp_tup S k)
theorem ExAll.len {H : Hp} : ∀ {es : List Ex} {vs : List V}, ExAll H vs es → vs.length = es.length
  | _, _, .nil => rfl
  | _, _, .cons _ g => by rw [List.length_cons, List.length_cons, ExAll.len g]
theorem ExAll.at {H : Hp} : ∀ {es : List Ex} {vs : List V} {i : Nat} {e : Ex}, ExAll H vs es → es[i]? = some e → ∃ v, vs[i]? = some v ∧ ExAt H v e
  | _, _, _, _, .nil, h => by simp at h
  | _, _, 0, _, .cons h g, q => by
    have := Option.some.inj q
    subst this
    exact ⟨_, rfl, h⟩
  | _, _, i + 1, _, .cons h g, q => ExAll.at (i := i) g q
/-! ### kinds -/
instance : DecidableEq Kd := fun a b => by cases a <;> cases b <;> first | exact isTrue rfl | exact isFalse (fun h => nomatch h)
def kdOf (k : Str) : Option Kd := if k = "int" then some .i else if k = "flag" then some .f else if k = "text" then some .t else none
theorem kdOf_S (k : Kd) : kdOf (kdS k) = some k := by cases k <;> decide +kernel
def kv : Option Kd → V
  | none => .non
  | some k => .str (kdS k)
def CMP : List Str := ["eq", "ne", "lt", "le", "gt", "ge"]
def SIG : List (Str × List Kd × Kd) := [("neg", [.i], .i), ("abs", [.i], .i), ("not", [.f], .f), ("length", [.t], .i), ("add", [.i, .i], .i), ("sub", [.i, .i], .i), ("mul", [.i, .i], .i), ("div", [.i, .i], .i), ("mod", [.i, .i], .i),
  ("and", [.f, .f], .f), ("or", [.f, .f], .f), ("joined", [.t, .t], .t)]
/-- how many parts a word wants -/
def ar (w : Str) : Option Nat := if w = "is missing" then some 1 else if w ∈ CMP then some 2 else if w = "if" then some 3 else if w = "or else" then some 2 else (SIG.lookup w).map fun p => p.1.length
def joint (w : Str) (ks : List Kd) : Option Kd :=
  if w = "is missing" then some .f else if w ∈ CMP then (if ks[0]? = ks[1]? then some .f else none)
  else if w = "if" then (if ks[0]? = some .f then (if ks[1]? = ks[2]? then ks[1]? else none) else none)
  else if w = "or else" then (if ks[0]? = ks[1]? then ks[0]? else none) else (SIG.lookup w).bind fun p => if ks = p.1 then some p.2 else none
def leafK (ds : List D) (ts : List T) : Ex → Option Kd
  | .val k v => (kdOf k).bind fun q => if v = .non ∨ isVal q v = true then some q else none
  | .attr n => (ts.find? fun t => decide (t.n = n)).bind fun t => kdOf t.k
  | .dim n => if n ∈ ds.map (·.n) then some .i else none
  | .op _ _ => none
mutual
/-- the kind, or the number of the first wrong one -/
def ck (ds : List D) (ts : List T) : Ex → Nat → Except Nat Kd
  | .op w ps, n => match cks ds ts ps (n + 1) with
    | .error m => .error m
    | .ok ks => match joint w ks with
      | some k => .ok k
      | none => .error n
  | .val k v, n => match leafK ds ts (.val k v) with
    | some k => .ok k
    | none => .error n
  | .attr a, n => match leafK ds ts (.attr a) with
    | some k => .ok k
    | none => .error n
  | .dim a, n => match leafK ds ts (.dim a) with
    | some k => .ok k
    | none => .error n
def cks (ds : List D) (ts : List T) : List Ex → Nat → Except Nat (List Kd)
  | [], _ => .ok []
  | e :: r, n => match ck ds ts e n with
    | .error m => .error m
    | .ok k => match cks ds ts r (n + e.size) with
      | .error m => .error m
      | .ok ks => .ok (k :: ks)
end
def ValOk (v : V) : Prop := v = .non ∨ (∃ n, v = .int n) ∨ (∃ b, v = .bl b) ∨ ∃ z, v = .str z ∧ Txt95 z ∧ z.length ≤ 200
mutual
/-- every word with its parts, every value a thing -/
def WF : Ex → Prop
  | .op w ps => ar w = some ps.length ∧ WFs ps
  | .val k v => ValOk v ∧ PyData.strOk k = true
  | .attr n => PyData.strOk n = true
  | .dim n => PyData.strOk n = true
def WFs : List Ex → Prop
  | [] => True
  | e :: r => WF e ∧ WFs r
end
end K2

namespace K2
open PySem L2
theorem cut1 (x : V) (xs : List V) : cutV (x :: xs) (some 1) none = xs := by
  unfold cutV
  have e1 : HT.sIx (x :: xs).length 0 (some 1) = 1 := by
    rw [show HT.sIx (x :: xs).length 0 (some 1) = min 1 (x :: xs).length from HT.sIx_nat _ _ 1, List.length_cons]
    omega
  rw [e1, HT.sIx_none]
  rw [List.drop_succ_cons, List.drop_zero, List.length_cons, Nat.add_sub_cancel, List.take_length]
theorem cut1_not (x : V) (xs : List V) : ¬ (HT.sIx (x :: xs).length 0 (some 1) = 0 ∧ HT.sIx (x :: xs).length (x :: xs).length none = (x :: xs).length) := by
  have e1 : HT.sIx (x :: xs).length 0 (some 1) = 1 := by
    rw [show HT.sIx (x :: xs).length 0 (some 1) = min 1 (x :: xs).length from HT.sIx_nat _ _ 1, List.length_cons]
    omega
  rw [e1]
  exact fun h => absurd h.1 (by decide)
theorem inV_str (n : Str) : ∀ ns : List Str, inV (.str n) (ns.map V.str) = decide (n ∈ ns)
  | [] => rfl
  | m :: r => by
    have ih := inV_str n r
    unfold inV at ih ⊢
    rw [List.map_cons, List.any_cons, ih]
    by_cases e : m = n
    · subst e
      rw [decide_eq_true (List.mem_cons_self ..)]
      have : eqV (.str m) (.str m) = true := by simp [eqV]
      rw [this]
      rfl
    · have h1 : eqV (.str m) (.str n) = false := by simp [eqV, e]
      rw [h1, Bool.false_or]
      by_cases h : n ∈ r
      · rw [decide_eq_true h, decide_eq_true (List.mem_cons_of_mem _ h)]
      · rw [decide_eq_false h, decide_eq_false]
        intro z
        rcases List.mem_cons.mp z with z | z
        · exact e z.symm
        · exact h z
theorem flat_strs (ns : List Str) : (ns.map V.str).all flatV = true := by
  rw [List.all_eq_true]
  intro x hx
  obtain ⟨z, _, rfl⟩ := List.mem_map.mp hx
  rfl
def Ex.parts : Ex → List Ex
  | .op _ ps => ps
  | .val _ _ => []
  | .attr _ => []
  | .dim _ => []
def Ex.word : Ex → Str
  | .op w _ => w
  | .val _ _ => "value"
  | .attr _ => "attr"
  | .dim _ => "dim"
/-- an expression's tuple: its word, and what follows -/
theorem ExAt.tup {H : Hp} {e : Ex} {v : V} (h : ExAt H v e) : ∃ (a : Addr) (xs : List V), v = .ref a ∧ H a = some (.tup (.str e.word :: xs)) ∧ (e.word ∉ LV → ExAll H xs e.parts) ∧ (e.word ∈ LV → e.parts = []) := by
  cases h with
  | val h => exact ⟨_, _, rfl, h, fun z => absurd (by show ("value" : Str) ∈ LV; decide +kernel) z, fun _ => rfl⟩
  | attr h => exact ⟨_, _, rfl, h, fun z => absurd (by show ("attr" : Str) ∈ LV; decide +kernel) z, fun _ => rfl⟩
  | dim h => exact ⟨_, _, rfl, h, fun z => absurd (by show ("dim" : Str) ∈ LV; decide +kernel) z, fun _ => rfl⟩
  | op h g nw ne => exact ⟨_, _, rfl, h, fun _ => g, fun z => absurd z nw⟩
end K2

namespace K2
open PySem L2
def KS : List Str := ["int", "flag", "text"]
theorem kdOf_in {k : Str} (h : k ∈ KS) : ∃ q, k = kdS q ∧ kdOf k = some q := by
  rcases List.mem_cons.mp h with rfl | h
  · exact ⟨.i, rfl, kdOf_S .i⟩
  rcases List.mem_cons.mp h with rfl | h
  · exact ⟨.f, rfl, kdOf_S .f⟩
  rcases List.mem_cons.mp h with rfl | h
  · exact ⟨.t, rfl, kdOf_S .t⟩
  · exact absurd h (List.not_mem_nil)
theorem kdOf_not {k : Str} (h : k ∉ KS) : kdOf k = none := by
  unfold kdOf
  rw [if_neg fun e => h (by rw [e]; decide +kernel), if_neg fun e => h (by rw [e]; decide +kernel), if_neg fun e => h (by rw [e]; decide +kernel)]
theorem find_none {ts : List T} {n : Str} (h : n ∉ ts.map (·.n)) : ts.find? (fun t => decide (t.n = n)) = none := by
  rw [List.find?_eq_none]
  intro t ht e
  exact h (List.mem_map.mpr ⟨t, ht, of_decide_eq_true e⟩)
theorem find_some : ∀ {ts : List T} {n : Str} {i : Nat} (_ : (ts.map (·.n))[i]? = some n) (_ : ∀ j < i, (ts.map (·.n))[j]? ≠ some n), ts.find? (fun t => decide (t.n = n)) = ts[i]?
  | [], _, _, h, _ => by simp at h
  | t :: r, n, 0, h, _ => by
    have e : t.n = n := Option.some.inj h
    rw [List.find?_cons_of_pos (p := fun t : T => decide (t.n = n)) (decide_eq_true e)]
    rfl
  | t :: r, n, i + 1, h, g => by
    have e : ¬ decide (t.n = n) = true := fun z => g 0 (by omega) (by rw [← of_decide_eq_true z]; rfl)
    rw [List.find?_cons_of_neg (p := fun t : T => decide (t.n = n)) e]
    exact find_some (i := i) h fun j hj z => g (j + 1) (by omega) z
def GoodK (ds : List D) (ts : List T) : Prop := ds.length ≤ 900 ∧ ts.length ≤ 900 ∧ ∀ t ∈ ts, ∃ q, t.k = kdS q
theorem OfK.any {K : PySem.W.Frag} {H : Hp} {v : V} (h : ValOk v) : ∃ T, Thg K H v T := by
  rcases h with rfl | ⟨n, rfl⟩ | ⟨b, rfl⟩ | ⟨z, rfl, h1, h2⟩
  · exact ⟨_, .non⟩
  · exact ⟨_, .int n⟩
  · exact ⟨_, .bl b⟩
  · exact ⟨_, .str z h1 (by omega)⟩
def ks (k : Kd) : V := .str (kdS k)
theorem ks_eq (a b : Kd) : decide (ks a = ks b) = decide (a = b) := by cases a <;> cases b <;> decide +kernel
theorem kdS_inj {a b : Kd} (h : kdS a = kdS b) : a = b := by
  have := kdOf_S a
  rw [h, kdOf_S] at this
  exact (Option.some.inj this).symm
def pk (k : Kd) : PyData := .str (kdS k)
theorem eqv_ks : ∀ a b : List Kd, PyData.eqvAll (a.map pk) (b.map pk) = decide (a = b)
  | [], [] => by simp [PyData.eqvAll]
  | [], _ :: _ => by simp [PyData.eqvAll]
  | _ :: _, [] => by simp [PyData.eqvAll]
  | x :: r, y :: t => by
    have ih := eqv_ks r t
    rw [List.map_cons, List.map_cons, PyData.eqvAll, ih]
    have e : PyData.eqv (pk x) (pk y) = decide (x = y) := by
      unfold pk
      rw [PyData.eqv]
      cases x <;> cases y <;> decide +kernel
    rw [e]
    by_cases h1 : x = y
    · subst h1
      by_cases h2 : r = t
      · subst h2
        rw [decide_eq_true rfl, decide_eq_true rfl, decide_eq_true rfl]
        rfl
      · rw [decide_eq_true rfl, decide_eq_false h2, decide_eq_false fun z => h2 (List.cons.inj z).2]
        rfl
    · rw [decide_eq_false h1, decide_eq_false fun z => h1 (List.cons.inj z).1]
      rfl
theorem pk_ok (k : Kd) : (pk k).canLay0 = true := by cases k <;> (unfold pk; simp only [PyData.canLay0]; decide +kernel)
theorem lay_ks : ∀ a : List Kd, PyData.canLayAll0 (a.map pk) = true
  | [] => by simp [PyData.canLayAll0]
  | x :: r => by
    rw [List.map_cons, PyData.canLayAll0, pk_ok, lay_ks r]
    rfl
theorem dep_ks : ∀ a : List Kd, PyData.depthAll (a.map pk) = 0
  | [] => by simp [PyData.depthAll]
  | x :: r => by
    rw [List.map_cons, PyData.depthAll, dep_ks r]
    unfold pk
    simp [PyData.depth]
def TK (a : List Kd) : PyData := .tuple (a.map pk)
theorem TK_shp (a : List Kd) : SeqAt.shaped (TK a) = true := by
  show (PyData.canLay0 (.tuple (a.map pk)) && decide (PyData.depth (.tuple (a.map pk)) ≤ 64)) = true
  rw [Bool.and_eq_true]
  refine ⟨by simp only [PyData.canLay0]; exact lay_ks a, decide_eq_true ?_⟩
  simp only [PyData.depth]
  rw [dep_ks]
  decide
theorem TK_eqv (a b : List Kd) : PyData.eqv (TK a) (TK b) = decide (a = b) := by
  unfold TK
  rw [PyData.eqv]
  exact eqv_ks a b
theorem TK_dp {K : PySem.W.Frag} {H : Hp} : ∀ a : List Kd, DpAll K H (a.map ks) (a.map pk)
  | [] => .nil
  | x :: r => .cons (.str _) (TK_dp r)
theorem sig_tab : ∀ p ∈ SIG, SIG.lookup p.1 = some p.2 := by decide +kernel
theorem lookup_in {w : Str} {q : List Kd × Kd} : ∀ {l : List (Str × List Kd × Kd)}, l.lookup w = some q → (w, q) ∈ l
  | [], h => by cases h
  | (x, y) :: r, h => by
    by_cases e : w = x
    · subst e
      rw [List.lookup_cons_self] at h
      rw [Option.some.inj h]
      exact List.mem_cons_self ..
    · rw [List.lookup_cons, beq_false_of_ne e] at h
      exact List.mem_cons_of_mem _ (lookup_in h)
theorem two {α : Type} {l : List α} (h : l.length = 2) : ∃ a b, l = [a, b] := by
  match l, h with
  | [a, b], _ => exact ⟨a, b, rfl⟩
theorem three {α : Type} {l : List α} (h : l.length = 3) : ∃ a b c, l = [a, b, c] := by
  match l, h with
  | [a, b, c], _ => exact ⟨a, b, c, rfl⟩
theorem sizes_app : ∀ a b : List Ex, Ex.sizes (a ++ b) = Ex.sizes a + Ex.sizes b
  | [], b => by simp [Ex.sizes]
  | e :: r, b => by
    rw [List.cons_append, Ex.sizes, Ex.sizes, sizes_app r b, Nat.add_assoc]
theorem cks_app (ds : List D) (ts : List T) : ∀ (a b : List Ex) (n : Nat), cks ds ts (a ++ b) n = match cks ds ts a n with
    | .error m => .error m
    | .ok qs => match cks ds ts b (n + Ex.sizes a) with
      | .error m => .error m
      | .ok rs => .ok (qs ++ rs)
  | [], b, n => by
    rw [List.nil_append, cks, Ex.sizes, Nat.add_zero]
    cases cks ds ts b n <;> rfl
  | e :: r, b, n => by
    rw [List.cons_append, cks, cks]
    cases ck ds ts e n with
    | error m => rfl
    | ok k =>
      show (match cks ds ts (r ++ b) (n + e.size) with | .error m => Except.error m | .ok ks => .ok (k :: ks)) = _
      rw [cks_app ds ts r b, Ex.sizes, ← Nat.add_assoc]
      cases cks ds ts r (n + e.size) with
      | error m => rfl
      | ok qs =>
        show (match (match cks ds ts b (n + e.size + Ex.sizes r) with | .error m => Except.error m | .ok rs => .ok (qs ++ rs)) with | .error m => Except.error m | .ok ks => .ok (k :: ks)) = match cks ds ts b (n + e.size + Ex.sizes r) with | .error m => Except.error m | .ok rs => .ok (k :: qs ++ rs)
        cases cks ds ts b (n + e.size + Ex.sizes r) <;> rfl
theorem take_at {es : List Ex} {i : Nat} (h : i < es.length) : es.take (i + 1) = es.take i ++ [es[i]] := by
  rw [List.take_add_one, List.getElem?_eq_getElem h]
  rfl
theorem cks_one (ds : List D) (ts : List T) (e : Ex) (n : Nat) : cks ds ts [e] n = match ck ds ts e n with | .error m => .error m | .ok k => .ok [k] := by
  rw [cks]
  cases ck ds ts e n <;> rfl
theorem cks_ok {ds : List D} {ts : List T} {es : List Ex} {i n : Nat} {qs : List Kd} {k : Kd} (h : i < es.length) (h1 : cks ds ts (es.take i) n = .ok qs) (h2 : ck ds ts es[i] (n + Ex.sizes (es.take i)) = .ok k) : cks ds ts (es.take (i + 1)) n = .ok (qs ++ [k]) := by
  rw [take_at h, cks_app, h1]
  show (match cks ds ts [es[i]] (n + Ex.sizes (es.take i)) with | .error m => Except.error m | .ok rs => .ok (qs ++ rs)) = _
  rw [cks_one, h2]
theorem cks_bad {ds : List D} {ts : List T} {es : List Ex} {i n j : Nat} {qs : List Kd} (h : i < es.length) (h1 : cks ds ts (es.take i) n = .ok qs) (h2 : ck ds ts es[i] (n + Ex.sizes (es.take i)) = .error j) : cks ds ts es n = .error j := by
  have e1 : cks ds ts (es.take (i + 1)) n = .error j := by
    rw [take_at h, cks_app, h1]
    show (match cks ds ts [es[i]] (n + Ex.sizes (es.take i)) with | .error m => Except.error m | .ok rs => .ok (qs ++ rs)) = _
    rw [cks_one, h2]
  have e2 := cks_app ds ts (es.take (i + 1)) (es.drop (i + 1)) n
  rw [List.take_append_drop, e1] at e2
  exact e2
theorem ck_leaf {ds : List D} {ts : List T} {e : Ex} {n : Nat} (h : e.word ∈ LV) {H : Hp} {v : V} (he : ExAt H v e) : ck ds ts e n = match leafK ds ts e with | some k => .ok k | none => .error n := by
  cases he with
  | val _ => rw [ck] <;> rfl
  | attr _ => rw [ck] <;> rfl
  | dim _ => rw [ck] <;> rfl
  | op _ _ nw _ => exact absurd h nw
theorem ck_op {ds : List D} {ts : List T} {e : Ex} {n : Nat} (h : e.word ∉ LV) {H : Hp} {v : V} (he : ExAt H v e) : ck ds ts e n = match cks ds ts e.parts (n + 1) with | .error m => .error m | .ok qs => match joint e.word qs with | some k => .ok k | none => .error n := by
  cases he with
  | val _ => exact absurd (by show ("value" : Str) ∈ LV; decide +kernel) h
  | attr _ => exact absurd (by show ("attr" : Str) ∈ LV; decide +kernel) h
  | dim _ => exact absurd (by show ("dim" : Str) ∈ LV; decide +kernel) h
  | op _ _ _ _ => rw [ck]; rfl
theorem ar_le {w : Str} {n : Nat} (h : ar w = some n) : n ≤ 3 := by
  unfold ar at h
  by_cases w1 : w = "is missing"
  · rw [if_pos w1] at h
    rw [← Option.some.inj h]
    decide
  rw [if_neg w1] at h
  by_cases w2 : w ∈ CMP
  · rw [if_pos w2] at h
    rw [← Option.some.inj h]
    decide
  rw [if_neg w2] at h
  by_cases w3 : w = "if"
  · rw [if_pos w3] at h
    rw [← Option.some.inj h]
    decide
  rw [if_neg w3] at h
  by_cases w4 : w = "or else"
  · rw [if_pos w4] at h
    rw [← Option.some.inj h]
    decide
  rw [if_neg w4] at h
  cases e : SIG.lookup w with
  | none =>
    rw [e] at h
    cases h
  | some p =>
    rw [e] at h
    rw [← Option.some.inj h]
    have tab : ∀ p ∈ SIG, p.2.1.length ≤ 3 := by decide +kernel
    exact tab _ (lookup_in e)
theorem size_parts (e : Ex) : e.size = 1 + Ex.sizes e.parts := by cases e <;> simp [Ex.size, Ex.parts, Ex.sizes]
theorem dep_le : ∀ {es : List Ex} {e : Ex}, e ∈ es → e.dep ≤ Ex.deps es
  | x :: r, e, h => by
    rw [Ex.deps]
    rcases List.mem_cons.mp h with rfl | h
    · exact Nat.le_max_left ..
    · exact Nat.le_trans (dep_le h) (Nat.le_max_right ..)
theorem dep_part {e x : Ex} (h : x ∈ e.parts) : x.dep + 1 ≤ e.dep := by
  cases e with
  | op w ps =>
    have := dep_le h
    rw [Ex.dep]
    have h2 : Ex.deps ps = Ex.deps (Ex.parts (.op w ps)) := rfl
    omega
  | val _ _ => exact absurd h List.not_mem_nil
  | attr _ => exact absurd h List.not_mem_nil
  | dim _ => exact absurd h List.not_mem_nil
theorem WFs.mem : ∀ {es : List Ex} {e : Ex}, WFs es → e ∈ es → WF e
  | x :: r, e, h, m => by
    rw [WFs] at h
    rcases List.mem_cons.mp m with rfl | m
    · exact h.1
    · exact WFs.mem h.2 m
theorem WF.part {e x : Ex} (h : WF e) (m : x ∈ e.parts) : WF x := by
  cases e with
  | op w ps =>
    rw [WF] at h
    exact h.2.mem m
  | val _ _ => exact absurd m List.not_mem_nil
  | attr _ => exact absurd m List.not_mem_nil
  | dim _ => exact absurd m List.not_mem_nil
theorem WF.ar {e : Ex} (h : WF e) {H : Hp} {v : V} (he : ExAt H v e) (nw : e.word ∉ LV) : K2.ar e.word = some e.parts.length := by
  cases he with
  | val _ => exact absurd (by show ("value" : Str) ∈ LV; decide +kernel) nw
  | attr _ => exact absurd (by show ("attr" : Str) ∈ LV; decide +kernel) nw
  | dim _ => exact absurd (by show ("dim" : Str) ∈ LV; decide +kernel) nw
  | op _ _ _ _ => rw [WF] at h; exact h.1
end K2

namespace K2
open PySem L2
section
variable {X : Cx}
theorem ix_tupK (K : PySem.W.Frag) (hK : X.K = K) : IxR X (rIxT K) := by
  subst hK
  exact ix_tup
theorem pg_tupK {es : List Expr} {k : Nat} {t : TGs} {n : Nat} {pos : Pos} (K : PySem.W.Frag) (hK : X.K = K) (hc : X.calm = true) (h : PGs X es t)
    (hn : (assignEach es X.env).length = n := by rfl) (hst : (assignEach es X.env).findIdx? (·.1) = none := by rfl) : PG X (.Tuple es k pos) (gTup K n t) := by
  subst hK
  exact pg_tup hc h hn hst
end
end K2

namespace K2
open PySem L2
def L1 : List (List Kd) := [[.i], [.f], [.t]]
def L2' : List (List Kd) := L1.flatMap fun r => [.i :: r, .f :: r, .t :: r]
def L3' : List (List Kd) := L2'.flatMap fun r => [.i :: r, .f :: r, .t :: r]
def LA : List (List Kd) := [[]] ++ L1 ++ L2' ++ L3'
theorem la_in : ∀ {qs : List Kd}, qs.length ≤ 3 → qs ∈ LA
  | [], _ => by decide +kernel
  | [a], _ => by cases a <;> decide +kernel
  | [a, b], _ => by cases a <;> cases b <;> decide +kernel
  | [a, b, c], _ => by cases a <;> cases b <;> cases c <;> decide +kernel
  | _ :: _ :: _ :: _ :: _, h => by simp at h
def AW : List Str := [("is missing" : Str)] ++ CMP ++ [("if" : Str), "or else"] ++ SIG.map (·.1)
theorem ar_in {w : Str} {n : Nat} (h : ar w = some n) : w ∈ AW := by
  unfold ar at h
  unfold AW
  by_cases w1 : w = "is missing"
  · rw [w1]
    decide +kernel
  rw [if_neg w1] at h
  by_cases w2 : w ∈ CMP
  · exact List.mem_append_left _ (List.mem_append_left _ (List.mem_append_right _ w2))
  rw [if_neg w2] at h
  by_cases w3 : w = "if"
  · rw [w3]
    decide +kernel
  rw [if_neg w3] at h
  by_cases w4 : w = "or else"
  · rw [w4]
    decide +kernel
  rw [if_neg w4] at h
  cases e : SIG.lookup w with
  | none =>
    rw [e] at h
    cases h
  | some p => exact List.mem_append_right _ (List.mem_map.mpr ⟨_, lookup_in e, rfl⟩)
def QS : List Kd := [.i, .f, .t]
theorem qs_in (k : Kd) : k ∈ QS := by cases k <;> decide +kernel
def A5 : List Str := ["add", "sub", "mul", "div", "mod"]
end K2

namespace K2
open PySem L2
theorem str_in {ms : List Str} {xs : List V} {n : Int} (e : xs = ms.map V.str) (h0 : 0 ≤ n) (h1 : n < ms.length) : ∃ m ∈ ms, atI xs n = some (.str m) := by
  obtain ⟨j, rfl⟩ : ∃ j : Nat, n = (j : Int) := ⟨_, (Int.toNat_of_nonneg h0).symm⟩
  have hj : j < ms.length := by omega
  refine ⟨ms[j], List.getElem_mem hj, atI_nat ?_⟩
  rw [e, List.getElem?_map, List.getElem?_eq_getElem hj]
  rfl
/-- rows stay: no tuple is the state -/
theorem Rows.kp {d l : Addr} {H H1 : Hp} {xs : List V} {rs : List (List V)} (h : Rows H xs rs) (S : StAt H d l) (k : Kp d l H H1) : Rows H1 xs rs := by
  obtain ⟨ns, z, h1, _⟩ := S.ex
  refine h.keep fun a r e => k.keep _ _ e fun z => ?_
  rw [z, h1] at e
  cases e
structure Acc (d l p : Addr) (xs : List V) (rs : List (List V)) (H H1 : Hp) : Prop where
  k : Kp d l H H1
  p : H1 p = some (.lst xs)
  r : Rows H1 xs rs
section
variable {d l p : Addr} {xs : List V} {rs : List (List V)} {H H1 H2 : Hp}
theorem Acc.kp (a : Acc d l p xs rs H H1) (k : Kp d l H1 H2) : Acc d l p xs rs H H2 := by
  obtain ⟨ns, z, h1, _⟩ := a.k.st.ex
  refine ⟨a.k.trans k, k.keep _ _ a.p fun z => ?_, a.r.kp a.k.st k⟩
  have := a.p
  rw [z, h1] at this
  cases this
theorem Acc.new {o : Addr} {ob : HO} (a : Acc d l p xs rs H H1) (h : H1 o = none) : Acc d l p xs rs H (upd H1 o ob) :=
  ⟨a.k.new h, same_new h _ _ a.p, a.r.same (same_new h)⟩
theorem Acc.push {o : Addr} {r : List V} (a : Acc d l p xs rs H H1) (n : H p = none) (nd : p ≠ d ∧ p ≠ l) (e : H1 o = some (.tup r)) : Acc d l p (xs ++ [.ref o]) (rs ++ [r]) H (upd H1 p (.lst (xs ++ [.ref o]))) := by
  refine ⟨a.k.put n nd, upd_same, (a.r.push e).keep fun b q hb => ?_⟩
  rw [upd_ne]
  · exact hb
  · intro z
    have := a.p
    rw [← z, hb] at this
    cases this
end
theorem cutn {α : Type} (f : α → V) (ns : List α) (m : Nat) : cutV (ns.map f) none (some (m : Int)) = (ns.take m).map f := by
  unfold cutV
  rw [HT.sIx_none, show HT.sIx (ns.map f).length (ns.map f).length (some (m : Int)) = min m (ns.map f).length from HT.sIx_nat _ _ m, List.drop_zero, Nat.sub_zero, List.map_take]
  rw [Nat.min_def]
  split
  · rfl
  · rw [List.take_length, List.take_of_length_le (by omega)]
section
variable {d l p q x C : Addr} {xs : List V} {ds : List D} {ys : List V} {ts : List T} {H H1 : Hp}
theorem same_mk {x dx : Addr} {o1 o2 o3 o4 : HO} (nx : H x = none) (ndx : H dx = none) : Same H (upd (upd (upd (upd H dx o1) x o2) x o3) x o4) := same_put (same_put (same_put (same_new ndx) nx) nx) nx
theorem shape_mk {x dx td ta : Addr} (nx : H x = none) (ndx : H dx = none) (h2 : H td = some (.tup xs)) (h3 : Rows H xs (ds.map D.v)) (h4 : H ta = some (.tup ys)) (h5 : Rows H ys (ts.map T.v)) :
    ShapeAt (upd (upd (upd (upd H dx (.own x)) x (.ins C dx [])) x (.ins C dx [("dims", .ref td)])) x (.ins C dx [("dims", .ref td), ("attrs", .ref ta)])) C x ds ts := by
  have s := same_mk (o1 := .own x) (o2 := .ins C dx []) (o3 := .ins C dx [("dims", .ref td)]) (o4 := .ins C dx [("dims", .ref td), ("attrs", .ref ta)]) nx ndx
  exact ⟨dx, td, ta, xs, ys, upd_same, s _ _ h2, h3.same s, s _ _ h4, h5.same s⟩
end
def XY : List Str := ["x", "y", "z"]
def AB : List Str := ["a", "b", "c", "d"]
def KK : List Str := ["int", "flag", "text", "int"]
theorem kk_tab : ∀ z ∈ KK, ∃ q, z = kdS q := by
  intro z h
  rcases List.mem_cons.mp h with rfl | h
  · exact ⟨.i, rfl⟩
  rcases List.mem_cons.mp h with rfl | h
  · exact ⟨.f, rfl⟩
  rcases List.mem_cons.mp h with rfl | h
  · exact ⟨.t, rfl⟩
  rcases List.mem_cons.mp h with rfl | h
  · exact ⟨.i, rfl⟩
  · exact absurd h List.not_mem_nil
/-- a drawn dimension -/
def DB (x : D) : Prop := -5 ≤ x.l ∧ x.l ≤ x.h ∧ x.h ≤ 8 ∧ 1 ≤ x.s ∧ x.s ≤ 4
/-- what a drawn shape is -/
structure Dr (ds : List D) (ts : List T) : Prop where
  d1 : 1 ≤ ds.length
  d2 : ds.length ≤ 3
  t2 : ts.length ≤ 4
  nm : ts.map (·.n) = AB.take ts.length
  kd : ∀ t ∈ ts, ∃ q, t.k = kdS q
  dn : ∀ x ∈ ds, PyData.strOk x.n = true
  db : ∀ x ∈ ds, DB x
  dnm : ds.map (·.n) = XY.take ds.length
  t1 : 1 ≤ ts.length
theorem xy_ok : ∀ z ∈ XY, PyData.strOk z = true := by decide +kernel
theorem Dr.gk {ds : List D} {ts : List T} (h : Dr ds ts) : GoodK ds ts := ⟨by have := h.d2; omega, by have := h.t2; omega, h.kd⟩
section
variable {P : Program} {w : World} {K : PySem.W.Frag} {mg : Str → Option Value} {base : Heap}
def spShape (C : Addr) : Sp := fun vs H Q _ => ∃ d l : Addr, vs = [.ref d] ∧ StAt H d l ∧ ∀ H' s ds ts, Kp d l H H' → ShapeAt H' C s ds ts → Dr ds ts → Q (.ref s) H'
theorem scShape : FnScope ["state", "dims", "name", "low", "attrs", "k"] ["state"] (defScope sShape) := ⟨rfl, rfl, rfl, by decide +kernel, rfl, by decide +kernel, by decide +kernel⟩
theorem ok_shape {f fN C gI gE : Addr} {fd fdN dGI : FuncData} (F : Fun K "_law_shape" "_law_shape" sShape f fd) (M : Nm mg) (FN : Fun K "_law_next" "_law_next" sNext fN fdN) (bN : Binds K fdN ["state", "bound"] []) (gN : mg "_law_next" = some (.ref fN))
    (S : ShC K C gI gE) (gC : mg "Shape" = some (.ref C)) (GI : FnOk P w K mg base CX0 1 gI dGI ["self", "dims", "attrs"] (spShInit K C gI gE)) (bGI : Binds K dGI ["self", "dims", "attrs"] []) : FnOk P w K mg base CX0 3 f fd ["state"] (spShape C) := by
  have GN : FnOk P w K mg base CX0 1 fN fdN ["state", "bound"] spNext := ok_next FN M.int M.len
  refine F.ok scShape (fun vs H Q E h => ?_) (fun cdv A outer s H vs Q E hr h => ?_)
  · obtain ⟨d, l, rfl, _⟩ := h
    rfl
  · obtain ⟨d, l, rfl, St, q⟩ := h
    have hr1 := hr.mono (j := 1) (by decide)
    refine ⟨_, pss_cons (ps_set (i := 1) scShape.nd rfl (.inl rfl) (pe_lst pa_nil))
      (pss_cons (ps_for PassesOwn.never rfl (pi_list (pe_slice sl_list (pe_lst (pa_cons pe_str (pa_cons pe_str (pa_cons pe_str pa_nil)))) po_none (po_some (pe_op op_add pe_int (pe_call GN hr1 (by rfl) gN FN.kp bN .nil pass0 (pa_cons (pv 0) (pa_cons pe_int pa_nil))))))) (pg_name (i := 2) scShape.nd rfl (.inl rfl))
        (pss_cons (ps_set (i := 3) scShape.nd rfl (.inl rfl) (pe_op op_sub (pe_call GN hr1 (by rfl) gN FN.kp bN .nil pass0 (pa_cons (pv 0) (pa_cons pe_int pa_nil))) pe_int))
        (pss_one (ps_expr (pe_bm PySem.F.plainAttrs_list PySem.F.slot_list_append PySem.F.type_list_append mt_append (pv 1) (pa_cons (pe_tup (pa_cons (pv 2) (pa_cons (pv 3) (pa_cons (pe_op op_add (pv 3) (pe_call GN hr1 (by rfl) gN FN.kp bN .nil pass0 (pa_cons (pv 0) (pa_cons pe_int pa_nil))))
          (pa_cons (pe_op op_add pe_int (pe_call GN hr1 (by rfl) gN FN.kp bN .nil pass0 (pa_cons (pv 0) (pa_cons pe_int pa_nil)))) pa_nil))))) pa_nil))))))
      (pss_cons (ps_set (i := 4) scShape.nd rfl (.inl rfl) (pe_lst pa_nil))
      (pss_cons (ps_for PassesOwn.never rfl (pi_range1 (by rfl) M.range (pa_cons (pe_op op_add pe_int (pe_call GN hr1 (by rfl) gN FN.kp bN .nil pass0 (pa_cons (pv 0) (pa_cons pe_int pa_nil)))) pa_nil)) (pg_name (i := 5) scShape.nd rfl (.inl rfl))
        (pss_one (ps_expr (pe_bm PySem.F.plainAttrs_list PySem.F.slot_list_append PySem.F.type_list_append mt_append (pv 4) (pa_cons (pe_tup (pa_cons (pe_ix ix_list (pe_lst (pa_cons pe_str (pa_cons pe_str (pa_cons pe_str (pa_cons pe_str pa_nil))))) (pv 5) (fun _ _ => rfl))
          (pa_cons (pe_ix ix_list (pe_lst (pa_cons pe_str (pa_cons pe_str (pa_cons pe_str (pa_cons pe_str pa_nil))))) (pe_op op_mod (pe_callTy call_int1 (by rfl) M.int (by decide +kernel) (pa_cons (pe_op op_add (pv 5) (pe_call GN hr1 (by rfl) gN FN.kp bN .nil pass0 (pa_cons (pv 0) (pa_cons pe_int pa_nil)))) pa_nil)) pe_int) (fun _ _ => rfl)) pa_nil))) pa_nil)))))
      (pss_one (ps_ret (pe_make S.mm GI hr (by rfl) gC bGI .nil pass0 (pa_cons (pe_callTy call_tuple_of (by rfl) M.tuple (by decide +kernel) (pa_cons (pv 1) pa_nil)) (pa_cons (pe_callTy call_tuple_of (by rfl) M.tuple (by decide +kernel) (pa_cons (pv 4) pa_nil)) pa_nil)))))))), ?_⟩
    refine ⟨Nat.zero_le _, fun p np => ?_⟩
    have npd := St.nd np
    have a0 : Acc d l p [] [] H (upd H p (.lst [])) := ⟨Kp.pre (same_new np) (Kp.refl (St.same (same_new np))), upd_same, Rows.nil⟩
    refine ⟨(by show 3 ≤ sizeLine; decide), fun o no => ?_⟩
    have a1 := a0.new (ob := .lst [.str "x", .str "y", .str "z"]) no
    refine ⟨_, rfl, d, l, 3, rfl, a1.k.st, by decide, fun H2 n n0 n1 k2 => ?_⟩
    obtain ⟨j, rfl⟩ : ∃ j : Nat, n = (j : Int) := ⟨_, (Int.toNat_of_nonneg n0).symm⟩
    have a2 := a1.kp k2
    refine ⟨1, _, rfl, rfl, _, rfl, o, _, rfl, .inl (.inl (k2.keep _ _ upd_same (a0.k.st.nd no).1)), fun p2 np2 => ?_⟩
    rw [show cutV [V.str "x", V.str "y", V.str "z"] none (some (1 + (j : Int))) = (XY.take (1 + j)).map V.str from by
      rw [show (1 : Int) + (j : Int) = ((1 + j : Nat) : Int) from by omega]
      exact cutn V.str XY (1 + j)]
    have a3 := a2.new (ob := .lst ((XY.take (1 + j)).map V.str)) np2
    have p2d := (a2.k.st.nd np2).1
    have pp2 : p ≠ p2 := ne_of_none a2.p np2
    have lxy : (XY.take (1 + j)).length = 1 + j := by
      rw [List.length_take]
      show min (1 + j) 3 = 1 + j
      omega
    refine ⟨p2, rfl, ⟨_, .inl (.inl upd_same)⟩, for_list (xs := (XY.take (1 + j)).map V.str) (fun i σ H3 => ∃ (y2 y3 : Option V) (xs : List V) (ds : List D), σ = [some (.ref d), some (.ref p), y2, y3, none, none] ∧ Acc d l p xs (ds.map D.v) H H3 ∧ H3 p2 = some (.lst ((XY.take (1 + j)).map V.str)) ∧ ds.length = i ∧ (∀ x ∈ ds, PyData.strOk x.n = true ∧ DB x) ∧ ds.map (·.n) = XY.take i) ?_ ?_ ?_ ?_⟩
    · exact ⟨_, _, [], [], rfl, a3, upd_same, rfl, fun x h => (List.not_mem_nil h).elim, rfl⟩
    · rintro i σ H3 hi ⟨y2, y3, xs, ds, rfl, a, hp2, hl, hok, hdn⟩
      exact .inl (.inl hp2)
    · rintro i x σ H3 hx ⟨y2, y3, xs, ds, rfl, a, hp2, hl, hok, hdn⟩
      obtain ⟨z, hzx, hzi, rfl⟩ : ∃ z ∈ XY, XY[i]? = some z ∧ x = .str z := by
        rw [List.getElem?_map] at hx
        cases e : (XY.take (1 + j))[i]? with
        | none =>
          rw [e] at hx
          cases hx
        | some z =>
          rw [e] at hx
          have hi : i < 1 + j := by
            have := (List.getElem?_eq_some_iff.mp e).1
            rwa [lxy] at this
          have e2 := e
          rw [List.getElem?_take_of_lt hi] at e2
          exact ⟨z, List.mem_of_getElem? e2, e2, (Option.some.inj hx).symm⟩
      have hi : i < 1 + j := by
        have := (List.getElem?_eq_some_iff.mp hx).1
        rwa [List.length_map, lxy] at this
      refine ⟨_, rfl, d, l, 9, rfl, a.k.st, by decide, fun H4 u u0 u1 k4 => ⟨u, 5, rfl, rfl, ?_⟩⟩
      have b4 := a.kp k4
      refine ⟨_, rfl, .inl ⟨rfl, _, .inl (.inl b4.p)⟩, _, rfl, _, rfl, _, rfl, _, rfl, d, l, 6, rfl, b4.k.st, by decide, fun H5 v v0 v1 k5 => ⟨_, v, rfl, rfl, ?_⟩⟩
      have b5 := b4.kp k5
      refine ⟨_, rfl, d, l, 4, rfl, b5.k.st, by decide, fun H6 y y0 y1 k6 => ⟨1, y, rfl, rfl, (by show 4 ≤ sizeLine; decide), fun t nt => ?_⟩⟩
      have b6 := b5.kp k6
      have b7 := b6.new (ob := .tup [.str z, .int (u - 5), .int (u - 5 + v), .int (1 + y)]) nt
      have h6 := k6.keep _ _ (k5.keep _ _ (k4.keep _ _ hp2 p2d) p2d) p2d
      refine ⟨p, _, _, rfl, rfl, b7.p, ?_, ?_⟩
      · have := b7.r.1
        rw [List.length_map] at this
        exact small1000 (by omega)
      · refine ⟨_, _, xs ++ [.ref t], ds ++ [⟨z, u - 5, u - 5 + v, 1 + y⟩], rfl, ?_, ?_, ?_, ?_, ?_⟩
        · rw [List.map_append]
          exact b7.push np npd upd_same
        · rw [upd_ne pp2.symm]
          exact same_new nt _ _ h6
        · rw [List.length_append, hl]
          rfl
        · intro x hx
          rcases List.mem_append.mp hx with h | h
          · exact hok x h
          · rw [List.mem_singleton.mp h]
            exact ⟨xy_ok z hzx, by show -5 ≤ u - 5; omega, by show u - 5 ≤ u - 5 + v; omega, by show u - 5 + v ≤ 8; omega, by show 1 ≤ 1 + y; omega, by show 1 + y ≤ 4; omega⟩
        · rw [List.map_append, hdn, List.take_add_one, hzi]
          rfl
    · rintro σ H3 ⟨y2, y3, xs, ds, rfl, a, hp2, hl, hok, hdn⟩
      rw [List.length_map, lxy] at hl
      refine ⟨Nat.zero_le _, fun r nr => ?_⟩
      have nrd := a.k.st.nd nr
      have rp : r ≠ p := fun z => by
        have := a.p
        rw [← z, nr] at this
        cases this
      have c0 : Acc d l r [] [] H3 (upd H3 r (.lst [])) := ⟨Kp.pre (same_new nr) (Kp.refl (a.k.st.same (same_new nr))), upd_same, Rows.nil⟩
      refine ⟨_, rfl, d, l, 4, rfl, c0.k.st, by decide, fun H4 n n0 n1 k4 => ⟨1, n, rfl, rfl, _, rfl, by omega, by omega, ?_⟩⟩
      have c1 := c0.kp k4
      refine for_range (lo := 0) (n := (1 + n).toNat) (fun i σ H5 => ∃ (y2 y3 y5 : Option V) (ys : List V) (ts : List T), σ = [some (.ref d), some (.ref p), y2, y3, some (.ref r), y5] ∧ Acc d l r ys (ts.map T.v) H3 H5 ∧ ts.length = i ∧ ts.map (·.n) = AB.take i ∧ ∀ t ∈ ts, ∃ q, t.k = kdS q) ⟨_, _, _, [], [], rfl, c1, rfl, rfl, fun t h => (List.not_mem_nil h).elim⟩ ?_ ?_
      · rintro i σ H5 hi ⟨y2, y3, y5, ys, ts, rfl, c, ht, hnm, hkd⟩
        rw [Int.zero_add]
        have hi4 : i < 4 := by omega
        have hab : i < AB.length := hi4
        refine ⟨_, rfl, .inl ⟨rfl, _, .inl (.inl c.p)⟩, (by show 4 ≤ sizeLine; decide), fun o1 no1 => ?_⟩
        have d1 := c.new (ob := .lst (AB.map V.str)) no1
        refine ⟨_, rfl, o1, _, _, .str AB[i], rfl, rfl, .inl (.inl upd_same), atI_nat (by show (AB.map V.str)[i]? = _; rw [List.getElem?_map, List.getElem?_eq_getElem hab]; rfl), (by show 4 ≤ sizeLine; decide), fun o2 no2 => ?_⟩
        have d2 := d1.new (ob := .lst (KK.map V.str)) no2
        refine ⟨_, rfl, _, rfl, d, l, 3, rfl, d2.k.st, by decide, fun H6 u u0 u1 k6 => ⟨_, u, rfl, rfl, .inl ⟨_, rfl, _, 4, rfl, rfl, (by show (0 : Int) < 4; decide), ?_⟩⟩⟩
        have d3 := d2.kp k6
        obtain ⟨kz, hkz, hat⟩ := str_in (ms := KK) (n := ((i : Int) + u) % 4) rfl (Int.emod_nonneg _ (by decide)) (Int.emod_lt_of_pos _ (by decide))
        obtain ⟨qk, hqk⟩ := kk_tab kz hkz
        refine ⟨o2, _, _, _, rfl, rfl, .inl (.inl (k6.keep _ _ upd_same (d1.k.st.nd no2).1)), hat, (by show 2 ≤ sizeLine; decide), fun t nt => ?_⟩
        have d4 := d3.new (ob := .tup [.str AB[i], .str kz]) nt
        refine ⟨r, _, _, rfl, rfl, d4.p, ?_, ?_⟩
        · have := d4.r.1
          rw [List.length_map] at this
          exact small1000 (by omega)
        · refine ⟨_, _, _, ys ++ [.ref t], ts ++ [⟨AB[i], kz⟩], rfl, ?_, ?_, ?_, ?_⟩
          · rw [List.map_append]
            exact d4.push nr nrd upd_same
          · rw [List.length_append, ht]
            rfl
          · rw [List.map_append, hnm, List.take_add_one, List.getElem?_eq_getElem hab]
            rfl
          · intro x hx
            rcases List.mem_append.mp hx with h | h
            · exact hkd x h
            · rw [List.mem_singleton.mp h]
              exact ⟨qk, hqk⟩
      · rintro σ H5 ⟨y2, y3, y5, ys, ts, rfl, c, ht, hnm, hkd⟩
        have hp5 := c.k.keep _ _ a.p (fun z => npd.1 z)
        have r5 := a.r.kp a.k.st c.k
        refine ⟨_, rfl, p, xs, rfl, .inl ⟨.inl (.inl hp5), fun td ntd => ?_⟩⟩
        have e1 := same_new (o := .tup xs) ntd
        refine ⟨_, rfl, r, ys, rfl, .inl ⟨.inl (.inl (e1 _ _ c.p)), fun ta nta => ?_⟩⟩
        have e2 := same_new (o := .tup ys) nta
        intro x dx nx ndx nex
        refine ⟨x, dx, .ref td, .ref ta, rfl, upd_same, rfl, ?_⟩
        have s8 := same_mk (o1 := .own x) (o2 := .ins C dx []) (o3 := .ins C dx [("dims", .ref td)]) (o4 := .ins C dx [("dims", .ref td), ("attrs", .ref ta)]) nx ndx
        have e12 := e1.trans e2
        have lt : ts.length ≤ 4 := by omega
        refine q _ x ds ts (((a.k.trans c.k).same e12).same s8) (shape_mk (C := C) nx ndx (e2 _ _ upd_same) (r5.same e12) upd_same (c.r.same e12)) ⟨by omega, by omega, lt, by rw [hnm, ht], hkd, fun x h => (hok x h).1, fun x h => (hok x h).2, by rw [hdn, List.length_map, lxy, hl], by omega⟩
end
end K2

namespace K2
open PySem L2
theorem Kp.at {d l a : Addr} {H H1 : Hp} {o : HO} (k : Kp d l H H1) (S : StAt H d l) (e : H a = some o) (ho : ∀ kv, o ≠ .dK kv) : H1 a = some o := by
  obtain ⟨ns, z, h1, _⟩ := S.ex
  refine k.keep _ _ e fun y => ?_
  rw [y, h1] at e
  exact ho _ (Option.some.inj e).symm
structure Gd (ds : List D) (ts : List T) (k : Kd) (n : Nat) (e : Ex) : Prop where
  wf : WF e
  dp : e.dep ≤ n
  ty : ∀ m, ck ds ts e m = .ok k
theorem find_nodup : ∀ {ts : List T} {t : T}, (ts.map (·.n)).Nodup → t ∈ ts → ts.find? (fun x => decide (x.n = t.n)) = some t
  | x :: r, t, h, m => by
    rw [List.map_cons, List.nodup_cons] at h
    rcases List.mem_cons.mp m with e | m
    · subst e
      rw [List.find?_cons_of_pos (p := fun x : T => decide (x.n = t.n)) (decide_eq_true rfl)]
    · have ne : ¬ decide (x.n = t.n) = true := fun z => h.1 (by rw [of_decide_eq_true z]; exact List.mem_map.mpr ⟨t, m, rfl⟩)
      rw [List.find?_cons_of_neg (p := fun x : T => decide (x.n = t.n)) ne]
      exact find_nodup h.2 m
theorem Dr.nodup {ds : List D} {ts : List T} (h : Dr ds ts) : (ts.map (·.n)).Nodup := by
  rw [h.nm]
  exact List.Nodup.sublist (List.take_sublist ..) (by decide +kernel)
theorem ab_ok : ∀ z ∈ AB, PyData.strOk z = true := by decide +kernel
theorem kd_ok (k : Kd) : PyData.strOk (kdS k) = true := by cases k <;> decide +kernel
theorem gd_attr {ds : List D} {ts : List T} {k : Kd} {t : T} {n : Nat} (h : Dr ds ts) (m : t ∈ ts) (hk : t.k = kdS k) : Gd ds ts k n (.attr t.n) := by
  refine ⟨by rw [WF]; exact ab_ok _ (List.mem_of_mem_take (i := ts.length) (by rw [← h.nm]; exact List.mem_map.mpr ⟨t, m, rfl⟩)), by rw [Ex.dep]; exact Nat.zero_le _, fun j => ?_⟩
  have e : leafK ds ts (.attr t.n) = some k := by
    show (ts.find? _).bind _ = some k
    rw [find_nodup h.nodup m]
    show kdOf t.k = some k
    rw [hk, kdOf_S]
  rw [ck, e]
theorem gd_dim {ds : List D} {ts : List T} {x : D} {n : Nat} (h : Dr ds ts) (m : x ∈ ds) : Gd ds ts .i n (.dim x.n) := by
  refine ⟨by rw [WF]; exact h.dn x m, by rw [Ex.dep]; exact Nat.zero_le _, fun j => ?_⟩
  have e : leafK ds ts (.dim x.n) = some .i := if_pos (List.mem_map.mpr ⟨x, m, rfl⟩)
  rw [ck, e]
theorem gd_val {ds : List D} {ts : List T} {k : Kd} {v : V} {n : Nat} (h : v = .non ∨ (OfK k v ∧ isVal k v = true)) : Gd ds ts k n (.val (kdS k) v) := by
  refine ⟨?_, by rw [Ex.dep]; exact Nat.zero_le _, fun j => ?_⟩
  · rw [WF]
    refine ⟨?_, kd_ok k⟩
    rcases h with h | ⟨h, g⟩
    · exact .inl h
    · cases k with
      | i => exact .inr (.inl h)
      | f => exact .inr (.inr (.inl h))
      | t =>
        obtain ⟨z, rfl, h1, h2⟩ := h
        have h3 : ((z.length : Int) ≤ 200) := of_decide_eq_true g
        exact .inr (.inr (.inr ⟨z, rfl, h1, by omega⟩))
  · have e : leafK ds ts (.val (kdS k) v) = some k := by
      show (kdOf (kdS k)).bind _ = some k
      rw [kdOf_S]
      show (if v = .non ∨ isVal k v = true then some k else none) = some k
      rw [if_pos (h.elim .inl fun z => .inr z.2)]
    rw [ck, e]
section
variable {P : Program} {w : World} {K : PySem.W.Frag} {mg : Str → Option Value} {base : Heap}
def spLeaf (C : Addr) : Sp := fun vs H Q _ => ∃ (d l s : Addr) (k : Kd) (ds : List D) (ts : List T), vs = [.ref d, .ref s, ks k] ∧ StAt H d l ∧ ShapeAt H C s ds ts ∧ Dr ds ts ∧ ∀ H' r e, Kp d l H H' → ExAt H' r e → Gd ds ts k 0 e → Q r H'
theorem scLeaf : FnScope ["state", "shape", "kind", "names", "choice", "name", "word"] ["state", "shape", "kind"] (defScope sLeaf) := ⟨rfl, rfl, rfl, by decide +kernel, rfl, by decide +kernel, by decide +kernel⟩
theorem ok_leaf {f fN fT C f1 f2 : Addr} {fd fdN fdT : FuncData} (F : Fun K "_law_leaf" "_law_leaf" sLeaf f fd) (M : Nm mg) (S : ShC K C f1 f2) (FN : Fun K "_law_next" "_law_next" sNext fN fdN) (bN : Binds K fdN ["state", "bound"] []) (gN : mg "_law_next" = some (.ref fN))
    (GT : FnOk P w K mg base CX0 3 fT fdT ["state", "kind"] spThing) (kT : PySem.W.keepIn K (.ref fT) = true) (bT : Binds K fdT ["state", "kind"] []) (gT : mg "_law_thing" = some (.ref fT)) : FnOk P w K mg base CX0 4 f fd ["state", "shape", "kind"] (spLeaf C) := by
  have GN : FnOk P w K mg base CX0 1 fN fdN ["state", "bound"] spNext := ok_next FN M.int M.len
  refine F.ok scLeaf (fun vs H Q E h => ?_) (fun cdv A outer s H vs Q E hr h => ?_)
  · obtain ⟨d, l, s, k, ds, ts, rfl, _⟩ := h
    rfl
  · obtain ⟨d, l, s', k, ds, ts, rfl, St, hS, dr, q⟩ := h
    have hr1 := hr.mono (j := 1) (by decide)
    refine ⟨_, pss_cons (ps_setLc (i := 3) (own := [("name", 5), ("word", 6)]) (g := gTup K 2 (gCons (gName 5) (gCons (gName 6) gNil))) rfl scLeaf.nd rfl rfl (sw_true rfl rfl rfl (by decide +kernel)) (pi_tup (pe_fld (pv 1) rfl))
          (blkOk_by (N := ["state", "shape", "kind", "names", "choice", "name", "word"]) (sc := defScope sLeaf) (by decide +kernel))
          (fun _ _ _ _ _ => pg_tupK K rfl (by rfl) (pgs_cons (pg_name (i := 5) scLeaf.nd rfl (Or.inl rfl)) (pgs_cons (pg_name (i := 6) scLeaf.nd rfl (Or.inl rfl)) pgs_nil)))
          (fun _ _ _ _ _ => pts_one (pt_cmpR op_eq (pv 6) (pv 2) (nomark _))) (fun _ _ _ _ _ => pv 5))
      (pss_cons (ps_set (i := 4) scLeaf.nd rfl (.inl rfl) (pe_call GN hr1 (by rfl) gN FN.kp bN .nil pass0 (pa_cons (pv 0) (pa_cons pe_int pa_nil))))
      (Evl.pss_cut (ps_if (PW.pt (pw_and (pt_cmpR op_lt (pv 4) pe_int (nomark _)) (pw_and1 (pt_cmpR op_gt (pe_callB call_len_seq (by rfl) M.len PySem.boot_len (pa_cons (pv 3) pa_nil)) pe_int (nomark _)))))
          (pss_one (ps_ret (pe_tup (pa_cons pe_str (pa_cons (pe_ix ix_list (pv 3) (pe_call GN hr1 (by rfl) gN FN.kp bN .nil pass0 (pa_cons (pv 0) (pa_cons (pe_callB call_len_seq (by rfl) M.len PySem.boot_len (pa_cons (pv 3) pa_nil)) pa_nil))) (fun _ _ => rfl)) pa_nil))))) pss_nil)
      (Evl.pss_cut (ps_if (PW.pt (pw_and (pt_cmpR op_lt (pv 4) pe_int (nomark _)) (pw_and1 (pt_cmpR op_eq (pv 2) pe_str (nomark _)))))
          (pss_one (ps_ret (pe_tup (pa_cons pe_str (pa_cons (pe_ix ix_tup (pe_ix ix_tup (pe_fld (pv 1) rfl) (pe_call GN hr1 (by rfl) gN FN.kp bN .nil pass0 (pa_cons (pv 0) (pa_cons (pe_callB call_len_seq (by rfl) M.len PySem.boot_len (pa_cons (pe_fld (pv 1) rfl) pa_nil)) pa_nil))) (fun _ _ => rfl)) pe_int (fun _ _ => rfl)) pa_nil))))) pss_nil)
      (Evl.pss_cut (ps_if (PW.pt (pw_and (pt_cmpR op_eq (pv 4) pe_int (nomark _)) (pw_and1 (pt_cmpR op_eq (pe_call GN hr1 (by rfl) gN FN.kp bN .nil pass0 (pa_cons (pv 0) (pa_cons pe_int pa_nil))) pe_int (nomark _)))))
          (pss_one (ps_ret (pe_tup (pa_cons pe_str (pa_cons (pv 2) (pa_cons pe_non pa_nil)))))) pss_nil)
      (pss_one (ps_ret (pe_tup (pa_cons pe_str (pa_cons (pv 2) (pa_cons (pe_call GT hr (by rfl) gT kT bT .nil pass0 (pa_cons (pv 0) (pa_cons (pv 2) pa_nil))) pa_nil)))))))))), ?_⟩
    obtain ⟨dx, td, ta, xs, ys, h1, h2, h3, h4, h5⟩ := id hS
    have lx : xs.length = ds.length := by
      have := h3.1
      rwa [List.length_map] at this
    have ly : ys.length = ts.length := by
      have := h5.1
      rwa [List.length_map] at this
    refine ⟨_, rfl, s', C, dx, _, .ref ta, rfl, h1, S.cl, S.nA, rfl, ta, rfl, ⟨_, SqT.of h4⟩, fun D nD => ?_⟩
    refine lc_it (walk_tup (xs := ys)) (fun i H3 => Same H H3 ∧ H3 D = some (.lst (((ts.take i).filter fun t => decide (t.k = kdS k)).map fun t => V.str t.n))) ⟨same_new nD, upd_same⟩ (fun _ _ _ z => SqT.of (z.1 _ _ h4)) ?_ ?_
    · rintro i x H3 H' hi ⟨sm, hD⟩ ⟨rfl, hxi⟩
      have hi2 : i < ts.length := by omega
      obtain ⟨b, e1, e2⟩ := h5.2 i ts[i].v (by rw [List.getElem?_map, List.getElem?_eq_getElem hi2]; rfl)
      obtain rfl : x = .ref b := Option.some.inj (hxi.symm.trans e1)
      have etk : ts.take (i + 1) = ts.take i ++ [ts[i]] := by
        rw [List.take_add_one, List.getElem?_eq_getElem hi2]
        rfl
      refine ⟨b, _, rfl, SqT.of (sm _ _ e2), rfl, _, _, rfl, _, _, rfl, rfl, rfl, ?_⟩
      refine ⟨_, rfl, _, rfl, rfl, _, rfl, ?_⟩
      have es : decide (V.str ts[i].k = ks k) = decide (ts[i].k = kdS k) := str_eq _ _
      rw [es]
      by_cases e : ts[i].k = kdS k
      · refine iteB (decide_eq_true e) ⟨_, rfl, _, hD, ?_, same_put sm nD, ?_⟩
        · rw [List.length_map]
          exact small1000 (Nat.le_trans (List.length_filter_le ..) (by rw [List.length_take]; have := dr.t2; omega))
        · rw [upd_same, etk, List.filter_append, List.map_append]
          rw [show [ts[i]].filter (fun t => decide (t.k = kdS k)) = [ts[i]] from List.filter_cons_of_pos (decide_eq_true e)]
          rfl
      · refine iteBF (decide_eq_false e) ⟨sm, ?_⟩
        rw [etk, List.filter_append]
        rw [show [ts[i]].filter (fun t => decide (t.k = kdS k)) = [] from List.filter_cons_of_neg (by rw [decide_eq_false e]; decide), List.append_nil]
        exact hD
    · rintro H3 ⟨sm, hD⟩
      rw [ly, List.take_length] at hD
      have k3 : Kp d l H H3 := (Kp.refl St).same sm
      refine ⟨_, rfl, d, l, 6, rfl, k3.st, by decide, fun H4 n n0 n1 k4 => ?_⟩
      have k34 := k3.trans k4
      have hS4 := hS.same sm
      have nDd : D ≠ d := (St.nd nD).1
      have hD4 := k4.keep _ _ hD nDd
      obtain ⟨L, eL⟩ : ∃ L : List T, L = ts.filter fun t => decide (t.k = kdS k) := ⟨_, rfl⟩
      rw [← eL] at hD4
      have memL : ∀ t ∈ L, t ∈ ts ∧ t.k = kdS k := fun t h => by
        rw [eL] at h
        have := List.mem_filter.mp h
        exact ⟨this.1, of_decide_eq_true this.2⟩
      have sD : SqL K H4 D (L.map fun t => V.str t.n) := .inl (.inl hD4)
      refine ⟨fun σ H' => ∃ y5 y6, σ = [some (.ref d), some (.ref s'), some (ks k), some (.ref D), some (.int n), y5, y6] ∧ H' = H4, ?_, ?_⟩
      · refine ⟨_, rfl, n, 3, rfl, rfl, _, rfl, ?_⟩
        by_cases c1 : n < 3
        case neg => exact iteBF (decide_eq_false c1) (iteF ⟨_, _, rfl, rfl⟩)
        refine iteB (decide_eq_true c1) ⟨_, rfl, D, _, rfl, .inl sD, ((L.map fun t => V.str t.n).length : Int), 0, rfl, rfl, _, rfl, ?_⟩
        by_cases c2 : 0 < ((L.map fun t => V.str t.n).length : Int)
        case neg => exact iteBF (decide_eq_false c2) ⟨_, _, rfl, rfl⟩
        refine iteB (decide_eq_true c2) ?_
        refine ⟨_, rfl, _, rfl, _, rfl, D, _, rfl, .inl sD, d, l, _, rfl, k34.st, c2, fun H5 m m0 m1 k5 => ?_⟩
        obtain ⟨j, rfl⟩ : ∃ j : Nat, m = (j : Int) := ⟨_, (Int.toNat_of_nonneg m0).symm⟩
        have hj : j < L.length := by
          rw [List.length_map] at m1
          omega
        obtain ⟨hm1, hm2⟩ := memL _ (List.getElem_mem hj)
        refine ⟨D, _, _, .str L[j].n, rfl, rfl, .inl (.inl (k5.keep _ _ hD4 nDd)), atI_nat (by rw [List.getElem?_map, List.getElem?_eq_getElem hj]; rfl), (by show 2 ≤ sizeLine; decide), fun t nt => ?_⟩
        exact q _ _ (.attr L[j].n) ((k34.trans k5).new nt) (.attr upd_same) (gd_attr dr hm1 hm2)
      rintro σ H' ⟨y5, y6, rfl, rfl⟩
      obtain ⟨dx2, td2, ta2, zs, us, f1, f2, f3, f4, f5⟩ := hS4
      have g1 := k4.at k3.st f1 (fun _ z => nomatch z)
      have g2 := k4.at k3.st f2 (fun _ z => nomatch z)
      have g3 := f3.kp k3.st k4
      have lz : zs.length = ds.length := by
        have := g3.1
        rwa [List.length_map] at this
      refine ⟨fun σ H'' => σ = [some (.ref d), some (.ref s'), some (ks k), some (.ref D), some (.int n), y5, y6] ∧ H'' = H', ?_, ?_⟩
      · refine ⟨_, rfl, n, 4, rfl, rfl, _, rfl, ?_⟩
        by_cases c1 : n < 4
        case neg => exact iteBF (decide_eq_false c1) (iteF ⟨rfl, rfl⟩)
        refine iteB (decide_eq_true c1) ⟨_, rfl, rfl, _, rfl, ?_⟩
        have ek : decide (ks k = .str ("int" : Str)) = decide (k = .i) := ks_eq k .i
        rw [ek]
        by_cases c2 : k = .i
        case neg => exact iteBF (decide_eq_false c2) ⟨rfl, rfl⟩
        subst c2
        refine iteB (decide_eq_true rfl) ?_
        refine ⟨_, rfl, s', C, dx2, _, .ref td2, rfl, g1, S.cl, S.nD, rfl, _, rfl, _, rfl, s', C, dx2, _, .ref td2, rfl, g1, S.cl, S.nD, rfl, td2, zs, rfl, .inr (SqT.of g2), d, l, _, rfl, k34.st, (by have := dr.d1; omega), fun H5 m m0 m1 k5 => ?_⟩
        obtain ⟨j, rfl⟩ : ∃ j : Nat, m = (j : Int) := ⟨_, (Int.toNat_of_nonneg m0).symm⟩
        have hj : j < ds.length := by omega
        obtain ⟨b, e1, e2⟩ := (g3.kp k34.st k5).2 j ds[j].v (by rw [List.getElem?_map, List.getElem?_eq_getElem hj]; rfl)
        refine ⟨td2, zs, _, .ref b, rfl, rfl, SqT.of (k5.at k34.st g2 (fun _ z => nomatch z)), atI_nat e1, b, _, 0, .str ds[j].n, rfl, rfl, SqT.of e2, atI_nat (j := 0) rfl, (by show 2 ≤ sizeLine; decide), fun t nt => ?_⟩
        exact q _ _ (.dim ds[j].n) ((k34.trans k5).new nt) (.dim upd_same) (gd_dim dr (List.getElem_mem hj))
      rintro σ H'' ⟨rfl, rfl⟩
      refine ⟨fun σ H5 => σ = [some (.ref d), some (.ref s'), some (ks k), some (.ref D), some (.int n), y5, y6] ∧ Kp d l H H5, ?_, ?_⟩
      · refine ⟨_, rfl, rfl, _, rfl, ?_⟩
        by_cases c1 : V.int n = V.int 5
        case neg => exact iteBF (decide_eq_false c1) (iteF ⟨rfl, k34⟩)
        refine iteB (decide_eq_true c1) ⟨_, rfl, d, l, 3, rfl, k34.st, by decide, fun H5 m m0 m1 k5 => ⟨rfl, _, rfl, ?_⟩⟩
        have k35 := k34.trans k5
        by_cases c2 : V.int m = V.int 0
        case neg => exact iteBF (decide_eq_false c2) ⟨rfl, k35⟩
        refine iteB (decide_eq_true c2) ⟨_, rfl, (by show 3 ≤ sizeLine; decide), fun t nt => ?_⟩
        exact q _ _ (.val (kdS k) .non) (k35.new nt) (.val upd_same) (gd_val (.inl rfl))
      rintro σ H5 ⟨rfl, k5⟩
      refine ⟨_, rfl, _, rfl, _, rfl, d, l, k, rfl, k5.st, fun H6 v hv1 hv2 k6 => ⟨(by show 3 ≤ sizeLine; decide), fun t nt => ?_⟩⟩
      exact q _ _ (.val (kdS k) v) ((k5.trans k6).new nt) (.val upd_same) (gd_val (.inr ⟨hv1, hv2⟩))
end
end K2

namespace K2
open PySem L2
theorem cks1 {ds : List D} {ts : List T} {e : Ex} {m : Nat} {k : Kd} (h : ∀ m, ck ds ts e m = .ok k) : cks ds ts [e] m = .ok [k] := by rw [cks_one, h]
theorem cksC {ds : List D} {ts : List T} {e : Ex} {r : List Ex} {m : Nat} {k : Kd} {qs : List Kd} (h : ∀ m, ck ds ts e m = .ok k) (g : ∀ m, cks ds ts r m = .ok qs) : cks ds ts (e :: r) m = .ok (k :: qs) := by
  rw [cks, h]
  show (match cks ds ts r (m + e.size) with | .error m => Except.error m | .ok ks => .ok (k :: ks)) = _
  rw [g]
theorem gd_op1 {ds : List D} {ts : List T} {w : Str} {e : Ex} {k k1 : Kd} {n : Nat} (g : Gd ds ts k1 n e) (ha : ar w = some 1) (hj : joint w [k1] = some k) : Gd ds ts k (n + 1) (.op w [e]) := by
  refine ⟨by rw [WF, WFs, WFs]; exact ⟨ha, g.wf, trivial⟩, ?_, fun m => ?_⟩
  · rw [Ex.dep, Ex.deps, Ex.deps]
    have := g.dp
    omega
  · rw [ck, cks1 g.ty]
    show (match joint w [k1] with | some k => Except.ok k | none => .error m) = _
    rw [hj]
theorem gd_op2 {ds : List D} {ts : List T} {w : Str} {e1 e2 : Ex} {k k1 k2 : Kd} {n : Nat} (g1 : Gd ds ts k1 n e1) (g2 : Gd ds ts k2 n e2) (ha : ar w = some 2) (hj : joint w [k1, k2] = some k) : Gd ds ts k (n + 1) (.op w [e1, e2]) := by
  refine ⟨by rw [WF, WFs, WFs, WFs]; exact ⟨ha, g1.wf, g2.wf, trivial⟩, ?_, fun m => ?_⟩
  · rw [Ex.dep, Ex.deps, Ex.deps, Ex.deps]
    have := g1.dp
    have := g2.dp
    omega
  · rw [ck, cksC g1.ty fun m => cks1 g2.ty]
    show (match joint w [k1, k2] with | some k => Except.ok k | none => .error m) = _
    rw [hj]
theorem gd_op3 {ds : List D} {ts : List T} {w : Str} {e1 e2 e3 : Ex} {k k1 k2 k3 : Kd} {n : Nat} (g1 : Gd ds ts k1 n e1) (g2 : Gd ds ts k2 n e2) (g3 : Gd ds ts k3 n e3) (ha : ar w = some 3) (hj : joint w [k1, k2, k3] = some k) : Gd ds ts k (n + 1) (.op w [e1, e2, e3]) := by
  refine ⟨by rw [WF, WFs, WFs, WFs, WFs]; exact ⟨ha, g1.wf, g2.wf, g3.wf, trivial⟩, ?_, fun m => ?_⟩
  · rw [Ex.dep, Ex.deps, Ex.deps, Ex.deps, Ex.deps]
    have := g1.dp
    have := g2.dp
    have := g3.dp
    omega
  · rw [ck, cksC g1.ty fun m => cksC g2.ty fun m => cks1 g3.ty]
    show (match joint w [k1, k2, k3] with | some k => Except.ok k | none => .error m) = _
    rw [hj]
theorem Gd.mono {ds : List D} {ts : List T} {e : Ex} {k : Kd} {n m : Nat} (g : Gd ds ts k n e) (h : n ≤ m) : Gd ds ts k m e := ⟨g.wf, Nat.le_trans g.dp h, g.ty⟩
theorem ex1 {H : Hp} {a : Addr} {w : Str} {r : V} {e : Ex} (h : H a = some (.tup [.str w, r])) (x : ExAt H r e) (nw : w ∉ LV) : ExAt H (.ref a) (.op w [e]) := .op h (.cons x .nil) nw (by simp)
theorem ex2 {H : Hp} {a : Addr} {w : Str} {r1 r2 : V} {e1 e2 : Ex} (h : H a = some (.tup [.str w, r1, r2])) (x : ExAt H r1 e1) (y : ExAt H r2 e2) (nw : w ∉ LV) : ExAt H (.ref a) (.op w [e1, e2]) := .op h (.cons x (.cons y .nil)) nw (by simp)
theorem ex3 {H : Hp} {a : Addr} {w : Str} {r1 r2 r3 : V} {e1 e2 e3 : Ex} (h : H a = some (.tup [.str w, r1, r2, r3])) (x : ExAt H r1 e1) (y : ExAt H r2 e2) (z : ExAt H r3 e3) (nw : w ∉ LV) : ExAt H (.ref a) (.op w [e1, e2, e3]) := .op h (.cons x (.cons y (.cons z .nil))) nw (by simp)
theorem ShapeAt.kp {d l : Addr} {H H1 : Hp} {C a : Addr} {ds : List D} {ts : List T} (h : ShapeAt H C a ds ts) (S : StAt H d l) (k : Kp d l H H1) : ShapeAt H1 C a ds ts := by
  obtain ⟨dx, td, ta, xs, ys, h1, h2, h3, h4, h5⟩ := h
  exact ⟨dx, td, ta, xs, ys, k.at S h1 (fun _ z => nomatch z), k.at S h2 (fun _ z => nomatch z), h3.kp S k, k.at S h4 (fun _ z => nomatch z), h5.kp S k⟩
def K3 : List Str := ["int", "flag", "text"]
def K5 : List Str := ["int", "int", "int", "text", "flag"]
def AO : List Str := ["and", "or"]
def NA : List Str := ["neg", "abs"]
theorem k3_tab : ∀ z ∈ K3, ∃ q, z = kdS q := by
  intro z h
  rcases List.mem_cons.mp h with rfl | h
  · exact ⟨.i, rfl⟩
  rcases List.mem_cons.mp h with rfl | h
  · exact ⟨.f, rfl⟩
  rcases List.mem_cons.mp h with rfl | h
  · exact ⟨.t, rfl⟩
  · exact absurd h List.not_mem_nil
theorem k5_tab : ∀ z ∈ K5, ∃ q, z = kdS q := fun z h => k3_tab z (by
  have : ∀ z ∈ K5, z ∈ K3 := by decide +kernel
  exact this z h)
theorem cmp_t : ∀ w ∈ CMP, ∀ k ∈ QS, ar w = some 2 ∧ joint w [k, k] = some .f ∧ w ∉ LV := by decide +kernel
theorem ao_t : ∀ w ∈ AO, ar w = some 2 ∧ joint w [.f, .f] = some .f ∧ w ∉ LV := by decide +kernel
theorem na_t : ∀ w ∈ NA, ar w = some 1 ∧ joint w [.i] = some .i ∧ w ∉ LV := by decide +kernel
theorem a5_t : ∀ w ∈ A5, ar w = some 2 ∧ joint w [.i, .i] = some .i ∧ w ∉ LV := by decide +kernel
theorem mi_t : ∀ k ∈ QS, joint "is missing" [k] = some .f := by decide +kernel
theorem if_t : ∀ k ∈ QS, joint "if" [.f, k, k] = some k := by decide +kernel
theorem oe_t : ∀ k ∈ QS, joint "or else" [k, k] = some k := by decide +kernel
section
variable {P : Program} {w : World} {K : PySem.W.Frag} {mg : Str → Option Value} {base : Heap}
def spE (C : Addr) (n : Nat) : Sp := fun vs H Q _ => ∃ (d l s : Addr) (k : Kd) (z : Nat) (ds : List D) (ts : List T), vs = [.ref d, .ref s, ks k, .int (z : Int)] ∧ z < n ∧ StAt H d l ∧ ShapeAt H C s ds ts ∧ Dr ds ts ∧ ∀ H' r e, Kp d l H H' → ExAt H' r e → Gd ds ts k z e → Q r H'
def spFl (C : Addr) (n : Nat) : Sp := fun vs H Q _ => ∃ (d l s : Addr) (z : Nat) (ds : List D) (ts : List T), vs = [.ref d, .ref s, .int ((z + 1 : Nat) : Int)] ∧ z < n ∧ StAt H d l ∧ ShapeAt H C s ds ts ∧ Dr ds ts ∧ ∀ H' r e, Kp d l H H' → ExAt H' r e → Gd ds ts .f (z + 1) e → Q r H'
theorem scFlag : FnScope ["state", "shape", "depth", "choice", "word", "kind"] ["state", "shape", "depth"] (defScope sFlag) := ⟨rfl, rfl, rfl, by decide +kernel, rfl, by decide +kernel, by decide +kernel⟩
theorem ok_flag {f fN fE C : Addr} {fd fdN fdE : FuncData} {n lv : Nat} (F : Fun K "_law_flag" "_law_flag" sFlag f fd) (M : Nm mg) (FN : Fun K "_law_next" "_law_next" sNext fN fdN) (bN : Binds K fdN ["state", "bound"] []) (gN : mg "_law_next" = some (.ref fN))
    (GE : FnOk P w K mg base CX0 lv fE fdE ["state", "shape", "kind", "depth"] (spE C n)) (kE : PySem.W.keepIn K (.ref fE) = true) (bE : Binds K fdE ["state", "shape", "kind", "depth"] []) (gE : mg "_law_expression" = some (.ref fE)) (hl : 1 ≤ lv) : FnOk P w K mg base CX0 (lv + 1) f fd ["state", "shape", "depth"] (spFl C n) := by
  have GN : FnOk P w K mg base CX0 1 fN fdN ["state", "bound"] spNext := ok_next FN M.int M.len
  refine F.ok scFlag (fun vs H Q E h => ?_) (fun cdv A outer s H vs Q E hr h => ?_)
  · obtain ⟨d, l, s, z, ds, ts, rfl, _⟩ := h
    rfl
  · obtain ⟨d, l, s', z, ds, ts, rfl, hz, St, hS, dr, q⟩ := h
    have hr1 := hr.mono (j := 1) hl
    refine ⟨_, pss_cons (ps_set (i := 3) scFlag.nd rfl (.inl rfl) (pe_call GN hr1 (by rfl) gN FN.kp bN .nil pass0 (pa_cons (pv 0) (pa_cons pe_int pa_nil))))
      (pss_cons (ps_if (pt_cmpR op_eq (pv 3) pe_int (nomark _)) (pss_one (ps_ret (pe_tup (pa_cons pe_str (pa_cons (pe_call GE hr (by rfl) gE kE bE .nil pass0 (pa_cons (pv 0) (pa_cons (pv 1) (pa_cons pe_str (pa_cons (pe_op op_sub (pv 2) pe_int) pa_nil))))) pa_nil))))) pss_nil)
      (pss_cons (ps_if (pt_cmpR op_eq (pv 3) pe_int (nomark _)) (pss_one (ps_ret (pe_tup (pa_cons pe_str (pa_cons (pe_call GE hr (by rfl) gE kE bE .nil pass0 (pa_cons (pv 0) (pa_cons (pv 1) (pa_cons (pe_ix ix_list (pe_lst (pa_cons pe_str (pa_cons pe_str (pa_cons pe_str pa_nil))))
          (pe_call GN hr1 (by rfl) gN FN.kp bN .nil pass0 (pa_cons (pv 0) (pa_cons pe_int pa_nil))) (fun _ _ => rfl)) (pa_cons (pe_op op_sub (pv 2) pe_int) pa_nil))))) pa_nil))))) pss_nil)
      (pss_cons (ps_if (pt_cmpR op_lt (pv 3) pe_int (nomark _)) (pss_cons (ps_set (i := 4) scFlag.nd rfl (.inl rfl) (pe_ix ix_list (pe_lst (pa_cons pe_str (pa_cons pe_str pa_nil))) (pe_op op_sub (pv 3) pe_int) (fun _ _ => rfl)))
          (pss_one (ps_ret (pe_tup (pa_cons (pv 4) (pa_cons (pe_call GE hr (by rfl) gE kE bE .nil pass0 (pa_cons (pv 0) (pa_cons (pv 1) (pa_cons pe_str (pa_cons (pe_op op_sub (pv 2) pe_int) pa_nil))))) (pa_cons (pe_call GE hr (by rfl) gE kE bE .nil pass0 (pa_cons (pv 0) (pa_cons (pv 1) (pa_cons pe_str (pa_cons (pe_op op_sub (pv 2) pe_int) pa_nil))))) pa_nil))))))) pss_nil)
      (pss_cons (ps_set (i := 5) scFlag.nd rfl (.inl rfl) (pe_ix ix_list (pe_lst (pa_cons pe_str (pa_cons pe_str (pa_cons pe_str (pa_cons pe_str (pa_cons pe_str pa_nil)))))) (pe_call GN hr1 (by rfl) gN FN.kp bN .nil pass0 (pa_cons (pv 0) (pa_cons pe_int pa_nil))) (fun _ _ => rfl)))
      (pss_cons (ps_set (i := 4) scFlag.nd rfl (.inl rfl) (pe_ix ix_list (pe_lst (pa_cons pe_str (pa_cons pe_str (pa_cons pe_str (pa_cons pe_str (pa_cons pe_str (pa_cons pe_str pa_nil))))))) (pe_call GN hr1 (by rfl) gN FN.kp bN .nil pass0 (pa_cons (pv 0) (pa_cons pe_int pa_nil))) (fun _ _ => rfl)))
      (pss_one (ps_ret (pe_tup (pa_cons (pv 4) (pa_cons (pe_call GE hr (by rfl) gE kE bE .nil pass0 (pa_cons (pv 0) (pa_cons (pv 1) (pa_cons (pv 5) (pa_cons (pe_op op_sub (pv 2) pe_int) pa_nil))))) (pa_cons (pe_call GE hr (by rfl) gE kE bE .nil pass0 (pa_cons (pv 0) (pa_cons (pv 1) (pa_cons (pv 5) (pa_cons (pe_op op_sub (pv 2) pe_int) pa_nil))))) pa_nil)))))))))))
      , ?_⟩
    have ez : ((z + 1 : Nat) : Int) - 1 = (z : Int) := by omega
    have ev : ∀ u : V, [V.ref d, V.ref s', u, V.int (((z + 1 : Nat) : Int) - 1)] = [V.ref d, V.ref s', u, V.int (z : Int)] := fun u => by rw [ez]
    refine ⟨_, rfl, d, l, 9, rfl, St, by decide, fun H1 n0 n1 n2 k1 => ?_⟩
    have hS1 := hS.kp St k1
    refine ⟨_, rfl, rfl, _, rfl, ite2 (fun _ => ?_) (fun _ => ?_)⟩
    · refine ⟨_, rfl, _, rfl, _, rfl, _, 1, rfl, rfl, d, l, s', .f, z, ds, ts, ev (ks .f), hz, k1.st, hS1, dr, fun H2 r e k2 x g => ⟨(by show 2 ≤ sizeLine; decide), fun t nt => ?_⟩⟩
      exact q _ _ _ ((k1.trans k2).new nt) (ex1 upd_same (x.same (same_new nt)) (by decide +kernel)) (gd_op1 g (by decide +kernel) (by decide +kernel))
    refine ⟨_, rfl, rfl, _, rfl, ite2 (fun _ => ?_) (fun _ => ?_)⟩
    · refine ⟨_, rfl, _, rfl, (by show 3 ≤ sizeLine; decide), fun o no => ?_⟩
      have k2 := k1.new (o := .lst (K3.map V.str)) no
      refine ⟨_, rfl, d, l, 3, rfl, k2.st, by decide, fun H3 m m0 m1 k3 => ?_⟩
      obtain ⟨kz, hkz, hat⟩ := str_in (ms := K3) rfl m0 m1
      obtain ⟨qk, rfl⟩ := k3_tab kz hkz
      have k23 := k2.trans k3
      refine ⟨o, _, _, _, rfl, rfl, .inl (.inl (k3.keep _ _ upd_same (k1.st.nd no).1)), hat, _, rfl, _, 1, rfl, rfl, d, l, s', qk, z, ds, ts, ev (ks qk), hz, k23.st, hS.kp St k23, dr, fun H4 r e k4 x g => ⟨(by show 2 ≤ sizeLine; decide), fun t nt => ?_⟩⟩
      exact q _ _ _ ((k23.trans k4).new nt) (ex1 upd_same (x.same (same_new nt)) (by decide +kernel)) (gd_op1 g (by decide +kernel) (mi_t qk (qs_in qk)))
    rename_i hn0 hn1
    have hn0' : n0 ≠ 0 := fun h => by rw [h] at hn0; exact absurd hn0 (by decide)
    have hn1' : n0 ≠ 1 := fun h => by rw [h] at hn1; exact absurd hn1 (by decide)
    refine ⟨_, rfl, n0, 4, rfl, rfl, _, rfl, ?_⟩
    by_cases c : n0 < 4
    · refine iteB (decide_eq_true c) ⟨(by show 2 ≤ sizeLine; decide), fun o no => ?_⟩
      have k2 := k1.new (o := .lst (AO.map V.str)) no
      obtain ⟨wz, hwz, hat⟩ := str_in (ms := AO) (n := n0 - 2) rfl (by omega) (by show n0 - 2 < ((2 : Nat) : Int); omega)
      obtain ⟨t1, t2, t3⟩ := ao_t wz hwz
      refine ⟨_, rfl, n0, 2, rfl, rfl, o, _, _, _, rfl, rfl, .inl (.inl upd_same), hat, ?_⟩
      refine ⟨_, rfl, _, rfl, _, rfl, _, rfl, _, 1, rfl, rfl, d, l, s', .f, z, ds, ts, ev (ks .f), hz, k2.st, hS.kp St k2, dr, fun H4 r e k4 x g => ?_⟩
      have k24 := k2.trans k4
      refine ⟨_, rfl, _, rfl, _, rfl, _, 1, rfl, rfl, d, l, s', .f, z, ds, ts, ev (ks .f), hz, k24.st, hS.kp St k24, dr, fun H5 r2 e2 k5 x2 g2 => ⟨(by show 3 ≤ sizeLine; decide), fun t nt => ?_⟩⟩
      exact q _ _ _ ((k24.trans k5).new nt) (ex2 upd_same ((x.kp k24.st k5).same (same_new nt)) (x2.same (same_new nt)) t3) (gd_op2 g g2 t1 t2)
    refine iteBF (decide_eq_false c) ⟨(by show 5 ≤ sizeLine; decide), fun o no => ?_⟩
    have k2 := k1.new (o := .lst (K5.map V.str)) no
    refine ⟨_, rfl, d, l, 5, rfl, k2.st, by decide, fun H3 m m0 m1 k3 => ?_⟩
    obtain ⟨kz, hkz, hat⟩ := str_in (ms := K5) rfl m0 m1
    obtain ⟨qk, rfl⟩ := k5_tab kz hkz
    have k23 := k2.trans k3
    refine ⟨o, _, _, _, rfl, rfl, .inl (.inl (k3.keep _ _ upd_same (k1.st.nd no).1)), hat, (by show 6 ≤ sizeLine; decide), fun o2 no2 => ?_⟩
    have k4 := k23.new (o := .lst (CMP.map V.str)) no2
    refine ⟨_, rfl, d, l, 6, rfl, k4.st, by decide, fun H5 m2 m20 m21 k5 => ?_⟩
    obtain ⟨wz, hwz, hat2⟩ := str_in (ms := CMP) rfl m20 m21
    obtain ⟨t1, t2, t3⟩ := cmp_t wz hwz qk (qs_in qk)
    have k45 := k4.trans k5
    refine ⟨o2, _, _, _, rfl, rfl, .inl (.inl (k5.keep _ _ upd_same (k23.st.nd no2).1)), hat2, ?_⟩
    refine ⟨_, rfl, _, rfl, _, rfl, _, rfl, _, rfl, _, 1, rfl, rfl, d, l, s', qk, z, ds, ts, ev (ks qk), hz, k45.st, hS.kp St k45, dr, fun H6 r e k6 x g => ?_⟩
    have k56 := k45.trans k6
    refine ⟨_, rfl, _, rfl, _, rfl, _, rfl, _, 1, rfl, rfl, d, l, s', qk, z, ds, ts, ev (ks qk), hz, k56.st, hS.kp St k56, dr, fun H7 r2 e2 k7 x2 g2 => ⟨(by show 3 ≤ sizeLine; decide), fun t nt => ?_⟩⟩
    exact q _ _ _ ((k56.trans k7).new nt) (ex2 upd_same ((x.kp k56.st k7).same (same_new nt)) (x2.same (same_new nt)) t3) (gd_op2 g g2 t1 t2)
end
end K2

namespace K2
open PySem L2
section
variable {P : Program} {w : World} {K : PySem.W.Frag} {mg : Str → Option Value} {base : Heap}
theorem scExpr : FnScope ["state", "shape", "kind", "depth", "choice", "parts", "word"] ["state", "shape", "kind", "depth"] (defScope sExpr) := ⟨rfl, rfl, rfl, by decide +kernel, rfl, by decide +kernel, by decide +kernel⟩
theorem ok_expr {f fN fL fF C : Addr} {fd fdN fdL fdF : FuncData} (F : Fun K "_law_expression" "_law_expression" sExpr f fd) (gF : mg "_law_expression" = some (.ref f)) (bF : Binds K fd ["state", "shape", "kind", "depth"] []) (M : Nm mg) (FN : Fun K "_law_next" "_law_next" sNext fN fdN) (bN : Binds K fdN ["state", "bound"] []) (gN : mg "_law_next" = some (.ref fN))
    (GL : FnOk P w K mg base CX0 4 fL fdL ["state", "shape", "kind"] (spLeaf C)) (kL : PySem.W.keepIn K (.ref fL) = true) (bL : Binds K fdL ["state", "shape", "kind"] []) (gL : mg "_law_leaf" = some (.ref fL))
    (FF : Fun K "_law_flag" "_law_flag" sFlag fF fdF) (bFF : Binds K fdF ["state", "shape", "depth"] []) (gFF : mg "_law_flag" = some (.ref fF)) : ∀ n : Nat, FnOk P w K mg base CX0 (5 + 2 * n) f fd ["state", "shape", "kind", "depth"] (spE C n) := by
  have GN : FnOk P w K mg base CX0 1 fN fdN ["state", "bound"] spNext := ok_next FN M.int M.len
  intro n
  induction n with
  | zero =>
    refine F.ok scExpr (fun vs H Q E h => ?_) (fun cdv A outer s H vs Q E hr h => ?_)
    · obtain ⟨d, l, s, k, z, ds, ts, rfl, _⟩ := h
      rfl
    · obtain ⟨d, l, s, k, z, ds, ts, rfl, hz, _⟩ := h
      exact absurd hz (Nat.not_lt_zero _)
  | succ n ih =>
    have GF : FnOk P w K mg base CX0 (5 + 2 * n + 1) fF fdF ["state", "shape", "depth"] (spFl C n) := ok_flag FF M FN bN gN ih F.kp bF gF (by omega)
    have e7 : 5 + 2 * (n + 1) = (6 + 2 * n) + 1 := by omega
    rw [e7]
    refine F.ok scExpr (fun vs H Q E h => ?_) (fun cdv A outer s H vs Q E hr h => ?_)
    · obtain ⟨d, l, s, k, z, ds, ts, rfl, _⟩ := h
      rfl
    · obtain ⟨d, l, s', k, z, ds, ts, rfl, hz, St, hS, dr, q⟩ := h
      have hr1 := hr.mono (j := 1) (by omega)
      have hr4 := hr.mono (j := 4) (by omega)
      have hre := hr.mono (j := 5 + 2 * n) (by omega)
      have hrf := hr.mono (j := 5 + 2 * n + 1) (by omega)
      refine ⟨_, pss_cons (ps_set (i := 4) scExpr.nd rfl (.inl rfl) (pe_call GN hr1 (by rfl) gN FN.kp bN .nil pass0 (pa_cons (pv 0) (pa_cons pe_int pa_nil))))
        (pss_cons (ps_if (PW.pt (pw_or (pt_cmpR op_le (pv 3) pe_int (nomark _)) (pw_or1 (pt_cmpR op_eq (pv 4) pe_int (nomark _))))) (pss_one (ps_ret (pe_call GL hr4 (by rfl) gL kL bL .nil pass0 (pa_cons (pv 0) (pa_cons (pv 1) (pa_cons (pv 2) pa_nil)))))) pss_nil)
        (pss_cons (ps_if (pt_cmpR op_eq (pv 4) pe_int (nomark _)) (pss_cons (ps_set (i := 5) scExpr.nd rfl (.inl rfl) (pe_tup (pa_cons (pe_call ih hre (by rfl) gF F.kp bF .nil pass0 (pa_cons (pv 0) (pa_cons (pv 1) (pa_cons (pv 2) (pa_cons (pe_op op_sub (pv 3) pe_int) pa_nil)))))
              (pa_cons (pe_call ih hre (by rfl) gF F.kp bF .nil pass0 (pa_cons (pv 0) (pa_cons (pv 1) (pa_cons (pv 2) (pa_cons (pe_op op_sub (pv 3) pe_int) pa_nil))))) pa_nil))))
            (pss_one (ps_ret (pe_op op_catT (pe_tup (pa_cons pe_str (pa_cons (pe_call ih hre (by rfl) gF F.kp bF .nil pass0 (pa_cons (pv 0) (pa_cons (pv 1) (pa_cons pe_str (pa_cons (pe_op op_sub (pv 3) pe_int) pa_nil))))) pa_nil))) (pv 5))))) pss_nil)
        (pss_cons (ps_if (pt_cmpR op_eq (pv 4) pe_int (nomark _)) (pss_one (ps_ret (pe_tup (pa_cons pe_str (pa_cons (pe_call ih hre (by rfl) gF F.kp bF .nil pass0 (pa_cons (pv 0) (pa_cons (pv 1) (pa_cons (pv 2) (pa_cons (pe_op op_sub (pv 3) pe_int) pa_nil)))))
              (pa_cons (pe_call ih hre (by rfl) gF F.kp bF .nil pass0 (pa_cons (pv 0) (pa_cons (pv 1) (pa_cons (pv 2) (pa_cons (pe_op op_sub (pv 3) pe_int) pa_nil))))) pa_nil)))))) pss_nil)
        (pss_cons (ps_if (pt_cmpR op_eq (pv 2) pe_str (nomark _)) (pss_one (ps_ret (pe_call GF hrf (by rfl) gFF FF.kp bFF .nil pass0 (pa_cons (pv 0) (pa_cons (pv 1) (pa_cons (pv 3) pa_nil)))))) pss_nil)
        (pss_cons (ps_if (pt_cmpR op_eq (pv 2) pe_str (nomark _)) (pss_one (ps_ret (pe_tup (pa_cons pe_str (pa_cons (pe_call ih hre (by rfl) gF F.kp bF .nil pass0 (pa_cons (pv 0) (pa_cons (pv 1) (pa_cons (pv 2) (pa_cons (pe_op op_sub (pv 3) pe_int) pa_nil)))))
              (pa_cons (pe_call ih hre (by rfl) gF F.kp bF .nil pass0 (pa_cons (pv 0) (pa_cons (pv 1) (pa_cons (pv 2) (pa_cons (pe_op op_sub (pv 3) pe_int) pa_nil))))) pa_nil)))))) pss_nil)
        (pss_cons (ps_if (pt_cmpR op_eq (pv 4) pe_int (nomark _)) (pss_one (ps_ret (pe_tup (pa_cons pe_str (pa_cons (pe_call ih hre (by rfl) gF F.kp bF .nil pass0 (pa_cons (pv 0) (pa_cons (pv 1) (pa_cons pe_str (pa_cons (pe_op op_sub (pv 3) pe_int) pa_nil))))) pa_nil))))) pss_nil)
        (pss_cons (ps_if (pt_cmpR op_eq (pv 4) pe_int (nomark _)) (pss_one (ps_ret (pe_tup (pa_cons (pe_ix ix_list (pe_lst (pa_cons pe_str (pa_cons pe_str pa_nil))) (pe_call GN hr1 (by rfl) gN FN.kp bN .nil pass0 (pa_cons (pv 0) (pa_cons pe_int pa_nil))) (fun _ _ => rfl))
              (pa_cons (pe_call ih hre (by rfl) gF F.kp bF .nil pass0 (pa_cons (pv 0) (pa_cons (pv 1) (pa_cons (pv 2) (pa_cons (pe_op op_sub (pv 3) pe_int) pa_nil))))) pa_nil))))) pss_nil)
        (pss_cons (ps_set (i := 6) scExpr.nd rfl (.inl rfl) (pe_ix ix_list (pe_lst (pa_cons pe_str (pa_cons pe_str (pa_cons pe_str (pa_cons pe_str (pa_cons pe_str pa_nil)))))) (pe_call GN hr1 (by rfl) gN FN.kp bN .nil pass0 (pa_cons (pv 0) (pa_cons pe_int pa_nil))) (fun _ _ => rfl)))
        (pss_one (ps_ret (pe_tup (pa_cons (pv 6) (pa_cons (pe_call ih hre (by rfl) gF F.kp bF .nil pass0 (pa_cons (pv 0) (pa_cons (pv 1) (pa_cons (pv 2) (pa_cons (pe_op op_sub (pv 3) pe_int) pa_nil)))))
              (pa_cons (pe_call ih hre (by rfl) gF F.kp bF .nil pass0 (pa_cons (pv 0) (pa_cons (pv 1) (pa_cons (pv 2) (pa_cons (pe_op op_sub (pv 3) pe_int) pa_nil))))) pa_nil)))))))))))))), ?_⟩
      refine ⟨_, rfl, d, l, 10, rfl, St, by decide, fun H1 c c0 c1 k1 => ?_⟩
      have hS1 := hS.kp St k1
      refine ⟨_, rfl, (z : Int), 0, rfl, rfl, _, rfl, ?_⟩
      by_cases hz0 : (z : Int) ≤ 0
      · exact iteB (decide_eq_true hz0) ⟨_, rfl, _, rfl, _, rfl, d, l, s', k, ds, ts, rfl, k1.st, hS1, dr, fun H2 r e k2 x g => q _ _ _ (k1.trans k2) x (g.mono (Nat.zero_le _))⟩
      refine iteBF (decide_eq_false hz0) ⟨_, rfl, rfl, _, rfl, ite2 (fun _ => ?_) (fun _ => ?_)⟩
      · exact ⟨_, rfl, _, rfl, _, rfl, d, l, s', k, ds, ts, rfl, k1.st, hS1, dr, fun H2 r e k2 x g => q _ _ _ (k1.trans k2) x (g.mono (Nat.zero_le _))⟩
      obtain ⟨y, rfl⟩ : ∃ y, z = y + 1 := ⟨z - 1, by omega⟩
      have hy : y < n := by omega
      have ez : ((y + 1 : Nat) : Int) - 1 = (y : Int) := by omega
      have ev : ∀ u : V, [V.ref d, V.ref s', u, V.int (((y + 1 : Nat) : Int) - 1)] = [V.ref d, V.ref s', u, V.int (y : Int)] := fun u => by rw [ez]
      refine ⟨_, rfl, rfl, _, rfl, ite2 (fun _ => ?_) (fun _ => ?_)⟩
      · refine ⟨_, rfl, _, rfl, _, rfl, _, rfl, _, 1, rfl, rfl, d, l, s', k, y, ds, ts, ev (ks k), hy, k1.st, hS1, dr, fun H2 r1 e1 k2 x1 g1 => ?_⟩
        have k12 := k1.trans k2
        refine ⟨_, rfl, _, rfl, _, rfl, _, rfl, _, 1, rfl, rfl, d, l, s', k, y, ds, ts, ev (ks k), hy, k12.st, hS.kp St k12, dr, fun H3 r2 e2 k3 x2 g2 => ⟨(by show 2 ≤ sizeLine; decide), fun t nt => ?_⟩⟩
        have k13 := (k12.trans k3).new (o := .tup [r1, r2]) nt
        have x1' := (x1.kp k12.st k3).same (same_new (o := .tup [r1, r2]) nt)
        have x2' := x2.same (same_new (o := .tup [r1, r2]) nt)
        refine ⟨_, rfl, _, rfl, _, rfl, _, 1, rfl, rfl, d, l, s', .f, y, ds, ts, ev (ks .f), hy, k13.st, hS.kp St k13, dr, fun H4 r3 e3 k4 x3 g3 => ⟨(by show 2 ≤ sizeLine; decide), fun t2 nt2 => ?_⟩⟩
        have k14 := (k13.trans k4).new (o := .tup [.str "if", r3]) nt2
        have ht := same_new (o := .tup [.str "if", r3]) nt2 _ _ (k4.at k13.st upd_same (fun _ z => nomatch z))
        refine ⟨_, rfl, t2, t, _, _, rfl, rfl, SqT.of upd_same, SqT.of ht, (by simp), (by show 2 + 2 ≤ sizeLine; decide), (fun h => absurd h (by simp)), fun _ p3 np3 => ?_⟩
        have s5 := (same_new (o := .tup [.str "if", r3]) nt2).trans (same_new (o := .tup ([.str "if", r3] ++ [r1, r2])) np3)
        exact q _ _ _ (k14.new np3) (ex3 upd_same (x3.same s5) ((x1'.kp k13.st k4).same s5) ((x2'.kp k13.st k4).same s5) (by decide +kernel)) (gd_op3 g3 g1 g2 (by decide +kernel) (if_t k (qs_in k)))
      refine ⟨_, rfl, rfl, _, rfl, ite2 (fun _ => ?_) (fun _ => ?_)⟩
      · refine ⟨_, rfl, _, rfl, _, rfl, _, rfl, _, 1, rfl, rfl, d, l, s', k, y, ds, ts, ev (ks k), hy, k1.st, hS1, dr, fun H2 r1 e1 k2 x1 g1 => ?_⟩
        have k12 := k1.trans k2
        refine ⟨_, rfl, _, rfl, _, rfl, _, rfl, _, 1, rfl, rfl, d, l, s', k, y, ds, ts, ev (ks k), hy, k12.st, hS.kp St k12, dr, fun H3 r2 e2 k3 x2 g2 => ⟨(by show 3 ≤ sizeLine; decide), fun t nt => ?_⟩⟩
        exact q _ _ _ ((k12.trans k3).new nt) (ex2 upd_same ((x1.kp k12.st k3).same (same_new nt)) (x2.same (same_new nt)) (by decide +kernel)) (gd_op2 g1 g2 (by decide +kernel) (oe_t k (qs_in k)))
      refine ⟨_, rfl, rfl, _, rfl, ?_⟩
      rw [show decide (ks k = .str ("flag" : Str)) = decide (k = .f) from ks_eq k .f]
      by_cases kf : k = .f
      · subst kf
        exact iteB (decide_eq_true rfl) ⟨_, rfl, _, rfl, _, rfl, d, l, s', y, ds, ts, rfl, hy, k1.st, hS1, dr, fun H2 r e k2 x g => q _ _ _ (k1.trans k2) x g⟩
      refine iteBF (decide_eq_false kf) ⟨_, rfl, rfl, _, rfl, ?_⟩
      rw [show decide (ks k = .str ("text" : Str)) = decide (k = .t) from ks_eq k .t]
      by_cases kt : k = .t
      · subst kt
        refine iteB (decide_eq_true rfl) ⟨_, rfl, _, rfl, _, rfl, _, rfl, _, 1, rfl, rfl, d, l, s', .t, y, ds, ts, ev (ks .t), hy, k1.st, hS1, dr, fun H2 r1 e1 k2 x1 g1 => ?_⟩
        have k12 := k1.trans k2
        refine ⟨_, rfl, _, rfl, _, rfl, _, rfl, _, 1, rfl, rfl, d, l, s', .t, y, ds, ts, ev (ks .t), hy, k12.st, hS.kp St k12, dr, fun H3 r2 e2 k3 x2 g2 => ⟨(by show 3 ≤ sizeLine; decide), fun t nt => ?_⟩⟩
        exact q _ _ _ ((k12.trans k3).new nt) (ex2 upd_same ((x1.kp k12.st k3).same (same_new nt)) (x2.same (same_new nt)) (by decide +kernel)) (gd_op2 g1 g2 (by decide +kernel) (by decide +kernel))
      have ki : k = .i := by cases k <;> first | rfl | exact absurd rfl kf | exact absurd rfl kt
      subst ki
      refine iteBF (decide_eq_false kt) ⟨_, rfl, rfl, _, rfl, ite2 (fun _ => ?_) (fun _ => ?_)⟩
      · refine ⟨_, rfl, _, rfl, _, rfl, _, 1, rfl, rfl, d, l, s', .t, y, ds, ts, ev (ks .t), hy, k1.st, hS1, dr, fun H2 r1 e1 k2 x1 g1 => ⟨(by show 2 ≤ sizeLine; decide), fun t nt => ?_⟩⟩
        exact q _ _ _ ((k1.trans k2).new nt) (ex1 upd_same (x1.same (same_new nt)) (by decide +kernel)) (gd_op1 g1 (by decide +kernel) (by decide +kernel))
      refine ⟨_, rfl, rfl, _, rfl, ite2 (fun _ => ?_) (fun _ => ?_)⟩
      · refine ⟨(by show 2 ≤ sizeLine; decide), fun o no => ?_⟩
        have k2 := k1.new (o := .lst (NA.map V.str)) no
        refine ⟨_, rfl, d, l, 2, rfl, k2.st, by decide, fun H3 m m0 m1 k3 => ?_⟩
        obtain ⟨wz, hwz, hat⟩ := str_in (ms := NA) rfl m0 m1
        obtain ⟨t1, t2, t3⟩ := na_t wz hwz
        have k23 := k2.trans k3
        refine ⟨o, _, _, _, rfl, rfl, .inl (.inl (k3.keep _ _ upd_same (k1.st.nd no).1)), hat, _, rfl, _, rfl, _, rfl, _, rfl, _, 1, rfl, rfl, d, l, s', .i, y, ds, ts, ev (ks .i), hy, k23.st, hS.kp St k23, dr, fun H4 r1 e1 k4 x1 g1 => ⟨(by show 2 ≤ sizeLine; decide), fun t nt => ?_⟩⟩
        exact q _ _ _ ((k23.trans k4).new nt) (ex1 upd_same (x1.same (same_new nt)) t3) (gd_op1 g1 t1 t2)
      refine ⟨(by show 5 ≤ sizeLine; decide), fun o no => ?_⟩
      have k2 := k1.new (o := .lst (A5.map V.str)) no
      refine ⟨_, rfl, d, l, 5, rfl, k2.st, by decide, fun H3 m m0 m1 k3 => ?_⟩
      obtain ⟨wz, hwz, hat⟩ := str_in (ms := A5) rfl m0 m1
      obtain ⟨t1, t2, t3⟩ := a5_t wz hwz
      have k23 := k2.trans k3
      refine ⟨o, _, _, _, rfl, rfl, .inl (.inl (k3.keep _ _ upd_same (k1.st.nd no).1)), hat, ?_⟩
      refine ⟨_, rfl, _, rfl, _, rfl, _, rfl, _, rfl, _, 1, rfl, rfl, d, l, s', .i, y, ds, ts, ev (ks .i), hy, k23.st, hS.kp St k23, dr, fun H4 r1 e1 k4 x1 g1 => ?_⟩
      have k24 := k23.trans k4
      refine ⟨_, rfl, _, rfl, _, rfl, _, rfl, _, 1, rfl, rfl, d, l, s', .i, y, ds, ts, ev (ks .i), hy, k24.st, hS.kp St k24, dr, fun H5 r2 e2 k5 x2 g2 => ⟨(by show 3 ≤ sizeLine; decide), fun t nt => ?_⟩⟩
      exact q _ _ _ ((k24.trans k5).new nt) (ex2 upd_same ((x1.kp k24.st k5).same (same_new nt)) (x2.same (same_new nt)) t3) (gd_op2 g1 g2 t1 t2)
end
end K2

namespace K2
open PySem L2
section
variable {P : Program} {w : World} {K : PySem.W.Frag} {mg : Str → Option Value} {base : Heap}
def spParts : Sp := fun vs H Q _ => ∃ (r : V) (e : Ex), vs = [r] ∧ ExAt H r e ∧ ∀ H' p xs, Same H H' → H p = none → H' p = some (.lst xs) → ExAll H' xs e.parts → Q (.ref p) H'
theorem scParts : FnScope ["expression"] ["expression"] (defScope sPartsOf) := ⟨rfl, rfl, rfl, by decide +kernel, rfl, by decide +kernel, by decide +kernel⟩
theorem ok_parts {f : Addr} {fd : FuncData} (F : Fun K "parts_of" "parts_of" sPartsOf f fd) (N : Nm mg) (leaves : ∃ kk, mg "LEAVES" = some (.ref kk) ∧ ∀ H : Hp, SqT K H kk ((["value", "attr", "dim"] : List Str).map V.str)) : FnOk P w K mg base CX0 1 f fd ["expression"] spParts := by
  refine F.ok scParts (fun vs H Q E h => ?_) (fun cdv A outer s H vs Q E hr h => ?_)
  · obtain ⟨r, e, rfl, _⟩ := h
    rfl
  · obtain ⟨r, e, rfl, he, q⟩ := h
    obtain ⟨kk, m1, r1⟩ := leaves
    refine ⟨_, pss_cons (ps_if (pt_cmpR op_in_seq (pe_ix ix_tup (pv 0) pe_int (fun _ _ => rfl)) (pe_glob (v := .ref kk) (by rfl) m1 rfl) (by rfl)) (pss_one (ps_ret (pe_lst pa_nil))) pss_nil)
      (pss_one (ps_ret (pe_callTy call_list_of (by rfl) N.list (by decide +kernel) (pa_cons (pe_slice sl_tup (pv 0) (po_some pe_int) po_none) pa_nil)))), ?_⟩
    obtain ⟨a, xs, rfl, ha, h1, h2⟩ := he.tup
    refine ⟨_, rfl, a, _, 0, _, rfl, rfl, SqT.of ha, atI_nat (j := 0) rfl, kk, _, rfl, .inr (r1 H), rfl, flat_strs LV, _, rfl, ?_⟩
    by_cases hw : e.word ∈ LV
    · refine iteB ((inV_str _ LV).trans (decide_eq_true hw)) ⟨Nat.zero_le _, fun p np => ?_⟩
      exact q _ p [] (same_new np) np upd_same (by rw [h2 hw]; exact .nil)
    · refine iteBF ((inV_str _ LV).trans (decide_eq_false hw)) ?_
      refine ⟨_, rfl, 1, rfl, a, _, rfl, SqT.of ha, cut1_not _ _, fun p np => ?_⟩
      have s1 := same_new (o := .tup (cutV (.str e.word :: xs) (some 1) none)) np
      refine ⟨p, _, rfl, .inr (SqT.of upd_same), fun p2 np2 => ?_⟩
      have s2 := s1.trans (same_new (o := .lst (cutV (.str e.word :: xs) (some 1) none)) np2)
      exact q _ p2 xs s2 (s1.free np2) (by rw [upd_same, cut1]) ((h1 hw).same s2)
end
end K2

namespace K2
open PySem L2
/-! ### drawn places and values -/
def InB (ds : List D) (pl : List Int) : Prop := pl.length = ds.length ∧ ∀ (i : Nat) (x : D) (c : Int), ds[i]? = some x → pl[i]? = some c → x.l ≤ c ∧ c ≤ x.h
def VFit (ts : List T) (vs : List V) : Prop := vs.length = ts.length ∧ ∀ (i : Nat) (t : T) (v : V), ts[i]? = some t → vs[i]? = some v → ∃ k, t.k = kdS k ∧ OkV k v
section
variable {P : Program} {w : World} {K : PySem.W.Frag} {mg : Str → Option Value} {base : Heap}
def spPlace : Sp := fun vs H Q _ => ∃ (d l td : Addr) (xs : List V) (ds : List D), vs = [.ref d, .ref td] ∧ StAt H d l ∧ H td = some (.tup xs) ∧ Rows H xs (ds.map D.v) ∧ (∀ x ∈ ds, x.l ≤ x.h) ∧ ds.length ≤ 900 ∧
  ∀ H' t pl, Kp d l H H' → H t = none → H' t = some (.tup (pl.map V.int)) → InB ds pl → Q (.ref t) H'
theorem scPlace : FnScope ["state", "dims", "name", "low", "high", "step"] ["state", "dims"] (defScope sLPlace) := ⟨rfl, rfl, rfl, by decide +kernel, rfl, by decide +kernel, by decide +kernel⟩
theorem ok_place {f fN : Addr} {fd fdN : FuncData} (F : Fun K "_law_place" "_law_place" sLPlace f fd) (M : Nm mg) (FN : Fun K "_law_next" "_law_next" sNext fN fdN) (bN : Binds K fdN ["state", "bound"] []) (gN : mg "_law_next" = some (.ref fN)) :
    FnOk P w K mg base CX0 2 f fd ["state", "dims"] spPlace := by
  have GN : FnOk P w K mg base CX0 1 fN fdN ["state", "bound"] spNext := ok_next FN M.int M.len
  refine F.ok scPlace (fun vs H Q E h => ?_) (fun cdv A outer s H vs Q E hr h => ?_)
  · obtain ⟨d, l, td, xs, ds, rfl, _⟩ := h
    rfl
  · obtain ⟨d, l, td, xs, ds, rfl, St, htd, hR, hb, hl9, q⟩ := h
    refine ⟨_, pss_one (ps_ret (pe_callTy call_tuple_of (by rfl) M.tuple (by decide +kernel) (pa_cons (pe_lc (own := [("name", 2), ("low", 3), ("high", 4), ("step", 5)]) (g := gTup K 4 (gCons (gName 2) (gCons (gName 3) (gCons (gName 4) (gCons (gName 5) gNil))))) (tt := tYes) rfl scPlace.nd
        (pi_tup (pv 1)) (blkOk_by (N := ["state", "dims", "name", "low", "high", "step"]) (sc := defScope sLPlace) (by decide +kernel))
        (fun _ _ _ _ _ => pg_tupK K rfl (by rfl) (pgs_cons (pg_name (i := 2) scPlace.nd rfl (Or.inl rfl)) (pgs_cons (pg_name (i := 3) scPlace.nd rfl (Or.inl rfl)) (pgs_cons (pg_name (i := 4) scPlace.nd rfl (Or.inl rfl)) (pgs_cons (pg_name (i := 5) scPlace.nd rfl (Or.inl rfl)) pgs_nil)))))
        (fun _ _ _ _ _ => pts_nil) (fun _ _ _ _ _ => pe_op op_add (pv 3) (pe_call GN hr (by rfl) gN FN.kp bN .nil pass0 (pa_cons (pv 0) (pa_cons (pe_op op_add (pe_op op_sub (pv 4) (pv 3)) pe_int) pa_nil))))) pa_nil))), ?_⟩
    have lx : xs.length = ds.length := by
      have := hR.1
      rwa [List.length_map] at this
    refine ⟨_, rfl, td, rfl, ⟨_, SqT.of htd⟩, fun D nD => ?_⟩
    have nDd := St.nd nD
    refine lc_it (walk_tup (xs := xs)) (fun i H3 => Kp d l H H3 ∧ ∃ pl : List Int, H3 D = some (.lst (pl.map V.int)) ∧ InB (ds.take i) pl) ⟨(Kp.refl St).new nD, [], upd_same, rfl, fun i x c h => by simp at h⟩ (fun i H3 _ z => SqT.of (z.1.at St htd (fun _ y => nomatch y))) ?_ ?_
    · rintro i x H3 H' hi ⟨k3, pl, hD, hpl⟩ ⟨rfl, hxi⟩
      have hi2 : i < ds.length := by omega
      obtain ⟨b, e1, e2⟩ := (hR.kp St k3).2 i ds[i].v (by rw [List.getElem?_map, List.getElem?_eq_getElem hi2]; rfl)
      obtain rfl : x = .ref b := Option.some.inj (hxi.symm.trans e1)
      refine ⟨b, _, rfl, SqT.of e2, rfl, _, _, rfl, _, _, rfl, _, _, rfl, _, _, rfl, rfl, rfl, ?_⟩
      dsimp only [tYes]
      rw [if_pos rfl]
      have hle := hb _ (List.getElem_mem hi2)
      refine ⟨_, rfl, _, rfl, _, rfl, _, rfl, ds[i].h, ds[i].l, rfl, rfl, _, 1, rfl, rfl, d, l, _, rfl, k3.st, (by omega), fun H4 m m0 m1 k4 => ⟨ds[i].l, m, rfl, rfl, ?_⟩⟩
      have hpll : pl.length = i := by
        have := hpl.1
        rw [List.length_take] at this
        omega
      refine ⟨_, k4.at k3.st hD (fun _ y => nomatch y), ?_, (k3.trans k4).put nD nDd, pl ++ [ds[i].l + m], ?_, ?_, ?_⟩
      · rw [List.length_map]
        exact small1000 (by omega)
      · rw [upd_same, List.map_append]
        rfl
      · rw [List.length_append, hpll, List.length_take]
        show i + 1 = _
        omega
      · intro j y c hy hc
        have etk : ds.take (i + 1) = ds.take i ++ [ds[i]] := by
          rw [List.take_add_one, List.getElem?_eq_getElem hi2]
          rfl
        rw [etk] at hy
        have lt : (ds.take i).length = i := by rw [List.length_take]; omega
        rcases Nat.lt_trichotomy j i with hj | hj | hj
        · rw [List.getElem?_append_left (by omega)] at hy
          rw [List.getElem?_append_left (by omega)] at hc
          exact hpl.2 j y c hy hc
        · subst hj
          rw [List.getElem?_append_right (by omega), lt, Nat.sub_self] at hy
          rw [List.getElem?_append_right (by omega), hpll, Nat.sub_self] at hc
          obtain rfl := Option.some.inj hy
          obtain rfl := Option.some.inj hc
          exact ⟨by omega, by omega⟩
        · rw [List.getElem?_eq_none (by rw [List.length_append, lt]; show i + 1 ≤ j; omega)] at hy
          cases hy
    · rintro H3 ⟨k3, pl, hD, hpl⟩
      rw [lx, List.take_length] at hpl
      refine ⟨D, _, rfl, .inl ⟨.inl (.inl hD), fun t nt => q _ t pl (k3.new nt) (k3.free nt) upd_same hpl⟩⟩
def spValues : Sp := fun vs H Q _ => ∃ (d l ta : Addr) (ys : List V) (ts : List T) (few : Int), vs = [.ref d, .ref ta, .int few] ∧ StAt H d l ∧ H ta = some (.tup ys) ∧ Rows H ys (ts.map T.v) ∧ (∀ t ∈ ts, ∃ k, t.k = kdS k) ∧ ts.length ≤ 900 ∧ 0 < few ∧
  ∀ H' t vs', Kp d l H H' → H t = none → H' t = some (.tup vs') → VFit ts vs' → Q (.ref t) H'
theorem scValues : FnScope ["state", "attrs", "few", "values", "name", "kind", "value"] ["state", "attrs", "few"] (defScope sLValues) := ⟨rfl, rfl, rfl, by decide +kernel, rfl, by decide +kernel, by decide +kernel⟩
theorem ok_values {f fN fT : Addr} {fd fdN fdT : FuncData} (F : Fun K "_law_values" "_law_values" sLValues f fd) (M : Nm mg) (FN : Fun K "_law_next" "_law_next" sNext fN fdN) (bN : Binds K fdN ["state", "bound"] []) (gN : mg "_law_next" = some (.ref fN))
    (GT : FnOk P w K mg base CX0 3 fT fdT ["state", "kind"] spThing) (kT : PySem.W.keepIn K (.ref fT) = true) (bT : Binds K fdT ["state", "kind"] []) (gT : mg "_law_thing" = some (.ref fT)) : FnOk P w K mg base CX0 4 f fd ["state", "attrs", "few"] spValues := by
  have GN : FnOk P w K mg base CX0 1 fN fdN ["state", "bound"] spNext := ok_next FN M.int M.len
  refine F.ok scValues (fun vs H Q E h => ?_) (fun cdv A outer s H vs Q E hr h => ?_)
  · obtain ⟨d, l, ta, ys, ts, few, rfl, _⟩ := h
    rfl
  · obtain ⟨d, l, ta, ys, ts, few, rfl, St, hta, hR, hk, hl9, hf, q⟩ := h
    have hr1 := hr.mono (j := 1) (by decide)
    refine ⟨_, pss_cons (ps_set (i := 3) scValues.nd rfl (.inl rfl) (pe_lst pa_nil))
      (pss_cons (ps_for PassesOwn.never rfl (pi_tup (pv 1)) (pg_tup (by rfl) (pgs_cons (pg_name (i := 4) scValues.nd rfl (.inl rfl)) (pgs_cons (pg_name (i := 5) scValues.nd rfl (.inl rfl)) pgs_nil)))
        (pss_cons (ps_set (i := 6) scValues.nd rfl (.inl rfl) pe_non)
        (Evl.pss_cut (ps_if (pt_cmpR op_gt (pe_call GN hr1 (by rfl) gN FN.kp bN .nil pass0 (pa_cons (pv 0) (pa_cons (pv 2) pa_nil))) pe_int (nomark _)) (pss_one (ps_set (i := 6) scValues.nd rfl (.inl rfl) (pe_call GT hr (by rfl) gT kT bT .nil pass0 (pa_cons (pv 0) (pa_cons (pv 5) pa_nil))))) pss_nil)
        (pss_one (ps_expr (pe_bm PySem.F.plainAttrs_list PySem.F.slot_list_append PySem.F.type_list_append mt_append (pv 3) (pa_cons (pv 6) pa_nil)))))))
      (pss_one (ps_ret (pe_callTy call_tuple_of (by rfl) M.tuple (by decide +kernel) (pa_cons (pv 3) pa_nil))))), ?_⟩
    have ly : ys.length = ts.length := by
      have := hR.1
      rwa [List.length_map] at this
    refine ⟨Nat.zero_le _, fun D nD => ?_⟩
    have nDd := St.nd nD
    have k0 : Kp d l H (upd H D (.lst [])) := (Kp.refl St).new nD
    refine ⟨_, rfl, ta, rfl, ⟨_, SqT.of (same_new nD _ _ hta)⟩, for_tup (xs := ys) (fun i σ H3 => ∃ (y4 y5 y6 : Option V) (us : List V), σ = [some (.ref d), some (.ref ta), some (.int few), some (.ref D), y4, y5, y6] ∧ Kp d l H H3 ∧ H3 D = some (.lst us) ∧ VFit (ts.take i) us) ?_ ?_ ?_ ?_⟩
    · exact ⟨_, _, _, [], rfl, k0, upd_same, rfl, fun i x c h => by simp at h⟩
    · rintro i σ H3 hi ⟨y4, y5, y6, us, rfl, k3, hD, hv⟩
      exact SqT.of (k3.at St hta (fun _ y => nomatch y))
    · rintro i x σ H3 hxi ⟨y4, y5, y6, us, rfl, k3, hD, hv⟩
      have hi : i < ys.length := (List.getElem?_eq_some_iff.mp hxi).1
      have hi2 : i < ts.length := by omega
      obtain ⟨b, e1, e2⟩ := (hR.kp St k3).2 i ts[i].v (by rw [List.getElem?_map, List.getElem?_eq_getElem hi2]; rfl)
      obtain rfl : x = .ref b := Option.some.inj (hxi.symm.trans e1)
      obtain ⟨k, hkk⟩ := hk _ (List.getElem_mem hi2)
      have hul : us.length = i := by
        have := hv.1
        rw [List.length_take] at this
        omega
      refine ⟨b, _, rfl, SqT.of e2, rfl, _, _, rfl, _, _, rfl, rfl, ?_⟩
      refine ⟨fun σ H4 => ∃ v, σ = [some (.ref d), some (.ref ta), some (.int few), some (.ref D), some (.str ts[i].n), some (.str ts[i].k), some v] ∧ Kp d l H H4 ∧ H4 D = some (.lst us) ∧ OkV k v, ?_, ?_⟩
      · refine ⟨_, rfl, _, rfl, d, l, few, rfl, k3.st, hf, fun H4 m m0 m1 k4 => ⟨_, _, rfl, rfl, _, rfl, ite2 (fun _ => ?_) (fun _ => ?_)⟩⟩
        · refine ⟨_, rfl, _, rfl, d, l, k, (by show [V.ref d, V.str ts[i].k] = [V.ref d, V.str (kdS k)]; rw [hkk]), k4.st, fun H5 v hv1 hv2 k5 => ?_⟩
          exact ⟨v, rfl, (k3.trans k4).trans k5, k5.at k4.st (k4.at k3.st hD (fun _ y => nomatch y)) (fun _ y => nomatch y), .inr ⟨hv1, hv2⟩⟩
        · exact ⟨.non, rfl, k3.trans k4, k4.at k3.st hD (fun _ y => nomatch y), .inl rfl⟩
      · rintro σ H4 ⟨v, rfl, k4, hD4, hok⟩
        refine ⟨_, rfl, .inl ⟨rfl, _, .inl (.inl hD4)⟩, _, rfl, D, _, _, rfl, rfl, hD4, ?_, ?_⟩
        · exact small1000 (by omega)
        · refine ⟨_, _, _, us ++ [v], rfl, k4.put nD nDd, upd_same, ?_, ?_⟩
          · rw [List.length_append, hul, List.length_take]
            show i + 1 = _
            omega
          · intro j y c hy hc
            have etk : ts.take (i + 1) = ts.take i ++ [ts[i]] := by
              rw [List.take_add_one, List.getElem?_eq_getElem hi2]
              rfl
            rw [etk] at hy
            have lt : (ts.take i).length = i := by rw [List.length_take]; omega
            rcases Nat.lt_trichotomy j i with hj | hj | hj
            · rw [List.getElem?_append_left (by omega)] at hy
              rw [List.getElem?_append_left (by omega)] at hc
              exact hv.2 j y c hy hc
            · subst hj
              rw [List.getElem?_append_right (by omega), lt, Nat.sub_self] at hy
              rw [List.getElem?_append_right (by omega), hul, Nat.sub_self] at hc
              obtain rfl := Option.some.inj hy
              obtain rfl := Option.some.inj hc
              exact ⟨k, hkk, hok⟩
            · rw [List.getElem?_eq_none (by rw [List.length_append, lt]; show i + 1 ≤ j; omega)] at hy
              cases hy
    · rintro σ H3 ⟨y4, y5, y6, us, rfl, k3, hD, hv⟩
      rw [ly, List.take_length] at hv
      exact ⟨_, rfl, D, us, rfl, .inl ⟨.inl (.inl hD), fun t nt => q _ t us (k3.new nt) (k3.free nt) upd_same hv⟩⟩
end
end K2

namespace K2
open PySem L2
/-! ### values of expressions -/
def ob : Option Bool → V
  | none => .non
  | some b => .bl b
def and3 : Option Bool → Option Bool → Option Bool
  | some false, _ => some false
  | none, some false => some false
  | none, _ => none
  | some true, b => b
def or3 : Option Bool → Option Bool → Option Bool
  | some true, _ => some true
  | none, some true => some true
  | none, _ => none
  | some false, b => b
def cmpV (w : Str) (k : Kd) (a b : V) : Bool := if w = "eq" then decide (a = b) else if w = "ne" then !decide (a = b) else if w = "lt" then less k a b else if w = "le" then !less k b a else if w = "gt" then less k b a else !less k a b
def arI (w : Str) (a b : Int) : Option Int := if w = "add" then some (a + b) else if w = "sub" then some (a - b) else if w = "mul" then some (a * b) else if b = 0 then none else if w = "div" then some (a.fdiv b) else some (a.fmod b)
def capI : Option Int → V
  | none => .non
  | some n => if isVal .i (.int n) = true then .int n else .non
def chs : Option Bool → V → V → V
  | none, _, _ => .non
  | some true, a, _ => a
  | some false, _, b => b
def LW : List Str := ["is missing", "and", "or", "if", "or else"]
inductive ApL : Str → List V → V → Prop
  | mis (x : V) : ApL "is missing" [x] (.bl (decide (x = .non)))
  | and2 (a b : Option Bool) : ApL "and" [ob a, ob b] (ob (and3 a b))
  | or2 (a b : Option Bool) : ApL "or" [ob a, ob b] (ob (or3 a b))
  | iff (c : Option Bool) (a b : V) : ApL "if" [ob c, a, b] (chs c a b)
  | els (a b : V) : ApL "or else" [a, b] (if a = .non then b else a)
inductive ApS : Str → List V → V → Prop
  | not (b : Bool) : ApS "not" [.bl b] (.bl (!b))
  | neg (n : Int) : ApS "neg" [.int n] (.int (-n))
  | abs (n : Int) : ApS "abs" [.int n] (.int (if n < 0 then -n else n))
  | len (z : Str) : z.length ≤ 200 → ApS "length" [.str z] (.int (z.length : Int))
  | joined (y z : Str) : y.length ≤ 200 → z.length ≤ 200 → ApS "joined" [.str y, .str z] (if y.length + z.length ≤ 200 then .str (y ++ z) else .non)
  | cmp (w : Str) (k : Kd) (a b : V) : w ∈ CMP → OfK k a → OfK k b → ApS w [a, b] (.bl (cmpV w k a b))
  | ar (w : Str) (a b : Int) : w ∈ A5 → NumOk a → NumOk b → ApS w [.int a, .int b] (capI (arI w a b))
inductive Ap (w : Str) (xs : List V) : V → Prop
  | loose {v : V} : ApL w xs v → Ap w xs v
  | gone : w ∉ LW → V.non ∈ xs → Ap w xs .non
  | strict {v : V} : V.non ∉ xs → ApS w xs v → Ap w xs v
inductive OkVs : List Kd → List V → Prop
  | nil : OkVs [] []
  | cons {k : Kd} {v : V} {ks : List Kd} {vs : List V} : OkV k v → OkVs ks vs → OkVs (k :: ks) (v :: vs)
theorem OkV.flat {k : Kd} {v : V} (h : OkV k v) : flatV v = true := by
  rcases h with rfl | ⟨h, _⟩
  · rfl
  · cases k with
    | i => obtain ⟨n, rfl⟩ := h; rfl
    | f => obtain ⟨b, rfl⟩ := h; rfl
    | t => obtain ⟨z, rfl, _⟩ := h; rfl
theorem OkVs.flat : ∀ {ks : List Kd} {vs : List V}, OkVs ks vs → vs.all flatV = true
  | _, _, .nil => rfl
  | _, _, .cons h g => by rw [List.all_cons, h.flat, g.flat]; rfl
mutual
inductive Ev (ds : List D) (ts : List T) (pl : List Int) (vs : List V) : Ex → V → Prop
  | val {k : Str} {v : V} : Ev ds ts pl vs (.val k v) v
  | attr {n : Str} {i : Nat} {v : V} : IsIdx (ts.map (·.n)) n (some i) → vs[i]? = some v → Ev ds ts pl vs (.attr n) v
  | dim {n : Str} {i : Nat} {c : Int} : IsIdx (ds.map (·.n)) n (some i) → pl[i]? = some c → Ev ds ts pl vs (.dim n) (.int c)
  | op {w : Str} {ps : List Ex} {xs : List V} {v : V} : EvAll ds ts pl vs ps xs → xs.all flatV = true → Ap w xs v → Ev ds ts pl vs (.op w ps) v
inductive EvAll (ds : List D) (ts : List T) (pl : List Int) (vs : List V) : List Ex → List V → Prop
  | nil : EvAll ds ts pl vs [] []
  | cons {e : Ex} {es : List Ex} {x : V} {xs : List V} : Ev ds ts pl vs e x → EvAll ds ts pl vs es xs → EvAll ds ts pl vs (e :: es) (x :: xs)
end
theorem EvAll.len {ds : List D} {ts : List T} {pl : List Int} {vs : List V} : ∀ {es : List Ex} {xs : List V}, EvAll ds ts pl vs es xs → xs.length = es.length
  | _, _, .nil => rfl
  | _, _, .cons _ g => by rw [List.length_cons, List.length_cons, g.len]
theorem EvAll.at {ds : List D} {ts : List T} {pl : List Int} {vs : List V} : ∀ {es : List Ex} {xs : List V} {i : Nat} {e : Ex}, EvAll ds ts pl vs es xs → es[i]? = some e → ∃ x, xs[i]? = some x ∧ Ev ds ts pl vs e x
  | _, _, _, _, .nil, h => by simp at h
  | _, _, 0, _, .cons h g, q => by
    have := Option.some.inj q
    subst this
    exact ⟨_, rfl, h⟩
  | _, _, i + 1, _, .cons h g, q => EvAll.at (i := i) g q
/-- which words take which kinds -/
def JT (w : Str) (qs : List Kd) (k : Kd) : Prop :=
    (w = "not" ∧ qs = [.f] ∧ k = .f) ∨ (w = "neg" ∧ qs = [.i] ∧ k = .i) ∨ (w = "abs" ∧ qs = [.i] ∧ k = .i) ∨ (w = "length" ∧ qs = [.t] ∧ k = .i) ∨ (w = "joined" ∧ qs = [.t, .t] ∧ k = .t) ∨
    (w ∈ CMP ∧ k = .f ∧ ∃ a ∈ QS, qs = [a, a]) ∨ (w ∈ A5 ∧ qs = [.i, .i] ∧ k = .i) ∨ (w = "is missing" ∧ k = .f ∧ ∃ a ∈ QS, qs = [a]) ∨ (w = "and" ∧ qs = [.f, .f] ∧ k = .f) ∨ (w = "or" ∧ qs = [.f, .f] ∧ k = .f) ∨
    (w = "if" ∧ qs = [.f, k, k]) ∨ (w = "or else" ∧ qs = [k, k])
instance (w : Str) (qs : List Kd) (k : Kd) : Decidable (JT w qs k) := by
  unfold JT
  infer_instance
theorem jt : ∀ w ∈ AW, ∀ qs ∈ LA, ∀ k ∈ QS, ar w = some qs.length → joint w qs = some k → JT w qs k := by decide +kernel
theorem notLW : ∀ w ∈ ([("not" : Str), "neg", "abs", "length", "joined"] ++ CMP ++ A5), w ∉ LW := by decide +kernel
theorem okf {v : V} (h : OkV .f v) : ∃ b, v = ob b := by
  rcases h with rfl | ⟨⟨b, rfl⟩, _⟩
  · exact ⟨none, rfl⟩
  · exact ⟨some b, rfl⟩
theorem ob_ok (b : Option Bool) : OkV .f (ob b) := by
  cases b with
  | none => exact .inl rfl
  | some b => exact .inr ⟨⟨b, rfl⟩, rfl⟩
theorem num_of {n : Int} (h : isVal .i (.int n) = true) : NumOk n := by
  have h : (decide (-(10 ^ 30 : Int) < n) && decide (n < 10 ^ 30)) = true := h
  rw [Bool.and_eq_true, decide_eq_true_eq, decide_eq_true_eq] at h
  exact h
theorem of_num {n : Int} (h : NumOk n) : isVal .i (.int n) = true := by
  show (decide (-(10 ^ 30 : Int) < n) && decide (n < 10 ^ 30)) = true
  rw [Bool.and_eq_true, decide_eq_true_eq, decide_eq_true_eq]
  exact h
theorem ok_int {n : Int} (h : NumOk n) : OkV .i (.int n) := .inr ⟨⟨n, rfl⟩, of_num h⟩
theorem cap_ok (o : Option Int) : OkV .i (capI o) := by
  cases o with
  | none => exact .inl rfl
  | some n =>
    by_cases h : isVal .i (.int n) = true
    · rw [show capI (some n) = .int n from if_pos h]
      exact .inr ⟨⟨n, rfl⟩, h⟩
    · rw [show capI (some n) = .non from if_neg h]
      exact .inl rfl
/-- what a word makes of values of the kinds that it takes -/
theorem ap_of {w : Str} {qs : List Kd} {xs : List V} {k : Kd} (ha : ar w = some qs.length) (hj : joint w qs = some k) (hx : OkVs qs xs) : ∃ v, Ap w xs v ∧ OkV k v := by
  have hla : qs ∈ LA := la_in (ar_le ha)
  rcases jt w (ar_in ha) qs hla k (qs_in k) ha hj with ⟨rfl, rfl, rfl⟩ | ⟨rfl, rfl, rfl⟩ | ⟨rfl, rfl, rfl⟩ | ⟨rfl, rfl, rfl⟩ | ⟨rfl, rfl, rfl⟩ | ⟨hw, rfl, a, _, rfl⟩ | ⟨hw, rfl, rfl⟩ | ⟨rfl, rfl, a, _, rfl⟩ | ⟨rfl, rfl, rfl⟩ | ⟨rfl, rfl, rfl⟩ | ⟨rfl, rfl⟩ | ⟨rfl, rfl⟩
  · cases hx with | cons h g => cases g with | nil =>
    rcases h with rfl | ⟨⟨b, rfl⟩, _⟩
    · exact ⟨_, .gone (notLW _ (by decide +kernel)) (List.mem_cons_self ..), .inl rfl⟩
    · exact ⟨_, .strict (by simp) (.not b), .inr ⟨⟨_, rfl⟩, rfl⟩⟩
  · cases hx with | cons h g => cases g with | nil =>
    rcases h with rfl | ⟨⟨n, rfl⟩, hn⟩
    · exact ⟨_, .gone (notLW _ (by decide +kernel)) (List.mem_cons_self ..), .inl rfl⟩
    · have := num_of hn
      exact ⟨_, .strict (by simp) (.neg n), ok_int ⟨by have := this.2; omega, by have := this.1; omega⟩⟩
  · cases hx with | cons h g => cases g with | nil =>
    rcases h with rfl | ⟨⟨n, rfl⟩, hn⟩
    · exact ⟨_, .gone (notLW _ (by decide +kernel)) (List.mem_cons_self ..), .inl rfl⟩
    · have := num_of hn
      refine ⟨_, .strict (by simp) (.abs n), ok_int ?_⟩
      have h1 := this.1
      have h2 := this.2
      split <;> exact ⟨by omega, by omega⟩
  · cases hx with | cons h g => cases g with | nil =>
    rcases h with rfl | ⟨⟨z, rfl, _, _⟩, hn⟩
    · exact ⟨_, .gone (notLW _ (by decide +kernel)) (List.mem_cons_self ..), .inl rfl⟩
    · have h2 : ((z.length : Int) ≤ 200) := of_decide_eq_true hn
      exact ⟨_, .strict (by simp) (.len z (by omega)), ok_int ⟨by omega, by omega⟩⟩
  · cases hx with | cons h g => cases g with | cons h2 g => cases g with | nil =>
    rcases h with rfl | ⟨⟨y, rfl, y1, y2⟩, hy⟩
    · exact ⟨_, .gone (notLW _ (by decide +kernel)) (List.mem_cons_self ..), .inl rfl⟩
    rcases h2 with rfl | ⟨⟨z, rfl, z1, z2⟩, hz⟩
    · exact ⟨_, .gone (notLW _ (by decide +kernel)) (by simp), .inl rfl⟩
    have h3 : ((y.length : Int) ≤ 200) := of_decide_eq_true hy
    have h4 : ((z.length : Int) ≤ 200) := of_decide_eq_true hz
    refine ⟨_, .strict (by simp) (.joined y z (by omega) (by omega)), ?_⟩
    split
    · rename_i h5
      have e : (y ++ z).length = y.length + z.length := Array.size_append
      exact .inr ⟨⟨_, rfl, cat_ok y1 z1, by omega⟩, decide_eq_true (by omega)⟩
    · exact .inl rfl
  · cases hx with | cons h g => cases g with | cons h2 g => cases g with | nil =>
    have nl : w ∉ LW := notLW _ (List.mem_append.mpr (.inl (List.mem_append.mpr (.inr hw))))
    rcases h with rfl | ⟨h, hn⟩
    · exact ⟨_, .gone nl (List.mem_cons_self ..), .inl rfl⟩
    rcases h2 with rfl | ⟨h2, hn2⟩
    · exact ⟨_, .gone nl (by simp), .inl rfl⟩
    refine ⟨_, .strict ?_ (.cmp w a _ _ hw h h2), .inr ⟨⟨_, rfl⟩, rfl⟩⟩
    cases a with
    | i => obtain ⟨n, rfl⟩ := h; obtain ⟨m, rfl⟩ := h2; simp
    | f => obtain ⟨n, rfl⟩ := h; obtain ⟨m, rfl⟩ := h2; simp
    | t => obtain ⟨n, rfl, _⟩ := h; obtain ⟨m, rfl, _⟩ := h2; simp
  · cases hx with | cons h g => cases g with | cons h2 g => cases g with | nil =>
    have nl : w ∉ LW := notLW _ (List.mem_append.mpr (.inr hw))
    rcases h with rfl | ⟨⟨n, rfl⟩, hn⟩
    · exact ⟨_, .gone nl (List.mem_cons_self ..), .inl rfl⟩
    rcases h2 with rfl | ⟨⟨m, rfl⟩, hm⟩
    · exact ⟨_, .gone nl (by simp), .inl rfl⟩
    exact ⟨_, .strict (by simp) (.ar w n m hw (num_of hn) (num_of hm)), cap_ok _⟩
  · cases hx with | cons h g => cases g with | nil =>
    exact ⟨_, .loose (.mis _), .inr ⟨⟨_, rfl⟩, rfl⟩⟩
  · cases hx with | cons h g => cases g with | cons h2 g => cases g with | nil =>
    obtain ⟨a, rfl⟩ := okf h
    obtain ⟨b, rfl⟩ := okf h2
    exact ⟨_, .loose (.and2 a b), ob_ok _⟩
  · cases hx with | cons h g => cases g with | cons h2 g => cases g with | nil =>
    obtain ⟨a, rfl⟩ := okf h
    obtain ⟨b, rfl⟩ := okf h2
    exact ⟨_, .loose (.or2 a b), ob_ok _⟩
  · cases hx with | cons h g => cases g with | cons h2 g => cases g with | cons h3 g => cases g with | nil =>
    obtain ⟨c, rfl⟩ := okf h
    refine ⟨_, .loose (.iff c _ _), ?_⟩
    match c with
    | none => exact .inl rfl
    | some true => exact h2
    | some false => exact h3
  · cases hx with | cons h g => cases g with | cons h2 g => cases g with | nil =>
    refine ⟨_, .loose (.els _ _), ?_⟩
    split
    · exact h2
    · exact h
/-- a place and values of a cell of the shape -/
structure Fits (ds : List D) (ts : List T) (pl : List Int) (vs : List V) : Prop where
  lp : pl.length = ds.length
  np : ∀ c ∈ pl, NumOk c
  lv : vs.length = ts.length
  kv : ∀ (i : Nat) (t : T) (v : V), ts[i]? = some t → vs[i]? = some v → ∃ k, t.k = kdS k ∧ OkV k v
theorem idx_of {ns : List Str} {n : Str} (h : n ∈ ns) : ∃ i, IsIdx ns n (some i) := by
  induction ns with
  | nil => exact absurd h List.not_mem_nil
  | cons m r ih =>
    by_cases e : m = n
    · exact ⟨0, by rw [e]; rfl, fun j hj => absurd hj (Nat.not_lt_zero _)⟩
    · obtain ⟨i, h1, h2⟩ := ih ((List.mem_cons.mp h).resolve_left fun z => e z.symm)
      refine ⟨i + 1, h1, fun j hj => ?_⟩
      cases j with
      | zero => exact fun z => e (Option.some.inj z)
      | succ j => exact h2 j (by omega)
theorem cks_len {ds : List D} {ts : List T} : ∀ {es : List Ex} {m : Nat} {ks : List Kd}, cks ds ts es m = .ok ks → ks.length = es.length
  | [], m, ks, h => by
    rw [cks] at h
    injection h with h
    rw [← h]
    rfl
  | e :: r, m, ks, h => by
    rw [cks] at h
    cases h1 : ck ds ts e m with
    | error j => rw [h1] at h; cases h
    | ok k =>
      rw [h1] at h
      cases h2 : cks ds ts r (m + e.size) with
      | error j => simp only [h2] at h; cases h
      | ok qs =>
        simp only [h2] at h
        injection h with h
        rw [← h, List.length_cons, List.length_cons, cks_len h2]
mutual
theorem ev_of {ds : List D} {ts : List T} {pl : List Int} {vs : List V} (F : Fits ds ts pl vs) : ∀ (e : Ex) {m : Nat} {k : Kd}, WF e → ck ds ts e m = .ok k → ∃ v, Ev ds ts pl vs e v ∧ OkV k v
  | .val kz v, m, k, wf, h => by
    refine ⟨v, .val, ?_⟩
    rw [ck] at h
    cases e : leafK ds ts (.val kz v) with
    | none => rw [e] at h; cases h
    | some k2 =>
      rw [e] at h
      injection h with h
      subst h
      have e : ((kdOf kz).bind fun q => if v = .non ∨ isVal q v = true then some q else none) = some k2 := e
      cases e3 : kdOf kz with
      | none => rw [e3] at e; cases e
      | some q =>
        rw [e3] at e
        have e : (if v = .non ∨ isVal q v = true then some q else none) = some k2 := e
        split at e
        · rename_i c
          have := Option.some.inj e
          subst this
          rcases c with c | c
          · exact .inl c
          · refine .inr ⟨?_, c⟩
            rcases wf.1 with rfl | ⟨n, rfl⟩ | ⟨b, rfl⟩ | ⟨z, rfl, z1, z2⟩
            · cases q <;> cases c
            · cases q with
              | i => exact ⟨n, rfl⟩
              | f => cases c
              | t => cases c
            · cases q with
              | i => cases c
              | f => exact ⟨b, rfl⟩
              | t => cases c
            · cases q with
              | i => cases c
              | f => cases c
              | t => exact ⟨z, rfl, z1, by omega⟩
        · cases e
  | .attr n, m, k, wf, h => by
    rw [ck] at h
    cases e : leafK ds ts (.attr n) with
    | none => rw [e] at h; cases h
    | some k2 =>
      rw [e] at h
      injection h with h
      subst h
      have e : (ts.find? fun t => decide (t.n = n)).bind (fun t => kdOf t.k) = some k2 := e
      cases e3 : ts.find? fun t => decide (t.n = n) with
      | none => rw [e3] at e; cases e
      | some t =>
        rw [e3] at e
        have e : kdOf t.k = some k2 := e
        have hm := List.mem_of_find?_eq_some e3
        have hn := of_decide_eq_true (List.find?_some (p := fun t : T => decide (t.n = n)) e3)
        obtain ⟨i, hi⟩ := idx_of (ns := ts.map (·.n)) (n := n) (List.mem_map.mpr ⟨t, hm, hn⟩)
        have hfs := find_some hi.1 hi.2
        rw [e3] at hfs
        have hil : i < ts.length := (List.getElem?_eq_some_iff.mp hfs.symm).1
        have hlv : i < vs.length := by rw [F.lv]; exact hil
        have hv : vs[i]? = some vs[i] := List.getElem?_eq_getElem hlv
        obtain ⟨q, hq, ho⟩ := F.kv i t _ hfs.symm hv
        rw [hq, kdOf_S] at e
        have := Option.some.inj e
        subst this
        exact ⟨_, .attr hi hv, ho⟩
  | .dim n, m, k, wf, h => by
    rw [ck] at h
    cases e : leafK ds ts (.dim n) with
    | none => rw [e] at h; cases h
    | some k2 =>
      rw [e] at h
      injection h with h
      subst h
      have e : (if n ∈ ds.map (·.n) then some Kd.i else none) = some k2 := e
      split at e
      · rename_i hm
        have := Option.some.inj e
        subst this
        obtain ⟨i, hi⟩ := idx_of hm
        have hil : i < ds.length := by
          have := (List.getElem?_eq_some_iff.mp hi.1).1
          rwa [List.length_map] at this
        have hlp : i < pl.length := by rw [F.lp]; exact hil
        have hp : pl[i]? = some pl[i] := List.getElem?_eq_getElem hlp
        exact ⟨_, .dim hi hp, ok_int (F.np _ (List.getElem_mem _))⟩
      · cases e
  | .op wd ps, m, k, wf, h => by
    rw [ck] at h
    cases h1 : cks ds ts ps (m + 1) with
    | error j => rw [h1] at h; cases h
    | ok qs =>
      rw [h1] at h
      have h : (match joint wd qs with | some k => Except.ok k | none => .error m) = Except.ok k := h
      cases h2 : joint wd qs with
      | none => rw [h2] at h; cases h
      | some k2 =>
        rw [h2] at h
        injection h with h
        subst h
        rw [WF] at wf
        obtain ⟨xs, hx, ho⟩ := evs_of F ps wf.2 h1
        obtain ⟨v, ha, hv⟩ := ap_of (by rw [wf.1, cks_len h1]) h2 ho
        exact ⟨v, .op hx ho.flat ha, hv⟩
theorem evs_of {ds : List D} {ts : List T} {pl : List Int} {vs : List V} (F : Fits ds ts pl vs) : ∀ (es : List Ex) {m : Nat} {qs : List Kd}, WFs es → cks ds ts es m = .ok qs → ∃ xs, EvAll ds ts pl vs es xs ∧ OkVs qs xs
  | [], m, qs, wf, h => by
    rw [cks] at h
    injection h with h
    subst h
    exact ⟨[], .nil, .nil⟩
  | e :: r, m, qs, wf, h => by
    rw [cks] at h
    rw [WFs] at wf
    cases h1 : ck ds ts e m with
    | error j => rw [h1] at h; cases h
    | ok k =>
      rw [h1] at h
      cases h2 : cks ds ts r (m + e.size) with
      | error j => simp only [h2] at h; cases h
      | ok ks =>
        simp only [h2] at h
        injection h with h
        subst h
        obtain ⟨v, h3, h4⟩ := ev_of F e wf.1 h1
        obtain ⟨xs, h5, h6⟩ := evs_of F r wf.2 h2
        exact ⟨v :: xs, .cons h3 h5, .cons h4 h6⟩
end
end K2

namespace K2
open PySem L2
section
variable {X : Cx}
/-- is True, is False, of a truth value or None -/
theorem op_isOb : OpR X (compareOp .Is) (fun x y H Q => ∃ (a : Option Bool) (b : Bool), x = ob a ∧ y = .bl b ∧ Q (.bl (decide (a = some b))) H) := by
  intro pins s σ H x y v u Q I rx ry h
  obtain ⟨a, b, rfl, rfl, q⟩ := h
  cases (show u = Value.bool b from ry)
  cases a with
  | none =>
    cases rx
    exact wpAny_is_other rfl (fun z => nomatch z) ⟨.bl false, H, I, rfl, by simpa using q⟩
  | some a =>
    cases (show v = Value.bool a from rx)
    by_cases e : a = b
    · subst e
      exact wpAny_is_self rfl ⟨.bl true, H, I, rfl, by simpa using q⟩
    · exact wpAny_is_other rfl (fun z => e (Value.bool.inj z)) ⟨.bl false, H, I, rfl, by simpa [e] using q⟩
/-- // and % of great ints, by any divisor but 0 -/
theorem op_fdivZ : OpR X (binaryOp .FloorDiv) (rI (fun _ j => j ≠ 0 ∧ j.natAbs.log2 < 9000) fun i j => .int (i.fdiv j)) := opI fun _ _ _ _ _ _ _ hc q => PyProof.Rows.floordiv_int hc.1 q (.inl (PyProof.noPylong_of_log2 hc.2))
theorem op_ltK : OpR X (compareOp .Lt) (fun x y H Q => ∃ k, OfK k x ∧ OfK k y ∧ Q (.bl (less k x y)) H) := by
  intro pins s σ H x y v u Q I rx ry h
  obtain ⟨k, hx, hy, q⟩ := h
  cases k with
  | i => obtain ⟨n, rfl⟩ := hx; obtain ⟨m, rfl⟩ := hy; exact op_lt _ _ _ _ _ _ _ _ _ I rx ry ⟨n, m, rfl, rfl, q⟩
  | f =>
    obtain ⟨n, rfl⟩ := hx
    obtain ⟨m, rfl⟩ := hy
    exact op_lt_bl _ _ _ _ _ _ _ _ _ I rx ry ⟨n, m, rfl, rfl, q⟩
  | t => obtain ⟨n, rfl, _⟩ := hx; obtain ⟨m, rfl, _⟩ := hy; exact op_lt_str _ _ _ _ _ _ _ _ _ I rx ry ⟨n, m, rfl, rfl, q⟩
theorem op_gtK : OpR X (compareOp .Gt) (fun x y H Q => ∃ k, OfK k x ∧ OfK k y ∧ Q (.bl (less k y x)) H) := by
  intro pins s σ H x y v u Q I rx ry h
  obtain ⟨k, hx, hy, q⟩ := h
  cases k with
  | i => obtain ⟨n, rfl⟩ := hx; obtain ⟨m, rfl⟩ := hy; exact op_gt _ _ _ _ _ _ _ _ _ I rx ry ⟨n, m, rfl, rfl, q⟩
  | f =>
    obtain ⟨n, rfl⟩ := hx
    obtain ⟨m, rfl⟩ := hy
    cases (show v = Value.bool n from rx)
    cases (show u = Value.bool m from ry)
    exact PyProof.Rows.gt_bool ⟨.bl _, H, I, rfl, q⟩
  | t => obtain ⟨n, rfl, _⟩ := hx; obtain ⟨m, rfl, _⟩ := hy; exact op_gt_str _ _ _ _ _ _ _ _ _ I rx ry ⟨n, m, rfl, rfl, q⟩
theorem b2i_le (n m : Bool) : decide (PyProof.Rows.b2i n ≤ PyProof.Rows.b2i m) = !decide (PyProof.Rows.b2i m < PyProof.Rows.b2i n) := by cases n <;> cases m <;> decide
theorem int_le (n m : Int) : decide (n ≤ m) = !decide (m < n) := by
  by_cases h : n ≤ m
  · rw [decide_eq_true h, decide_eq_false (by omega)]; rfl
  · rw [decide_eq_false h, decide_eq_true (by omega)]; rfl
theorem op_leK : OpR X (compareOp .LtE) (fun x y H Q => ∃ k, OfK k x ∧ OfK k y ∧ Q (.bl (!less k y x)) H) := by
  intro pins s σ H x y v u Q I rx ry h
  obtain ⟨k, hx, hy, q⟩ := h
  cases k with
  | i =>
    obtain ⟨n, rfl⟩ := hx
    obtain ⟨m, rfl⟩ := hy
    exact op_le _ _ _ _ _ _ _ _ _ I rx ry ⟨n, m, rfl, rfl, by show Q (.bl (decide (n ≤ m))) H; rw [int_le]; exact q⟩
  | f =>
    obtain ⟨n, rfl⟩ := hx
    obtain ⟨m, rfl⟩ := hy
    cases (show v = Value.bool n from rx)
    cases (show u = Value.bool m from ry)
    exact PyProof.Rows.le_bool ⟨.bl _, H, I, rfl, by rw [b2i_le]; exact q⟩
  | t => obtain ⟨n, rfl, _⟩ := hx; obtain ⟨m, rfl, _⟩ := hy; exact op_le_str _ _ _ _ _ _ _ _ _ I rx ry ⟨n, m, rfl, rfl, q⟩
theorem op_geK : OpR X (compareOp .GtE) (fun x y H Q => ∃ k, OfK k x ∧ OfK k y ∧ Q (.bl (!less k x y)) H) := by
  intro pins s σ H x y v u Q I rx ry h
  obtain ⟨k, hx, hy, q⟩ := h
  cases k with
  | i =>
    obtain ⟨n, rfl⟩ := hx
    obtain ⟨m, rfl⟩ := hy
    exact op_ge _ _ _ _ _ _ _ _ _ I rx ry ⟨n, m, rfl, rfl, by show Q (.bl (decide (m ≤ n))) H; rw [int_le]; exact q⟩
  | f =>
    obtain ⟨n, rfl⟩ := hx
    obtain ⟨m, rfl⟩ := hy
    cases (show v = Value.bool n from rx)
    cases (show u = Value.bool m from ry)
    exact PyProof.Rows.ge_bool ⟨.bl _, H, I, rfl, by rw [show decide (PyProof.Rows.b2i n ≥ PyProof.Rows.b2i m) = _ from b2i_le m n]; exact q⟩
  | t => obtain ⟨n, rfl, _⟩ := hx; obtain ⟨m, rfl, _⟩ := hy; exact op_ge_str _ _ _ _ _ _ _ _ _ I rx ry ⟨n, m, rfl, rfl, q⟩
end
theorem scal_k {k : Kd} {x y : V} (hx : OfK k x) (hy : OfK k y) : scal x y = true := by
  cases k with
  | i => obtain ⟨n, rfl⟩ := hx; obtain ⟨m, rfl⟩ := hy; rfl
  | f => obtain ⟨n, rfl⟩ := hx; obtain ⟨m, rfl⟩ := hy; rfl
  | t => obtain ⟨n, rfl, _⟩ := hx; obtain ⟨m, rfl, _⟩ := hy; rfl
section
variable {P : Program} {w : World} {K : PySem.W.Frag} {mg : Str → Option Value} {base : Heap}
def spBoth : Sp := fun vs H Q _ => ∃ a b : Option Bool, vs = [ob a, ob b] ∧ Q (ob (and3 a b)) H
def spEither : Sp := fun vs H Q _ => ∃ a b : Option Bool, vs = [ob a, ob b] ∧ Q (ob (or3 a b)) H
theorem scBoth : FnScope ["first", "second"] ["first", "second"] (defScope sBoth) := ⟨rfl, rfl, rfl, by decide +kernel, rfl, by decide +kernel, by decide +kernel⟩
theorem scEither : FnScope ["first", "second"] ["first", "second"] (defScope sEither) := ⟨rfl, rfl, rfl, by decide +kernel, rfl, by decide +kernel, by decide +kernel⟩
theorem ob_non (a : Option Bool) : decide (ob a = .non) = a.isNone := by cases a <;> rfl
theorem ok_both {f : Addr} {fd : FuncData} (F : Fun K "both" "both" sBoth f fd) : FnOk P w K mg base CX0 1 f fd ["first", "second"] spBoth := by
  refine F.ok scBoth (fun vs H Q E h => ?_) (fun cdv A outer s H vs Q E hr h => ?_)
  · obtain ⟨a, b, rfl, _⟩ := h
    rfl
  · obtain ⟨a, b, rfl, q⟩ := h
    refine ⟨_, pss_cons (ps_if (PW.pt (pw_or (pt_cmpR op_isOb (pv 0) pe_bl (nomark _)) (pw_or1 (pt_cmpR op_isOb (pv 1) pe_bl (nomark _))))) (pss_one (ps_ret pe_bl)) pss_nil)
      (pss_one (ps_ret (pe_ifExp (PW.pt (pw_or (pt_cmpR op_isN (pv 0) pe_non (nomark _)) (pw_or1 (pt_cmpR op_isN (pv 1) pe_non (nomark _))))) pe_non pe_bl))), ?_⟩
    refine ⟨_, rfl, a, false, rfl, rfl, _, rfl, ?_⟩
    match a, b with
    | some false, _ => exact iteT q
    | none, b =>
      refine iteF ⟨_, rfl, b, false, rfl, rfl, _, rfl, ?_⟩
      match b with
      | some false => exact iteT q
      | some true => exact iteF ⟨_, rfl, rfl, _, rfl, iteT q⟩
      | none => exact iteF ⟨_, rfl, rfl, _, rfl, iteT q⟩
    | some true, b =>
      refine iteF ⟨_, rfl, b, false, rfl, rfl, _, rfl, ?_⟩
      match b with
      | some false => exact iteT q
      | some true => exact iteF ⟨_, rfl, rfl, _, rfl, iteF ⟨_, rfl, rfl, _, rfl, iteF q⟩⟩
      | none => exact iteF ⟨_, rfl, rfl, _, rfl, iteF ⟨_, rfl, rfl, _, rfl, iteT q⟩⟩
theorem ok_either {f : Addr} {fd : FuncData} (F : Fun K "either" "either" sEither f fd) : FnOk P w K mg base CX0 1 f fd ["first", "second"] spEither := by
  refine F.ok scEither (fun vs H Q E h => ?_) (fun cdv A outer s H vs Q E hr h => ?_)
  · obtain ⟨a, b, rfl, _⟩ := h
    rfl
  · obtain ⟨a, b, rfl, q⟩ := h
    refine ⟨_, pss_cons (ps_if (PW.pt (pw_or (pt_cmpR op_isOb (pv 0) pe_bl (nomark _)) (pw_or1 (pt_cmpR op_isOb (pv 1) pe_bl (nomark _))))) (pss_one (ps_ret pe_bl)) pss_nil)
      (pss_one (ps_ret (pe_ifExp (PW.pt (pw_or (pt_cmpR op_isN (pv 0) pe_non (nomark _)) (pw_or1 (pt_cmpR op_isN (pv 1) pe_non (nomark _))))) pe_non pe_bl))), ?_⟩
    refine ⟨_, rfl, a, true, rfl, rfl, _, rfl, ?_⟩
    match a, b with
    | some true, _ => exact iteT q
    | none, b =>
      refine iteF ⟨_, rfl, b, true, rfl, rfl, _, rfl, ?_⟩
      match b with
      | some true => exact iteT q
      | some false => exact iteF ⟨_, rfl, rfl, _, rfl, iteT q⟩
      | none => exact iteF ⟨_, rfl, rfl, _, rfl, iteT q⟩
    | some false, b =>
      refine iteF ⟨_, rfl, b, true, rfl, rfl, _, rfl, ?_⟩
      match b with
      | some true => exact iteT q
      | some false => exact iteF ⟨_, rfl, rfl, _, rfl, iteF ⟨_, rfl, rfl, _, rfl, iteF q⟩⟩
      | none => exact iteF ⟨_, rfl, rfl, _, rfl, iteF ⟨_, rfl, rfl, _, rfl, iteT q⟩⟩
def spChosen : Sp := fun vs H Q _ => ∃ (c : Option Bool) (a b : V), vs = [ob c, a, b] ∧ Q (chs c a b) H
theorem scChosen : FnScope ["condition", "first", "second"] ["condition", "first", "second"] (defScope sChosen) := ⟨rfl, rfl, rfl, by decide +kernel, rfl, by decide +kernel, by decide +kernel⟩
theorem ok_chosen {f : Addr} {fd : FuncData} (F : Fun K "chosen" "chosen" sChosen f fd) : FnOk P w K mg base CX0 1 f fd ["condition", "first", "second"] spChosen := by
  refine F.ok scChosen (fun vs H Q E h => ?_) (fun cdv A outer s H vs Q E hr h => ?_)
  · obtain ⟨c, a, b, rfl, _⟩ := h
    rfl
  · obtain ⟨c, a, b, rfl, q⟩ := h
    refine ⟨_, pss_cons (ps_if (pt_cmpR op_isN (pv 0) pe_non (nomark _)) (pss_one (ps_ret pe_non)) pss_nil) (pss_one (ps_ret (pe_ifExp (pt_val (pv 0)) (pv 1) (pv 2)))), ?_⟩
    refine ⟨_, rfl, rfl, _, rfl, ?_⟩
    match c with
    | none => exact iteT q
    | some true => exact iteF ⟨_, rfl, true, rfl, iteT ⟨_, rfl, q⟩⟩
    | some false => exact iteF ⟨_, rfl, false, rfl, iteF ⟨_, rfl, q⟩⟩
/-! ### the words that take missing values -/
def spLoose : Sp := fun vs H Q _ => ∃ (wd : Str) (p : Addr) (xs : List V) (v : V), vs = [.str wd, .ref p] ∧ H p = some (.lst xs) ∧ ApL wd xs v ∧ Q v H
theorem scLoose : FnScope ["word", "parts"] ["word", "parts"] (defScope sLooseValue) := ⟨rfl, rfl, rfl, by decide +kernel, rfl, by decide +kernel, by decide +kernel⟩
theorem ok_loose {f fB fE fC : Addr} {fd fdB fdE fdC : FuncData} (F : Fun K "loose_value" "loose_value" sLooseValue f fd) (FB : Fun K "both" "both" sBoth fB fdB) (bB : Binds K fdB ["first", "second"] []) (gB : mg "both" = some (.ref fB))
    (FE : Fun K "either" "either" sEither fE fdE) (bE : Binds K fdE ["first", "second"] []) (gE : mg "either" = some (.ref fE)) (FC : Fun K "chosen" "chosen" sChosen fC fdC) (bC : Binds K fdC ["condition", "first", "second"] []) (gC : mg "chosen" = some (.ref fC)) :
    FnOk P w K mg base CX0 2 f fd ["word", "parts"] spLoose := by
  have GB : FnOk P w K mg base CX0 1 fB fdB ["first", "second"] spBoth := ok_both FB
  have GE : FnOk P w K mg base CX0 1 fE fdE ["first", "second"] spEither := ok_either FE
  have GC : FnOk P w K mg base CX0 1 fC fdC ["condition", "first", "second"] spChosen := ok_chosen FC
  refine F.ok scLoose (fun vs H Q E h => ?_) (fun cdv A outer s H vs Q E hr h => ?_)
  · obtain ⟨wd, p, xs, v, rfl, _⟩ := h
    rfl
  · obtain ⟨wd, p, xs, v, rfl, hp, ha, q⟩ := h
    refine ⟨_, pss_cons (ps_if (pt_cmpR op_eq (pv 0) pe_str (nomark _)) (pss_one (ps_ret (pe_cmpR op_isN (pe_ix ix_list (pv 1) pe_int (fun _ _ => rfl)) pe_non (nomark _)))) pss_nil)
      (pss_cons (ps_if (pt_cmpR op_eq (pv 0) pe_str (nomark _)) (pss_one (ps_ret (pe_call GB hr (by rfl) gB FB.kp bB .nil pass0 (pa_cons (pe_ix ix_list (pv 1) pe_int (fun _ _ => rfl)) (pa_cons (pe_ix ix_list (pv 1) pe_int (fun _ _ => rfl)) pa_nil))))) pss_nil)
      (pss_cons (ps_if (pt_cmpR op_eq (pv 0) pe_str (nomark _)) (pss_one (ps_ret (pe_call GE hr (by rfl) gE FE.kp bE .nil pass0 (pa_cons (pe_ix ix_list (pv 1) pe_int (fun _ _ => rfl)) (pa_cons (pe_ix ix_list (pv 1) pe_int (fun _ _ => rfl)) pa_nil))))) pss_nil)
      (pss_cons (ps_if (pt_cmpR op_eq (pv 0) pe_str (nomark _)) (pss_one (ps_ret (pe_call GC hr (by rfl) gC FC.kp bC .nil pass0 (pa_cons (pe_ix ix_list (pv 1) pe_int (fun _ _ => rfl)) (pa_cons (pe_ix ix_list (pv 1) pe_int (fun _ _ => rfl)) (pa_cons (pe_ix ix_list (pv 1) pe_int (fun _ _ => rfl)) pa_nil)))))) pss_nil)
      (pss_one (ps_ret (pe_ifExp (pt_cmpR op_isN (pe_ix ix_list (pv 1) pe_int (fun _ _ => rfl)) pe_non (nomark _)) (pe_ix ix_list (pv 1) pe_int (fun _ _ => rfl)) (pe_ix ix_list (pv 1) pe_int (fun _ _ => rfl)))))))), ?_⟩
    have sp : SqL K H p xs := .inl (.inl hp)
    cases ha with
    | mis x =>
      exact ⟨_, rfl, rfl, _, rfl, iteB (by decide +kernel) ⟨_, rfl, p, _, 0, x, rfl, rfl, sp, atI_nat (j := 0) rfl, rfl, q⟩⟩
    | and2 a b =>
      refine ⟨_, rfl, rfl, _, rfl, iteBF (by decide +kernel) ⟨_, rfl, rfl, _, rfl, iteB (by decide +kernel) ?_⟩⟩
      exact ⟨_, rfl, p, _, 0, ob a, rfl, rfl, sp, atI_nat (j := 0) rfl, _, rfl, p, _, 1, ob b, rfl, rfl, sp, atI_nat (j := 1) rfl, a, b, rfl, q⟩
    | or2 a b =>
      refine ⟨_, rfl, rfl, _, rfl, iteBF (by decide +kernel) ⟨_, rfl, rfl, _, rfl, iteBF (by decide +kernel) ⟨_, rfl, rfl, _, rfl, iteB (by decide +kernel) ?_⟩⟩⟩
      exact ⟨_, rfl, p, _, 0, ob a, rfl, rfl, sp, atI_nat (j := 0) rfl, _, rfl, p, _, 1, ob b, rfl, rfl, sp, atI_nat (j := 1) rfl, a, b, rfl, q⟩
    | iff c a b =>
      refine ⟨_, rfl, rfl, _, rfl, iteBF (by decide +kernel) ⟨_, rfl, rfl, _, rfl, iteBF (by decide +kernel) ⟨_, rfl, rfl, _, rfl, iteBF (by decide +kernel) ⟨_, rfl, rfl, _, rfl, iteB (by decide +kernel) ?_⟩⟩⟩⟩
      exact ⟨_, rfl, p, _, 0, ob c, rfl, rfl, sp, atI_nat (j := 0) rfl, _, rfl, p, _, 1, a, rfl, rfl, sp, atI_nat (j := 1) rfl, _, rfl, p, _, 2, b, rfl, rfl, sp, atI_nat (j := 2) rfl, c, a, b, rfl, q⟩
    | els a b =>
      refine ⟨_, rfl, rfl, _, rfl, iteBF (by decide +kernel) ⟨_, rfl, rfl, _, rfl, iteBF (by decide +kernel) ⟨_, rfl, rfl, _, rfl, iteBF (by decide +kernel) ⟨_, rfl, rfl, _, rfl, iteBF (by decide +kernel) ?_⟩⟩⟩⟩
      refine ⟨_, rfl, p, _, 0, a, rfl, rfl, sp, atI_nat (j := 0) rfl, rfl, _, rfl, ?_⟩
      by_cases e : a = .non
      · rw [if_pos e] at q
        exact iteB (decide_eq_true e) ⟨_, rfl, p, _, 1, b, rfl, rfl, sp, atI_nat (j := 1) rfl, q⟩
      · rw [if_neg e] at q
        exact iteBF (decide_eq_false e) ⟨_, rfl, p, _, 0, a, rfl, rfl, sp, atI_nat (j := 0) rfl, q⟩
end
end K2

namespace K2
open PySem L2
theorem cv1 (k : Kd) (a b : V) : cmpV "eq" k a b = decide (a = b) := if_pos rfl
theorem cv2 (k : Kd) (a b : V) : cmpV "ne" k a b = !decide (a = b) := by
  unfold cmpV
  rw [if_neg (by decide +kernel), if_pos rfl]
theorem cv3 (k : Kd) (a b : V) : cmpV "lt" k a b = less k a b := by
  unfold cmpV
  rw [if_neg (by decide +kernel), if_neg (by decide +kernel), if_pos rfl]
theorem cv4 (k : Kd) (a b : V) : cmpV "le" k a b = !less k b a := by
  unfold cmpV
  rw [if_neg (by decide +kernel), if_neg (by decide +kernel), if_neg (by decide +kernel), if_pos rfl]
theorem cv5 (k : Kd) (a b : V) : cmpV "gt" k a b = less k b a := by
  unfold cmpV
  rw [if_neg (by decide +kernel), if_neg (by decide +kernel), if_neg (by decide +kernel), if_neg (by decide +kernel), if_pos rfl]
theorem cv6 (k : Kd) (a b : V) : cmpV "ge" k a b = !less k a b := by
  unfold cmpV
  rw [if_neg (by decide +kernel), if_neg (by decide +kernel), if_neg (by decide +kernel), if_neg (by decide +kernel), if_neg (by decide +kernel)]
theorem av1 (a b : Int) : arI "add" a b = some (a + b) := if_pos rfl
theorem av2 (a b : Int) : arI "sub" a b = some (a - b) := by
  unfold arI
  rw [if_neg (by decide +kernel), if_pos rfl]
theorem av3 (a b : Int) : arI "mul" a b = some (a * b) := by
  unfold arI
  rw [if_neg (by decide +kernel), if_neg (by decide +kernel), if_pos rfl]
theorem av4 (a b : Int) : arI "div" a b = if b = 0 then none else some (a.fdiv b) := by
  unfold arI
  rw [if_neg (by decide +kernel), if_neg (by decide +kernel), if_neg (by decide +kernel), if_pos rfl]
theorem av5 (a b : Int) : arI "mod" a b = if b = 0 then none else some (a.fmod b) := by
  unfold arI
  rw [if_neg (by decide +kernel), if_neg (by decide +kernel), if_neg (by decide +kernel), if_neg (c := ("mod" : Str) = "div") (by decide +kernel)]
def rv : Option Int → V
  | none => .non
  | some n => .int n
theorem num_abs {n : Int} (h : NumOk n) : n.natAbs < 2 ^ 100 := by
  have h1 := h.1
  have h2 := h.2
  have e : (2 : Nat) ^ 100 = 1267650600228229401496703205376 := by decide
  rw [e]
  have e2 : (10 : Int) ^ 30 = 1000000000000000000000000000000 := by decide
  omega
theorem num_log {n : Int} (h : NumOk n) : n.natAbs.log2 < 9000 := Nat.lt_trans (PySem.Flt.log2_lt_of (by decide : 0 < 100) (num_abs h)) (by decide)
theorem pre_t : ∀ w ∈ CMP ++ A5, decide (V.str w = V.str "neg") = false ∧ decide (V.str w = V.str "abs") = false ∧ decide (V.str w = V.str "not") = false ∧ decide (V.str w = V.str "length") = false ∧ decide (V.str w = V.str "joined") = false := by decide +kernel
theorem a5_cmp : ∀ w ∈ A5, w ∉ CMP := by decide +kernel
section
variable {P : Program} {w : World} {K : PySem.W.Frag} {mg : Str → Option Value} {base : Heap}
def spComp : Sp := fun vs H Q _ => ∃ (wd : Str) (k : Kd) (a b : V), vs = [.str wd, a, b] ∧ wd ∈ CMP ∧ OfK k a ∧ OfK k b ∧ Q (.bl (cmpV wd k a b)) H
theorem scComp : FnScope ["word", "first", "second"] ["word", "first", "second"] (defScope sCompared) := ⟨rfl, rfl, rfl, by decide +kernel, rfl, by decide +kernel, by decide +kernel⟩
theorem ok_comp {f : Addr} {fd : FuncData} (F : Fun K "compared" "compared" sCompared f fd) : FnOk P w K mg base CX0 1 f fd ["word", "first", "second"] spComp := by
  refine F.ok scComp (fun vs H Q E h => ?_) (fun cdv A outer s H vs Q E hr h => ?_)
  · obtain ⟨wd, k, a, b, rfl, _⟩ := h
    rfl
  · obtain ⟨wd, k, a, b, rfl, hw, ha, hb, q⟩ := h
    refine ⟨_, pss_cons (ps_if (pt_cmpR op_eq (pv 0) pe_str (nomark _)) (pss_one (ps_ret (pe_cmpR op_eq (pv 1) (pv 2) (nomark _)))) pss_nil)
      (pss_cons (ps_if (pt_cmpR op_eq (pv 0) pe_str (nomark _)) (pss_one (ps_ret (pe_cmpR op_ne (pv 1) (pv 2) (nomark _)))) pss_nil)
      (pss_cons (ps_if (pt_cmpR op_eq (pv 0) pe_str (nomark _)) (pss_one (ps_ret (pe_cmpR op_ltK (pv 1) (pv 2) (nomark _)))) pss_nil)
      (pss_cons (ps_if (pt_cmpR op_eq (pv 0) pe_str (nomark _)) (pss_one (ps_ret (pe_cmpR op_leK (pv 1) (pv 2) (nomark _)))) pss_nil)
      (pss_cons (ps_if (pt_cmpR op_eq (pv 0) pe_str (nomark _)) (pss_one (ps_ret (pe_cmpR op_gtK (pv 1) (pv 2) (nomark _)))) pss_nil)
      (pss_one (ps_ret (pe_cmpR op_geK (pv 1) (pv 2) (nomark _)))))))), ?_⟩
    have hs := scal_k ha hb
    rcases List.mem_cons.mp hw with rfl | hw
    · rw [cv1] at q
      exact ⟨_, rfl, rfl, _, rfl, iteB (by decide +kernel) ⟨_, rfl, _, rfl, hs, q⟩⟩
    rcases List.mem_cons.mp hw with rfl | hw
    · rw [cv2] at q
      exact ⟨_, rfl, rfl, _, rfl, iteBF (by decide +kernel) ⟨_, rfl, rfl, _, rfl, iteB (by decide +kernel) ⟨_, rfl, _, rfl, hs, q⟩⟩⟩
    rcases List.mem_cons.mp hw with rfl | hw
    · rw [cv3] at q
      exact ⟨_, rfl, rfl, _, rfl, iteBF (by decide +kernel) ⟨_, rfl, rfl, _, rfl, iteBF (by decide +kernel) ⟨_, rfl, rfl, _, rfl, iteB (by decide +kernel) ⟨_, rfl, _, rfl, k, ha, hb, q⟩⟩⟩⟩
    rcases List.mem_cons.mp hw with rfl | hw
    · rw [cv4] at q
      exact ⟨_, rfl, rfl, _, rfl, iteBF (by decide +kernel) ⟨_, rfl, rfl, _, rfl, iteBF (by decide +kernel) ⟨_, rfl, rfl, _, rfl, iteBF (by decide +kernel) ⟨_, rfl, rfl, _, rfl, iteB (by decide +kernel) ⟨_, rfl, _, rfl, k, ha, hb, q⟩⟩⟩⟩⟩
    rcases List.mem_cons.mp hw with rfl | hw
    · rw [cv5] at q
      exact ⟨_, rfl, rfl, _, rfl, iteBF (by decide +kernel) ⟨_, rfl, rfl, _, rfl, iteBF (by decide +kernel) ⟨_, rfl, rfl, _, rfl, iteBF (by decide +kernel) ⟨_, rfl, rfl, _, rfl, iteBF (by decide +kernel) ⟨_, rfl, rfl, _, rfl, iteB (by decide +kernel) ⟨_, rfl, _, rfl, k, ha, hb, q⟩⟩⟩⟩⟩⟩
    rcases List.mem_cons.mp hw with rfl | hw
    · rw [cv6] at q
      exact ⟨_, rfl, rfl, _, rfl, iteBF (by decide +kernel) ⟨_, rfl, rfl, _, rfl, iteBF (by decide +kernel) ⟨_, rfl, rfl, _, rfl, iteBF (by decide +kernel) ⟨_, rfl, rfl, _, rfl, iteBF (by decide +kernel) ⟨_, rfl, rfl, _, rfl, iteBF (by decide +kernel) ⟨_, rfl, _, rfl, k, ha, hb, q⟩⟩⟩⟩⟩⟩
    · exact absurd hw List.not_mem_nil
def spReck : Sp := fun vs H Q _ => ∃ (wd : Str) (a b : Int), vs = [.str wd, .int a, .int b] ∧ wd ∈ A5 ∧ NumOk a ∧ NumOk b ∧ Q (rv (arI wd a b)) H
theorem scReck : FnScope ["word", "first", "second"] ["word", "first", "second"] (defScope sReckoned) := ⟨rfl, rfl, rfl, by decide +kernel, rfl, by decide +kernel, by decide +kernel⟩
theorem dec_zero (b : Int) : decide (V.int b = V.int 0) = decide (b = 0) := by
  by_cases h : b = 0
  · rw [h, decide_eq_true rfl, decide_eq_true rfl]
  · rw [decide_eq_false h, decide_eq_false fun z => h (V.int.inj z)]
theorem ok_reck {f : Addr} {fd : FuncData} (F : Fun K "reckoned" "reckoned" sReckoned f fd) : FnOk P w K mg base CX0 1 f fd ["word", "first", "second"] spReck := by
  refine F.ok scReck (fun vs H Q E h => ?_) (fun cdv A outer s H vs Q E hr h => ?_)
  · obtain ⟨wd, a, b, rfl, _⟩ := h
    rfl
  · obtain ⟨wd, a, b, rfl, hw, ha, hb, q⟩ := h
    refine ⟨_, pss_cons (ps_if (pt_cmpR op_eq (pv 0) pe_str (nomark _)) (pss_one (ps_ret (pe_op op_add (pv 1) (pv 2)))) pss_nil)
      (pss_cons (ps_if (pt_cmpR op_eq (pv 0) pe_str (nomark _)) (pss_one (ps_ret (pe_op op_sub (pv 1) (pv 2)))) pss_nil)
      (pss_cons (ps_if (pt_cmpR op_eq (pv 0) pe_str (nomark _)) (pss_one (ps_ret (pe_op op_mulW (pv 1) (pv 2)))) pss_nil)
      (pss_cons (ps_if (pt_cmpR op_eq (pv 2) pe_int (nomark _)) (pss_one (ps_ret pe_non)) pss_nil)
      (pss_cons (ps_if (pt_cmpR op_eq (pv 0) pe_str (nomark _)) (pss_one (ps_ret (pe_op op_fdivZ (pv 1) (pv 2)))) pss_nil)
      (pss_one (ps_ret (pe_op op_modN (pv 1) (pv 2)))))))), ?_⟩
    rcases List.mem_cons.mp hw with rfl | hw
    · rw [av1] at q
      exact ⟨_, rfl, rfl, _, rfl, iteB (by decide +kernel) ⟨_, rfl, _, rfl, a, b, rfl, rfl, q⟩⟩
    rcases List.mem_cons.mp hw with rfl | hw
    · rw [av2] at q
      exact ⟨_, rfl, rfl, _, rfl, iteBF (by decide +kernel) ⟨_, rfl, rfl, _, rfl, iteB (by decide +kernel) ⟨_, rfl, _, rfl, a, b, rfl, rfl, q⟩⟩⟩
    rcases List.mem_cons.mp hw with rfl | hw
    · rw [av3] at q
      exact ⟨_, rfl, rfl, _, rfl, iteBF (by decide +kernel) ⟨_, rfl, rfl, _, rfl, iteBF (by decide +kernel) ⟨_, rfl, rfl, _, rfl, iteB (by decide +kernel) ⟨_, rfl, _, rfl, a, b, rfl, rfl, wide_mul (num_abs ha) (num_abs hb) (by decide) (by decide) (by decide), q⟩⟩⟩⟩
    rcases List.mem_cons.mp hw with rfl | hw
    · rw [av4] at q
      refine ⟨_, rfl, rfl, _, rfl, iteBF (by decide +kernel) ⟨_, rfl, rfl, _, rfl, iteBF (by decide +kernel) ⟨_, rfl, rfl, _, rfl, iteBF (by decide +kernel) ⟨_, rfl, rfl, _, rfl, ?_⟩⟩⟩⟩
      rw [dec_zero]
      by_cases h0 : b = 0
      · rw [if_pos h0] at q
        exact iteB (decide_eq_true h0) q
      · rw [if_neg h0] at q
        exact iteBF (decide_eq_false h0) ⟨_, rfl, rfl, _, rfl, iteB (by decide +kernel) ⟨_, rfl, _, rfl, a, b, rfl, rfl, ⟨h0, num_log hb⟩, q⟩⟩
    rcases List.mem_cons.mp hw with rfl | hw
    · rw [av5] at q
      refine ⟨_, rfl, rfl, _, rfl, iteBF (by decide +kernel) ⟨_, rfl, rfl, _, rfl, iteBF (by decide +kernel) ⟨_, rfl, rfl, _, rfl, iteBF (by decide +kernel) ⟨_, rfl, rfl, _, rfl, ?_⟩⟩⟩⟩
      rw [dec_zero]
      by_cases h0 : b = 0
      · rw [if_pos h0] at q
        exact iteB (decide_eq_true h0) q
      · rw [if_neg h0] at q
        exact iteBF (decide_eq_false h0) ⟨_, rfl, rfl, _, rfl, iteBF (by decide +kernel) ⟨_, rfl, _, rfl, a, b, rfl, rfl, h0, q⟩⟩
    · exact absurd hw List.not_mem_nil
/-! ### the words that take none -/
def Cmps (K : PySem.W.Frag) (mg : Str → Option Value) : Prop := ∃ kk, mg "COMPARISONS" = some (.ref kk) ∧ ∀ H : Hp, SqT K H kk (CMP.map V.str)
def spStrict : Sp := fun vs H Q _ => ∃ (wd : Str) (p : Addr) (xs : List V) (v : V), vs = [.str wd, .ref p] ∧ H p = some (.lst xs) ∧ ApS wd xs v ∧ Q v H
theorem scStrict : FnScope ["word", "parts", "first", "second", "number"] ["word", "parts"] (defScope sStrictValue) := ⟨rfl, rfl, rfl, by decide +kernel, rfl, by decide +kernel, by decide +kernel⟩
theorem ok_strict {f fC fR fV : Addr} {fd fdC fdR fdV : FuncData} (F : Fun K "strict_value" "strict_value" sStrictValue f fd) (N : Nm mg) (N2 : Ct mg) (cm : Cmps K mg) (FC : Fun K "compared" "compared" sCompared fC fdC) (bC : Binds K fdC ["word", "first", "second"] []) (gC : mg "compared" = some (.ref fC))
    (FR : Fun K "reckoned" "reckoned" sReckoned fR fdR) (bR : Binds K fdR ["word", "first", "second"] []) (gR : mg "reckoned" = some (.ref fR))
    (GV : FnOk P w K mg base CX0 2 fV fdV ["kind", "value"] (spVal K)) (kV : PySem.W.keepIn K (.ref fV) = true) (bV : Binds K fdV ["kind", "value"] []) (gV : mg "is_value" = some (.ref fV)) : FnOk P w K mg base CX0 3 f fd ["word", "parts"] spStrict := by
  have GC : FnOk P w K mg base CX0 1 fC fdC ["word", "first", "second"] spComp := ok_comp FC
  have GR : FnOk P w K mg base CX0 1 fR fdR ["word", "first", "second"] spReck := ok_reck FR
  refine F.ok scStrict (fun vs H Q E h => ?_) (fun cdv A outer s H vs Q E hr h => ?_)
  · obtain ⟨wd, p, xs, v, rfl, _⟩ := h
    rfl
  · obtain ⟨wd, p, xs, v, rfl, hp, ha, q⟩ := h
    have hr1 := hr.mono (j := 1) (by decide)
    obtain ⟨kk, m1, r1⟩ := cm
    obtain ⟨ut, mtb, rtb⟩ := N2.tb
    refine ⟨_, pss_cons (ps_set (i := 2) scStrict.nd rfl (.inl rfl) (pe_ix ix_list (pv 1) pe_int (fun _ _ => rfl)))
      (pss_cons (ps_if (pt_cmpR op_eq (pv 0) pe_str (nomark _)) (pss_one (ps_ret (pe_un un_neg (pv 2)))) pss_nil)
      (pss_cons (ps_if (pt_cmpR op_eq (pv 0) pe_str (nomark _)) (pss_one (ps_ret (pe_callB call_abs (by rfl) N.abs (by decide +kernel) (pa_cons (pv 2) pa_nil)))) pss_nil)
      (pss_cons (ps_if (pt_cmpR op_eq (pv 0) pe_str (nomark _)) (pss_one (ps_ret (pe_not (pv 2)))) pss_nil)
      (pss_cons (ps_if (pt_cmpR op_eq (pv 0) pe_str (nomark _)) (pss_one (ps_ret (pe_callB call_len_str (by rfl) N.len PySem.boot_len (pa_cons (pv 2) pa_nil)))) pss_nil)
      (pss_cons (ps_set (i := 3) scStrict.nd rfl (.inl rfl) (pe_ix ix_list (pv 1) pe_int (fun _ _ => rfl)))
      (pss_cons (ps_if (pt_cmpR op_eq (pv 0) pe_str (nomark _)) (pss_one (ps_ret (pe_ifExp (pt_cmpR op_le (pe_op op_add (pe_callB call_len_str (by rfl) N.len PySem.boot_len (pa_cons (pv 2) pa_nil)) (pe_callB call_len_str (by rfl) N.len PySem.boot_len (pa_cons (pv 3) pa_nil))) (pe_glob (by rfl) mtb rtb) (nomark _))
          (pe_op op_add_str (pv 2) (pv 3)) pe_non))) pss_nil)
      (pss_cons (ps_if (pt_cmpR op_in_seq (pv 0) (pe_glob (v := .ref kk) (by rfl) m1 rfl) (by rfl)) (pss_one (ps_ret (pe_call GC hr1 (by rfl) gC FC.kp bC .nil pass0 (pa_cons (pv 0) (pa_cons (pv 2) (pa_cons (pv 3) pa_nil)))))) pss_nil)
      (pss_cons (ps_set (i := 4) scStrict.nd rfl (.inl rfl) (pe_call GR hr1 (by rfl) gR FR.kp bR .nil pass0 (pa_cons (pv 0) (pa_cons (pv 2) (pa_cons (pv 3) pa_nil)))))
      (pss_one (ps_ret (pe_ifExp (pt_val (pe_call GV hr (by rfl) gV kV bV .nil pass0 (pa_cons pe_str (pa_cons (pv 4) pa_nil)))) (pv 4) pe_non))))))))))), ?_⟩
    have sp : SqL K H p xs := .inl (.inl hp)
    cases ha with
    | neg n => exact ⟨_, rfl, p, _, 0, _, rfl, rfl, sp, atI_nat (j := 0) rfl, _, rfl, rfl, _, rfl, iteB (by decide +kernel) ⟨_, rfl, n, rfl, q⟩⟩
    | abs n => exact ⟨_, rfl, p, _, 0, _, rfl, rfl, sp, atI_nat (j := 0) rfl, _, rfl, rfl, _, rfl, iteBF (by decide +kernel) ⟨_, rfl, rfl, _, rfl, iteB (by decide +kernel) ⟨_, rfl, n, rfl, q⟩⟩⟩
    | not b => exact ⟨_, rfl, p, _, 0, _, rfl, rfl, sp, atI_nat (j := 0) rfl, _, rfl, rfl, _, rfl, iteBF (by decide +kernel) ⟨_, rfl, rfl, _, rfl, iteBF (by decide +kernel) ⟨_, rfl, rfl, _, rfl, iteB (by decide +kernel) ⟨_, rfl, b, rfl, q⟩⟩⟩⟩
    | len z hz => exact ⟨_, rfl, p, _, 0, _, rfl, rfl, sp, atI_nat (j := 0) rfl, _, rfl, rfl, _, rfl, iteBF (by decide +kernel) ⟨_, rfl, rfl, _, rfl, iteBF (by decide +kernel) ⟨_, rfl, rfl, _, rfl, iteBF (by decide +kernel) ⟨_, rfl, rfl, _, rfl, iteB (by decide +kernel) ⟨_, rfl, z, rfl, len_line (by omega), q⟩⟩⟩⟩⟩
    | joined y z hy hz =>
      refine ⟨_, rfl, p, _, 0, _, rfl, rfl, sp, atI_nat (j := 0) rfl, _, rfl, rfl, _, rfl, iteBF (by decide +kernel) ⟨_, rfl, rfl, _, rfl, iteBF (by decide +kernel) ⟨_, rfl, rfl, _, rfl, iteBF (by decide +kernel) ⟨_, rfl, rfl, _, rfl, iteBF (by decide +kernel) ?_⟩⟩⟩⟩
      refine ⟨_, rfl, p, _, 1, _, rfl, rfl, sp, atI_nat (j := 1) rfl, _, rfl, rfl, _, rfl, iteB (by decide +kernel) ?_⟩
      refine ⟨_, rfl, y, rfl, len_line (by omega), _, rfl, z, rfl, len_line (by omega), _, _, rfl, rfl, _, _, rfl, rfl, _, rfl, ?_⟩
      by_cases c : y.length + z.length ≤ 200
      · rw [if_pos c] at q
        exact iteB (decide_eq_true (by omega)) ⟨_, rfl, _, rfl, y, z, rfl, rfl, Nat.le_trans c (by decide), q⟩
      · rw [if_neg c] at q
        exact iteBF (decide_eq_false (by omega)) q
    | cmp w k a b hw ha hb =>
      obtain ⟨t1, t2, t3, t4, t5⟩ := pre_t wd (List.mem_append_left _ hw)
      refine ⟨_, rfl, p, _, 0, _, rfl, rfl, sp, atI_nat (j := 0) rfl, _, rfl, rfl, _, rfl, iteBF t1 ⟨_, rfl, rfl, _, rfl, iteBF t2 ⟨_, rfl, rfl, _, rfl, iteBF t3 ⟨_, rfl, rfl, _, rfl, iteBF t4 ?_⟩⟩⟩⟩
      refine ⟨_, rfl, p, _, 1, _, rfl, rfl, sp, atI_nat (j := 1) rfl, _, rfl, rfl, _, rfl, iteBF t5 ?_⟩
      refine ⟨_, rfl, kk, _, rfl, .inr (r1 H), rfl, flat_strs CMP, _, rfl, iteB ((inV_str _ CMP).trans (decide_eq_true hw)) ?_⟩
      exact ⟨_, rfl, _, rfl, _, rfl, wd, k, a, b, rfl, hw, ha, hb, q⟩
    | ar w a b hw ha hb =>
      obtain ⟨t1, t2, t3, t4, t5⟩ := pre_t wd (List.mem_append_right _ hw)
      refine ⟨_, rfl, p, _, 0, _, rfl, rfl, sp, atI_nat (j := 0) rfl, _, rfl, rfl, _, rfl, iteBF t1 ⟨_, rfl, rfl, _, rfl, iteBF t2 ⟨_, rfl, rfl, _, rfl, iteBF t3 ⟨_, rfl, rfl, _, rfl, iteBF t4 ?_⟩⟩⟩⟩
      refine ⟨_, rfl, p, _, 1, _, rfl, rfl, sp, atI_nat (j := 1) rfl, _, rfl, rfl, _, rfl, iteBF t5 ?_⟩
      refine ⟨_, rfl, kk, _, rfl, .inr (r1 H), rfl, flat_strs CMP, _, rfl, iteBF ((inV_str _ CMP).trans (decide_eq_false (a5_cmp wd hw))) ?_⟩
      refine ⟨_, rfl, _, rfl, _, rfl, wd, a, b, rfl, hw, ha, hb, ?_⟩
      cases e : arI wd a b with
      | none =>
        rw [e] at q
        exact ⟨_, rfl, .i, .non, _, rfl, .non, _, rfl, iteF q⟩
      | some n =>
        rw [e] at q
        refine ⟨_, rfl, .i, .int n, _, rfl, .int n, _, rfl, ?_⟩
        by_cases c : isVal .i (.int n) = true
        · rw [show capI (some n) = .int n from if_pos c] at q
          exact iteB c ⟨_, rfl, q⟩
        · rw [show capI (some n) = .non from if_neg c] at q
          exact iteBF (by rwa [Bool.not_eq_true] at c) q
end
end K2

namespace K2
open PySem L2
theorem inV_non : ∀ {xs : List V}, xs.all flatV = true → inV .non xs = decide (V.non ∈ xs)
  | [], _ => rfl
  | x :: r, h => by
    rw [List.all_cons, Bool.and_eq_true] at h
    have ih := inV_non h.2
    unfold inV at ih ⊢
    rw [List.any_cons, ih]
    cases x with
    | non => rw [decide_eq_true (List.mem_cons_self ..)]; rfl
    | bl b =>
      have e : (V.non ∈ V.bl b :: r) ↔ V.non ∈ r := by simp
      rw [show decide (V.non ∈ V.bl b :: r) = decide (V.non ∈ r) from decide_eq_decide.mpr e]; rfl
    | int b =>
      have e : (V.non ∈ V.int b :: r) ↔ V.non ∈ r := by simp
      rw [show decide (V.non ∈ V.int b :: r) = decide (V.non ∈ r) from decide_eq_decide.mpr e]; rfl
    | str b =>
      have e : (V.non ∈ V.str b :: r) ↔ V.non ∈ r := by simp
      rw [show decide (V.non ∈ V.str b :: r) = decide (V.non ∈ r) from decide_eq_decide.mpr e]; rfl
    | _ => exact absurd h.1 Bool.false_ne_true
def kE : Key := Sum.inr "eq"
/-- six answers under their words -/
theorem six {a b c d e f : V} (w : Str) (hw : w ∈ CMP) : valV (mergeK [] [((Sum.inr "eq" : Key), a), (Sum.inr "ne", b), (Sum.inr "lt", c), (Sum.inr "le", d), (Sum.inr "gt", e), (Sum.inr "ge", f)]) (Sum.inr w) =
    some (if w = "eq" then a else if w = "ne" then b else if w = "lt" then c else if w = "le" then d else if w = "gt" then e else f) := by
  simp only [mergeK, List.foldl_cons, List.foldl_nil, valV_put, valV_nil]
  rcases List.mem_cons.mp hw with rfl | hw
  · rw [if_neg (by decide +kernel), if_neg (by decide +kernel), if_neg (by decide +kernel), if_neg (by decide +kernel), if_neg (by decide +kernel), if_pos rfl, if_pos rfl]
  rcases List.mem_cons.mp hw with rfl | hw
  · rw [if_neg (by decide +kernel), if_neg (by decide +kernel), if_neg (by decide +kernel), if_neg (by decide +kernel), if_pos rfl, if_neg (by decide +kernel), if_pos rfl]
  rcases List.mem_cons.mp hw with rfl | hw
  · rw [if_neg (by decide +kernel), if_neg (by decide +kernel), if_neg (by decide +kernel), if_pos rfl, if_neg (by decide +kernel), if_neg (by decide +kernel), if_pos rfl]
  rcases List.mem_cons.mp hw with rfl | hw
  · rw [if_neg (by decide +kernel), if_neg (by decide +kernel), if_pos rfl, if_neg (by decide +kernel), if_neg (by decide +kernel), if_neg (by decide +kernel), if_pos rfl]
  rcases List.mem_cons.mp hw with rfl | hw
  · rw [if_neg (by decide +kernel), if_pos rfl, if_neg (by decide +kernel), if_neg (by decide +kernel), if_neg (by decide +kernel), if_neg (by decide +kernel), if_pos rfl]
  rcases List.mem_cons.mp hw with rfl | hw
  · rw [if_pos rfl, if_neg (by decide +kernel), if_neg (by decide +kernel), if_neg (by decide +kernel), if_neg (by decide +kernel), if_neg (by decide +kernel)]
  · exact absurd hw List.not_mem_nil
theorem three_v {a b c : V} (w : Str) (hw : w ∈ ([("add" : Str), "sub", "mul"] : List Str)) : valV (mergeK [] [((Sum.inr "add" : Key), a), (Sum.inr "sub", b), (Sum.inr "mul", c)]) (Sum.inr w) = some (if w = "add" then a else if w = "sub" then b else c) := by
  simp only [mergeK, List.foldl_cons, List.foldl_nil, valV_put, valV_nil]
  rcases List.mem_cons.mp hw with rfl | hw
  · rw [if_neg (by decide +kernel), if_neg (by decide +kernel), if_pos rfl, if_pos rfl]
  rcases List.mem_cons.mp hw with rfl | hw
  · rw [if_neg (by decide +kernel), if_pos rfl, if_neg (by decide +kernel), if_pos rfl]
  rcases List.mem_cons.mp hw with rfl | hw
  · rw [if_pos rfl, if_neg (by decide +kernel), if_neg (by decide +kernel)]
  · exact absurd hw List.not_mem_nil
theorem fdiv_abs {a b : Int} (ha : NumOk a) : (a.fdiv b).natAbs < 2 ^ 101 := by
  have h1 := num_abs ha
  have h2 : (a / b).natAbs ≤ a.natAbs := Int.natAbs_ediv_le_natAbs a b
  have h3 := Int.fdiv_eq_ediv (a := a) (b := b)
  have e1 : (2 : Nat) ^ 100 = 1267650600228229401496703205376 := by decide
  have e2 : (2 : Nat) ^ 101 = 2535301200456458802993406410752 := by decide
  rw [e1] at h1
  rw [e2, h3]
  split <;> omega
section
variable {P : Program} {w : World} {K : PySem.W.Frag} {mg : Str → Option Value} {base : Heap}
def CM3 : List Str := ["joined"]
def spPair : Sp := fun vs H Q _ => ∃ (wd : Str) (a b v : V), vs = [.str wd, a, b] ∧ ApS wd [a, b] v ∧ ∀ H', Same H H' → Q v H'
theorem scPair : FnScope ["word", "a", "b", "result"] ["word", "a", "b"] (defScope sLPair) := ⟨rfl, rfl, rfl, by decide +kernel, rfl, by decide +kernel, by decide +kernel⟩
theorem pick2 (b : Bool) (x : V) : ∃ v, atI [x, V.non] (if b then 1 else 0) = some v ∧ v = (if b = true then .non else x) := by
  cases b with
  | true => exact ⟨.non, atI_nat (j := 1) rfl, rfl⟩
  | false => exact ⟨x, atI_nat (j := 0) rfl, rfl⟩
theorem pick1 (b : Bool) (x : V) : ∃ v, atI [V.non, x] (if b then 1 else 0) = some v ∧ v = (if b = true then x else .non) := by
  cases b with
  | true => exact ⟨x, atI_nat (j := 1) rfl, rfl⟩
  | false => exact ⟨.non, atI_nat (j := 0) rfl, rfl⟩
def DM : List Str := ["div", "mod"]
theorem cm_t : ∀ w ∈ CMP, decide (V.str w = V.str "joined") = false := by decide +kernel
theorem a5_t2 : ∀ w ∈ A5, decide (V.str w = V.str "joined") = false ∧ (decide (w ∈ DM) = decide (w = "div" ∨ w = "mod")) := by decide +kernel
theorem arAdd_in : ("add" : Str) ∈ A5 := by decide +kernel
theorem ok_pair {f : Addr} {fd : FuncData} (F : Fun K "_law_pair" "_law_pair" sLPair f fd) (N : Nm mg) : FnOk P w K mg base CX0 1 f fd ["word", "a", "b"] spPair := by
  refine F.ok scPair (fun vs H Q E h => ?_) (fun cdv A outer s H vs Q E hr h => ?_)
  · obtain ⟨wd, a, b, v, rfl, _⟩ := h
    rfl
  · obtain ⟨wd, a, b, v, rfl, ha, q⟩ := h
    have hu := hu_of hr
    refine ⟨_, pss_cons (ps_if (pt_cmpR op_eq (pv 0) pe_str (nomark _)) (pss_one (ps_ret (pe_ix ix_list (pe_lst (pa_cons (pe_op op_add_str (pv 1) (pv 2)) (pa_cons pe_non pa_nil)))
          (pe_callTy call_int1 (by rfl) N.int (by decide +kernel) (pa_cons (pe_cmpR op_gt (pe_callB call_len_str (by rfl) N.len PySem.boot_len (pa_cons (pe_op op_add_str (pv 1) (pv 2)) pa_nil)) pe_int (nomark _)) pa_nil)) (fun _ _ => rfl)))) pss_nil)
      (pss_cons (ps_if (pt_cmpR op_in_seq (pv 0) (pe_lst (pa_cons pe_str (pa_cons pe_str (pa_cons pe_str (pa_cons pe_str (pa_cons pe_str (pa_cons pe_str pa_nil))))))) (by rfl)) (pss_one (ps_ret (pe_dget hu
          (pe_disp (pps_cons pe_str (pe_cmpR op_eq (pv 1) (pv 2) (nomark _)) (pps_cons pe_str (pe_cmpR op_ne (pv 1) (pv 2) (nomark _)) (pps_cons pe_str (pe_cmpR op_ltK (pv 1) (pv 2) (nomark _)) (pps_cons pe_str (pe_cmpR op_leK (pv 1) (pv 2) (nomark _))
            (pps_cons pe_str (pe_cmpR op_gtK (pv 1) (pv 2) (nomark _)) (pps_cons pe_str (pe_cmpR op_geK (pv 1) (pv 2) (nomark _)) pps_nil)))))) (by rfl) (by rfl) (fun z => by cases z) (by decide)) (pv 0) (fun _ _ => rfl)))) pss_nil)
      (Evl.pss_cut (ps_if (PW.pt (pw_and (pt_cmpR op_in_seq (pv 0) (pe_lst (pa_cons pe_str (pa_cons pe_str pa_nil))) (by rfl)) (pw_and1 (pt_cmpR op_eq (pv 2) pe_int (nomark _))))) (pss_one (ps_ret pe_non)) pss_nil)
      (Evl.pss_cut (ps_if (pt_cmpR op_eq (pv 0) pe_str (nomark _)) (pss_one (ps_set (i := 3) scPair.nd rfl (.inl rfl) (pe_op op_fdivZ (pv 1) (pv 2))))
          (pss_one (ps_if (pt_cmpR op_eq (pv 0) pe_str (nomark _)) (pss_one (ps_set (i := 3) scPair.nd rfl (.inl rfl) (pe_op op_sub (pv 1) (pe_op op_mulW (pv 2) (pe_op op_fdivZ (pv 1) (pv 2))))))
            (pss_one (ps_set (i := 3) scPair.nd rfl (.inl rfl) (pe_dget hu (pe_disp (pps_cons pe_str (pe_op op_add (pv 1) (pv 2)) (pps_cons pe_str (pe_op op_sub (pv 1) (pv 2)) (pps_cons pe_str (pe_op op_mulW (pv 1) (pv 2)) pps_nil))) (by rfl) (by rfl) (fun z => by cases z) (by decide)) (pv 0) (fun _ _ => rfl)))))))
      (pss_one (ps_ret (pe_ix ix_list (pe_lst (pa_cons pe_non (pa_cons (pv 3) pa_nil))) (pe_callTy call_int1 (by rfl) N.int (by decide +kernel) (pa_cons (pe_chain op_lt op_lt (pe_un un_neg (pe_op op_pow pe_int pe_int)) (pv 3) (pe_op op_pow pe_int pe_int)) pa_nil)) (fun _ _ => rfl))))))), ?_⟩
    cases ha with
    | joined y z hy hz =>
      have hyz : y.length + z.length ≤ sizeLine := Nat.le_trans (show y.length + z.length ≤ 400 by omega) (by decide)
      have e : (y ++ z).length = y.length + z.length := Array.size_append
      refine ⟨_, rfl, rfl, _, rfl, iteB (by decide +kernel) ?_⟩
      refine ⟨_, rfl, _, rfl, y, z, rfl, rfl, hyz, (by show 2 ≤ sizeLine; decide), fun o no => ?_⟩
      refine ⟨_, rfl, _, rfl, y, z, rfl, rfl, hyz, y ++ z, rfl, by rw [e]; exact hyz, ((y ++ z).length : Int), 200, rfl, rfl, .inr ⟨_, rfl, ?_⟩⟩
      obtain ⟨v, h1, h2⟩ := pick2 (decide ((200 : Int) < ((y ++ z).length : Int))) (.str (y ++ z))
      refine ⟨o, _, _, v, rfl, rfl, .inl (.inl upd_same), h1, ?_⟩
      have e2 : v = (if y.length + z.length ≤ 200 then V.str (y ++ z) else .non) := by
        rw [h2, e]
        by_cases c : y.length + z.length ≤ 200
        · rw [if_pos c, if_neg (by rw [decide_eq_false (by omega)]; decide)]
        · rw [if_neg c, if_pos (decide_eq_true (by omega))]
      rw [e2]
      exact q _ (same_new no)
    | cmp w k _ _ hw ha hb =>
      have hs := scal_k ha hb
      refine ⟨_, rfl, rfl, _, rfl, iteBF (cm_t wd hw) ?_⟩
      refine ⟨_, rfl, (by show 6 ≤ sizeLine; decide), fun o no => ⟨o, _, rfl, .inl (.inl (.inl upd_same)), rfl, flat_strs CMP, _, rfl, iteB ((inV_str _ CMP).trans (decide_eq_true hw)) ?_⟩⟩
      intro p np
      refine ⟨_, rfl, _, rfl, hs, _, rfl, _, rfl, hs, _, rfl, _, rfl, k, ha, hb, _, rfl, _, rfl, k, ha, hb, _, rfl, _, rfl, k, ha, hb, _, rfl, _, rfl, k, ha, hb, upd_same, ?_⟩
      refine ⟨[((Sum.inr "eq" : Key), .bl (decide (a = b))), (Sum.inr "ne", .bl (!decide (a = b))), (Sum.inr "lt", .bl (less k a b)), (Sum.inr "le", .bl (!less k b a)), (Sum.inr "gt", .bl (less k b a)), (Sum.inr "ge", .bl (!less k a b))], rfl, (by show 6 ≤ 15; decide), ?_⟩
      refine ⟨_, rfl, p, _, rfl, ?_, q _ ?_⟩
      · have hd := DGet.k (k := (Sum.inr wd : Key)) (upd_same (H := upd (upd H o (.lst (CMP.map V.str))) p (.dK [])) (a := p) (o := .dK (mergeK [] [((Sum.inr "eq" : Key), .bl (decide (a = b))), (Sum.inr "ne", .bl (!decide (a = b))), (Sum.inr "lt", .bl (less k a b)), (Sum.inr "le", .bl (!less k b a)), (Sum.inr "gt", .bl (less k b a)), (Sum.inr "ge", .bl (!less k a b))])))
        rw [six wd hw] at hd
        have e : (if wd = "eq" then V.bl (decide (a = b)) else if wd = "ne" then .bl (!decide (a = b)) else if wd = "lt" then .bl (less k a b) else if wd = "le" then .bl (!less k b a) else if wd = "gt" then .bl (less k b a) else .bl (!less k a b)) = .bl (cmpV wd k a b) := by
          unfold cmpV
          repeat' split
          all_goals rfl
        rw [e] at hd
        exact hd
      · have h0 : H p = none := (same_new no).free np
        exact same_put (same_put (same_new no) h0) h0
    | ar w a b hw ha hb =>
      obtain ⟨t1, t2⟩ := a5_t2 wd hw
      refine ⟨_, rfl, rfl, _, rfl, iteBF t1 ?_⟩
      refine ⟨_, rfl, (by show 6 ≤ sizeLine; decide), fun o no => ⟨o, _, rfl, .inl (.inl (.inl upd_same)), rfl, flat_strs CMP, _, rfl, iteBF ((inV_str _ CMP).trans (decide_eq_false (a5_cmp wd hw))) ?_⟩⟩
      have s1 := same_new (o := .lst (CMP.map V.str)) no
      refine ⟨fun (σ : St) (H' : Hp) => σ = [some (.str wd), some (.int a), some (.int b), none] ∧ Same H H' ∧ ∃ n, arI wd a b = some n, ?_, ?_⟩
      · refine ⟨_, rfl, (by show 2 ≤ sizeLine; decide), fun o2 no2 => ?_⟩
        have s2 := s1.trans (same_new (o := .lst (DM.map V.str)) no2)
        refine ⟨o2, _, rfl, .inl (.inl (.inl upd_same)), rfl, flat_strs DM, _, rfl, ?_⟩
        have hin : inV (.str wd) (DM.map V.str) = decide (wd = "div" ∨ wd = "mod") := by rw [inV_str, t2]
        by_cases hd : wd = "div" ∨ wd = "mod"
        · refine iteB (hin.trans (decide_eq_true hd)) ⟨_, rfl, rfl, _, rfl, ?_⟩
          rw [dec_zero]
          by_cases h0 : b = 0
          · have e0 : arI wd a b = none := by
              rcases hd with rfl | rfl
              · rw [av4, if_pos h0]
              · rw [av5, if_pos h0]
            rw [e0] at q
            exact iteB (decide_eq_true h0) (q _ s2)
          · refine iteBF (decide_eq_false h0) ⟨rfl, s2, ?_⟩
            rcases hd with rfl | rfl
            · exact ⟨_, by rw [av4, if_neg h0]⟩
            · exact ⟨_, by rw [av5, if_neg h0]⟩
        · refine iteBF (hin.trans (decide_eq_false hd)) ⟨rfl, s2, ?_⟩
          have : wd = "add" ∨ wd = "sub" ∨ wd = "mul" := by
            have t : ∀ z ∈ A5, z = "add" ∨ z = "sub" ∨ z = "mul" ∨ z = "div" ∨ z = "mod" := by decide +kernel
            rcases t wd hw with h | h | h | h | h
            · exact .inl h
            · exact .inr (.inl h)
            · exact .inr (.inr h)
            · exact absurd (.inl h) hd
            · exact absurd (.inr h) hd
          rcases this with rfl | rfl | rfl
          · exact ⟨_, av1 a b⟩
          · exact ⟨_, av2 a b⟩
          · exact ⟨_, av3 a b⟩
      rintro σ H3 ⟨rfl, s3, n, hn⟩
      rw [hn] at q
      refine ⟨fun (σ : St) (H' : Hp) => σ = [some (.str wd), some (.int a), some (.int b), some (.int n)] ∧ Same H H', ?_, ?_⟩
      · have low : ∀ m : Int, wd ∈ ([("add" : Str), "sub", "mul"] : List Str) → (if wd = "add" then V.int (a + b) else if wd = "sub" then .int (a - b) else .int (a * b)) = .int n := fun m hm => by
          rcases List.mem_cons.mp hm with rfl | hm
          · rw [if_pos rfl]
            rw [av1] at hn
            rw [Option.some.inj hn]
          rcases List.mem_cons.mp hm with rfl | hm
          · rw [if_neg (by decide +kernel), if_pos rfl]
            rw [av2] at hn
            rw [Option.some.inj hn]
          rcases List.mem_cons.mp hm with rfl | hm
          · rw [if_neg (by decide +kernel), if_neg (by decide +kernel)]
            rw [av3] at hn
            rw [Option.some.inj hn]
          · exact absurd hm List.not_mem_nil
        have t : ∀ z ∈ A5, z ∈ ([("add" : Str), "sub", "mul"] : List Str) ∨ z = "div" ∨ z = "mod" := by decide +kernel
        rcases t wd hw with hl | rfl | rfl
        · have tl : ∀ z ∈ ([("add" : Str), "sub", "mul"] : List Str), decide (V.str z = V.str "div") = false ∧ decide (V.str z = V.str "mod") = false := by decide +kernel
          obtain ⟨u1, u2⟩ := tl wd hl
          refine ⟨_, rfl, rfl, _, rfl, iteBF u1 ⟨_, rfl, rfl, _, rfl, iteBF u2 ?_⟩⟩
          intro p np
          refine ⟨_, rfl, _, rfl, a, b, rfl, rfl, _, rfl, _, rfl, a, b, rfl, rfl, _, rfl, _, rfl, a, b, rfl, rfl, wide_mul (num_abs ha) (num_abs hb) (by decide) (by decide) (by decide), upd_same, ?_⟩
          refine ⟨[((Sum.inr "add" : Key), .int (a + b)), (Sum.inr "sub", .int (a - b)), (Sum.inr "mul", .int (a * b))], rfl, (by show 3 ≤ 15; decide), ?_⟩
          refine ⟨_, rfl, p, .int n, rfl, ?_, rfl, ?_⟩
          · have hd := DGet.k (k := (Sum.inr wd : Key)) (upd_same (H := upd H3 p (.dK [])) (a := p) (o := .dK (mergeK [] [((Sum.inr "add" : Key), .int (a + b)), (Sum.inr "sub", .int (a - b)), (Sum.inr "mul", .int (a * b))])))
            rw [three_v wd hl, low 0 hl] at hd
            exact hd
          · have h0 : H p = none := s3.free np
            exact same_put (same_put s3 h0) h0
        · have h0 : ¬ b = 0 := fun z => by
            rw [av4, if_pos z] at hn
            cases hn
          rw [av4, if_neg h0] at hn
          have e := Option.some.inj hn
          refine ⟨_, rfl, rfl, _, rfl, iteB (by decide +kernel) ⟨_, rfl, _, rfl, a, b, rfl, rfl, ⟨h0, num_log hb⟩, ?_, s3⟩⟩
          rw [← e]
          rfl
        · have h0 : ¬ b = 0 := fun z => by
            rw [av5, if_pos z] at hn
            cases hn
          rw [av5, if_neg h0] at hn
          have e := Option.some.inj hn
          refine ⟨_, rfl, rfl, _, rfl, iteBF (by decide +kernel) ⟨_, rfl, rfl, _, rfl, iteB (by decide +kernel) ?_⟩⟩
          refine ⟨_, rfl, _, rfl, _, rfl, _, rfl, a, b, rfl, rfl, ⟨h0, num_log hb⟩, b, a.fdiv b, rfl, rfl, wide_mul (num_abs hb) (fdiv_abs ha) (by decide) (by decide) (by decide), a, _, rfl, rfl, ?_, s3⟩
          rw [← e, Int.fmod_def]
          rfl
      · rintro σ H4 ⟨rfl, s4⟩
        refine ⟨_, rfl, (by show 2 ≤ sizeLine; decide), fun o3 no3 => ?_⟩
        have s5 := s4.trans (same_new (o := .lst [V.non, V.int n]) no3)
        refine ⟨10, 30, rfl, rfl, ⟨by decide, by decide, by decide⟩, _, rfl, _, rfl, _, n, rfl, rfl, _, rfl, ?_⟩
        by_cases c1 : -(10 ^ 30 : Int) < n
        · refine iteB (decide_eq_true c1) ⟨10, 30, rfl, rfl, ⟨by decide, by decide, by decide⟩, n, _, rfl, rfl, .inr ⟨_, rfl, ?_⟩⟩
          obtain ⟨v, g1, g2⟩ := pick1 (decide (n < (10 : Int) ^ (30 : Int).toNat)) (.int n)
          refine ⟨o3, _, _, v, rfl, rfl, .inl (.inl upd_same), g1, ?_⟩
          have e2 : v = capI (some n) := by
            rw [g2]
            show _ = if (decide (-(10 ^ 30 : Int) < n) && decide (n < 10 ^ 30)) = true then V.int n else .non
            rw [decide_eq_true c1, Bool.true_and]
            rfl
          rw [e2]
          exact q _ s5
        · refine iteBF (decide_eq_false c1) (.inr ⟨false, rfl, ?_⟩)
          refine ⟨o3, _, 0, .non, rfl, rfl, .inl (.inl upd_same), atI_nat (j := 0) rfl, ?_⟩
          have e2 : capI (some n) = .non := by
            show (if (decide (-(10 ^ 30 : Int) < n) && decide (n < 10 ^ 30)) = true then V.int n else .non) = .non
            rw [decide_eq_false c1, Bool.false_and]
            rfl
          rw [e2] at q
          exact q _ s5
end
end K2

namespace K2
open PySem L2
theorem ApL.lw {w : Str} {xs : List V} {v : V} (h : ApL w xs v) : w ∈ LW := by cases h <;> decide +kernel
theorem ApS.lw {w : Str} {xs : List V} {v : V} (h : ApS w xs v) : w ∉ LW := by
  cases h with
  | not _ => exact notLW _ (by decide +kernel)
  | neg _ => exact notLW _ (by decide +kernel)
  | abs _ => exact notLW _ (by decide +kernel)
  | len _ _ => exact notLW _ (by decide +kernel)
  | joined _ _ _ _ => exact notLW _ (by decide +kernel)
  | cmp _ _ _ _ hw _ _ => exact notLW _ (List.mem_append.mpr (.inl (List.mem_append.mpr (.inr hw))))
  | ar _ _ _ hw _ _ => exact notLW _ (List.mem_append.mpr (.inr hw))
theorem lv_ne {w : Str} (h : w ∉ LV) : decide (V.str w = V.str "value") = false ∧ decide (V.str w = V.str "attr") = false ∧ decide (V.str w = V.str "dim") = false := by
  refine ⟨?_, ?_, ?_⟩ <;> rw [str_eq] <;> refine decide_eq_false fun z => h ?_ <;> rw [z] <;> decide +kernel
theorem Ev.op_inv {ds : List D} {ts : List T} {pl : List Int} {vs : List V} {e : Ex} {v : V} (h : Ev ds ts pl vs e v) {H : Hp} {r : V} (he : ExAt H r e) (nw : e.word ∉ LV) : ∃ xs, EvAll ds ts pl vs e.parts xs ∧ xs.all flatV = true ∧ Ap e.word xs v := by
  cases he with
  | val _ => exact absurd (by show ("value" : Str) ∈ LV; decide +kernel) nw
  | attr _ => exact absurd (by show ("attr" : Str) ∈ LV; decide +kernel) nw
  | dim _ => exact absurd (by show ("dim" : Str) ∈ LV; decide +kernel) nw
  | op _ _ _ _ =>
    cases h with
    | op h1 h2 h3 => exact ⟨_, h1, h2, h3⟩
theorem parts_le {e : Ex} (wf : WF e) {H : Hp} {v : V} (he : ExAt H v e) : e.parts.length ≤ 3 := by
  by_cases nw : e.word ∈ LV
  · obtain ⟨_, _, _, _, _, g⟩ := he.tup
    rw [g nw]
    decide
  · exact ar_le (wf.ar he nw)
def Loose (K : PySem.W.Frag) (mg : Str → Option Value) : Prop := ∃ kk, mg "LOOSE_WORDS" = some (.ref kk) ∧ ∀ H : Hp, SqT K H kk (LW.map V.str)
section
variable {P : Program} {w : World} {K : PySem.W.Frag} {mg : Str → Option Value} {base : Heap}
def spVO (C : Addr) (n : Nat) : Sp := fun vs H Q _ => ∃ (r : V) (s pa va : Addr) (e : Ex) (ds : List D) (ts : List T) (pl : List Int) (ws : List V) (v : V), vs = [r, .ref s, .ref pa, .ref va] ∧ ExAt H r e ∧ WF e ∧ e.dep < n ∧ ShapeAt H C s ds ts ∧ H pa = some (.tup (pl.map V.int)) ∧ H va = some (.tup ws) ∧
  Ev ds ts pl ws e v ∧ (ds.length ≤ 900 ∧ ts.length ≤ 900) ∧ ∀ H', Same H H' → Q v H'
theorem scVO : FnScope ["expression", "shape", "place", "values", "word", "parts", "part"] ["expression", "shape", "place", "values"] (defScope sValueOf) := ⟨rfl, rfl, rfl, by decide +kernel, rfl, by decide +kernel, by decide +kernel⟩
theorem ok_vo {f fP fA fD fL fS C : Addr} {fd fdP fdA fdD fdL fdS : FuncData} (F : Fun K "value_of" "value_of" sValueOf f fd) (gF : mg "value_of" = some (.ref f)) (bF : Binds K fd ["expression", "shape", "place", "values"] []) (lo : Loose K mg)
    (GP : FnOk P w K mg base CX0 1 fP fdP ["expression"] spParts) (kP : PySem.W.keepIn K (.ref fP) = true) (bP : Binds K fdP ["expression"] []) (gP : mg "parts_of" = some (.ref fP))
    (GA : FnOk P w K mg base CX0 2 fA fdA ["shape", "name"] (spAttrIx C)) (kA : PySem.W.keepIn K (.ref fA) = true) (bA : Binds K fdA ["shape", "name"] []) (gA : mg "attr_index" = some (.ref fA))
    (GD : FnOk P w K mg base CX0 2 fD fdD ["shape", "name"] (spDimIx C)) (kD : PySem.W.keepIn K (.ref fD) = true) (bD : Binds K fdD ["shape", "name"] []) (gD : mg "dim_index" = some (.ref fD))
    (GL : FnOk P w K mg base CX0 2 fL fdL ["word", "parts"] spLoose) (kL : PySem.W.keepIn K (.ref fL) = true) (bL : Binds K fdL ["word", "parts"] []) (gL : mg "loose_value" = some (.ref fL))
    (GS : FnOk P w K mg base CX0 3 fS fdS ["word", "parts"] spStrict) (kS : PySem.W.keepIn K (.ref fS) = true) (bS : Binds K fdS ["word", "parts"] []) (gS : mg "strict_value" = some (.ref fS)) :
    ∀ n : Nat, FnOk P w K mg base CX0 (4 + n) f fd ["expression", "shape", "place", "values"] (spVO C n) := by
  intro n
  induction n with
  | zero =>
    refine F.ok scVO (fun vs H Q E h => ?_) (fun cdv A outer s H vs Q E hr h => ?_)
    · obtain ⟨r, s, pa, va, e, ds, ts, pl, ws, v, rfl, _⟩ := h
      rfl
    · obtain ⟨r, s', pa, va, e, ds, ts, pl, ws, v, rfl, he, wf, hd, _⟩ := h
      exact absurd hd (Nat.not_lt_zero _)
  | succ n ih =>
    refine F.ok scVO (fun vs H Q E h => ?_) (fun cdv A outer s H vs Q E hr h => ?_)
    · obtain ⟨r, s, pa, va, e, ds, ts, pl, ws, v, rfl, _⟩ := h
      rfl
    · obtain ⟨r, s', pa, va, e, ds, ts, pl, ws, v, rfl, he, wf, hd, hS, hpa, hva, hev, gk, q⟩ := h
      have hr1 := hr.mono (j := 1) (by show 1 ≤ 4 + n; omega)
      have hr2 := hr.mono (j := 2) (by show 2 ≤ 4 + n; omega)
      have hr3 := hr.mono (j := 3) (by show 3 ≤ 4 + n; omega)
      have hrn := hr.mono (j := 4 + n) (by show 4 + n ≤ 4 + n; omega)
      obtain ⟨kk, m1, r1⟩ := lo
      refine ⟨_, pss_cons (ps_set (i := 4) scVO.nd rfl (.inl rfl) (pe_ix ix_tup (pv 0) pe_int (fun _ _ => rfl)))
        (pss_cons (ps_if (pt_cmpR op_eq (pv 4) pe_str (nomark _)) (pss_one (ps_ret (pe_ix ix_tup (pv 0) pe_int (fun _ _ => rfl)))) pss_nil)
        (pss_cons (ps_if (pt_cmpR op_eq (pv 4) pe_str (nomark _)) (pss_one (ps_ret (pe_ix ix_tup (pv 3) (pe_call GA hr2 (by rfl) gA kA bA .nil pass0 (pa_cons (pv 1) (pa_cons (pe_ix ix_tup (pv 0) pe_int (fun _ _ => rfl)) pa_nil))) (fun _ _ => rfl)))) pss_nil)
        (pss_cons (ps_if (pt_cmpR op_eq (pv 4) pe_str (nomark _)) (pss_one (ps_ret (pe_ix ix_tup (pv 2) (pe_call GD hr2 (by rfl) gD kD bD .nil pass0 (pa_cons (pv 1) (pa_cons (pe_ix ix_tup (pv 0) pe_int (fun _ _ => rfl)) pa_nil))) (fun _ _ => rfl)))) pss_nil)
        (pss_cons (ps_setLc (i := 5) (own := [("part", 6)]) (g := gName 6) (tt := tYes) rfl scVO.nd rfl rfl (sw_true rfl rfl rfl (by decide +kernel)) (pi_list (pe_call GP hr1 (by rfl) gP kP bP .nil pass0 (pa_cons (pv 0) pa_nil)))
            (blkOk_by (N := ["expression", "shape", "place", "values", "word", "parts", "part"]) (sc := defScope sValueOf) (by decide +kernel)) (fun _ _ _ _ _ => pg_name (i := 6) scVO.nd rfl (Or.inl rfl)) (fun _ _ _ _ _ => pts_nil)
            (fun _ _ _ _ _ => pe_call ih hrn (by rfl) gF F.kp bF .nil pass0 (pa_cons (pv 6) (pa_cons (pv 1) (pa_cons (pv 2) (pa_cons (pv 3) pa_nil))))))
        (pss_cons (ps_if (pt_cmpR op_in_seq (pv 4) (pe_glob (v := .ref kk) (by rfl) m1 rfl) (by rfl)) (pss_one (ps_ret (pe_call GL hr2 (by rfl) gL kL bL .nil pass0 (pa_cons (pv 4) (pa_cons (pv 5) pa_nil))))) pss_nil)
        (pss_cons (ps_if (pt_cmpR op_in_seq pe_non (pv 5) (by rfl)) (pss_one (ps_ret pe_non)) pss_nil)
        (pss_one (ps_ret (pe_call GS hr3 (by rfl) gS kS bS .nil pass0 (pa_cons (pv 4) (pa_cons (pv 5) pa_nil))))))))))), ?_⟩
      have hpl := parts_le wf he
      have he0 := he
      obtain ⟨a, xs, rfl, ha, h1, h2⟩ := he.tup
      refine ⟨_, rfl, a, _, 0, _, rfl, rfl, SqT.of ha, atI_nat (j := 0) rfl, ?_⟩
      cases he with
      | @val _ k v2 hx =>
        cases hev
        have hx := hx
        exact ⟨_, rfl, rfl, _, rfl, iteB (by show decide (V.str "value" = V.str "value") = true; decide +kernel) ⟨_, rfl, a, _, 2, v, rfl, rfl, SqT.of hx, atI_nat (j := 2) rfl, q _ (fun _ _ z => z)⟩⟩
      | @attr _ nm hx =>
        cases hev with
        | @attr _ i _ hi hv =>
          refine ⟨_, rfl, rfl, _, rfl, iteBF (by show decide (V.str "attr" = V.str "value") = false; decide +kernel) ⟨_, rfl, rfl, _, rfl, iteB (by show decide (V.str "attr" = V.str "attr") = true; decide +kernel) ?_⟩⟩
          refine ⟨_, rfl, _, rfl, _, rfl, a, _, 1, .str nm, rfl, rfl, SqT.of hx, atI_nat (j := 1) rfl, s', nm, ds, ts, rfl, hS, fun r hr H' sm => ?_⟩
          obtain rfl := idx_one hi hr
          exact ⟨va, ws, i, v, rfl, rfl, SqT.of (sm _ _ hva), atI_nat hv, q _ sm⟩
      | @dim _ nm hx =>
        cases hev with
        | @dim _ i c hi hv =>
          refine ⟨_, rfl, rfl, _, rfl, iteBF (by show decide (V.str "dim" = V.str "value") = false; decide +kernel) ⟨_, rfl, rfl, _, rfl, iteBF (by show decide (V.str "dim" = V.str "attr") = false; decide +kernel) ⟨_, rfl, rfl, _, rfl, iteB (by show decide (V.str "dim" = V.str "dim") = true; decide +kernel) ?_⟩⟩⟩
          refine ⟨_, rfl, _, rfl, _, rfl, a, _, 1, .str nm, rfl, rfl, SqT.of hx, atI_nat (j := 1) rfl, s', nm, ds, ts, rfl, hS, fun r hr H' sm => ?_⟩
          obtain rfl := idx_one hi hr
          exact ⟨pa, _, i, .int c, rfl, rfl, SqT.of (sm _ _ hpa), atI_nat (by rw [List.getElem?_map, hv]; rfl), q _ sm⟩
      | @op _ wd xs2 ps hx g nw ne =>
        obtain ⟨zs, hz, hf, hap⟩ := hev.op_inv he0 nw
        obtain ⟨n1, n2, n3⟩ := lv_ne nw
        refine ⟨_, rfl, rfl, _, rfl, iteBF n1 ⟨_, rfl, rfl, _, rfl, iteBF n2 ⟨_, rfl, rfl, _, rfl, iteBF n3 ?_⟩⟩⟩
        refine ⟨_, rfl, _, _, rfl, he0, fun H1 p ys s1 np hp hx1 => ⟨p, rfl, ⟨_, .inl (.inl hp)⟩, fun D nD => ?_⟩⟩
        have ly := hx1.len
        have lz : zs.length = ps.length := hz.len
        have hpl : ps.length ≤ 3 := hpl
        have ly : ys.length = ps.length := ly
        have s2 := s1.trans (same_new (o := .lst []) nD)
        have nD0 := s1.free nD
        refine lc_list (K := K) (a := p) (xs := ys) (fun i H3 => Same H H3 ∧ H3 p = some (.lst ys) ∧ H3 D = some (.lst (zs.take i)) ∧ ExAll H3 ys ps) ⟨s2, same_new nD _ _ hp, upd_same, hx1.same (same_new nD)⟩ (fun _ _ _ z => .inl (.inl z.2.1)) ?_ ?_
        · rintro i x H3 hxi ⟨sm, hp3, hD, hxk⟩
          have hi : i < ys.length := (List.getElem?_eq_some_iff.mp hxi).1
          have hi2 : i < ps.length := by omega
          obtain ⟨x2, e1, e2⟩ := hxk.at (List.getElem?_eq_getElem hi2)
          obtain rfl : x = x2 := Option.some.inj (hxi.symm.trans e1)
          have hm : ps[i] ∈ ps := List.getElem_mem hi2
          have hdp := dep_part (e := .op wd ps) hm
          obtain ⟨z, e3, e4⟩ := hz.at (List.getElem?_eq_getElem hi2)
          refine ⟨rfl, ?_⟩
          dsimp only [tYes]
          rw [if_pos rfl]
          refine ⟨_, rfl, _, rfl, _, rfl, _, rfl, x, s', pa, va, ps[i], ds, ts, pl, ws, z, rfl, e2, wf.part (e := .op wd ps) hm, by omega, hS.same sm, sm _ _ hpa, sm _ _ hva, e4, gk, fun H4 s4 => ⟨_, s4 _ _ hD, ?_, ?_⟩⟩
          · rw [List.length_take]
            exact small1000 (by omega)
          · refine ⟨same_put (sm.trans s4) nD0, ?_, ?_, (hxk.same s4).keep fun b r hb => ?_⟩
            · rw [upd_ne (ne_of_none hp nD)]
              exact s4 _ _ hp3
            · rw [upd_same, List.take_add_one, e3]
              rfl
            · rw [upd_ne]
              · exact hb
              · intro y
                rw [y, s4 _ _ hD] at hb
                cases hb
        · rintro H3 ⟨sm, hp3, hD, _⟩
          rw [ly, ← lz, List.take_length] at hD
          refine ⟨_, rfl, kk, _, rfl, .inr (r1 H3), rfl, flat_strs LW, _, rfl, ?_⟩
          cases hap with
          | loose hl =>
            exact iteB ((inV_str _ LW).trans (decide_eq_true hl.lw)) ⟨_, rfl, _, rfl, wd, D, zs, v, rfl, hD, hl, q _ sm⟩
          | gone nl hn =>
            refine iteBF ((inV_str _ LW).trans (decide_eq_false nl)) ⟨_, rfl, D, zs, rfl, .inl (.inl (.inl hD)), rfl, hf, _, rfl, iteB ((inV_non hf).trans (decide_eq_true hn)) (q _ sm)⟩
          | strict hn hs =>
            refine iteBF ((inV_str _ LW).trans (decide_eq_false hs.lw)) ⟨_, rfl, D, zs, rfl, .inl (.inl (.inl hD)), rfl, hf, _, rfl, iteBF ((inV_non hf).trans (decide_eq_false hn)) ⟨_, rfl, _, rfl, wd, D, zs, v, rfl, hD, hs, q _ sm⟩⟩
end
end K2

namespace K2
open PySem L2
def ANO : List Str := ["and", "or"]
theorem lw_ne {w : Str} (h : w ∉ LW) : decide (V.str w = V.str "is missing") = false ∧ decide (V.str w = V.str "or else") = false ∧ decide (V.str w = V.str "if") = false ∧ w ∉ ANO := by
  refine ⟨?_, ?_, ?_, fun z => ?_⟩
  · rw [str_eq]; refine decide_eq_false fun z => h ?_; rw [z]; decide +kernel
  · rw [str_eq]; refine decide_eq_false fun z => h ?_; rw [z]; decide +kernel
  · rw [str_eq]; refine decide_eq_false fun z => h ?_; rw [z]; decide +kernel
  · have t : ∀ x ∈ ANO, x ∈ LW := by decide +kernel
    exact h (t w z)
/-- and, or in one: t is what decides -/
def ao (t : Bool) (a b : Option Bool) : Option Bool := if a = some t ∨ b = some t then some t else if a = none ∨ b = none then none else some (!t)
theorem ao_and (a b : Option Bool) : and3 a b = ao false a b := by
  match a, b with
  | none, none => decide
  | none, some true => decide
  | none, some false => decide
  | some true, none => decide
  | some true, some true => decide
  | some true, some false => decide
  | some false, none => decide
  | some false, some true => decide
  | some false, some false => decide
theorem ao_or (a b : Option Bool) : or3 a b = ao true a b := by
  match a, b with
  | none, none => decide
  | none, some true => decide
  | none, some false => decide
  | some true, none => decide
  | some true, some true => decide
  | some true, some false => decide
  | some false, none => decide
  | some false, some true => decide
  | some false, some false => decide
theorem ApL.inv {w : Str} {xs : List V} {v : V} (h : ApL w xs v) : (w = "is missing" ∧ ∃ x, xs = [x] ∧ v = .bl (decide (x = .non))) ∨ (w = "or else" ∧ ∃ a b, xs = [a, b] ∧ v = (if a = .non then b else a)) ∨
    (w = "if" ∧ ∃ c a b, xs = [ob c, a, b] ∧ v = chs c a b) ∨ ∃ (t : Bool) (a b : Option Bool), w = (if t = true then ("or" : Str) else "and") ∧ xs = [ob a, ob b] ∧ v = ob (ao t a b) := by
  cases h with
  | mis x => exact .inl ⟨rfl, x, rfl, rfl⟩
  | els a b => exact .inr (.inl ⟨rfl, a, b, rfl, rfl⟩)
  | iff c a b => exact .inr (.inr (.inl ⟨rfl, c, a, b, rfl, rfl⟩))
  | and2 a b => exact .inr (.inr (.inr ⟨false, a, b, rfl, rfl, by rw [ao_and]⟩))
  | or2 a b => exact .inr (.inr (.inr ⟨true, a, b, rfl, rfl, by rw [ao_or]⟩))
theorem ob_inj {a b : Option Bool} (h : ob a = ob b) : a = b := by
  cases a <;> cases b <;> first | rfl | (cases h; rfl) | cases h
section
variable {P : Program} {w : World} {K : PySem.W.Frag} {mg : Str → Option Value} {base : Heap}
theorem scLX : FnScope ["expression", "shape", "place", "values", "word", "results", "first", "result", "name", "kind", "dim", "part"] ["expression", "shape", "place", "values"] (defScope sLValue) := ⟨rfl, rfl, rfl, by decide +kernel, rfl, by decide +kernel, by decide +kernel⟩
theorem ok_lx {f fJ C f1 f2 : Addr} {fd fdJ : FuncData} (F : Fun K "_law_value" "_law_value" sLValue f fd) (gF : mg "_law_value" = some (.ref f)) (bF : Binds K fd ["expression", "shape", "place", "values"] []) (N : Nm mg) (S : ShC K C f1 f2)
    (FJ : Fun K "_law_pair" "_law_pair" sLPair fJ fdJ) (bJ : Binds K fdJ ["word", "a", "b"] []) (gJ : mg "_law_pair" = some (.ref fJ)) :
    ∀ n : Nat, FnOk P w K mg base CX0 (2 + n) f fd ["expression", "shape", "place", "values"] (spVO C n) := by
  have GJ : FnOk P w K mg base CX0 1 fJ fdJ ["word", "a", "b"] spPair := ok_pair FJ N
  intro n
  induction n with
  | zero =>
    refine F.ok scLX (fun vs H Q E h => ?_) (fun cdv A outer s H vs Q E hr h => ?_)
    · obtain ⟨r, s, pa, va, e, ds, ts, pl, ws, v, rfl, _⟩ := h
      rfl
    · obtain ⟨r, s', pa, va, e, ds, ts, pl, ws, v, rfl, he, wf, hd, _⟩ := h
      exact absurd hd (Nat.not_lt_zero _)
  | succ n ih =>
    refine F.ok scLX (fun vs H Q E h => ?_) (fun cdv A outer s H vs Q E hr h => ?_)
    · obtain ⟨r, s, pa, va, e, ds, ts, pl, ws, v, rfl, _⟩ := h
      rfl
    · obtain ⟨r, s', pa, va, e, ds, ts, pl, ws, v, rfl, he, wf, hd, hS, hpa, hva, hev, gk, q⟩ := h
      have hr1 := hr.mono (j := 1) (by show 1 ≤ 2 + n; omega)
      have hrn := hr.mono (j := 2 + n) (by show 2 + n ≤ 2 + n; omega)
      refine ⟨_, pss_cons (ps_set (i := 4) scLX.nd rfl (.inl rfl) (pe_ix ix_tup (pv 0) pe_int (fun _ _ => rfl)))
        (pss_cons (ps_if (pt_cmpR op_eq (pv 4) pe_str (nomark _)) (pss_one (ps_ret (pe_ix ix_tup (pv 0) pe_int (fun _ _ => rfl)))) pss_nil)
        (pss_cons (ps_if (pt_cmpR op_eq (pv 4) pe_str (nomark _)) (pss_one (ps_ret (pe_ix ix_tup (pv 3) (pe_bm PySem.F.plainAttrs_list PySem.F.slot_list_index PySem.F.type_list_index mt_index
            (pe_lc (own := [("name", 8), ("kind", 9)]) (g := gTup K 2 (gCons (gName 8) (gCons (gName 9) gNil))) (tt := tYes) rfl scLX.nd (pi_tup (pe_fld (pv 1) rfl))
              (blkOk_by (N := ["expression", "shape", "place", "values", "word", "results", "first", "result", "name", "kind", "dim", "part"]) (sc := defScope sLValue) (by decide +kernel))
              (fun _ _ _ _ _ => pg_tupK K rfl (by rfl) (pgs_cons (pg_name (i := 8) scLX.nd rfl (Or.inl rfl)) (pgs_cons (pg_name (i := 9) scLX.nd rfl (Or.inl rfl)) pgs_nil))) (fun _ _ _ _ _ => pts_nil) (fun _ _ _ _ _ => pv 8))
            (pa_cons (pe_ix ix_tup (pv 0) pe_int (fun _ _ => rfl)) pa_nil)) (fun _ _ => rfl)))) pss_nil)
        (pss_cons (ps_if (pt_cmpR op_eq (pv 4) pe_str (nomark _)) (pss_one (ps_ret (pe_ix ix_tup (pv 2) (pe_bm PySem.F.plainAttrs_list PySem.F.slot_list_index PySem.F.type_list_index mt_index
            (pe_lc (own := [("dim", 10)]) (g := gName 10) (tt := tYes) rfl scLX.nd (pi_tup (pe_fld (pv 1) rfl))
              (blkOk_by (N := ["expression", "shape", "place", "values", "word", "results", "first", "result", "name", "kind", "dim", "part"]) (sc := defScope sLValue) (by decide +kernel))
              (fun _ _ _ _ _ => pg_name (i := 10) scLX.nd rfl (Or.inl rfl)) (fun _ _ _ _ _ => pts_nil) (fun _ _ _ _ _ => pe_ix (ix_tupK K rfl) (pv 10) pe_int (fun _ _ => rfl)))
            (pa_cons (pe_ix ix_tup (pv 0) pe_int (fun _ _ => rfl)) pa_nil)) (fun _ _ => rfl)))) pss_nil)
        (pss_cons (ps_setLc (i := 5) (own := [("part", 11)]) (g := gName 11) (tt := tYes) rfl scLX.nd rfl rfl (sw_true rfl rfl rfl (by decide +kernel)) (pi_tup (pe_slice sl_tup (pv 0) (po_some pe_int) po_none))
            (blkOk_by (N := ["expression", "shape", "place", "values", "word", "results", "first", "result", "name", "kind", "dim", "part"]) (sc := defScope sLValue) (by decide +kernel)) (fun _ _ _ _ _ => pg_name (i := 11) scLX.nd rfl (Or.inl rfl)) (fun _ _ _ _ _ => pts_nil)
            (fun _ _ _ _ _ => pe_call ih hrn (by rfl) gF F.kp bF .nil pass0 (pa_cons (pv 11) (pa_cons (pv 1) (pa_cons (pv 2) (pa_cons (pv 3) pa_nil))))))
        (pss_cons (ps_set (i := 6) scLX.nd rfl (.inl rfl) (pe_ix ix_list (pv 5) pe_int (fun _ _ => rfl)))
        (pss_cons (ps_if (pt_cmpR op_eq (pv 4) pe_str (nomark _)) (pss_one (ps_ret (pe_cmpR op_isN (pv 6) pe_non (nomark _)))) pss_nil)
        (pss_cons (ps_if (pt_cmpR op_eq (pv 4) pe_str (nomark _)) (pss_one (ps_ret (pe_ix ix_list (pe_lst (pa_cons (pv 6) (pa_cons (pe_ix ix_list (pv 5) pe_int (fun _ _ => rfl)) pa_nil)))
            (pe_callTy call_int1 (by rfl) N.int (by decide +kernel) (pa_cons (pe_cmpR op_isN (pv 6) pe_non (nomark _)) pa_nil)) (fun _ _ => rfl)))) pss_nil)
        (pss_cons (ps_if (pt_cmpR op_eq (pv 4) pe_str (nomark _)) (pss_cons (ps_if (pt_cmpR op_isN (pv 6) pe_non (nomark _)) (pss_one (ps_ret pe_non)) pss_nil)
            (pss_one (ps_ret (pe_ix ix_list (pv 5) (pe_op op_sub pe_int (pe_callTy call_int1 (by rfl) N.int (by decide +kernel) (pa_cons (pv 6) pa_nil))) (fun _ _ => rfl))))) pss_nil)
        (pss_cons (ps_if (pt_cmpR op_in_seq (pv 4) (pe_lst (pa_cons pe_str (pa_cons pe_str pa_nil))) (by rfl))
            (pss_one (ps_for PassesOwn.never rfl (pi_list (pv 5)) (pg_name (i := 7) scLX.nd rfl (.inl rfl))
              (pss_one (ps_if (PW.pt (pw_and (pt_cmpR op_notN (pv 7) pe_non (nomark _)) (pw_and1 (pt_cmpR op_eq (pv 7) (pe_cmpR op_eq (pv 4) pe_str (nomark _)) (nomark _))))) (pss_one (ps_ret (pe_cmpR op_eq (pv 4) pe_str (nomark _)))) pss_nil)))) pss_nil)
        (pss_cons (ps_if (pt_cmpR op_in_seq pe_non (pv 5) (by rfl)) (pss_one (ps_ret pe_non)) pss_nil)
        (pss_cons (ps_if (pt_cmpR op_in_seq (pv 4) (pe_lst (pa_cons pe_str (pa_cons pe_str pa_nil))) (by rfl)) (pss_one (ps_ret (pe_cmpR op_eq (pv 4) pe_str (nomark _)))) pss_nil)
        (pss_cons (ps_if (pt_cmpR op_eq (pv 4) pe_str (nomark _)) (pss_one (ps_ret (pe_not (pv 6)))) pss_nil)
        (pss_cons (ps_if (pt_cmpR op_eq (pv 4) pe_str (nomark _)) (pss_one (ps_ret (pe_op op_sub pe_int (pv 6)))) pss_nil)
        (pss_cons (ps_if (pt_cmpR op_eq (pv 4) pe_str (nomark _)) (pss_one (ps_ret (pe_callB (call_max2 rfl) (by rfl) N.max (by decide +kernel) (pa_cons (pv 6) (pa_cons (pe_op op_sub pe_int (pv 6)) pa_nil))))) pss_nil)
        (pss_cons (ps_if (pt_cmpR op_eq (pv 4) pe_str (nomark _)) (pss_one (ps_ret (pe_callB call_len_str (by rfl) N.len PySem.boot_len (pa_cons (pv 6) pa_nil)))) pss_nil)
        (pss_one (ps_ret (pe_call GJ hr1 (by rfl) gJ FJ.kp bJ .nil pass0 (pa_cons (pv 4) (pa_cons (pv 6) (pa_cons (pe_ix ix_list (pv 5) pe_int (fun _ _ => rfl)) pa_nil))))))))))))))))))))), ?_⟩
      have hpl := parts_le wf he
      have he0 := he
      obtain ⟨a, xs, rfl, ha, h1, h2⟩ := he.tup
      refine ⟨_, rfl, a, _, 0, _, rfl, rfl, SqT.of ha, atI_nat (j := 0) rfl, ?_⟩
      cases he with
      | @val _ k v2 hx =>
        cases hev
        exact ⟨_, rfl, rfl, _, rfl, iteB (by show decide (V.str "value" = V.str "value") = true; decide +kernel) ⟨_, rfl, a, _, 2, v, rfl, rfl, SqT.of hx, atI_nat (j := 2) rfl, q _ (fun _ _ z => z)⟩⟩
      | @attr _ nm hx =>
        cases hev with
        | @attr _ i _ hi hv =>
          refine ⟨_, rfl, rfl, _, rfl, iteBF (by show decide (V.str "attr" = V.str "value") = false; decide +kernel) ⟨_, rfl, rfl, _, rfl, iteB (by show decide (V.str "attr" = V.str "attr") = true; decide +kernel) ?_⟩⟩
          obtain ⟨dx, td, ta, xs, ys, g1, g2, g3, g4, g5⟩ := id hS
          have ly : ys.length = ts.length := by
            have := g5.1
            rwa [List.length_map] at this
          refine ⟨_, rfl, _, rfl, s', C, dx, _, .ref ta, rfl, g1, S.cl, S.nA, rfl, ta, rfl, ⟨_, SqT.of g4⟩, fun D nD => ?_⟩
          refine lc_it (walk_tup (xs := ys)) (fun i H3 => Same H H3 ∧ H3 D = some (.lst (((ts.take i).map (·.n)).map V.str))) ⟨same_new nD, upd_same⟩ (fun _ _ _ z => SqT.of (z.1 _ _ g4)) ?_ ?_
          · rintro j x H3 H' hj ⟨sm, hD⟩ ⟨rfl, hxj⟩
            have hj2 : j < ts.length := by omega
            obtain ⟨b, e1, e2⟩ := g5.2 j ts[j].v (by rw [List.getElem?_map, List.getElem?_eq_getElem hj2]; rfl)
            obtain rfl : x = .ref b := Option.some.inj (hxj.symm.trans e1)
            refine ⟨b, _, rfl, SqT.of (sm _ _ e2), rfl, _, _, rfl, _, _, rfl, rfl, rfl, ?_⟩
            dsimp only [tYes]
            rw [if_pos rfl]
            refine ⟨_, rfl, _, hD, ?_, same_put sm nD, ?_⟩
            · have := (List.getElem?_eq_some_iff.mp hi.1).1
              rw [List.length_map, List.length_map, List.length_take]
              exact small1000 (by have := gk.1; have := gk.2; omega)
            · rw [upd_same, List.take_add_one, List.getElem?_eq_getElem hj2, List.map_append, List.map_append]
              rfl
          · rintro H3 ⟨sm, hD⟩
            rw [ly, List.take_length] at hD
            refine ⟨.inl ⟨rfl, _, .inl (.inl hD)⟩, _, rfl, a, _, 1, .str nm, rfl, rfl, SqT.of (sm _ _ hx), atI_nat (j := 1) rfl, ?_⟩
            refine ⟨D, _, .str nm, i, .str nm, rfl, rfl, .inl (.inl hD), rfl, flat_strs _, by rw [List.getElem?_map, hi.1]; rfl, by show (nm == nm) = true; exact beq_self_eq_true _, fun m z hm hz => ?_, ?_⟩
            · rw [List.getElem?_map] at hz
              cases e : (ts.map (·.n))[m]? with
              | none => rw [e] at hz; cases hz
              | some y =>
                rw [e] at hz
                obtain rfl : V.str y = z := Option.some.inj hz
                show (y == nm) = false
                exact beq_eq_false_iff_ne.mpr fun u => hi.2 m hm (by rw [e, u])
            · exact ⟨va, ws, i, v, rfl, rfl, SqT.of (sm _ _ hva), atI_nat hv, q _ sm⟩
      | @dim _ nm hx =>
        cases hev with
        | @dim _ i c hi hv =>
          refine ⟨_, rfl, rfl, _, rfl, iteBF (by show decide (V.str "dim" = V.str "value") = false; decide +kernel) ⟨_, rfl, rfl, _, rfl, iteBF (by show decide (V.str "dim" = V.str "attr") = false; decide +kernel) ⟨_, rfl, rfl, _, rfl, iteB (by show decide (V.str "dim" = V.str "dim") = true; decide +kernel) ?_⟩⟩⟩
          obtain ⟨dx, td, ta, xs, ys, g1, g2, g3, g4, g5⟩ := id hS
          have lx : xs.length = ds.length := by
            have := g3.1
            rwa [List.length_map] at this
          refine ⟨_, rfl, _, rfl, s', C, dx, _, .ref td, rfl, g1, S.cl, S.nD, rfl, td, rfl, ⟨_, SqT.of g2⟩, fun D nD => ?_⟩
          refine lc_it (walk_tup (xs := xs)) (fun i H3 => Same H H3 ∧ H3 D = some (.lst (((ds.take i).map (·.n)).map V.str))) ⟨same_new nD, upd_same⟩ (fun _ _ _ z => SqT.of (z.1 _ _ g2)) ?_ ?_
          · rintro j x H3 H' hj ⟨sm, hD⟩ ⟨rfl, hxj⟩
            have hj2 : j < ds.length := by omega
            obtain ⟨b, e1, e2⟩ := g3.2 j ds[j].v (by rw [List.getElem?_map, List.getElem?_eq_getElem hj2]; rfl)
            obtain rfl : x = .ref b := Option.some.inj (hxj.symm.trans e1)
            refine ⟨rfl, ?_⟩
            dsimp only [tYes]
            rw [if_pos rfl]
            refine ⟨_, rfl, b, _, 0, .str ds[j].n, rfl, rfl, SqT.of (sm _ _ e2), atI_nat (j := 0) rfl, _, hD, ?_, same_put sm nD, ?_⟩
            · rw [List.length_map, List.length_map, List.length_take]
              exact small1000 (by have := gk.1; have := gk.2; omega)
            · rw [upd_same, List.take_add_one, List.getElem?_eq_getElem hj2, List.map_append, List.map_append]
              rfl
          · rintro H3 ⟨sm, hD⟩
            rw [lx, List.take_length] at hD
            refine ⟨.inl ⟨rfl, _, .inl (.inl hD)⟩, _, rfl, a, _, 1, .str nm, rfl, rfl, SqT.of (sm _ _ hx), atI_nat (j := 1) rfl, ?_⟩
            refine ⟨D, _, .str nm, i, .str nm, rfl, rfl, .inl (.inl hD), rfl, flat_strs _, by rw [List.getElem?_map, hi.1]; rfl, by show (nm == nm) = true; exact beq_self_eq_true _, fun m z hm hz => ?_, ?_⟩
            · rw [List.getElem?_map] at hz
              cases e : (ds.map (·.n))[m]? with
              | none => rw [e] at hz; cases hz
              | some y =>
                rw [e] at hz
                obtain rfl : V.str y = z := Option.some.inj hz
                show (y == nm) = false
                exact beq_eq_false_iff_ne.mpr fun u => hi.2 m hm (by rw [e, u])
            · exact ⟨pa, _, i, .int c, rfl, rfl, SqT.of (sm _ _ hpa), atI_nat (by rw [List.getElem?_map, hv]; rfl), q _ sm⟩
      | @op _ wd xs2 ps hx g nw ne =>
        obtain ⟨zs, hz, hf, hap⟩ := hev.op_inv he0 nw
        have hz : EvAll ds ts pl ws ps zs := hz
        have hap : Ap wd zs v := hap
        have hpl : ps.length ≤ 3 := hpl
        obtain ⟨n1, n2, n3⟩ := lv_ne nw
        refine ⟨_, rfl, rfl, _, rfl, iteBF n1 ⟨_, rfl, rfl, _, rfl, iteBF n2 ⟨_, rfl, rfl, _, rfl, iteBF n3 ?_⟩⟩⟩
        refine ⟨_, rfl, 1, rfl, a, _, rfl, SqT.of hx, cut1_not _ _, fun p np => ?_⟩
        rw [cut1]
        have s1 := same_new (o := .tup xs2) np
        have lx := g.len
        have lz : zs.length = ps.length := hz.len
        refine ⟨p, rfl, ⟨_, SqT.of upd_same⟩, fun D nD => ?_⟩
        have s2 := s1.trans (same_new (o := .lst []) nD)
        have nD0 : H D = none := s1.free nD
        refine lc_it (walk_tup (xs := xs2)) (fun i H3 => Same H H3 ∧ H3 p = some (.tup xs2) ∧ H3 D = some (.lst (zs.take i))) ⟨s2, same_new nD _ _ upd_same, upd_same⟩ (fun _ _ _ z => SqT.of z.2.1) ?_ ?_
        · rintro i x H3 H' hi ⟨sm, hp3, hD⟩ ⟨rfl, hxi⟩
          have hi2 : i < ps.length := by omega
          obtain ⟨x2, e1, e2⟩ := (g.same sm).at (List.getElem?_eq_getElem hi2)
          obtain rfl : x = x2 := Option.some.inj (hxi.symm.trans e1)
          have hm : ps[i] ∈ ps := List.getElem_mem hi2
          have hdp := dep_part (e := .op wd ps) hm
          obtain ⟨z, e3, e4⟩ := hz.at (List.getElem?_eq_getElem hi2)
          refine ⟨rfl, ?_⟩
          dsimp only [tYes]
          rw [if_pos rfl]
          refine ⟨_, rfl, _, rfl, _, rfl, _, rfl, x, s', pa, va, ps[i], ds, ts, pl, ws, z, rfl, e2, wf.part (e := .op wd ps) hm, by omega, hS.same sm, sm _ _ hpa, sm _ _ hva, e4, gk, fun H4 s4 => ⟨_, s4 _ _ hD, ?_, ?_⟩⟩
          · rw [List.length_take]
            exact small1000 (by omega)
          · refine ⟨same_put (sm.trans s4) nD0, ?_, ?_⟩
            · rw [upd_ne]
              · exact s4 _ _ hp3
              · intro y
                rw [y, hD] at hp3
                cases hp3
            · rw [upd_same, List.take_add_one, e3]
              rfl
        · rintro H3 ⟨sm, hp3, hD⟩
          rw [lx, ← lz, List.take_length] at hD
          have sD : SqL K H3 D zs := .inl (.inl hD)
          have hz0 : 0 < zs.length := by
            rw [lz]
            exact List.length_pos_iff.mpr ne
          obtain ⟨z0, hz0⟩ : ∃ z0, zs[0]? = some z0 := ⟨_, List.getElem?_eq_getElem hz0⟩
          refine ⟨_, rfl, D, zs, 0, z0, rfl, rfl, sD, atI_nat (j := 0) hz0, ?_⟩
          cases hap with
          | loose hl =>
            rcases hl.inv with ⟨rfl, x, rfl, rfl⟩ | ⟨rfl, x, y, rfl, rfl⟩ | ⟨rfl, c, x, y, rfl, rfl⟩ | ⟨t, x, y, rfl, rfl, rfl⟩
            · obtain rfl : x = z0 := Option.some.inj hz0
              exact ⟨_, rfl, rfl, _, rfl, iteB (show decide (V.str "is missing" = V.str "is missing") = true by decide +kernel) ⟨_, rfl, rfl, q _ sm⟩⟩
            · obtain rfl : x = z0 := Option.some.inj hz0
              refine ⟨_, rfl, rfl, _, rfl, iteBF (show decide (V.str "or else" = V.str "is missing") = false by decide +kernel) ⟨_, rfl, rfl, _, rfl, iteB (show decide (V.str "or else" = V.str "or else") = true by decide +kernel) ?_⟩⟩
              refine ⟨_, rfl, _, rfl, D, _, 1, y, rfl, rfl, sD, atI_nat (j := 1) rfl, (by show 2 ≤ sizeLine; decide), fun o no => ?_⟩
              refine ⟨_, rfl, rfl, .inr ⟨_, rfl, ?_⟩⟩
              by_cases e : x = .non
              · rw [if_pos e] at q
                refine ⟨o, _, _, y, rfl, rfl, .inl (.inl upd_same), ?_, q _ (sm.trans (same_new no))⟩
                rw [decide_eq_true e]
                exact atI_nat (j := 1) rfl
              · rw [if_neg e] at q
                refine ⟨o, _, _, x, rfl, rfl, .inl (.inl upd_same), ?_, q _ (sm.trans (same_new no))⟩
                rw [decide_eq_false e]
                exact atI_nat (j := 0) rfl
            · obtain rfl : ob c = z0 := Option.some.inj hz0
              refine ⟨_, rfl, rfl, _, rfl, iteBF (show decide (V.str "if" = V.str "is missing") = false by decide +kernel) ⟨_, rfl, rfl, _, rfl, iteBF (show decide (V.str "if" = V.str "or else") = false by decide +kernel) ⟨_, rfl, rfl, _, rfl, iteB (show decide (V.str "if" = V.str "if") = true by decide +kernel) ⟨_, rfl, rfl, _, rfl, ?_⟩⟩⟩⟩
              match c with
              | none => exact iteT (q _ sm)
              | some true => exact iteF ⟨_, rfl, _, rfl, .inr ⟨true, rfl, 2, 1, rfl, rfl, D, _, _, x, rfl, rfl, sD, atI_nat (j := 1) rfl, q _ sm⟩⟩
              | some false => exact iteF ⟨_, rfl, _, rfl, .inr ⟨false, rfl, 2, 0, rfl, rfl, D, _, _, y, rfl, rfl, sD, atI_nat (j := 2) rfl, q _ sm⟩⟩
            · obtain rfl : ob x = z0 := Option.some.inj hz0
              have t1 : decide (V.str (if t = true then ("or" : Str) else "and") = V.str "is missing") = false := by cases t <;> decide +kernel
              have t2 : decide (V.str (if t = true then ("or" : Str) else "and") = V.str "or else") = false := by cases t <;> decide +kernel
              have t3 : decide (V.str (if t = true then ("or" : Str) else "and") = V.str "if") = false := by cases t <;> decide +kernel
              have t4 : (if t = true then ("or" : Str) else "and") ∈ ANO := by cases t <;> decide +kernel
              have t5 : decide (V.str (if t = true then ("or" : Str) else "and") = V.str "or") = t := by cases t <;> decide +kernel
              have t6 : decide (V.str (if t = true then ("or" : Str) else "and") = V.str "and") = !t := by cases t <;> decide +kernel
              refine ⟨_, rfl, rfl, _, rfl, iteBF t1 ⟨_, rfl, rfl, _, rfl, iteBF t2 ⟨_, rfl, rfl, _, rfl, iteBF t3 ?_⟩⟩⟩
              refine ⟨_, rfl, (by show 2 ≤ sizeLine; decide), fun o no => ⟨o, _, rfl, .inl (.inl (.inl upd_same)), rfl, flat_strs ANO, _, rfl, iteB ((inV_str _ ANO).trans (decide_eq_true t4)) ?_⟩⟩
              have sm2 := sm.trans (same_new (o := .lst (ANO.map V.str)) no)
              have hD2 := same_new (o := .lst (ANO.map V.str)) no _ _ hD
              refine ⟨_, rfl, D, rfl, ⟨_, .inl (.inl hD2)⟩, for_list (xs := [ob x, ob y]) (fun i σ H4 => ∃ y7, σ = [some (.ref a), some (.ref s'), some (.ref pa), some (.ref va), some (.str (if t = true then ("or" : Str) else "and")), some (.ref D), some (ob x), y7, none, none, none, none] ∧
                H4 = upd H3 o (.lst (ANO.map V.str)) ∧ ∀ j < i, ([ob x, ob y] : List V)[j]? ≠ some (.bl t)) ?_ ?_ ?_ ?_⟩
              · exact ⟨none, rfl, rfl, fun j hj => absurd hj (Nat.not_lt_zero _)⟩
              · rintro i σ H4 hi ⟨y7, rfl, rfl, _⟩
                exact .inl (.inl hD2)
              · rintro i x' σ H4 hxi ⟨y7, rfl, rfl, hno⟩
                obtain ⟨c, rfl, hc⟩ : ∃ c, x' = ob c ∧ (x = c ∨ y = c) := by
                  have hm := List.mem_of_getElem? hxi
                  rcases List.mem_cons.mp hm with h | h
                  · exact ⟨x, h, .inl rfl⟩
                  · rcases List.mem_cons.mp h with h | h
                    · exact ⟨y, h, .inr rfl⟩
                    · exact absurd h List.not_mem_nil
                have next : c ≠ some t → ∀ j < i + 1, ([ob x, ob y] : List V)[j]? ≠ some (.bl t) := fun hc j hj => by
                  rcases Nat.lt_succ_iff_lt_or_eq.mp hj with h | h
                  · exact hno j h
                  · rw [h, hxi]
                    exact fun z => hc (ob_inj (b := some t) (Option.some.inj z))
                refine ⟨_, rfl, rfl, _, rfl, ?_⟩
                cases c with
                | none => exact iteF ⟨_, rfl, rfl, next (fun z => nomatch z)⟩
                | some c =>
                  refine iteT ⟨_, rfl, _, rfl, rfl, rfl, _, rfl, ?_⟩
                  rw [t5]
                  by_cases e : c = t
                  · subst e
                    have hv : ao c x y = some c := if_pos hc
                    rw [hv] at q
                    refine iteB (decide_eq_true rfl) ⟨_, rfl, rfl, ?_⟩
                    rw [t5]
                    exact q _ sm2
                  · exact iteBF (decide_eq_false fun z => e (V.bl.inj z)) ⟨_, rfl, rfl, next fun z => e (Option.some.inj z)⟩
              · rintro σ H4 ⟨y7, rfl, rfl, hno⟩
                have hx0 : ¬ x = some t := fun z => hno 0 (by show 0 < 2; decide) (by rw [z]; rfl)
                have hy0 : ¬ y = some t := fun z => hno 1 (by show 1 < 2; decide) (by rw [z]; rfl)
                refine ⟨_, rfl, D, _, rfl, .inl (.inl (.inl hD2)), rfl, hf, _, rfl, ?_⟩
                by_cases hn : V.non ∈ [ob x, ob y]
                · have hv : ao t x y = none := by
                    unfold ao
                    rw [if_neg (fun z => z.elim hx0 hy0), if_pos]
                    rcases List.mem_cons.mp hn with h | h
                    · exact .inl (ob_inj (b := none) h.symm)
                    · rcases List.mem_cons.mp h with h | h
                      · exact .inr (ob_inj (b := none) h.symm)
                      · exact absurd h List.not_mem_nil
                  rw [hv] at q
                  exact iteB ((inV_non hf).trans (decide_eq_true hn)) (q _ sm2)
                · have hv : ao t x y = some (!t) := by
                    unfold ao
                    rw [if_neg (fun z => z.elim hx0 hy0), if_neg]
                    rintro (h | h)
                    · exact hn (by rw [h]; exact List.mem_cons_self ..)
                    · exact hn (by rw [h]; exact List.mem_cons_of_mem _ (List.mem_cons_self ..))
                  rw [hv] at q
                  refine iteBF ((inV_non hf).trans (decide_eq_false hn)) ⟨_, rfl, (by show 2 ≤ sizeLine; decide), fun o2 no2 => ⟨o2, _, rfl, .inl (.inl (.inl upd_same)), rfl, flat_strs ANO, _, rfl, iteB ((inV_str _ ANO).trans (decide_eq_true t4)) ⟨_, rfl, rfl, ?_⟩⟩⟩
                  rw [t6]
                  exact q _ (sm2.trans (same_new no2))
          | gone nl hn =>
            obtain ⟨l1, l2, l3, l4⟩ := lw_ne nl
            refine ⟨_, rfl, rfl, _, rfl, iteBF l1 ⟨_, rfl, rfl, _, rfl, iteBF l2 ⟨_, rfl, rfl, _, rfl, iteBF l3 ?_⟩⟩⟩
            refine ⟨_, rfl, (by show 2 ≤ sizeLine; decide), fun o no => ⟨o, _, rfl, .inl (.inl (.inl upd_same)), rfl, flat_strs ANO, _, rfl, iteBF ((inV_str _ ANO).trans (decide_eq_false l4)) ?_⟩⟩
            exact ⟨_, rfl, D, zs, rfl, .inl (.inl (.inl (same_new no _ _ hD))), rfl, hf, _, rfl, iteB ((inV_non hf).trans (decide_eq_true hn)) (q _ (sm.trans (same_new no)))⟩
          | strict hn hs =>
            obtain ⟨l1, l2, l3, l4⟩ := lw_ne hs.lw
            refine ⟨_, rfl, rfl, _, rfl, iteBF l1 ⟨_, rfl, rfl, _, rfl, iteBF l2 ⟨_, rfl, rfl, _, rfl, iteBF l3 ?_⟩⟩⟩
            refine ⟨_, rfl, (by show 2 ≤ sizeLine; decide), fun o no => ⟨o, _, rfl, .inl (.inl (.inl upd_same)), rfl, flat_strs ANO, _, rfl, iteBF ((inV_str _ ANO).trans (decide_eq_false l4)) ?_⟩⟩
            have sm2 := sm.trans (same_new (o := .lst (ANO.map V.str)) no)
            have hD2 := same_new (o := .lst (ANO.map V.str)) no _ _ hD
            refine ⟨_, rfl, D, zs, rfl, .inl (.inl (.inl hD2)), rfl, hf, _, rfl, iteBF ((inV_non hf).trans (decide_eq_false hn)) ?_⟩
            refine ⟨_, rfl, (by show 2 ≤ sizeLine; decide), fun o2 no2 => ⟨o2, _, rfl, .inl (.inl (.inl upd_same)), rfl, flat_strs ANO, _, rfl, iteBF ((inV_str _ ANO).trans (decide_eq_false l4)) ?_⟩⟩
            have sm3 := sm2.trans (same_new (o := .lst (ANO.map V.str)) no2)
            have hD3 := same_new (o := .lst (ANO.map V.str)) no2 _ _ hD2
            cases hs with
            | not b =>
              obtain rfl : V.bl b = z0 := Option.some.inj hz0
              exact ⟨_, rfl, rfl, _, rfl, iteB (show decide (V.str "not" = V.str "not") = true by decide +kernel) ⟨_, rfl, b, rfl, q _ sm3⟩⟩
            | neg m =>
              obtain rfl : V.int m = z0 := Option.some.inj hz0
              refine ⟨_, rfl, rfl, _, rfl, iteBF (show decide (V.str "neg" = V.str "not") = false by decide +kernel) ⟨_, rfl, rfl, _, rfl, iteB (show decide (V.str "neg" = V.str "neg") = true by decide +kernel) ⟨_, rfl, 0, m, rfl, rfl, ?_⟩⟩⟩
              show Q (.int (0 - m)) _
              rw [Int.zero_sub]
              exact q _ sm3
            | abs m =>
              obtain rfl : V.int m = z0 := Option.some.inj hz0
              refine ⟨_, rfl, rfl, _, rfl, iteBF (show decide (V.str "abs" = V.str "not") = false by decide +kernel) ⟨_, rfl, rfl, _, rfl, iteBF (show decide (V.str "abs" = V.str "neg") = false by decide +kernel) ⟨_, rfl, rfl, _, rfl, iteB (show decide (V.str "abs" = V.str "abs") = true by decide +kernel) ⟨_, rfl, _, rfl, 0, m, rfl, rfl, m, _, rfl, ?_⟩⟩⟩⟩
              have e : (if (0 : Int) - m > m then 0 - m else m) = if m < 0 then -m else m := by split <;> split <;> omega
              show Q (.int (if (0 : Int) - m > m then 0 - m else m)) _
              rw [e]
              exact q _ sm3
            | len z hz =>
              obtain rfl : V.str z = z0 := Option.some.inj hz0
              exact ⟨_, rfl, rfl, _, rfl, iteBF (show decide (V.str "length" = V.str "not") = false by decide +kernel) ⟨_, rfl, rfl, _, rfl, iteBF (show decide (V.str "length" = V.str "neg") = false by decide +kernel) ⟨_, rfl, rfl, _, rfl, iteBF (show decide (V.str "length" = V.str "abs") = false by decide +kernel) ⟨_, rfl, rfl, _, rfl, iteB (show decide (V.str "length" = V.str "length") = true by decide +kernel) ⟨_, rfl, z, rfl, len_line (by omega), q _ sm3⟩⟩⟩⟩⟩
            | joined y z hy hzl =>
              obtain rfl : V.str y = z0 := Option.some.inj hz0
              exact ⟨_, rfl, rfl, _, rfl, iteBF (show decide (V.str "joined" = V.str "not") = false by decide +kernel) ⟨_, rfl, rfl, _, rfl, iteBF (show decide (V.str "joined" = V.str "neg") = false by decide +kernel) ⟨_, rfl, rfl, _, rfl, iteBF (show decide (V.str "joined" = V.str "abs") = false by decide +kernel) ⟨_, rfl, rfl, _, rfl, iteBF (show decide (V.str "joined" = V.str "length") = false by decide +kernel)
                ⟨_, rfl, _, rfl, _, rfl, D, _, 1, .str z, rfl, rfl, .inl (.inl hD3), atI_nat (j := 1) rfl, "joined", .str y, .str z, _, rfl, .joined y z hy hzl, fun H5 s5 => q _ (sm3.trans s5)⟩⟩⟩⟩⟩
            | cmp w k x y hw hxk hyk =>
              obtain rfl : x = z0 := Option.some.inj hz0
              obtain ⟨p1, p2, p3, p4, p5⟩ := pre_t wd (List.mem_append_left _ hw)
              exact ⟨_, rfl, rfl, _, rfl, iteBF p3 ⟨_, rfl, rfl, _, rfl, iteBF p1 ⟨_, rfl, rfl, _, rfl, iteBF p2 ⟨_, rfl, rfl, _, rfl, iteBF p4
                ⟨_, rfl, _, rfl, _, rfl, D, _, 1, y, rfl, rfl, .inl (.inl hD3), atI_nat (j := 1) rfl, wd, x, y, _, rfl, .cmp wd k x y hw hxk hyk, fun H5 s5 => q _ (sm3.trans s5)⟩⟩⟩⟩⟩
            | ar w x y hw hxk hyk =>
              obtain rfl : V.int x = z0 := Option.some.inj hz0
              obtain ⟨p1, p2, p3, p4, p5⟩ := pre_t wd (List.mem_append_right _ hw)
              exact ⟨_, rfl, rfl, _, rfl, iteBF p3 ⟨_, rfl, rfl, _, rfl, iteBF p1 ⟨_, rfl, rfl, _, rfl, iteBF p2 ⟨_, rfl, rfl, _, rfl, iteBF p4
                ⟨_, rfl, _, rfl, _, rfl, D, _, 1, .int y, rfl, rfl, .inl (.inl hD3), atI_nat (j := 1) rfl, wd, .int x, .int y, _, rfl, .ar wd x y hw hxk hyk, fun H5 s5 => q _ (sm3.trans s5)⟩⟩⟩⟩⟩
end
end K2

namespace K2
open PySem L2
def spLaw (K : PySem.W.Frag) : Sp := fun vs H Q _ => ∃ (a : Addr) (ns : List Int), vs = [.ref a] ∧ SqL K H a (ns.map V.int) ∧ ns.length ≤ 63 ∧ ∀ H', Q (.bl true) H'
theorem scLaw : FnScope ["script", "state", "shape", "turn", "kind", "expression", "again", "place", "values", "due", "told"] ["script"] (defScope sLaw) := ⟨rfl, rfl, rfl, by decide +kernel, rfl, by decide +kernel, by decide +kernel⟩
theorem fits_of {ds : List D} {ts : List T} {pl : List Int} {vs : List V} (dr : Dr ds ts) (hp : InB ds pl) (hv : VFit ts vs) : Fits ds ts pl vs := by
  refine ⟨hp.1, fun c hc => ?_, hv.1, hv.2⟩
  obtain ⟨i, hi⟩ := List.mem_iff_getElem?.mp hc
  have hi2 : i < ds.length := by
    have := (List.getElem?_eq_some_iff.mp hi).1
    rw [hp.1] at this
    exact this
  have h1 := hp.2 i _ c (List.getElem?_eq_getElem hi2) hi
  have h2 := dr.db _ (List.getElem_mem hi2)
  unfold DB at h2
  exact ⟨by omega, by omega⟩
theorem okv_scal {k : Kd} {v : V} (h : OkV k v) : scal v v = true := by
  rcases h with rfl | ⟨h, _⟩
  · rfl
  · exact scal_k h h
theorem okv_thg {K : PySem.W.Frag} {H : Hp} {k : Kd} {v : V} (h : OkV k v) : ∃ T, Thg K H v T := by
  rcases h with rfl | ⟨h, _⟩
  · exact ⟨_, .non⟩
  · exact h.thg
structure Fs (K : PySem.W.Frag) (mg : Str → Option Value) (fR fH fE fP fU fX fO fV : Addr) (dR dH dE dP dU dX dO dV : FuncData) : Prop where
  gR : mg "_law_draws" = some (.ref fR)
  gH : mg "_law_shape" = some (.ref fH)
  gE : mg "_law_expression" = some (.ref fE)
  gP : mg "_law_place" = some (.ref fP)
  gU : mg "_law_values" = some (.ref fU)
  gX : mg "_law_value" = some (.ref fX)
  gO : mg "value_of" = some (.ref fO)
  gV : mg "is_value" = some (.ref fV)
  bR : Binds K dR ["cells"] []
  bH : Binds K dH ["state"] []
  bE : Binds K dE ["state", "shape", "kind", "depth"] []
  bP : Binds K dP ["state", "dims"] []
  bU : Binds K dU ["state", "attrs", "few"] []
  bX : Binds K dX ["expression", "shape", "place", "values"] []
  bO : Binds K dO ["expression", "shape", "place", "values"] []
  bV : Binds K dV ["kind", "value"] []
  kR : PySem.W.keepIn K (.ref fR) = true
  kH : PySem.W.keepIn K (.ref fH) = true
  kE : PySem.W.keepIn K (.ref fE) = true
  kP : PySem.W.keepIn K (.ref fP) = true
  kU : PySem.W.keepIn K (.ref fU) = true
  kX : PySem.W.keepIn K (.ref fX) = true
  kO : PySem.W.keepIn K (.ref fO) = true
  kV : PySem.W.keepIn K (.ref fV) = true
section
variable {P : Program} {w : World} {K : PySem.W.Frag} {mg : Str → Option Value} {base : Heap}
theorem ok_law {f fR fH fE fP fU fX fO fV C f1 f2 : Addr} {fd dR dH dE dP dU dX dO dV : FuncData} (F : Fun K "law" "law" sLaw f fd) (M : Nm mg) (S : ShC K C f1 f2) (T : Fs K mg fR fH fE fP fU fX fO fV dR dH dE dP dU dX dO dV)
    (GR : FnOk P w K mg base CX0 2 fR dR ["cells"] (spDraws K)) (GH : FnOk P w K mg base CX0 3 fH dH ["state"] (spShape C)) (GE : FnOk P w K mg base CX0 15 fE dE ["state", "shape", "kind", "depth"] (spE C 5))
    (GP : FnOk P w K mg base CX0 2 fP dP ["state", "dims"] spPlace) (GU : FnOk P w K mg base CX0 4 fU dU ["state", "attrs", "few"] spValues) (GX : FnOk P w K mg base CX0 7 fX dX ["expression", "shape", "place", "values"] (spVO C 5))
    (GO : FnOk P w K mg base CX0 9 fO dO ["expression", "shape", "place", "values"] (spVO C 5)) (GV : FnOk P w K mg base CX0 2 fV dV ["kind", "value"] (spVal K)) : FnOk P w K mg base CX0 16 f fd ["script"] (spLaw K) := by
  refine F.ok scLaw (fun vs H Q E h => ?_) (fun cdv A outer s H vs Q E hr h => ?_)
  · obtain ⟨a, ns, rfl, _⟩ := h
    rfl
  · obtain ⟨a, ns, rfl, hS, hlen, q0⟩ := h
    have hr2 := hr.mono (j := 2) (by decide)
    have hr3 := hr.mono (j := 3) (by decide)
    have hr4 := hr.mono (j := 4) (by decide)
    have hr7 := hr.mono (j := 7) (by decide)
    have hr9 := hr.mono (j := 9) (by decide)
    refine ⟨_, pss_cons (ps_set (i := 1) scLaw.nd rfl (.inl rfl) (pe_call GR hr2 (by rfl) T.gR T.kR T.bR .nil pass0 (pa_cons (pe_op op_cat (pe_slice sl_list (pv 0) po_none (po_some pe_int)) (pe_lst (pa_cons pe_int pa_nil))) pa_nil)))
      (pss_cons (ps_set (i := 2) scLaw.nd rfl (.inl rfl) (pe_call GH hr3 (by rfl) T.gH T.kH T.bH .nil pass0 (pa_cons (pv 1) pa_nil)))
      (pss_cons (ps_for PassesOwn.never rfl (pi_range1 (by rfl) M.range (pa_cons pe_int pa_nil)) (pg_name (i := 3) scLaw.nd rfl (.inl rfl))
        (pss_cons (ps_set (i := 4) scLaw.nd rfl (.inl rfl) (pe_ix ix_list (pe_lst (pa_cons pe_str (pa_cons pe_str (pa_cons pe_str pa_nil)))) (pe_op op_mod (pe_callTy call_int1 (by rfl) M.int (by decide +kernel) (pa_cons (pv 3) pa_nil)) pe_int) (fun _ _ => rfl)))
        (pss_cons (ps_set (i := 5) scLaw.nd rfl (.inl rfl) (pe_call GE hr (by rfl) T.gE T.kE T.bE .nil pass0 (pa_cons (pv 1) (pa_cons (pv 2) (pa_cons (pv 4) (pa_cons pe_int pa_nil))))))
        (pss_one (ps_for PassesOwn.never rfl (pi_range1 (by rfl) M.range (pa_cons pe_int pa_nil)) (pg_name (i := 6) scLaw.nd rfl (.inl rfl))
          (pss_cons (ps_set (i := 7) scLaw.nd rfl (.inl rfl) (pe_call GP hr2 (by rfl) T.gP T.kP T.bP .nil pass0 (pa_cons (pv 1) (pa_cons (pe_fld (pv 2) rfl) pa_nil))))
          (pss_cons (ps_set (i := 8) scLaw.nd rfl (.inl rfl) (pe_call GU hr4 (by rfl) T.gU T.kU T.bU .nil pass0 (pa_cons (pv 1) (pa_cons (pe_fld (pv 2) rfl) (pa_cons pe_int pa_nil)))))
          (pss_cons (ps_set (i := 9) scLaw.nd rfl (.inl rfl) (pe_call GX hr7 (by rfl) T.gX T.kX T.bX .nil pass0 (pa_cons (pv 5) (pa_cons (pv 2) (pa_cons (pv 7) (pa_cons (pv 8) pa_nil))))))
          (pss_cons (ps_set (i := 10) scLaw.nd rfl (.inl rfl) (pe_call GO hr9 (by rfl) T.gO T.kO T.bO .nil pass0 (pa_cons (pv 5) (pa_cons (pv 2) (pa_cons (pv 7) (pa_cons (pv 8) pa_nil))))))
          (pss_cons (ps_if (PW.pt (pw_or (pt_cmpR op_ne (pv 10) (pv 9) (nomark _)) (pw_or1 (pt_cmpR op_ne (pe_cmpR op_isN (pv 10) pe_non (nomark _)) (pe_cmpR op_isN (pv 9) pe_non (nomark _)) (nomark _))))) (pss_one (ps_ret pe_bl)) pss_nil)
          (pss_one (ps_if (PW.pt (pw_and (pt_cmpR op_notN (pv 10) pe_non (nomark _)) (pw_and1 (pt_not (pt_val (pe_call GV hr2 (by rfl) T.gV T.kV T.bV .nil pass0 (pa_cons (pv 4) (pa_cons (pv 10) pa_nil)))))))) (pss_one (ps_ret pe_bl)) pss_nil))))))))))))
      (pss_one (ps_ret pe_bl)))), ?_⟩
    refine ⟨.ref a, rfl, 10, rfl, a, ns.map V.int, rfl, hS, fun p1 np1 => ⟨(by show 1 ≤ sizeLine; decide), fun p2 np2 => ?_⟩⟩
    have n12 : p1 ≠ p2 := ne_of_none upd_same np2
    have h6 : (ns.take 10).length ≤ 10 := by rw [List.length_take]; omega
    have ec : cutV (ns.map V.int) none (some (10 : Int)) = (ns.take 10).map V.int := cutn V.int ns 10
    refine ⟨p1, p2, _, _, rfl, rfl, (by rw [upd_ne n12, upd_same]), upd_same, ?_, fun p3 np3 => ?_⟩
    · rw [ec, List.length_map]
      exact Nat.le_of_lt (small1000 (show (ns.take 10).length + 1 ≤ 1000 by omega))
    refine ⟨p3, ns.take 10 ++ [6], rfl, .inl (.inl (by rw [upd_same, ec, List.map_append]; rfl)), (by rw [List.length_append]; show _ + 1 ≤ 1000; omega), (by rw [List.length_append]; show 0 < _ + 1; omega), fun H1 d l s1 nd st => ?_⟩
    refine ⟨_, rfl, d, l, rfl, st, fun H2 s' ds ts k2 hSh dr => ?_⟩
    refine ⟨_, rfl, by decide, by decide, ?_⟩
    refine for_range (lo := 0) (n := (9 : Int).toNat) (fun i σ H3 => ∃ y3 y4 y5 y6 y7 y8 y9 y10, σ = [some (.ref a), some (.ref d), some (.ref s'), y3, y4, y5, y6, y7, y8, y9, y10] ∧ StAt H3 d l ∧ ShapeAt H3 C s' ds ts) ⟨_, _, _, _, _, _, _, _, rfl, k2.st, hSh⟩ ?_ ?_
    · rintro i σ H3 hi ⟨y3, y4, y5, y6, y7, y8, y9, y10, rfl, st3, sh3⟩
      refine ⟨(by show 3 ≤ sizeLine; decide), fun o no => ?_⟩
      have k4 : Kp d l H3 _ := (Kp.refl st3).new (o := .lst (K3.map V.str)) no
      obtain ⟨kz, hkz, hat⟩ := str_in (ms := K3) (n := (0 + (i : Int)) % 3) rfl (Int.emod_nonneg _ (by decide)) (Int.emod_lt_of_pos _ (by decide))
      obtain ⟨qk, rfl⟩ := k3_tab kz hkz
      refine ⟨_, rfl, .inl ⟨_, rfl, _, 3, rfl, rfl, (by show (0 : Int) < 3; decide), o, _, _, _, rfl, rfl, .inl (.inl upd_same), hat, ?_⟩⟩
      refine ⟨_, rfl, _, rfl, _, rfl, d, l, s', qk, 4, ds, ts, rfl, by decide, k4.st, sh3.kp st3 k4, dr, fun H5 r e k5 x g => ?_⟩
      have k45 := k4.trans k5
      have sh5 := sh3.kp st3 k45
      have hdp := g.dp
      refine ⟨_, rfl, by decide, by decide, ?_⟩
      refine for_range (lo := 0) (n := (3 : Int).toNat) (fun j σ H6 => ∃ y6 y7 y8 y9 y10, σ = [some (.ref a), some (.ref d), some (.ref s'), some (.int (0 + (i : Int))), some (.str (kdS qk)), some r, y6, y7, y8, y9, y10] ∧ StAt H6 d l ∧ ShapeAt H6 C s' ds ts ∧ ExAt H6 r e) ⟨_, _, _, _, _, rfl, k45.st, sh5, x⟩ ?_ ?_
      · rintro j σ H6 hj ⟨y6, y7, y8, y9, y10, rfl, st6, sh6, x6⟩
        obtain ⟨dx, td, ta, xs, ys, h1, h2, h3, h4, h5⟩ := id sh6
        refine ⟨_, rfl, _, rfl, s', C, dx, _, .ref td, rfl, h1, S.cl, S.nD, rfl, d, l, td, xs, ds, rfl, st6, h2, h3, fun y hy => (dr.db y hy).2.1, (by have := dr.d2; omega), fun H7 t7 pl k7 nt7 ht7 hpl => ?_⟩
        have h1' := k7.at st6 h1 (fun _ z => nomatch z)
        have h4' := k7.at st6 h4 (fun _ z => nomatch z)
        refine ⟨_, rfl, _, rfl, s', C, dx, _, .ref ta, rfl, h1', S.cl, S.nA, rfl, d, l, ta, ys, ts, 5, rfl, k7.st, h4', h5.kp st6 k7, dr.kd, (by have := dr.t2; omega), by decide, fun H8 t8 vs8 k8 nt8 ht8 hv8 => ?_⟩
        have k78 := k7.trans k8
        have ht78 := k8.at k7.st ht7 (fun _ z => nomatch z)
        obtain ⟨v, hev, hok⟩ := ev_of (fits_of dr hpl hv8) e (m := 0) g.wf (g.ty 0)
        have x8 := x6.kp st6 k78
        have sh8 := sh6.kp st6 k78
        have gk9 : ds.length ≤ 900 ∧ ts.length ≤ 900 := ⟨by have := dr.d2; omega, by have := dr.t2; omega⟩
        refine ⟨_, rfl, _, rfl, _, rfl, _, rfl, r, s', t7, t8, e, ds, ts, pl, vs8, v, rfl, x8, g.wf, by omega, sh8, ht78, ht8, hev, gk9, fun H9 s9 => ?_⟩
        refine ⟨_, rfl, _, rfl, _, rfl, _, rfl, r, s', t7, t8, e, ds, ts, pl, vs8, v, rfl, x8.same s9, g.wf, by omega, sh8.same s9, s9 _ _ ht78, s9 _ _ ht8, hev, gk9, fun H10 s10 => ?_⟩
        have s910 := s9.trans s10
        refine ⟨_, rfl, _, rfl, okv_scal hok, _, rfl, iteBF (by rw [decide_eq_true rfl]; rfl) ?_⟩
        refine ⟨_, rfl, rfl, _, rfl, rfl, rfl, _, rfl, iteBF (by rw [decide_eq_true rfl]; rfl) ?_⟩
        have fin : ∃ y6 y7 y8 y9 y10, ([some (.ref a), some (.ref d), some (.ref s'), some (.int (0 + (i : Int))), some (.str (kdS qk)), some r, some (.int (0 + (j : Int))), some (.ref t7), some (.ref t8), some v, some v] : St) = [some (.ref a), some (.ref d), some (.ref s'), some (.int (0 + (i : Int))), some (.str (kdS qk)), some r, y6, y7, y8, y9, y10] ∧
          StAt H10 d l ∧ ShapeAt H10 C s' ds ts ∧ ExAt H10 r e := ⟨_, _, _, _, _, rfl, (k78.same s910).st, sh8.same s910, x8.same s910⟩
        refine ⟨_, rfl, rfl, _, rfl, ?_⟩
        by_cases hn : v = .non
        · exact iteBF (by rw [decide_eq_true hn]; rfl) fin
        · refine iteB (by rw [decide_eq_false hn]; rfl) ?_
          obtain ⟨Ty, hT⟩ := okv_thg (K := K) (H := H10) hok
          have hval : isVal qk v = true := by
            rcases hok with h | h
            · exact absurd h hn
            · exact h.2
          exact ⟨_, rfl, _, rfl, qk, v, Ty, rfl, hT, _, rfl, iteBF (by rw [hval]; rfl) fin⟩
      · rintro σ H6 ⟨y6, y7, y8, y9, y10, rfl, st6, sh6, x6⟩
        exact ⟨_, _, _, _, _, _, _, _, rfl, st6, sh6⟩
    · rintro σ H3 ⟨y3, y4, y5, y6, y7, y8, y9, y10, rfl, st3, sh3⟩
      exact q0 _
end
end K2

namespace K2
open PySem L2
theorem all_mk {l : PySem.W.OpenLaw} {w : World} {K : PySem.W.Frag} {h : Heap} {mg : Str → Option Value} {fa : Addr} (X : K.In h) (G : h.Ns mainGlobals mg) (hfa : mg "law" = some (.ref fa))
    {f1 : Addr} {od1 an1 : Option Addr} {sl1 : Array (Option Value)} {oc1 kV1 dc1 pm1 cd1 ct1 : Value}
    (a1 : PySem.W.nsIn K mainGlobals "is_text" = some (some (.ref f1))) (l1 : K.lookup f1 = some ⟨oc1, od1, .func (PySem.W.fnOf "is_text" "is_text" (defArgs sIsText) (defBody sIsText) (defScope sIsText) .none kV1 dc1 pm1 an1 cd1 ct1), sl1⟩) (c1 : PySem.W.codeIn K cd1 "is_text" = true) (k1 : PySem.W.keepIn K (.ref f1) = true)
    {f2 : Addr} {od2 an2 : Option Addr} {sl2 : Array (Option Value)} {oc2 kV2 dc2 pm2 cd2 ct2 : Value}
    (a2 : PySem.W.nsIn K mainGlobals "is_value" = some (some (.ref f2))) (l2 : K.lookup f2 = some ⟨oc2, od2, .func (PySem.W.fnOf "is_value" "is_value" (defArgs sIsValue) (defBody sIsValue) (defScope sIsValue) .none kV2 dc2 pm2 an2 cd2 ct2), sl2⟩) (c2 : PySem.W.codeIn K cd2 "is_value" = true) (k2 : PySem.W.keepIn K (.ref f2) = true)
    {f3 : Addr} {od3 an3 : Option Addr} {sl3 : Array (Option Value)} {oc3 kV3 dc3 pm3 cd3 ct3 : Value}
    (a3 : PySem.W.nsIn K mainGlobals "dim_index" = some (some (.ref f3))) (l3 : K.lookup f3 = some ⟨oc3, od3, .func (PySem.W.fnOf "dim_index" "dim_index" (defArgs sDimIx) (defBody sDimIx) (defScope sDimIx) .none kV3 dc3 pm3 an3 cd3 ct3), sl3⟩) (c3 : PySem.W.codeIn K cd3 "dim_index" = true) (k3 : PySem.W.keepIn K (.ref f3) = true)
    {f4 : Addr} {od4 an4 : Option Addr} {sl4 : Array (Option Value)} {oc4 kV4 dc4 pm4 cd4 ct4 : Value}
    (a4 : PySem.W.nsIn K mainGlobals "attr_index" = some (some (.ref f4))) (l4 : K.lookup f4 = some ⟨oc4, od4, .func (PySem.W.fnOf "attr_index" "attr_index" (defArgs sAttrIx) (defBody sAttrIx) (defScope sAttrIx) .none kV4 dc4 pm4 an4 cd4 ct4), sl4⟩) (c4 : PySem.W.codeIn K cd4 "attr_index" = true) (k4 : PySem.W.keepIn K (.ref f4) = true)
    {f5 : Addr} {od5 an5 : Option Addr} {sl5 : Array (Option Value)} {oc5 kV5 dc5 pm5 cd5 ct5 : Value}
    (a5 : PySem.W.nsIn K mainGlobals "index_of" = some (some (.ref f5))) (l5 : K.lookup f5 = some ⟨oc5, od5, .func (PySem.W.fnOf "index_of" "index_of" (defArgs sIndex) (defBody sIndex) (defScope sIndex) .none kV5 dc5 pm5 an5 cd5 ct5), sl5⟩) (c5 : PySem.W.codeIn K cd5 "index_of" = true) (k5 : PySem.W.keepIn K (.ref f5) = true)
    {f6 : Addr} {od6 an6 : Option Addr} {sl6 : Array (Option Value)} {oc6 kV6 dc6 pm6 cd6 ct6 : Value}
    (a6 : PySem.W.nsIn K mainGlobals "parts_of" = some (some (.ref f6))) (l6 : K.lookup f6 = some ⟨oc6, od6, .func (PySem.W.fnOf "parts_of" "parts_of" (defArgs sPartsOf) (defBody sPartsOf) (defScope sPartsOf) .none kV6 dc6 pm6 an6 cd6 ct6), sl6⟩) (c6 : PySem.W.codeIn K cd6 "parts_of" = true) (k6 : PySem.W.keepIn K (.ref f6) = true)
    {f7 : Addr} {od7 an7 : Option Addr} {sl7 : Array (Option Value)} {oc7 kV7 dc7 pm7 cd7 ct7 : Value}
    (a7 : PySem.W.nsIn K mainGlobals "value_of" = some (some (.ref f7))) (l7 : K.lookup f7 = some ⟨oc7, od7, .func (PySem.W.fnOf "value_of" "value_of" (defArgs sValueOf) (defBody sValueOf) (defScope sValueOf) .none kV7 dc7 pm7 an7 cd7 ct7), sl7⟩) (c7 : PySem.W.codeIn K cd7 "value_of" = true) (k7 : PySem.W.keepIn K (.ref f7) = true)
    {f8 : Addr} {od8 an8 : Option Addr} {sl8 : Array (Option Value)} {oc8 kV8 dc8 pm8 cd8 ct8 : Value}
    (a8 : PySem.W.nsIn K mainGlobals "loose_value" = some (some (.ref f8))) (l8 : K.lookup f8 = some ⟨oc8, od8, .func (PySem.W.fnOf "loose_value" "loose_value" (defArgs sLooseValue) (defBody sLooseValue) (defScope sLooseValue) .none kV8 dc8 pm8 an8 cd8 ct8), sl8⟩) (c8 : PySem.W.codeIn K cd8 "loose_value" = true) (k8 : PySem.W.keepIn K (.ref f8) = true)
    {f9 : Addr} {od9 an9 : Option Addr} {sl9 : Array (Option Value)} {oc9 kV9 dc9 pm9 cd9 ct9 : Value}
    (a9 : PySem.W.nsIn K mainGlobals "both" = some (some (.ref f9))) (l9 : K.lookup f9 = some ⟨oc9, od9, .func (PySem.W.fnOf "both" "both" (defArgs sBoth) (defBody sBoth) (defScope sBoth) .none kV9 dc9 pm9 an9 cd9 ct9), sl9⟩) (c9 : PySem.W.codeIn K cd9 "both" = true) (k9 : PySem.W.keepIn K (.ref f9) = true)
    {f10 : Addr} {od10 an10 : Option Addr} {sl10 : Array (Option Value)} {oc10 kV10 dc10 pm10 cd10 ct10 : Value}
    (a10 : PySem.W.nsIn K mainGlobals "either" = some (some (.ref f10))) (l10 : K.lookup f10 = some ⟨oc10, od10, .func (PySem.W.fnOf "either" "either" (defArgs sEither) (defBody sEither) (defScope sEither) .none kV10 dc10 pm10 an10 cd10 ct10), sl10⟩) (c10 : PySem.W.codeIn K cd10 "either" = true) (k10 : PySem.W.keepIn K (.ref f10) = true)
    {f11 : Addr} {od11 an11 : Option Addr} {sl11 : Array (Option Value)} {oc11 kV11 dc11 pm11 cd11 ct11 : Value}
    (a11 : PySem.W.nsIn K mainGlobals "chosen" = some (some (.ref f11))) (l11 : K.lookup f11 = some ⟨oc11, od11, .func (PySem.W.fnOf "chosen" "chosen" (defArgs sChosen) (defBody sChosen) (defScope sChosen) .none kV11 dc11 pm11 an11 cd11 ct11), sl11⟩) (c11 : PySem.W.codeIn K cd11 "chosen" = true) (k11 : PySem.W.keepIn K (.ref f11) = true)
    {f12 : Addr} {od12 an12 : Option Addr} {sl12 : Array (Option Value)} {oc12 kV12 dc12 pm12 cd12 ct12 : Value}
    (a12 : PySem.W.nsIn K mainGlobals "strict_value" = some (some (.ref f12))) (l12 : K.lookup f12 = some ⟨oc12, od12, .func (PySem.W.fnOf "strict_value" "strict_value" (defArgs sStrictValue) (defBody sStrictValue) (defScope sStrictValue) .none kV12 dc12 pm12 an12 cd12 ct12), sl12⟩) (c12 : PySem.W.codeIn K cd12 "strict_value" = true) (k12 : PySem.W.keepIn K (.ref f12) = true)
    {f13 : Addr} {od13 an13 : Option Addr} {sl13 : Array (Option Value)} {oc13 kV13 dc13 pm13 cd13 ct13 : Value}
    (a13 : PySem.W.nsIn K mainGlobals "compared" = some (some (.ref f13))) (l13 : K.lookup f13 = some ⟨oc13, od13, .func (PySem.W.fnOf "compared" "compared" (defArgs sCompared) (defBody sCompared) (defScope sCompared) .none kV13 dc13 pm13 an13 cd13 ct13), sl13⟩) (c13 : PySem.W.codeIn K cd13 "compared" = true) (k13 : PySem.W.keepIn K (.ref f13) = true)
    {f14 : Addr} {od14 an14 : Option Addr} {sl14 : Array (Option Value)} {oc14 kV14 dc14 pm14 cd14 ct14 : Value}
    (a14 : PySem.W.nsIn K mainGlobals "reckoned" = some (some (.ref f14))) (l14 : K.lookup f14 = some ⟨oc14, od14, .func (PySem.W.fnOf "reckoned" "reckoned" (defArgs sReckoned) (defBody sReckoned) (defScope sReckoned) .none kV14 dc14 pm14 an14 cd14 ct14), sl14⟩) (c14 : PySem.W.codeIn K cd14 "reckoned" = true) (k14 : PySem.W.keepIn K (.ref f14) = true)
    {f15 : Addr} {od15 an15 : Option Addr} {sl15 : Array (Option Value)} {oc15 kV15 dc15 pm15 cd15 ct15 : Value}
    (a15 : PySem.W.nsIn K mainGlobals "_law_draw" = some (some (.ref f15))) (l15 : K.lookup f15 = some ⟨oc15, od15, .func (PySem.W.fnOf "_law_draw" "_law_draw" (defArgs sDraw) (defBody sDraw) (defScope sDraw) .none kV15 dc15 pm15 an15 cd15 ct15), sl15⟩) (c15 : PySem.W.codeIn K cd15 "_law_draw" = true) (k15 : PySem.W.keepIn K (.ref f15) = true)
    {f16 : Addr} {od16 an16 : Option Addr} {sl16 : Array (Option Value)} {oc16 kV16 dc16 pm16 cd16 ct16 : Value}
    (a16 : PySem.W.nsIn K mainGlobals "_law_draws" = some (some (.ref f16))) (l16 : K.lookup f16 = some ⟨oc16, od16, .func (PySem.W.fnOf "_law_draws" "_law_draws" (defArgs sDraws) (defBody sDraws) (defScope sDraws) .none kV16 dc16 pm16 an16 cd16 ct16), sl16⟩) (c16 : PySem.W.codeIn K cd16 "_law_draws" = true) (k16 : PySem.W.keepIn K (.ref f16) = true)
    {f17 : Addr} {od17 an17 : Option Addr} {sl17 : Array (Option Value)} {oc17 kV17 dc17 pm17 cd17 ct17 : Value}
    (a17 : PySem.W.nsIn K mainGlobals "_law_next" = some (some (.ref f17))) (l17 : K.lookup f17 = some ⟨oc17, od17, .func (PySem.W.fnOf "_law_next" "_law_next" (defArgs sNext) (defBody sNext) (defScope sNext) .none kV17 dc17 pm17 an17 cd17 ct17), sl17⟩) (c17 : PySem.W.codeIn K cd17 "_law_next" = true) (k17 : PySem.W.keepIn K (.ref f17) = true)
    {f18 : Addr} {od18 an18 : Option Addr} {sl18 : Array (Option Value)} {oc18 kV18 dc18 pm18 cd18 ct18 : Value}
    (a18 : PySem.W.nsIn K mainGlobals "_law_word" = some (some (.ref f18))) (l18 : K.lookup f18 = some ⟨oc18, od18, .func (PySem.W.fnOf "_law_word" "_law_word" (defArgs sWord) (defBody sWord) (defScope sWord) .none kV18 dc18 pm18 an18 cd18 ct18), sl18⟩) (c18 : PySem.W.codeIn K cd18 "_law_word" = true) (k18 : PySem.W.keepIn K (.ref f18) = true)
    {f19 : Addr} {od19 an19 : Option Addr} {sl19 : Array (Option Value)} {oc19 kV19 dc19 pm19 cd19 ct19 : Value}
    (a19 : PySem.W.nsIn K mainGlobals "_law_number" = some (some (.ref f19))) (l19 : K.lookup f19 = some ⟨oc19, od19, .func (PySem.W.fnOf "_law_number" "_law_number" (defArgs sNumber) (defBody sNumber) (defScope sNumber) .none kV19 dc19 pm19 an19 cd19 ct19), sl19⟩) (c19 : PySem.W.codeIn K cd19 "_law_number" = true) (k19 : PySem.W.keepIn K (.ref f19) = true)
    {f20 : Addr} {od20 an20 : Option Addr} {sl20 : Array (Option Value)} {oc20 kV20 dc20 pm20 cd20 ct20 : Value}
    (a20 : PySem.W.nsIn K mainGlobals "_law_thing" = some (some (.ref f20))) (l20 : K.lookup f20 = some ⟨oc20, od20, .func (PySem.W.fnOf "_law_thing" "_law_thing" (defArgs sThing) (defBody sThing) (defScope sThing) .none kV20 dc20 pm20 an20 cd20 ct20), sl20⟩) (c20 : PySem.W.codeIn K cd20 "_law_thing" = true) (k20 : PySem.W.keepIn K (.ref f20) = true)
    {f21 : Addr} {od21 an21 : Option Addr} {sl21 : Array (Option Value)} {oc21 kV21 dc21 pm21 cd21 ct21 : Value}
    (a21 : PySem.W.nsIn K mainGlobals "_law_shape" = some (some (.ref f21))) (l21 : K.lookup f21 = some ⟨oc21, od21, .func (PySem.W.fnOf "_law_shape" "_law_shape" (defArgs sShape) (defBody sShape) (defScope sShape) .none kV21 dc21 pm21 an21 cd21 ct21), sl21⟩) (c21 : PySem.W.codeIn K cd21 "_law_shape" = true) (k21 : PySem.W.keepIn K (.ref f21) = true)
    {f22 : Addr} {od22 an22 : Option Addr} {sl22 : Array (Option Value)} {oc22 kV22 dc22 pm22 cd22 ct22 : Value}
    (a22 : PySem.W.nsIn K mainGlobals "_law_place" = some (some (.ref f22))) (l22 : K.lookup f22 = some ⟨oc22, od22, .func (PySem.W.fnOf "_law_place" "_law_place" (defArgs sLPlace) (defBody sLPlace) (defScope sLPlace) .none kV22 dc22 pm22 an22 cd22 ct22), sl22⟩) (c22 : PySem.W.codeIn K cd22 "_law_place" = true) (k22 : PySem.W.keepIn K (.ref f22) = true)
    {f23 : Addr} {od23 an23 : Option Addr} {sl23 : Array (Option Value)} {oc23 kV23 dc23 pm23 cd23 ct23 : Value}
    (a23 : PySem.W.nsIn K mainGlobals "_law_values" = some (some (.ref f23))) (l23 : K.lookup f23 = some ⟨oc23, od23, .func (PySem.W.fnOf "_law_values" "_law_values" (defArgs sLValues) (defBody sLValues) (defScope sLValues) .none kV23 dc23 pm23 an23 cd23 ct23), sl23⟩) (c23 : PySem.W.codeIn K cd23 "_law_values" = true) (k23 : PySem.W.keepIn K (.ref f23) = true)
    {f24 : Addr} {od24 an24 : Option Addr} {sl24 : Array (Option Value)} {oc24 kV24 dc24 pm24 cd24 ct24 : Value}
    (a24 : PySem.W.nsIn K mainGlobals "_law_leaf" = some (some (.ref f24))) (l24 : K.lookup f24 = some ⟨oc24, od24, .func (PySem.W.fnOf "_law_leaf" "_law_leaf" (defArgs sLeaf) (defBody sLeaf) (defScope sLeaf) .none kV24 dc24 pm24 an24 cd24 ct24), sl24⟩) (c24 : PySem.W.codeIn K cd24 "_law_leaf" = true) (k24 : PySem.W.keepIn K (.ref f24) = true)
    {f25 : Addr} {od25 an25 : Option Addr} {sl25 : Array (Option Value)} {oc25 kV25 dc25 pm25 cd25 ct25 : Value}
    (a25 : PySem.W.nsIn K mainGlobals "_law_flag" = some (some (.ref f25))) (l25 : K.lookup f25 = some ⟨oc25, od25, .func (PySem.W.fnOf "_law_flag" "_law_flag" (defArgs sFlag) (defBody sFlag) (defScope sFlag) .none kV25 dc25 pm25 an25 cd25 ct25), sl25⟩) (c25 : PySem.W.codeIn K cd25 "_law_flag" = true) (k25 : PySem.W.keepIn K (.ref f25) = true)
    {f26 : Addr} {od26 an26 : Option Addr} {sl26 : Array (Option Value)} {oc26 kV26 dc26 pm26 cd26 ct26 : Value}
    (a26 : PySem.W.nsIn K mainGlobals "_law_expression" = some (some (.ref f26))) (l26 : K.lookup f26 = some ⟨oc26, od26, .func (PySem.W.fnOf "_law_expression" "_law_expression" (defArgs sExpr) (defBody sExpr) (defScope sExpr) .none kV26 dc26 pm26 an26 cd26 ct26), sl26⟩) (c26 : PySem.W.codeIn K cd26 "_law_expression" = true) (k26 : PySem.W.keepIn K (.ref f26) = true)
    {f27 : Addr} {od27 an27 : Option Addr} {sl27 : Array (Option Value)} {oc27 kV27 dc27 pm27 cd27 ct27 : Value}
    (a27 : PySem.W.nsIn K mainGlobals "_law_pair" = some (some (.ref f27))) (l27 : K.lookup f27 = some ⟨oc27, od27, .func (PySem.W.fnOf "_law_pair" "_law_pair" (defArgs sLPair) (defBody sLPair) (defScope sLPair) .none kV27 dc27 pm27 an27 cd27 ct27), sl27⟩) (c27 : PySem.W.codeIn K cd27 "_law_pair" = true) (k27 : PySem.W.keepIn K (.ref f27) = true)
    {f28 : Addr} {od28 an28 : Option Addr} {sl28 : Array (Option Value)} {oc28 kV28 dc28 pm28 cd28 ct28 : Value}
    (a28 : PySem.W.nsIn K mainGlobals "_law_value" = some (some (.ref f28))) (l28 : K.lookup f28 = some ⟨oc28, od28, .func (PySem.W.fnOf "_law_value" "_law_value" (defArgs sLValue) (defBody sLValue) (defScope sLValue) .none kV28 dc28 pm28 an28 cd28 ct28), sl28⟩) (c28 : PySem.W.codeIn K cd28 "_law_value" = true) (k28 : PySem.W.keepIn K (.ref f28) = true)
    {f29 : Addr} {od29 an29 : Option Addr} {sl29 : Array (Option Value)} {oc29 kV29 dc29 pm29 cd29 ct29 : Value}
    (a29 : PySem.W.nsIn K mainGlobals "law" = some (some (.ref f29))) (l29 : K.lookup f29 = some ⟨oc29, od29, .func (PySem.W.fnOf "law" "law" (defArgs sLaw) (defBody sLaw) (defScope sLaw) .none kV29 dc29 pm29 an29 cd29 ct29), sl29⟩) (c29 : PySem.W.codeIn K cd29 "law" = true) (k29 : PySem.W.keepIn K (.ref f29) = true)
    (z1 : PySem.W.nsIn K mainGlobals "range" = some none)
    (z2 : PySem.W.nsIn K mainGlobals "int" = some none)
    (z3 : PySem.W.nsIn K mainGlobals "len" = some none)
    (z4 : PySem.W.nsIn K mainGlobals "isinstance" = some none)
    (z5 : PySem.W.nsIn K mainGlobals "bool" = some none)
    (z6 : PySem.W.nsIn K mainGlobals "str" = some none)
    (z7 : PySem.W.nsIn K mainGlobals "min" = some none)
    (z8 : PySem.W.nsIn K mainGlobals "max" = some none)
    (z9 : PySem.W.nsIn K mainGlobals "sum" = some none)
    (z10 : PySem.W.nsIn K mainGlobals "abs" = some none)
    (z11 : PySem.W.nsIn K mainGlobals "enumerate" = some none)
    (z12 : PySem.W.nsIn K mainGlobals "tuple" = some none)
    (z13 : PySem.W.nsIn K mainGlobals "list" = some none)
    (z14 : PySem.W.nsIn K mainGlobals "sorted" = some none)
    (z15 : PySem.W.nsIn K mainGlobals "zip" = some none)
    (z16 : PySem.W.nsIn K mainGlobals "reversed" = some none)
    (z17 : PySem.W.nsIn K mainGlobals "dict" = some none)
    (z18 : PySem.W.nsIn K mainGlobals "ValueError" = some none)
    {t1 : Tok} (g1 : PySem.W.nsIn K mainGlobals "CHARACTERS" = some (some (.str CHS t1)))
    {t2 : Tok} (g2 : PySem.W.nsIn K mainGlobals "INT_BOUND" = some (some (.int (10 ^ 30) t2)))
    {t3 : Tok} (g3 : PySem.W.nsIn K mainGlobals "TEXT_BOUND" = some (some (.int 200 t3)))
    {kT0 : Addr} {T0k0 T0k1 T0k2 : Tok} {nT0 : Nat} {ddT0 : Option Addr} {slT0 : Array (Option Value)} {kT1 : Addr} {T1k0 T1k1 T1k2 T1k3 T1k4 T1k5 : Tok} {nT1 : Nat} {ddT1 : Option Addr} {slT1 : Array (Option Value)} {kT2 : Addr} {T2k0 T2k1 T2k2 T2k3 T2k4 : Tok} {nT2 : Nat} {ddT2 : Option Addr} {slT2 : Array (Option Value)} {S : Addr} {fSI : Addr} {odSI anSI : Option Addr} {slSI : Array (Option Value)} {ocSI kVSI dcSI pmSI cdSI ctSI : Value} {fE : Addr}
    (eT0 : PySem.W.nsIn K mainGlobals "LEAVES" = some (some (.ref kT0)))
    (lT0 : K.lookup kT0 = some ⟨.type "tuple", ddT0, .seq #[.str "value" T0k0, .str "attr" T0k1, .str "dim" T0k2] nT0, slT0⟩)
    (eT1 : PySem.W.nsIn K mainGlobals "COMPARISONS" = some (some (.ref kT1)))
    (lT1 : K.lookup kT1 = some ⟨.type "tuple", ddT1, .seq #[.str "eq" T1k0, .str "ne" T1k1, .str "lt" T1k2, .str "le" T1k3, .str "gt" T1k4, .str "ge" T1k5] nT1, slT1⟩)
    (eT2 : PySem.W.nsIn K mainGlobals "LOOSE_WORDS" = some (some (.ref kT2)))
    (lT2 : K.lookup kT2 = some ⟨.type "tuple", ddT2, .seq #[.str "is missing" T2k0, .str "and" T2k1, .str "or" T2k2, .str "if" T2k3, .str "or else" T2k4] nT2, slT2⟩)
    (xSe : PySem.W.nsIn K mainGlobals "Shape" = some (some (.ref S)))
    (xS1 : PySem.W.makesIn K S = true)
    (xS2 : PySem.W.findIn K (.ref S) "__init__" = some (some (.ref fSI)))
    (xS3 : PySem.W.isFn K (.ref fSI) = true)
    (xS4 : PySem.W.keepIn K (.ref S) = true)
    (xS5 : PySem.W.plainGet K S Str.empty = true)
    (xS6 : PySem.W.hasDictIn K S = true)
    (xS7 : PySem.W.plainOver K S = true)
    (xS8 : PySem.W.findIn K (.ref S) "__setattr__" = some (some (.builtin "object.__setattr__")))
    (xSn0 : PySem.W.findIn K (.ref S) "dims" = some none)
    (xSn1 : PySem.W.findIn K (.ref S) "attrs" = some none)
    (lSI : K.lookup fSI = some ⟨ocSI, odSI, .func (PySem.W.fnOf "__init__" "Shape.__init__" (defArgs sShInit) (defBody sShInit) (defScope sShInit) .none kVSI dcSI pmSI anSI cdSI ctSI), slSI⟩)
    (cSI : PySem.W.codeIn K cdSI "Shape.__init__" = true)
    (kSI : PySem.W.keepIn K (.ref fSI) = true)
    (s11 : PySem.W.findIn K (.ref S) "__eq__" = some (some (.ref fE)))
    (s12 : PySem.W.isFn K (.ref fE) = true)
    (s13 : PySem.W.notFirst K S (.ref S) = true)
    (s14 : PySem.W.notFirst K S (.type "tuple") = true)
    (s17 : PySem.W.kitOne K (.ref S) (.ref S) = some true)
    (s18 : PySem.W.kitOne K (.type "tuple") (.ref S) = some false)
    (s15 : PySem.W.findIn K (.ref S) "__class__" = some (some (.builtin "object.__class__")))
    (s16 : PySem.W.mroIn K S (.type "object") = some true)
    (hn : PySem.W.specialIn K (.builtin "object.__class__") "__get__" = some (some (.builtin "getset_descriptor.__get__")))
    (ht : PySem.W.takesIn K (.builtin "object.__class__") = some true)
    : ∃ fd : FuncData, (∀ (s : Shared) (v : Value), BindsTo s fd ⟨[v], []⟩ [("script", v)]) ∧ ∀ base : Heap, K.In base → base.Ns mainGlobals mg → FnOk l.prog w K mg base CX0 16 fa fd ["script"] (spLaw K) := by
  have e := hfa.symm.trans (PySem.W.mg_of X G a29)
  cases e
  have F1 := fun_mk (st := sIsText) l1 c1 k1
  have F2 := fun_mk (st := sIsValue) l2 c2 k2
  have F3 := fun_mk (st := sDimIx) l3 c3 k3
  have F4 := fun_mk (st := sAttrIx) l4 c4 k4
  have F5 := fun_mk (st := sIndex) l5 c5 k5
  have F6 := fun_mk (st := sPartsOf) l6 c6 k6
  have F7 := fun_mk (st := sValueOf) l7 c7 k7
  have F8 := fun_mk (st := sLooseValue) l8 c8 k8
  have F9 := fun_mk (st := sBoth) l9 c9 k9
  have F10 := fun_mk (st := sEither) l10 c10 k10
  have F11 := fun_mk (st := sChosen) l11 c11 k11
  have F12 := fun_mk (st := sStrictValue) l12 c12 k12
  have F13 := fun_mk (st := sCompared) l13 c13 k13
  have F14 := fun_mk (st := sReckoned) l14 c14 k14
  have F15 := fun_mk (st := sDraw) l15 c15 k15
  have F16 := fun_mk (st := sDraws) l16 c16 k16
  have F17 := fun_mk (st := sNext) l17 c17 k17
  have F18 := fun_mk (st := sWord) l18 c18 k18
  have F19 := fun_mk (st := sNumber) l19 c19 k19
  have F20 := fun_mk (st := sThing) l20 c20 k20
  have F21 := fun_mk (st := sShape) l21 c21 k21
  have F22 := fun_mk (st := sLPlace) l22 c22 k22
  have F23 := fun_mk (st := sLValues) l23 c23 k23
  have F24 := fun_mk (st := sLeaf) l24 c24 k24
  have F25 := fun_mk (st := sFlag) l25 c25 k25
  have F26 := fun_mk (st := sExpr) l26 c26 k26
  have F27 := fun_mk (st := sLPair) l27 c27 k27
  have F28 := fun_mk (st := sLValue) l28 c28 k28
  have F29 := fun_mk (st := sLaw) l29 c29 k29
  have b1 := F1.binds (ps := ["text"]) fun _ _ _ _ _ _ us hl => match us, hl with | [_], _ => rfl
  have b2 := F2.binds (ps := ["kind", "value"]) fun _ _ _ _ _ _ us hl => match us, hl with | [_, _], _ => rfl
  have b3 := F3.binds (ps := ["shape", "name"]) fun _ _ _ _ _ _ us hl => match us, hl with | [_, _], _ => rfl
  have b4 := F4.binds (ps := ["shape", "name"]) fun _ _ _ _ _ _ us hl => match us, hl with | [_, _], _ => rfl
  have b5 := F5.binds (ps := ["rows", "name"]) fun _ _ _ _ _ _ us hl => match us, hl with | [_, _], _ => rfl
  have b6 := F6.binds (ps := ["expression"]) fun _ _ _ _ _ _ us hl => match us, hl with | [_], _ => rfl
  have b7 := F7.binds (ps := ["expression", "shape", "place", "values"]) fun _ _ _ _ _ _ us hl => match us, hl with | [_, _, _, _], _ => rfl
  have b8 := F8.binds (ps := ["word", "parts"]) fun _ _ _ _ _ _ us hl => match us, hl with | [_, _], _ => rfl
  have b9 := F9.binds (ps := ["first", "second"]) fun _ _ _ _ _ _ us hl => match us, hl with | [_, _], _ => rfl
  have b10 := F10.binds (ps := ["first", "second"]) fun _ _ _ _ _ _ us hl => match us, hl with | [_, _], _ => rfl
  have b11 := F11.binds (ps := ["condition", "first", "second"]) fun _ _ _ _ _ _ us hl => match us, hl with | [_, _, _], _ => rfl
  have b12 := F12.binds (ps := ["word", "parts"]) fun _ _ _ _ _ _ us hl => match us, hl with | [_, _], _ => rfl
  have b13 := F13.binds (ps := ["word", "first", "second"]) fun _ _ _ _ _ _ us hl => match us, hl with | [_, _, _], _ => rfl
  have b14 := F14.binds (ps := ["word", "first", "second"]) fun _ _ _ _ _ _ us hl => match us, hl with | [_, _, _], _ => rfl
  have b15 := F15.binds (ps := ["cell", "many", "bound"]) fun _ _ _ _ _ _ us hl => match us, hl with | [_, _, _], _ => rfl
  have b16 := F16.binds (ps := ["cells"]) fun _ _ _ _ _ _ us hl => match us, hl with | [_], _ => rfl
  have b17 := F17.binds (ps := ["state", "bound"]) fun _ _ _ _ _ _ us hl => match us, hl with | [_, _], _ => rfl
  have b18 := F18.binds (ps := ["state"]) fun _ _ _ _ _ _ us hl => match us, hl with | [_], _ => rfl
  have b19 := F19.binds (ps := ["state"]) fun _ _ _ _ _ _ us hl => match us, hl with | [_], _ => rfl
  have b20 := F20.binds (ps := ["state", "kind"]) fun _ _ _ _ _ _ us hl => match us, hl with | [_, _], _ => rfl
  have b21 := F21.binds (ps := ["state"]) fun _ _ _ _ _ _ us hl => match us, hl with | [_], _ => rfl
  have b22 := F22.binds (ps := ["state", "dims"]) fun _ _ _ _ _ _ us hl => match us, hl with | [_, _], _ => rfl
  have b23 := F23.binds (ps := ["state", "attrs", "few"]) fun _ _ _ _ _ _ us hl => match us, hl with | [_, _, _], _ => rfl
  have b24 := F24.binds (ps := ["state", "shape", "kind"]) fun _ _ _ _ _ _ us hl => match us, hl with | [_, _, _], _ => rfl
  have b25 := F25.binds (ps := ["state", "shape", "depth"]) fun _ _ _ _ _ _ us hl => match us, hl with | [_, _, _], _ => rfl
  have b26 := F26.binds (ps := ["state", "shape", "kind", "depth"]) fun _ _ _ _ _ _ us hl => match us, hl with | [_, _, _, _], _ => rfl
  have b27 := F27.binds (ps := ["word", "a", "b"]) fun _ _ _ _ _ _ us hl => match us, hl with | [_, _, _], _ => rfl
  have b28 := F28.binds (ps := ["expression", "shape", "place", "values"]) fun _ _ _ _ _ _ us hl => match us, hl with | [_, _, _, _], _ => rfl
  have M : Nm mg := ⟨PySem.W.mg_none_of X G z1, PySem.W.mg_none_of X G z2, PySem.W.mg_none_of X G z3, PySem.W.mg_none_of X G z4, PySem.W.mg_none_of X G z5, PySem.W.mg_none_of X G z6, PySem.W.mg_none_of X G z7, PySem.W.mg_none_of X G z8, PySem.W.mg_none_of X G z9, PySem.W.mg_none_of X G z10, PySem.W.mg_none_of X G z11, PySem.W.mg_none_of X G z12, PySem.W.mg_none_of X G z13, PySem.W.mg_none_of X G z14, PySem.W.mg_none_of X G z15, PySem.W.mg_none_of X G z16, PySem.W.mg_none_of X G z17, PySem.W.mg_none_of X G z18⟩
  have FG := fun_mk (st := sShInit) lSI cSI kSI
  have bG := FG.binds (ps := ["self", "dims", "attrs"]) fun _ _ _ _ _ _ us hl => match us, hl with | [_, _, _], _ => rfl
  have SH : ShC K S fSI fE := ⟨⟨xS1, xS2, xS3, xS4⟩, ⟨xS5, xS6, xS7, xS8⟩, xSn0, xSn1, s11, s12, s13, s14, s15, hn, ht, s16, s17, s18⟩
  have N2 : Ct mg := ⟨⟨_, PySem.W.mg_of X G g1, ⟨_, rfl⟩⟩, ⟨_, PySem.W.mg_of X G g2, ⟨_, rfl⟩⟩, ⟨_, PySem.W.mg_of X G g3, ⟨_, rfl⟩⟩⟩
  exact ⟨PySem.W.fnOf "law" "law" (defArgs sLaw) (defBody sLaw) (defScope sLaw) .none kV29 dc29 pm29 an29 cd29 ct29, fun s v => .of_eq rfl, fun base _ _ => ok_law (C := S) F29 M SH ⟨PySem.W.mg_of X G a16, PySem.W.mg_of X G a21, PySem.W.mg_of X G a26, PySem.W.mg_of X G a22, PySem.W.mg_of X G a23, PySem.W.mg_of X G a28, PySem.W.mg_of X G a7, PySem.W.mg_of X G a2, b16, b21, b26, b22, b23, b28, b7, b2, k16, k21, k26, k22, k23, k28, k7, k2⟩ (ok_draws F16 F15 b15 (PySem.W.mg_of X G a15) M.range M.int) (ok_shape F21 M F17 b17 (PySem.W.mg_of X G a17) SH (PySem.W.mg_of X G xSe) (ok_shInit FG SH) bG) (ok_expr F26 (PySem.W.mg_of X G a26) b26 M F17 b17 (PySem.W.mg_of X G a17) (ok_leaf F24 M SH F17 b17 (PySem.W.mg_of X G a17) (ok_thing F20 M F17 b17 (PySem.W.mg_of X G a17) F18 b18 (PySem.W.mg_of X G a18) F19 b19 (PySem.W.mg_of X G a19)) k20 b20 (PySem.W.mg_of X G a20)) k24 b24 (PySem.W.mg_of X G a24) F25 b25 (PySem.W.mg_of X G a25) 5) (ok_place F22 M F17 b17 (PySem.W.mg_of X G a17)) (ok_values F23 M F17 b17 (PySem.W.mg_of X G a17) (ok_thing F20 M F17 b17 (PySem.W.mg_of X G a17) F18 b18 (PySem.W.mg_of X G a18) F19 b19 (PySem.W.mg_of X G a19)) k20 b20 (PySem.W.mg_of X G a20)) (ok_lx F28 (PySem.W.mg_of X G a28) b28 M SH F27 b27 (PySem.W.mg_of X G a27) 5) (ok_vo F7 (PySem.W.mg_of X G a7) b7 ⟨kT2, PySem.W.mg_of X G eT2, fun _ => .inr ⟨_, _, _, lT2, rfl, rfl, (by show 5 ≤ sizeLine; decide), .cons ⟨_, rfl⟩ (.cons ⟨_, rfl⟩ (.cons ⟨_, rfl⟩ (.cons ⟨_, rfl⟩ (.cons ⟨_, rfl⟩ (.nil)))))⟩⟩ (ok_parts F6 M ⟨kT0, PySem.W.mg_of X G eT0, fun _ => .inr ⟨_, _, _, lT0, rfl, rfl, (by show 3 ≤ sizeLine; decide), .cons ⟨_, rfl⟩ (.cons ⟨_, rfl⟩ (.cons ⟨_, rfl⟩ (.nil)))⟩⟩) k6 b6 (PySem.W.mg_of X G a6) (ok_attrIx F4 M SH F5 b5 (PySem.W.mg_of X G a5)) k4 b4 (PySem.W.mg_of X G a4) (ok_dimIx F3 M SH F5 b5 (PySem.W.mg_of X G a5)) k3 b3 (PySem.W.mg_of X G a3) (ok_loose F8 F9 b9 (PySem.W.mg_of X G a9) F10 b10 (PySem.W.mg_of X G a10) F11 b11 (PySem.W.mg_of X G a11)) k8 b8 (PySem.W.mg_of X G a8) (ok_strict F12 M N2 ⟨kT1, PySem.W.mg_of X G eT1, fun _ => .inr ⟨_, _, _, lT1, rfl, rfl, (by show 6 ≤ sizeLine; decide), .cons ⟨_, rfl⟩ (.cons ⟨_, rfl⟩ (.cons ⟨_, rfl⟩ (.cons ⟨_, rfl⟩ (.cons ⟨_, rfl⟩ (.cons ⟨_, rfl⟩ (.nil))))))⟩⟩ F13 b13 (PySem.W.mg_of X G a13) F14 b14 (PySem.W.mg_of X G a14) (ok_isValue F2 M N2 F1 b1 (PySem.W.mg_of X G a1)) k2 b2 (PySem.W.mg_of X G a2)) k12 b12 (PySem.W.mg_of X G a12) 5) (ok_isValue F2 M N2 F1 b1 (PySem.W.mg_of X G a1))⟩
end K2
open PySem PySem.W PyProof.Rows
set_option maxRecDepth 100000 in
set_option maxHeartbeats 0 in
theorem PySem.Challenge.cw_manysides_k06_values_of_expressions_holds : PySem.Challenge.rw_manysides_k06_values_of_expressions.Holds := by
  w_on; o_law; k_head; (case hw => w_witness2)
  k_fill
  refine L2.walk_of (l := PySem.Challenge.rw_manysides_k06_values_of_expressions) (n := 63) (k := 16) (x := "script") (CX := fun _ => L2.CX0) (sp := fun w => K2.spLaw _) rfl (by decide) rfl ⟨rfl, by decide, by decide⟩ (fun w h Y => PySem.W.kIn_of Y) ?F (fun _ _ a ns hl _ hS => ⟨a, ns, rfl, hS, hl, fun _ => rfl⟩) (fun _ _ _ _ _ h => h)
  case F =>
    intro w mg fa h KX G hmg
    refine' K2.all_mk KX G hmg ?a1 ?l1 ?c1 ?k1 ?a2 ?l2 ?c2 ?k2 ?a3 ?l3 ?c3 ?k3 ?a4 ?l4 ?c4 ?k4 ?a5 ?l5 ?c5 ?k5 ?a6 ?l6 ?c6 ?k6 ?a7 ?l7 ?c7 ?k7 ?a8 ?l8 ?c8 ?k8 ?a9 ?l9 ?c9 ?k9 ?a10 ?l10 ?c10 ?k10 ?a11 ?l11 ?c11 ?k11 ?a12 ?l12 ?c12 ?k12 ?a13 ?l13 ?c13 ?k13 ?a14 ?l14 ?c14 ?k14 ?a15 ?l15 ?c15 ?k15 ?a16 ?l16 ?c16 ?k16 ?a17 ?l17 ?c17 ?k17 ?a18 ?l18 ?c18 ?k18 ?a19 ?l19 ?c19 ?k19 ?a20 ?l20 ?c20 ?k20 ?a21 ?l21 ?c21 ?k21 ?a22 ?l22 ?c22 ?k22 ?a23 ?l23 ?c23 ?k23 ?a24 ?l24 ?c24 ?k24 ?a25 ?l25 ?c25 ?k25 ?a26 ?l26 ?c26 ?k26 ?a27 ?l27 ?c27 ?k27 ?a28 ?l28 ?c28 ?k28 ?a29 ?l29 ?c29 ?k29 ?z1 ?z2 ?z3 ?z4 ?z5 ?z6 ?z7 ?z8 ?z9 ?z10 ?z11 ?z12 ?z13 ?z14 ?z15 ?z16 ?z17 ?z18 ?g1 ?g2 ?g3 ?eT0 ?lT0 ?eT1 ?lT1 ?eT2 ?lT2 ?xSe ?xS1 ?xS2 ?xS3 ?xS4 ?xS5 ?xS6 ?xS7 ?xS8 ?xSn0 ?xSn1 ?lSI ?cSI ?kSI ?s11 ?s12 ?s13 ?s14 ?s17 ?s18 ?s15 ?s16 ?hn ?ht
    (case a1 => k_is)
    (case l1 => k_is)
    (case c1 => k_is)
    (case k1 => k_is)
    (case a2 => k_is)
    (case l2 => k_is)
    (case c2 => k_is)
    (case k2 => k_is)
    (case a3 => k_is)
    (case l3 => k_is)
    (case c3 => k_is)
    (case k3 => k_is)
    (case a4 => k_is)
    (case l4 => k_is)
    (case c4 => k_is)
    (case k4 => k_is)
    (case a5 => k_is)
    (case l5 => k_is)
    (case c5 => k_is)
    (case k5 => k_is)
    (case a6 => k_is)
    (case l6 => k_is)
    (case c6 => k_is)
    (case k6 => k_is)
    (case a7 => k_is)
    (case l7 => k_is)
    (case c7 => k_is)
    (case k7 => k_is)
    (case a8 => k_is)
    (case l8 => k_is)
    (case c8 => k_is)
    (case k8 => k_is)
    (case a9 => k_is)
    (case l9 => k_is)
    (case c9 => k_is)
    (case k9 => k_is)
    (case a10 => k_is)
    (case l10 => k_is)
    (case c10 => k_is)
    (case k10 => k_is)
    (case a11 => k_is)
    (case l11 => k_is)
    (case c11 => k_is)
    (case k11 => k_is)
    (case a12 => k_is)
    (case l12 => k_is)
    (case c12 => k_is)
    (case k12 => k_is)
    (case a13 => k_is)
    (case l13 => k_is)
    (case c13 => k_is)
    (case k13 => k_is)
    (case a14 => k_is)
    (case l14 => k_is)
    (case c14 => k_is)
    (case k14 => k_is)
    (case a15 => k_is)
    (case l15 => k_is)
    (case c15 => k_is)
    (case k15 => k_is)
    (case a16 => k_is)
    (case l16 => k_is)
    (case c16 => k_is)
    (case k16 => k_is)
    (case a17 => k_is)
    (case l17 => k_is)
    (case c17 => k_is)
    (case k17 => k_is)
    (case a18 => k_is)
    (case l18 => k_is)
    (case c18 => k_is)
    (case k18 => k_is)
    (case a19 => k_is)
    (case l19 => k_is)
    (case c19 => k_is)
    (case k19 => k_is)
    (case a20 => k_is)
    (case l20 => k_is)
    (case c20 => k_is)
    (case k20 => k_is)
    (case a21 => k_is)
    (case l21 => k_is)
    (case c21 => k_is)
    (case k21 => k_is)
    (case a22 => k_is)
    (case l22 => k_is)
    (case c22 => k_is)
    (case k22 => k_is)
    (case a23 => k_is)
    (case l23 => k_is)
    (case c23 => k_is)
    (case k23 => k_is)
    (case a24 => k_is)
    (case l24 => k_is)
    (case c24 => k_is)
    (case k24 => k_is)
    (case a25 => k_is)
    (case l25 => k_is)
    (case c25 => k_is)
    (case k25 => k_is)
    (case a26 => k_is)
    (case l26 => k_is)
    (case c26 => k_is)
    (case k26 => k_is)
    (case a27 => k_is)
    (case l27 => k_is)
    (case c27 => k_is)
    (case k27 => k_is)
    (case a28 => k_is)
    (case l28 => k_is)
    (case c28 => k_is)
    (case k28 => k_is)
    (case a29 => k_is)
    (case l29 => k_is)
    (case c29 => k_is)
    (case k29 => k_is)
    (case z1 => k_is)
    (case z2 => k_is)
    (case z3 => k_is)
    (case z4 => k_is)
    (case z5 => k_is)
    (case z6 => k_is)
    (case z7 => k_is)
    (case z8 => k_is)
    (case z9 => k_is)
    (case z10 => k_is)
    (case z11 => k_is)
    (case z12 => k_is)
    (case z13 => k_is)
    (case z14 => k_is)
    (case z15 => k_is)
    (case z16 => k_is)
    (case z17 => k_is)
    (case z18 => k_is)
    (case g1 => k_is)
    (case g2 => k_is)
    (case g3 => k_is)
    (case eT0 => first | k_is | kit_is | rfl)
    (case lT0 => first | k_is | kit_is | rfl)
    (case eT1 => first | k_is | kit_is | rfl)
    (case lT1 => first | k_is | kit_is | rfl)
    (case eT2 => first | k_is | kit_is | rfl)
    (case lT2 => first | k_is | kit_is | rfl)
    (case xSe => first | k_is | kit_is | rfl)
    (case xS1 => first | k_is | kit_is | rfl)
    (case xS2 => first | k_is | kit_is | rfl)
    (case xS3 => first | k_is | kit_is | rfl)
    (case xS4 => first | k_is | kit_is | rfl)
    (case xS5 => first | k_is | kit_is | rfl)
    (case xS6 => first | k_is | kit_is | rfl)
    (case xS7 => first | k_is | kit_is | rfl)
    (case xS8 => first | k_is | kit_is | rfl)
    (case xSn0 => first | k_is | kit_is | rfl)
    (case xSn1 => first | k_is | kit_is | rfl)
    (case lSI => first | k_is | kit_is | rfl)
    (case cSI => first | k_is | kit_is | rfl)
    (case kSI => first | k_is | kit_is | rfl)
    (case s11 => first | k_is | kit_is | rfl)
    (case s12 => first | k_is | kit_is | rfl)
    (case s13 => first | k_is | kit_is | rfl)
    (case s14 => first | k_is | kit_is | rfl)
    (case s17 => first | k_is | kit_is | rfl)
    (case s18 => first | k_is | kit_is | rfl)
    (case s15 => first | k_is | kit_is | rfl)
    (case s16 => first | k_is | kit_is | rfl)
    (case hn => first | k_is | kit_is | rfl)
    (case ht => first | k_is | kit_is | rfl)
