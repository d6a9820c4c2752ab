import PyProof.Rows.All
import Wide.All
import OpenK.AllK
import Wide.FinOn
import HandS.ForMost
import HandS.StrMore
import HandS.Replace
import HandS.IsInst
import HandS.Style
import KE.KExcIs
import KE.KTypeName
import HandS.Exc
import HandS.WordsExc
import HandS.ExcInit
import HandS.ExcField
import HandS.ExcIs
import HandS.More
import HandS.ForExc
import HandS.Evl
import HandS.Steps
import HandS.Walk
import KE.GoesEnum
import PySem.Challenge.RW_manysides_k05_kinds_of_expressions
set_option Elab.async false
set_option linter.all false
set_option maxRecDepth 100000
set_option maxHeartbeats 4000000
namespace K2
open PySem L2
def top (i : Nat) : Stmt := PySem.Challenge.pw_manysides_k05_kinds_of_expressions.main.body.getD i (.Pass ⟨0, 0, 0, 0⟩)
abbrev sDraw : Stmt := top 27
abbrev sDraws : Stmt := top 28
abbrev sNext : Stmt := top 29
/-! heaps -/
theorem same_new {H : Hp} {p : Addr} {o : HO} (h : H p = none) : Same H (upd H p o) := fun b x e => by
  rw [upd_ne (ne_of_none e h)]
  exact e
theorem same_put {H H1 : Hp} {p : Addr} {o : HO} (s : Same H H1) (h : H p = none) : Same H (upd H1 p o) := fun b x e => by
  rw [upd_ne (ne_of_none e h)]
  exact s b x e
section
variable {P : Program} {w : World} {K : PySem.W.Frag} {mg : Str → Option Value} {base : Heap}
def spDraw : Sp := fun vs H Q _ => ∃ (c m b : Int), vs = [.int c, .int m, .int b] ∧ 0 ≤ m ∧ m ≤ 1000 ∧ 0 < b ∧ b < 1073741824 ∧
  ∀ H' p (ns : List Int), Same H H' → H p = none → ns.length = m.toNat → H' p = some (.lst (ns.map V.int)) → Q (.ref p) H'
theorem scDraw : FnScope ["cell", "many", "bound", "numbers", "k", "seed", "mixed"] ["cell", "many", "bound"] (defScope sDraw) := ⟨rfl, rfl, rfl, by decide +kernel, rfl, by decide +kernel, by decide +kernel⟩
theorem ok_draw {f : Addr} {fd : FuncData} (F : Fun K "_law_draw" "_law_draw" sDraw f fd) (mr : mg "range" = none) (mi : mg "int" = none) : FnOk P w K mg base CX0 1 f fd ["cell", "many", "bound"] spDraw := by
  refine F.ok scDraw (fun vs H Q E h => ?_) (fun cdv A outer s H vs Q E hr h => ?_)
  · obtain ⟨c, m, b, rfl, _⟩ := h
    rfl
  · obtain ⟨c, m, b, rfl, hm0, hm1, hb0, hb1, q⟩ := h
    refine ⟨_, pss_cons (ps_set (i := 3) scDraw.nd rfl (.inl rfl) (pe_lst pa_nil))
      (pss_cons (ps_if (pt_cmpR op_ge (pv 0) (pe_op op_pow pe_int pe_int) (nomark _))
        (pss_cons (ps_for PassesOwn.never rfl (pi_range1 (by rfl) mr (pa_cons (pv 1) pa_nil)) (pg_name (i := 4) scDraw.nd rfl (.inl rfl))
          (pss_cons (ps_expr (pe_bm PySem.F.plainAttrs_list PySem.F.slot_list_append PySem.F.type_list_append mt_append (pv 3) (pa_cons (pe_op op_mod (pe_callTy call_int1 (by rfl) mi (by decide +kernel) (pa_cons (pv 0) pa_nil)) (pv 2)) pa_nil)))
          (pss_one (ps_set (i := 0) scDraw.nd rfl (.inl rfl) (pe_op op_fdiv (pv 0) (pv 2))))))
        (pss_one (ps_ret (pv 3)))) pss_nil)
      (pss_cons (ps_set (i := 5) scDraw.nd rfl (.inl rfl) (pe_op op_mod (pe_callTy call_int1 (by rfl) mi (by decide +kernel) (pa_cons (pv 0) pa_nil)) pe_int))
      (pss_cons (ps_for PassesOwn.never rfl (pi_range1 (by rfl) mr (pa_cons (pv 1) pa_nil)) (pg_name (i := 4) scDraw.nd rfl (.inl rfl))
          (pss_cons (ps_set (i := 5) scDraw.nd rfl (.inl rfl) (pe_op op_mod (pe_callTy call_int1 (by rfl) mi (by decide +kernel) (pa_cons (pe_op op_add (pe_op op_add (pe_op op_mul (pv 5) pe_int) pe_int) (pv 4)) pa_nil)) pe_int))
          (pss_cons (ps_set (i := 6) scDraw.nd rfl (.inl rfl) (pe_op op_mod (pe_callTy call_int1 (by rfl) mi (by decide +kernel) (pa_cons (pe_op op_add (pe_op op_mul (pv 5) pe_int) (pe_op op_mul pe_int (pv 4))) pa_nil)) pe_int))
          (pss_one (ps_expr (pe_bm PySem.F.plainAttrs_list PySem.F.slot_list_append PySem.F.type_list_append mt_append (pv 3) (pa_cons (pe_op op_mod (pe_callTy call_int1 (by rfl) mi (by decide +kernel) (pa_cons (pe_op op_fdiv (pv 6) pe_int) pa_nil)) (pv 2)) pa_nil)))))))
      (pss_one (ps_ret (pv 3)))))), ?_⟩
    refine ⟨Nat.zero_le _, fun o no => ?_⟩
    have s1 : Same H (upd H o (.lst [])) := same_new no
    refine ⟨_, rfl, 10, 18, rfl, rfl, ⟨by decide, by decide, by decide⟩, c, _, rfl, rfl, _, rfl, ite2 (fun e => ?_) (fun e => ?_)⟩
    · -- the great cells
      refine ⟨_, rfl, m, rfl, by omega, by omega, for_range (lo := 0) (n := m.toNat) (fun i σ H3 => ∃ (c' : Int) (y4 : Option V), σ = [some (.int c'), some (.int m), some (.int b), some (.ref o), y4, none, none] ∧ Same H H3 ∧ ∃ ns : List Int, ns.length = i ∧ H3 o = some (.lst (ns.map V.int))) ?_ ?_ ?_⟩
      · exact ⟨c, none, rfl, s1, [], rfl, upd_same⟩
      · rintro i σ H3 hi ⟨c', y4, rfl, sm, ns, hn, ho⟩
        refine ⟨_, rfl, .inl ⟨rfl, _, .inl (.inl ho)⟩, _, rfl, .inl ⟨c', rfl, _, rfl, c', b, rfl, rfl, hb0, o, _, _, rfl, rfl, ho, ?_, ?_⟩⟩
        · rw [List.length_map]
          exact small1000 (by omega)
        · refine ⟨_, rfl, _, rfl, c', b, rfl, rfl, ⟨hb0, hb1⟩, c' / b, _, rfl, same_put sm no, ns ++ [c' % b], ?_, ?_⟩
          · rw [List.length_append, hn]
            rfl
          · rw [upd_same, List.map_append]
            rfl
      · rintro σ H3 ⟨c', y4, rfl, sm, ns, hn, ho⟩
        exact ⟨_, rfl, q H3 o ns sm no hn ho⟩
    · -- the others
      refine ⟨_, rfl, .inl ⟨c, rfl, c, 2147483647, rfl, rfl, (by show (0 : Int) < 2147483647; decide), ?_⟩⟩
      refine ⟨_, rfl, m, rfl, by omega, by omega, for_range (lo := 0) (n := m.toNat) (fun i σ H3 => ∃ (sd : Int) (y4 y6 : Option V), σ = [some (.int c), some (.int m), some (.int b), some (.ref o), y4, some (.int sd), y6] ∧ 0 ≤ sd ∧ sd < 2147483647 ∧ Same H H3 ∧ ∃ ns : List Int, ns.length = i ∧ H3 o = some (.lst (ns.map V.int))) ?_ ?_ ?_⟩
      · exact ⟨_, none, none, rfl, Int.emod_nonneg _ (by decide), Int.emod_lt_of_pos _ (by decide), s1, [], rfl, upd_same⟩
      · rintro i σ H3 hi ⟨sd, y4, y6, rfl, h0, h1, sm, ns, hn, ho⟩
        refine ⟨_, rfl, sd, 48271, rfl, rfl, .inl ⟨by omega, by omega⟩, _, _, rfl, rfl, _, rfl, _, _, rfl, rfl, .inl ⟨_, rfl, _, 2147483647, rfl, rfl, (by show (0 : Int) < 2147483647; decide), ?_⟩⟩
        have g0 := Int.emod_nonneg (sd * 48271 + 12345 + (0 + (i : Int))) (by decide : (2147483647 : Int) ≠ 0)
        have g1 := Int.emod_lt_of_pos (sd * 48271 + 12345 + (0 + (i : Int))) (by decide : (0 : Int) < 2147483647)
        refine ⟨_, rfl, (sd * 48271 + 12345 + (0 + (i : Int))) % 2147483647, 69621, rfl, rfl, .inl ⟨by omega, by omega⟩, _, rfl, 977, _, rfl, rfl, .inl ⟨by decide, by decide⟩, _, _, rfl, rfl, .inl ⟨_, rfl, _, 2147483629, rfl, rfl, (by show (0 : Int) < 2147483629; decide), ?_⟩⟩
        refine ⟨_, rfl, .inl ⟨rfl, _, .inl (.inl ho)⟩, _, rfl, _, 3, rfl, rfl, ⟨by decide, by decide⟩, .inl ⟨_, rfl, _, rfl, _, b, rfl, rfl, hb0, o, _, _, rfl, rfl, ho, ?_, ?_⟩⟩
        · rw [List.length_map]
          exact small1000 (by omega)
        · refine ⟨_, _, _, rfl, g0, g1, same_put sm no, ns ++ [(((sd * 48271 + 12345 + (0 + (i : Int))) % 2147483647) * 69621 + 977 * (0 + (i : Int))) % 2147483629 / 3 % b], ?_, ?_⟩
          · rw [List.length_append, hn]
            rfl
          · rw [upd_same, List.map_append]
            rfl
      · rintro σ H3 ⟨sd, y4, y6, rfl, h0, h1, sm, ns, hn, ho⟩
        exact ⟨_, rfl, q H3 o ns sm no hn ho⟩
end
end K2

namespace K2
open PySem L2
/-! the state: a dict of two keys -/
abbrev kN : Key := Sum.inr "numbers"
abbrev kA : Key := Sum.inr "at"
theorem kNA : ¬ kN = kA := by decide +kernel
theorem kAN : ¬ kA = kN := by decide +kernel
def stK (l : Addr) (z : Int) : List (Key × V) := [(kN, .ref l), (kA, .int z)]
theorem stK_N (l : Addr) (z : Int) : valV (stK l z) kN = some (.ref l) := valV_pos rfl
theorem stK_A (l : Addr) (z : Int) : valV (stK l z) kA = some (.int z) := (valV_neg kNA).trans (valV_pos rfl)
theorem stK_put (l : Addr) (z y : Int) : putK (stK l z) kA (.int y) = stK l y := by
  unfold putK stK
  rw [if_pos (by rw [List.any_cons, List.any_cons, decide_eq_true (show kA = kA from rfl), Bool.true_or, Bool.or_true])]
  rw [List.map_cons, List.map_cons, List.map_nil, if_neg kNA, if_pos rfl]
theorem stK_mk (l : Addr) : mergeK [] [(kN, V.ref l), (kA, V.int 0)] = stK l 0 := by
  show putK (putK [] kN (.ref l)) kA (.int 0) = stK l 0
  rw [putK_new (kvs := []) _ rfl]
  rw [putK_new (kvs := [] ++ [(kN, V.ref l)]) _ (valV_neg (p := (kN, V.ref l)) (r := []) kNA)]
  rfl
structure StAt (H : Hp) (d l : Addr) : Prop where
  ex : ∃ (ns : List Int) (z : Int), H d = some (.dK (stK l z)) ∧ H l = some (.lst (ns.map V.int)) ∧ 0 < ns.length ∧ ns.length ≤ 100000
/-- all but the state is as it was, and the state is one again -/
structure Kp (d l : Addr) (H H' : Hp) : Prop where
  keep : ∀ c o, H c = some o → c ≠ d → H' c = some o
  st : StAt H' d l
theorem Kp.trans {d l : Addr} {H H1 H2 : Hp} (a : Kp d l H H1) (b : Kp d l H1 H2) : Kp d l H H2 := ⟨fun c o e n => b.keep c o (a.keep c o e n) n, b.st⟩
theorem StAt.same {d l : Addr} {H H1 : Hp} (s : StAt H d l) (e : Same H H1) : StAt H1 d l := by
  obtain ⟨ns, z, h1, h2, h3⟩ := s.ex
  exact ⟨ns, z, e _ _ h1, e _ _ h2, h3⟩
theorem Kp.same {d l : Addr} {H H1 H2 : Hp} (a : Kp d l H H1) (e : Same H1 H2) : Kp d l H H2 := ⟨fun c o h n => e _ _ (a.keep c o h n), a.st.same e⟩
theorem Kp.new {d l : Addr} {H H1 : Hp} {p : Addr} {o : HO} (a : Kp d l H H1) (h : H1 p = none) : Kp d l H (upd H1 p o) := a.same (same_new h)
theorem Kp.refl {d l : Addr} {H : Hp} (s : StAt H d l) : Kp d l H H := ⟨fun _ _ h _ => h, s⟩
theorem Kp.pre {d l : Addr} {H H1 H2 : Hp} (e : Same H H1) (a : Kp d l H1 H2) : Kp d l H H2 := ⟨fun c o h n => a.keep c o (e _ _ h) n, a.st⟩
/-- what is free is neither the state nor its list -/
theorem StAt.nd {d l : Addr} {H : Hp} (s : StAt H d l) {p : Addr} (h : H p = none) : p ≠ d ∧ p ≠ l := by
  obtain ⟨ns, z, h1, h2, _⟩ := s.ex
  exact ⟨fun e => (by rw [e, h1] at h; cases h), fun e => (by rw [e, h2] at h; cases h)⟩
/-- a store to what was free at first -/
theorem Kp.put {d l : Addr} {H H1 : Hp} {p : Addr} {o : HO} (a : Kp d l H H1) (h : H p = none) (n : p ≠ d ∧ p ≠ l) : Kp d l H (upd H1 p o) := by
  refine ⟨fun c ob e ne => ?_, ?_⟩
  · rw [upd_ne (ne_of_none e h)]
    exact a.keep c ob e ne
  · obtain ⟨ns, z, h1, h2, h3⟩ := a.st.ex
    exact ⟨ns, z, by rw [upd_ne n.1.symm]; exact h1, by rw [upd_ne n.2.symm]; exact h2, h3⟩
/-- what is free is free at first -/
theorem Kp.free {d l : Addr} {H H1 : Hp} (a : Kp d l H H1) {p : Addr} (h : H1 p = none) : H p = none := by
  cases e : H p with
  | none => rfl
  | some o =>
    have := a.keep p o e (a.st.nd h).1
    rw [h] at this
    cases this
section
variable {P : Program} {w : World} {K : PySem.W.Frag} {mg : Str → Option Value} {base : Heap}
def spDraws (K : PySem.W.Frag) : Sp := fun vs H Q _ => ∃ (a : Addr) (cs : List Int), vs = [.ref a] ∧ SqL K H a (cs.map V.int) ∧ cs.length ≤ 1000 ∧ 0 < cs.length ∧
  ∀ H' p l, Same H H' → H p = none → StAt H' p l → Q (.ref p) H'
theorem scDraws : FnScope ["cells", "numbers", "cell"] ["cells"] (defScope sDraws) := ⟨rfl, rfl, rfl, by decide +kernel, rfl, by decide +kernel, by decide +kernel⟩
theorem ok_draws {f fD : Addr} {fd fdD : FuncData} (F : Fun K "_law_draws" "_law_draws" sDraws f fd) (FD : Fun K "_law_draw" "_law_draw" sDraw fD fdD) (bD : Binds K fdD ["cell", "many", "bound"] []) (gD : mg "_law_draw" = some (.ref fD))
    (mr : mg "range" = none) (mi : mg "int" = none) : FnOk P w K mg base CX0 2 f fd ["cells"] (spDraws K) := by
  have GD : FnOk P w K mg base CX0 1 fD fdD ["cell", "many", "bound"] spDraw := ok_draw FD mr mi
  refine F.ok scDraws (fun vs H Q E h => ?_) (fun cdv A outer s H vs Q E hr h => ?_)
  · obtain ⟨a, cs, rfl, _⟩ := h
    rfl
  · obtain ⟨a, cs, rfl, hS, hl, h0, q⟩ := h
    refine ⟨_, pss_cons (ps_set (i := 1) scDraws.nd rfl (.inl rfl) (pe_lst pa_nil))
      (pss_cons (ps_for PassesOwn.never rfl (pi_list (pv 0)) (pg_name (i := 2) scDraws.nd rfl (.inl rfl))
        (pss_one (ps_set (i := 1) scDraws.nd rfl (.inl rfl) (pe_op op_cat (pv 1) (pe_call GD hr (by rfl) gD FD.kp bD .nil pass0 (pa_cons (pv 2) (pa_cons pe_int (pa_cons (pe_op op_shl pe_int pe_int) pa_nil))))))))
      (pss_one (ps_ret (pe_disp (pps_cons pe_str (pv 1) (pps_cons pe_str pe_int pps_nil)) (by rfl) (by rfl) (fun z => by cases z) (by decide))))), ?_⟩
    refine ⟨Nat.zero_le _, fun o no => ?_⟩
    refine ⟨_, rfl, a, rfl, ⟨_, (same_new no).seq hS⟩, for_list (xs := cs.map V.int) (fun i σ H3 => ∃ (l : Addr) (y2 : Option V), σ = [some (.ref a), some (.ref l), y2] ∧ Same H H3 ∧ H l = none ∧ ∃ ns : List Int, ns.length = 40 * i ∧ H3 l = some (.lst (ns.map V.int))) ?_ ?_ ?_ ?_⟩
    · exact ⟨o, none, rfl, same_new no, no, [], rfl, upd_same⟩
    · rintro i σ H3 hi ⟨l, y2, rfl, sm, _⟩
      exact sm.seq hS
    · rintro i x σ H3 hx ⟨l, y2, rfl, sm, nl, ns, hn, hol⟩
      have hi : i < cs.length := by
        have := (List.getElem?_eq_some_iff.mp hx).1
        rwa [List.length_map] at this
      rw [List.getElem?_map, List.getElem?_eq_getElem hi] at hx
      have ex : x = .int cs[i] := (Option.some.inj hx).symm
      subst ex
      refine ⟨_, rfl, _, rfl, 1, 20, rfl, rfl, ⟨by decide, by decide, by decide⟩, cs[i], 40, 1048576, rfl, by decide, by decide, by decide, by decide, fun H4 p ms s4 np hm hp => ?_⟩
      refine ⟨l, p, _, _, rfl, rfl, s4 _ _ hol, hp, ?_, fun r nr => ?_⟩
      · rw [List.length_map, List.length_map, hn, hm]
        exact Nat.le_of_lt (Nat.lt_of_le_of_lt (show 40 * i + (40 : Int).toNat ≤ 100000 by omega) (by decide))
      · have nr3 : H3 r = none := s4.free nr
        refine ⟨r, _, rfl, same_put (sm.trans s4) (sm.free nr3), sm.free nr3, ns ++ ms, ?_, ?_⟩
        · rw [List.length_append, hn, hm]
          show 40 * i + 40 = 40 * (i + 1)
          omega
        · rw [upd_same, List.map_append]
    · rintro σ H3 ⟨l, y2, rfl, sm, nl, ns, hn, hol⟩
      rw [List.length_map] at hn
      intro d nd
      refine ⟨_, rfl, upd_same, [(kN, .ref l), (kA, .int 0)], rfl, (by show 2 ≤ 15; decide), ?_⟩
      have nld : l ≠ d := ne_of_none hol nd
      refine q _ d l ?_ (sm.free nd) ⟨ns, 0, ?_, ?_, by omega, by omega⟩
      · intro b ob e
        have hb : b ≠ d := ne_of_none (sm _ _ e) nd
        rw [upd_ne hb, upd_ne hb]
        exact sm _ _ e
      · rw [upd_same, stK_mk]
      · rw [upd_ne nld, upd_ne nld]
        exact hol
def spNext : Sp := fun vs H Q _ => ∃ (d l : Addr) (b : Int), vs = [.ref d, .int b] ∧ StAt H d l ∧ 0 < b ∧ ∀ H' n, 0 ≤ n → n < b → Kp d l H H' → Q (.int n) H'
theorem scNext : FnScope ["state", "bound", "number"] ["state", "bound"] (defScope sNext) := ⟨rfl, rfl, rfl, by decide +kernel, rfl, by decide +kernel, by decide +kernel⟩
theorem ok_next {f : Addr} {fd : FuncData} (F : Fun K "_law_next" "_law_next" sNext f fd) (mi : mg "int" = none) (ml : mg "len" = none) : FnOk P w K mg base CX0 1 f fd ["state", "bound"] spNext := by
  refine F.ok scNext (fun vs H Q E h => ?_) (fun cdv A outer s H vs Q E hr h => ?_)
  · obtain ⟨d, l, b, rfl, _⟩ := h
    rfl
  · obtain ⟨d, l, b, rfl, S, hb, q⟩ := h
    have hu := hu_of hr
    obtain ⟨ns, z, h1, h2, h3, h4⟩ := id S.ex
    have nld : l ≠ d := ne_of h2 h1 (by intro z; cases z)
    have gN : DGet H d (.str "numbers") (some (.ref l)) := by
      have := DGet.k (k := kN) h1
      rwa [stK_N] at this
    have gA : DGet H d (.str "at") (some (.int z)) := by
      have := DGet.k (k := kA) h1
      rwa [stK_A] at this
    refine ⟨_, pss_cons (ps_set (i := 2) scNext.nd rfl (.inl rfl) (pe_op op_add (pe_ix ix_list (pe_dget hu (pv 0) pe_str (fun _ _ => rfl))
          (pe_op op_mod (pe_callTy call_int1 (by rfl) mi (by decide +kernel) (pa_cons (pe_dget hu (pv 0) pe_str (fun _ _ => rfl)) pa_nil)) (pe_callB call_len_seq (by rfl) ml PySem.boot_len (pa_cons (pe_dget hu (pv 0) pe_str (fun _ _ => rfl)) pa_nil))) (fun _ _ => rfl))
          (pe_op op_fdiv (pe_callTy call_int1 (by rfl) mi (by decide +kernel) (pa_cons (pe_dget hu (pv 0) pe_str (fun _ _ => rfl)) pa_nil)) (pe_callB call_len_seq (by rfl) ml PySem.boot_len (pa_cons (pe_dget hu (pv 0) pe_str (fun _ _ => rfl)) pa_nil)))))
      (pss_cons (ps_dput hu (pv 0) pe_str (pe_op op_add (pe_dget hu (pv 0) pe_str (fun _ _ => rfl)) pe_int) rfl)
      (pss_one (ps_ret (pe_op op_mod (pe_callTy call_int1 (by rfl) mi (by decide +kernel) (pa_cons (pv 2) pa_nil)) (pv 1))))), ?_⟩
    have hlen : ((ns.map V.int).length : Int) = (ns.length : Int) := by rw [List.length_map]
    have m0 : 0 ≤ z % ((ns.map V.int).length : Int) := Int.emod_nonneg _ (by omega)
    have m1 : z % ((ns.map V.int).length : Int) < ((ns.map V.int).length : Int) := Int.emod_lt_of_pos _ (by omega)
    obtain ⟨j, ej⟩ : ∃ j : Nat, z % ((ns.map V.int).length : Int) = (j : Int) := ⟨_, (Int.toNat_of_nonneg m0).symm⟩
    have hj : j < ns.length := by omega
    have gj : (ns.map V.int)[j]? = some (.int ns[j]) := by
      rw [List.getElem?_map, List.getElem?_eq_getElem hj]
      rfl
    refine ⟨_, rfl, d, _, rfl, gN, _, rfl, d, _, rfl, gA, .inl ⟨z, rfl, _, rfl, d, _, rfl, gN, l, _, rfl, .inl (.inl (.inl h2)), _, _, rfl, rfl, (by show (0 : Int) < ((ns.map V.int).length : Int); omega), ?_⟩⟩
    refine ⟨l, _, _, _, rfl, rfl, .inl (.inl h2), at_of ej gj, ?_⟩
    refine ⟨_, rfl, d, _, rfl, gA, .inl ⟨z, rfl, _, rfl, d, _, rfl, gN, l, _, rfl, .inl (.inl (.inl h2)), _, _, rfl, rfl, ⟨(by show (0 : Int) < ((ns.map V.int).length : Int); omega), (by show ((ns.map V.int).length : Int) < 1073741824; omega)⟩, _, _, rfl, rfl, ?_⟩⟩
    refine ⟨_, rfl, d, _, rfl, gA, z, 1, rfl, rfl, _, rfl, d, _, rfl, DPut.k (k := kA) h1 (by show 2 < sizeLine; decide), ?_⟩
    rw [stK_put]
    refine ⟨_, rfl, .inl ⟨_, rfl, _, rfl, _, b, rfl, rfl, hb, ?_⟩⟩
    refine q _ _ (Int.emod_nonneg _ (by omega)) (Int.emod_lt_of_pos _ hb) ⟨fun c o e n => ?_, ns, z + 1, upd_same, ?_, h3, h4⟩
    · rw [upd_ne n]
      exact e
    · rw [upd_ne nld]
      exact h2
end
end K2

namespace K2
open PySem L2
/-! texts of the 95 characters -/
def okc (c : Nat) : Bool := c == 10 || (Nat.ble 32 c && Nat.ble c 126 && !(c == 37))
def Txt95 (z : Str) : Prop := ∀ c ∈ z.cps.toList, okc c = true
abbrev CHS : Str := " !\"#$\n&'()*+,-./0123456789:;<=>?@ABCDEFGHIJKLMNOPQRSTUVWXYZ[\\]^_`abcdefghijklmnopqrstuvwxyz{|}~"
abbrev LATER : Str := "&'()*+,-./0123456789:;<=>?@ABCDEFGHIJKLMNOPQRSTUVWXYZ[\\]^_`abcdefghijklmnopqrstuvwxyz{|}~"
abbrev FIVE : Str := " !\"#$"
theorem okc_lt {c : Nat} (h : okc c = true) : c < 127 := by
  unfold okc at h
  rw [Bool.or_eq_true, Bool.and_eq_true, Bool.and_eq_true, beq_iff_eq, Nat.ble_eq, Nat.ble_eq] at h
  omega
theorem ch_tab : ∀ c, c < 127 → okc c = true → CHS.cps.contains c = true := by decide +kernel
theorem ch_in {c : Nat} (h : okc c = true) : CHS.cps.contains c = true := ch_tab c (okc_lt h) h
theorem takeWhile_all {p : Nat → Bool} : ∀ {l : List Nat}, (∀ c ∈ l, p c = true) → l.takeWhile p = l
  | [], _ => rfl
  | a :: r, h => by
    rw [List.takeWhile_cons, if_pos (h a (List.mem_cons_self ..)), takeWhile_all fun c hc => h c (List.mem_cons_of_mem _ hc)]
theorem strip_ok {z : Str} (h : Txt95 z) : Txt.stripChars z CHS = ("" : Str) := by
  unfold Txt.stripChars
  rw [PyProof.Rows.stripBy_eq]
  have e : stripLo CHS.cps.contains true z = z.length := by
    simp only [stripLo, if_true]
    rw [takeWhile_all fun c hc => ch_in (h c hc)]
    simp [Str.length]
  have l := PyProof.Rows.hi_facts CHS.cps.contains z z.length (Nat.le_refl _)
  have e2 : stripHi CHS.cps.contains true z z.length = z.length := by omega
  rw [e, e2]
  unfold Builtin.Str.strSub
  have e3 : z.cps.extract z.length z.length = #[] := by
    apply Array.eq_empty_of_size_eq_zero
    rw [Array.size_extract]
    have : z.length = z.cps.size := rfl
    omega
  rw [e3]
  decide +kernel
theorem join_mem : ∀ {ys : List Str} {c : Nat}, c ∈ (Str.join ("" : Str) ys).cps.toList → ∃ y ∈ ys, c ∈ y.cps.toList
  | [], c, h => by
    have : c ∈ (Str.empty).cps.toList := h
    simp [Str.empty] at this
  | [x], c, h => ⟨x, List.mem_cons_self .., h⟩
  | x :: y :: r, c, h => by
    have h : c ∈ ((x.cps ++ ("" : Str).cps) ++ (Str.join ("" : Str) (y :: r)).cps).toList := h
    have e0 : ("" : Str).cps = #[] := by decide +kernel
    rw [e0, Array.append_empty, Array.toList_append, List.mem_append] at h
    rcases h with h | h
    · exact ⟨x, List.mem_cons_self .., h⟩
    · obtain ⟨z, hz, hc⟩ := join_mem h
      exact ⟨z, List.mem_cons_of_mem _ hz, hc⟩
theorem join_ok {ys : List Str} (h : ∀ y ∈ ys, Txt95 y) : Txt95 (Txt.join ("" : Str) ys) := fun c hc => by
  have hc : c ∈ (Builtin.Str.glued ("" : Str) ys).cps.toList := hc
  rw [StrLaws.glued_eq_join] at hc
  obtain ⟨y, hy, k⟩ := join_mem hc
  exact h y hy c k
theorem join_len (ys : List Str) : (Txt.join ("" : Str) ys).length ≤ (ys.map (·.length)).sum := by
  have h := StrLaws.join_length_le ("" : Str) ys
  rw [← StrLaws.glued_eq_join] at h
  have e0 : ("" : Str).length = 0 := by decide +kernel
  rw [e0, Nat.mul_zero] at h
  exact h
theorem reps_mem : ∀ {n : Nat} {a b : Array Nat} {c : Nat}, c ∈ ((List.replicate n a).foldl (· ++ ·) b).toList → c ∈ b.toList ∨ c ∈ a.toList
  | 0, a, b, c, h => .inl h
  | n + 1, a, b, c, h => by
    rw [List.replicate_succ, List.foldl_cons] at h
    rcases reps_mem h with h | h
    · rw [Array.toList_append, List.mem_append] at h
      exact h
    · exact .inr h
theorem reps_size : ∀ (n : Nat) (a b : Array Nat), ((List.replicate n a).foldl (· ++ ·) b).size = b.size + n * a.size
  | 0, a, b => by simp
  | n + 1, a, b => by
    rw [List.replicate_succ, List.foldl_cons, reps_size n a (b ++ a), Array.size_append, Nat.succ_mul]
    omega
theorem mul_ok {z : Str} {n : Int} (h : Txt95 z) : Txt95 (Txt.mul z n) := fun c hc => by
  unfold Txt.mul at hc
  split at hc
  · simp [Str.empty] at hc
  · split at hc
    · exact h c hc
    · rcases reps_mem hc with k | k
      · simp at k
      · exact h c k
theorem mul_len {z : Str} {n : Int} : (Txt.mul z n).length ≤ n.toNat * z.length := by
  unfold Txt.mul
  split
  · show (0 : Nat) ≤ _
    omega
  · split
    · have : 1 ≤ n.toNat := by omega
      calc z.length = 1 * z.length := (Nat.one_mul _).symm
        _ ≤ n.toNat * z.length := Nat.mul_le_mul_right _ this
    · show ((List.replicate n.toNat z.cps).foldl (· ++ ·) #[]).size ≤ _
      rw [reps_size]
      show 0 + n.toNat * z.cps.size ≤ n.toNat * z.cps.size
      omega
theorem mul_may {z : Str} {n : Int} (h0 : 0 ≤ n) (h1 : n ≤ 1000) (hz : z.length ≤ 1000) : MulOk z n := by
  refine ⟨?_, fun h2 h3 => ?_, fun h2 h3 => ?_⟩
  · rw [decide_eq_false (by omega), decide_eq_false (by omega)]
    rfl
  · have hn : (0 : Int) < n := by omega
    have h4 : (z.length : Int) * n ≤ 1000 * 1000 := Int.mul_le_mul (by omega) h1 h0 (by decide)
    have h5 : (z.length : Int) ≤ (2 ^ 63 - 1) / n := (Int.le_ediv_iff_mul_le hn).mpr (by omega)
    omega
  · unfold Builtin.Str.tooLong
    have : z.length * n.toNat ≤ 1000 * 1000 := Nat.mul_le_mul hz (by omega)
    have e : sizeLine = 16777216 := by decide
    rw [e]
    apply decide_eq_false
    omega
theorem cat_ok {x y : Str} (hx : Txt95 x) (hy : Txt95 y) : Txt95 (x ++ y) := fun c hc => by
  have hc : c ∈ (x.cps ++ y.cps).toList := hc
  rw [Array.toList_append, List.mem_append] at hc
  rcases hc with h | h
  · exact hx c h
  · exact hy c h
/-! the order of lists of codes -/
theorem lex_at : ∀ {a b : List Nat} {k x y : Nat}, a.take k = b.take k → a[k]? = some x → b[k]? = some y → x ≠ y → (a < b ↔ x < y)
  | [], _, _, _, _, _, h, _, _ => by simp at h
  | _ :: _, [], _, _, _, _, _, h, _ => by simp at h
  | p :: a, q :: b, 0, x, y, _, h1, h2, ne => by
    have e1 : p = x := by simpa using h1
    have e2 : q = y := by simpa using h2
    subst e1 e2
    rw [List.cons_lt_cons_iff]
    constructor
    · rintro (h | ⟨h, _⟩)
      · exact h
      · exact absurd h ne
    · exact .inl
  | p :: a, q :: b, k + 1, x, y, e, h1, h2, ne => by
    rw [List.take_succ_cons, List.take_succ_cons] at e
    injection e with e1 e2
    subst e1
    have ih := lex_at e2 (by simpa using h1) (by simpa using h2) ne
    rw [List.cons_lt_cons_iff, ih]
    constructor
    · rintro (h | ⟨_, h⟩)
      · exact absurd h (Nat.lt_irrefl _)
      · exact h
    · exact fun h => .inr ⟨rfl, h⟩
theorem lex_end : ∀ {a b : List Nat}, a.take (min a.length b.length) = b.take (min a.length b.length) → (a < b ↔ a.length < b.length)
  | [], [], _ => by simp
  | [], q :: b, _ => by simp
  | p :: a, [], _ => by simp
  | p :: a, q :: b, e => by
    rw [List.length_cons, List.length_cons, Nat.succ_min_succ, List.take_succ_cons, List.take_succ_cons] at e
    injection e with e1 e2
    subst e1
    have ih := lex_end e2
    rw [List.cons_lt_cons_iff, ih, List.length_cons, List.length_cons]
    constructor
    · rintro (h | ⟨_, h⟩)
      · exact absurd h (Nat.lt_irrefl _)
      · omega
    · exact fun h => .inr ⟨rfl, by omega⟩
/-! the places of signs -/
theorem five_tab : ∀ c, c < 127 → Nat.ble 32 c = true → Nat.ble c 36 = true → Builtin.Str.occurrences FIVE ⟨#[c]⟩ 0 FIVE.length 1 = [c - 32] := by decide +kernel
theorem later_tab : ∀ c, c < 127 → Nat.ble 38 c = true → Builtin.Str.occurrences LATER ⟨#[c]⟩ 0 LATER.length 1 = [c - 38] := by decide +kernel
theorem five_mem : ∀ c, c < 127 → okc c = true → ¬ c = 10 → (c ∈ FIVE.cps.toList ↔ c < 37) := by decide +kernel
section
variable {X : Cx}
theorem op_mul_str : OpR X (binaryOp .Mult) (fun x y H Q => ∃ z n, x = .str z ∧ y = .int n ∧ MulOk z n ∧ Q (.str (Txt.mul z n)) H) := by
  intro pins s σ H x y v u Q I rx ry h
  obtain ⟨i, j, rfl, rfl, hz, q⟩ := h
  obtain ⟨t, rfl⟩ := rx
  obtain ⟨t', rfl⟩ := ry
  exact SB.mul hz (fun t' tk => ⟨.str (Txt.mul i j), H, I.tok _, ⟨_, rfl⟩, q⟩)
theorem op_lt_bl : OpR X (compareOp .Lt) (fun x y H Q => ∃ i j, x = .bl i ∧ y = .bl j ∧ Q (.bl (decide (PyProof.Rows.b2i i < PyProof.Rows.b2i j))) H) := by
  intro pins s σ H x y v u Q I rx ry h
  obtain ⟨i, j, rfl, rfl, q⟩ := h
  cases (show v = Value.bool i from rx)
  cases (show u = Value.bool j from ry)
  exact PyProof.Rows.lt_bool ⟨.bl _, H, I, rfl, q⟩
end
end K2

namespace K2
open PySem L2
abbrev sIsText : Stmt := top 6
abbrev sIsValue : Stmt := top 11
abbrev sWord : Stmt := top 30
abbrev sNumber : Stmt := top 31
abbrev sThing : Stmt := top 32
theorem iteB {b : Bool} {A B : Prop} (e : b = true) (h : A) : if b = true then A else B := by
  rw [if_pos e]
  exact h
theorem iteBF {b : Bool} {A B : Prop} (e : b = false) (h : B) : if b = true then A else B := by
  subst e
  exact iteF h
/-! the three kinds -/
inductive Kd where | i | f | t
def kdS : Kd → Str
  | .i => "int" | .f => "flag" | .t => "text"
theorem kd_int : ∀ k : Kd, decide (V.str (kdS k) = V.str "int") = (match k with | .i => true | _ => false)
  | .i => by decide +kernel
  | .f => by decide +kernel
  | .t => by decide +kernel
theorem kd_flag : ∀ k : Kd, decide (V.str (kdS k) = V.str "flag") = (match k with | .f => true | _ => false)
  | .i => by decide +kernel
  | .f => by decide +kernel
  | .t => by decide +kernel
theorem kd_text : ∀ k : Kd, decide (V.str (kdS k) = V.str "text") = (match k with | .t => true | _ => false)
  | .i => by decide +kernel
  | .f => by decide +kernel
  | .t => by decide +kernel
/-! things -/
inductive Thg (K : PySem.W.Frag) (H : Hp) : V → String → Prop where
  | non : Thg K H .non "NoneType"
  | bl (b : Bool) : Thg K H (.bl b) "bool"
  | int (n : Int) : Thg K H (.int n) "int"
  | str (z : Str) (h : Txt95 z) (hl : z.length ≤ 100000) : Thg K H (.str z) "str"
  | lst {a : Addr} {xs : List V} (e : H a = some (.lst xs)) : Thg K H (.ref a) "list"
  | tup {a : Addr} {xs : List V} (e : H a = some (.tup xs)) : Thg K H (.ref a) "tuple"
theorem Thg.ty {K : PySem.W.Frag} {H : Hp} {v : V} {T : String} (h : Thg K H v T) : TyX K H v (.type T) := by
  cases h with
  | non => exact .base .non
  | bl b => exact .base (.bl b)
  | int n => exact .base (.int n)
  | str z _ _ => exact .base (.str z)
  | lst e => exact .base (.lst e)
  | tup e => exact .base (.tup e)
theorem Thg.same {K : PySem.W.Frag} {H H' : Hp} {v : V} {T : String} (h : Thg K H v T) (s : Same H H') : Thg K H' v T := by
  cases h with
  | non => exact .non
  | bl b => exact .bl b
  | int n => exact .int n
  | str z a b => exact .str z a b
  | lst e => exact .lst (s _ _ e)
  | tup e => exact .tup (s _ _ e)
def isI : V → Bool
  | .int _ => true | .bl _ => true | _ => false
def isB : V → Bool
  | .bl _ => true | _ => false
def isS : V → Bool
  | .str _ => true | _ => false
theorem Thg.kI {K : PySem.W.Frag} {H : Hp} {v : V} {T : String} (h : Thg K H v T) : PySem.W.kitOne K (.type T) (.type "int") = some (isI v) := by
  cases h <;> first | exact kit_ty (r := true) (by decide +kernel) | exact kit_ty (r := false) (by decide +kernel)
theorem Thg.kB {K : PySem.W.Frag} {H : Hp} {v : V} {T : String} (h : Thg K H v T) : PySem.W.kitOne K (.type T) (.type "bool") = some (isB v) := by
  cases h <;> first | exact kit_ty (r := true) (by decide +kernel) | exact kit_ty (r := false) (by decide +kernel)
theorem Thg.kS {K : PySem.W.Frag} {H : Hp} {v : V} {T : String} (h : Thg K H v T) : PySem.W.kitOne K (.type T) (.type "str") = some (isS v) := by
  cases h <;> first | exact kit_ty (r := true) (by decide +kernel) | exact kit_ty (r := false) (by decide +kernel)
def isVal : Kd → V → Bool
  | .i, .int n => decide (-(10 ^ 30 : Int) < n) && decide (n < 10 ^ 30)
  | .f, .bl _ => true
  | .t, .str z => decide ((z.length : Int) ≤ 200)
  | _, _ => false
theorem len_line {z : Str} (h : z.length ≤ 100000) : z.length ≤ sizeLine := Nat.le_trans h (by decide)
/-- the names of the top that are still the built-in ones, and its constants -/
structure Nm (mg : Str → Option Value) : Prop where
  range : mg "range" = none
  int : mg "int" = none
  len : mg "len" = none
  isinstance : mg "isinstance" = none
  bool : mg "bool" = none
  str : mg "str" = none
  min : mg "min" = none
  ch : ∃ u, mg "CHARACTERS" = some u ∧ RelV (.str CHS) u
  ib : ∃ u, mg "INT_BOUND" = some u ∧ RelV (.int (10 ^ 30)) u
  tb : ∃ u, mg "TEXT_BOUND" = some u ∧ RelV (.int 200) u
section
variable {P : Program} {w : World} {K : PySem.W.Frag} {mg : Str → Option Value} {base : Heap}
/-! ### is_text -/
def spIsText : Sp := fun vs H Q _ => ∃ z : Str, vs = [.str z] ∧ Txt95 z ∧ z.length ≤ 100000 ∧ Q (.bl true) H
theorem scIsText : FnScope ["text"] ["text"] (defScope sIsText) := ⟨rfl, rfl, rfl, by decide +kernel, rfl, by decide +kernel, by decide +kernel⟩
theorem ok_isText {f : Addr} {fd : FuncData} (F : Fun K "is_text" "is_text" sIsText f fd) (N : Nm mg) : FnOk P w K mg base CX0 1 f fd ["text"] spIsText := by
  refine F.ok scIsText (fun vs H Q E h => ?_) (fun cdv A outer s H vs Q E hr h => ?_)
  · obtain ⟨z, rfl, _⟩ := h
    rfl
  · obtain ⟨z, rfl, hz, hl, q⟩ := h
    obtain ⟨u, mu, ru⟩ := N.ch
    refine ⟨_, pss_one (ps_ret (pe_cmpR op_eq (pe_m1 PySem.F.slot_str_strip PySem.F.type_str_strip mt_stripChars (pv 0) (pe_glob (by rfl) mu ru)) pe_str (nomark _))), ?_⟩
    refine ⟨_, rfl, ⟨z, rfl⟩, z, CHS, rfl, rfl, len_line hl, rfl, ?_⟩
    rw [strip_ok hz, decide_eq_true rfl]
    exact q
/-! ### is_value, and the law's own -/
def spVal (K : PySem.W.Frag) : Sp := fun vs H Q _ => ∃ (k : Kd) (v : V) (T : String), vs = [.str (kdS k), v] ∧ Thg K H v T ∧ Q (.bl (isVal k v)) H
theorem scIsValue : FnScope ["kind", "value"] ["kind", "value"] (defScope sIsValue) := ⟨rfl, rfl, rfl, by decide +kernel, rfl, by decide +kernel, by decide +kernel⟩
theorem ok_isValue {f fT : Addr} {fd fdT : FuncData} (F : Fun K "is_value" "is_value" sIsValue f fd) (N : Nm mg) (FT : Fun K "is_text" "is_text" sIsText fT fdT) (bT : Binds K fdT ["text"] []) (gT : mg "is_text" = some (.ref fT)) :
    FnOk P w K mg base CX0 2 f fd ["kind", "value"] (spVal K) := by
  have GT : FnOk P w K mg base CX0 1 fT fdT ["text"] spIsText := ok_isText FT N
  refine F.ok scIsValue (fun vs H Q E h => ?_) (fun cdv A outer s H vs Q E hr h => ?_)
  · obtain ⟨k, v, T, rfl, _⟩ := h
    rfl
  · obtain ⟨k, v, T, rfl, hv, q⟩ := h
    obtain ⟨ui, mui, rui⟩ := N.ib
    obtain ⟨ut, mtb, rtb⟩ := N.tb
    refine ⟨_, pss_cons (ps_if (pt_cmpR op_eq (pv 0) pe_str (nomark _)) (pss_one (ps_ret
        (pe_and (pe_callB call_isi (by rfl) N.isinstance (by decide +kernel) (pa_cons (pv 1) (pa_cons (pe_bltn (v := .ty "int") (by rfl) N.int (by decide +kernel) rfl) pa_nil)))
          (pe_and (pe_not (pe_callB call_isi (by rfl) N.isinstance (by decide +kernel) (pa_cons (pv 1) (pa_cons (pe_bltn (v := .ty "bool") (by rfl) N.bool (by decide +kernel) rfl) pa_nil))))
            (pe_one (pe_chain op_lt op_lt (pe_un un_neg (pe_glob (by rfl) mui rui)) (pv 1) (pe_glob (by rfl) mui rui))))))) pss_nil)
      (pss_cons (ps_if (pt_cmpR op_eq (pv 0) pe_str (nomark _)) (pss_one (ps_ret
        (pe_callB call_isi (by rfl) N.isinstance (by decide +kernel) (pa_cons (pv 1) (pa_cons (pe_bltn (v := .ty "bool") (by rfl) N.bool (by decide +kernel) rfl) pa_nil))))) pss_nil)
      (pss_one (ps_ret (pe_and (pe_cmpR op_eq (pv 0) pe_str (nomark _))
        (pe_and (pe_callB call_isi (by rfl) N.isinstance (by decide +kernel) (pa_cons (pv 1) (pa_cons (pe_bltn (v := .ty "str") (by rfl) N.str (by decide +kernel) rfl) pa_nil)))
          (pe_and (pe_cmpR op_le (pe_callB call_len_str (by rfl) N.len PySem.boot_len (pa_cons (pv 1) pa_nil)) (pe_glob (by rfl) mtb rtb) (nomark _))
            (pe_one (pe_call GT hr (by rfl) gT FT.kp bT .nil pass0 (pa_cons (pv 1) pa_nil))))))))), ?_⟩
    cases k with
    | i =>
      refine ⟨_, rfl, rfl, _, rfl, iteB (kd_int .i) ?_⟩
      refine ⟨_, rfl, v, .ty "int", .type T, .type "int", isI v, rfl, .ty _, hv.ty, hv.kI, _, rfl, ?_⟩
      cases hv with
      | int n =>
        refine iteT ⟨_, rfl, _, .ty "bool", .type "int", .type "bool", false, rfl, .ty _, .base (.int n), kit_ty (by decide +kernel), _, rfl, _, rfl, iteT ?_⟩
        refine ⟨_, rfl, _, rfl, _, n, rfl, rfl, _, rfl, ?_⟩
        by_cases e : -(10 ^ 30 : Int) < n
        · refine iteB (decide_eq_true e) ⟨n, _, rfl, rfl, ?_⟩
          have : isVal .i (.int n) = decide (n < 10 ^ 30) := by
            show (decide (-(10 ^ 30 : Int) < n) && decide (n < 10 ^ 30)) = _
            rw [decide_eq_true e, Bool.true_and]
          rwa [this] at q
        · refine iteBF (decide_eq_false e) ?_
          have : isVal .i (.int n) = false := by
            show (decide (-(10 ^ 30 : Int) < n) && decide (n < 10 ^ 30)) = _
            rw [decide_eq_false e, Bool.false_and]
          rwa [this] at q
      | bl b => exact iteT ⟨_, rfl, _, .ty "bool", .type "bool", .type "bool", true, rfl, .ty _, .base (.bl b), kit_ty (by decide +kernel), _, rfl, _, rfl, iteF q⟩
      | non => exact iteF q
      | str z h hl => exact iteF q
      | lst e => exact iteF q
      | tup e => exact iteF q
    | f =>
      refine ⟨_, rfl, rfl, _, rfl, iteBF (kd_int .f) ?_⟩
      refine ⟨_, rfl, rfl, _, rfl, iteB (kd_flag .f) ?_⟩
      refine ⟨_, rfl, v, .ty "bool", .type T, .type "bool", isB v, rfl, .ty _, hv.ty, hv.kB, ?_⟩
      cases hv <;> exact q
    | t =>
      refine ⟨_, rfl, rfl, _, rfl, iteBF (kd_int .t) ?_⟩
      refine ⟨_, rfl, rfl, _, rfl, iteBF (kd_flag .t) ?_⟩
      refine ⟨_, rfl, rfl, _, rfl, iteB (kd_text .t) ?_⟩
      refine ⟨_, rfl, v, .ty "str", .type T, .type "str", isS v, rfl, .ty _, hv.ty, hv.kS, _, rfl, ?_⟩
      cases hv with
      | str z h hl =>
        refine iteT ⟨_, rfl, z, rfl, len_line hl, _, _, rfl, rfl, _, rfl, ?_⟩
        by_cases e : (z.length : Int) ≤ 200
        · refine iteB (decide_eq_true e) ⟨_, rfl, z, rfl, h, hl, ?_⟩
          have : isVal .t (.str z) = true := decide_eq_true e
          rwa [this] at q
        · refine iteBF (decide_eq_false e) ?_
          have : isVal .t (.str z) = false := decide_eq_false e
          rwa [this] at q
      | int n => exact iteF q
      | bl b => exact iteF q
      | non => exact iteF q
      | lst e => exact iteF q
      | tup e => exact iteF q
end
end K2

namespace K2
open PySem L2
def OfK : Kd → V → Prop
  | .i, v => ∃ n, v = .int n
  | .f, v => ∃ b, v = .bl b
  | .t, v => ∃ z, v = .str z ∧ Txt95 z ∧ z.length ≤ 2000
def less : Kd → V → V → Bool
  | .i, .int a, .int b => decide (a < b)
  | .f, .bl a, .bl b => decide (PyProof.Rows.b2i a < PyProof.Rows.b2i b)
  | .t, .str a, .str b => decide (a.cps.toList < b.cps.toList)
  | _, _, _ => false
theorem b2i_eq (p : Bool) : (if p then (1 : Int) else 0) = PyProof.Rows.b2i p := by cases p <;> rfl
theorem OfK.thg {K : PySem.W.Frag} {H : Hp} {k : Kd} {v : V} (h : OfK k v) : ∃ T, Thg K H v T := by
  cases k with
  | i => obtain ⟨n, rfl⟩ := h; exact ⟨_, .int n⟩
  | f => obtain ⟨b, rfl⟩ := h; exact ⟨_, .bl b⟩
  | t => obtain ⟨z, rfl, h1, h2⟩ := h; exact ⟨_, .str z h1 (by omega)⟩
theorem sg_eq {a b : Nat} : decide (V.str ⟨#[a]⟩ = V.str ⟨#[b]⟩) = decide (a = b) := by
  by_cases e : a = b
  · subst e
    rw [decide_eq_true rfl, decide_eq_true rfl]
  · rw [decide_eq_false e, decide_eq_false fun h => ?_]
    injection h with h
    injection h with h
    have := congrArg (fun x : Array Nat => x[0]?) h
    simp at this
    exact e this
theorem nl_eq : ("\n" : Str) = ⟨#[10]⟩ := by decide +kernel
end K2

namespace K2
open PySem L2
/-! ### drawn things -/
theorem int_at {ms : List Int} {xs : List V} {n : Int} (e : xs = ms.map V.int) (h0 : 0 ≤ n) (h1 : n < ms.length) : ∃ m, atI xs n = some (.int m) := by
  obtain ⟨j, rfl⟩ : ∃ j : Nat, n = (j : Int) := ⟨_, (Int.toNat_of_nonneg h0).symm⟩
  have hj : j < ms.length := by omega
  refine ⟨ms[j], atI_nat ?_⟩
  rw [e, List.getElem?_map, List.getElem?_eq_getElem hj]
  rfl
abbrev SGS : Str := "abXY z09{~.\n"
theorem sgs_ok : ∀ j, j < 12 → okc ((SGS.cps.toList[j]?).getD 0) = true ∧ (SGS.cps.toList[j]?).isSome = true := by decide +kernel
theorem sgs_at {n : Int} (h0 : 0 ≤ n) (h1 : n < 12) : ∃ c, atI SGS.cps.toList n = some c ∧ okc c = true := by
  obtain ⟨j, rfl⟩ : ∃ j : Nat, n = (j : Int) := ⟨_, (Int.toNat_of_nonneg h0).symm⟩
  obtain ⟨h2, h3⟩ := sgs_ok j (by omega)
  obtain ⟨c, hc⟩ := Option.isSome_iff_exists.mp h3
  refine ⟨c, atI_nat hc, ?_⟩
  rw [hc] at h2
  exact h2
theorem one_ok {c : Nat} (h : okc c = true) : Txt95 ⟨#[c]⟩ := fun d hd => by
  have : d = c := by simpa using hd
  rw [this]
  exact h
section
variable {P : Program} {w : World} {K : PySem.W.Frag} {mg : Str → Option Value} {base : Heap}
def spWord : Sp := fun vs H Q _ => ∃ d l : Addr, vs = [.ref d] ∧ StAt H d l ∧ ∀ H' z, Txt95 z → z.length ≤ 10 → Kp d l H H' → Q (.str z) H'
theorem scWord : FnScope ["state", "k"] ["state"] (defScope sWord) := ⟨rfl, rfl, rfl, by decide +kernel, rfl, by decide +kernel, by decide +kernel⟩
theorem sum_ones : ∀ {zs : List Str}, (∀ z ∈ zs, Txt95 z ∧ z.length = 1) → (zs.map (·.length)).sum = zs.length
  | [], _ => rfl
  | z :: r, h => by
    rw [List.map_cons, List.sum_cons, sum_ones fun y hy => h y (List.mem_cons_of_mem _ hy), (h z (List.mem_cons_self ..)).2, List.length_cons]
    omega
theorem ok_word {f fX : Addr} {fd fdX : FuncData} (F : Fun K "_law_word" "_law_word" sWord f fd) (N : Nm mg) (FX : Fun K "_law_next" "_law_next" sNext fX fdX) (bX : Binds K fdX ["state", "bound"] []) (gX : mg "_law_next" = some (.ref fX)) :
    FnOk P w K mg base CX0 2 f fd ["state"] spWord := by
  have GX : FnOk P w K mg base CX0 1 fX fdX ["state", "bound"] spNext := ok_next FX N.int N.len
  refine F.ok scWord (fun vs H Q E h => ?_) (fun cdv A outer s H vs Q E hr h => ?_)
  · obtain ⟨d, l, rfl, _⟩ := h
    rfl
  · obtain ⟨d, l, rfl, S, q⟩ := h
    refine ⟨_, pss_one (ps_ret (pe_join pe_str (pe_lc (own := [("k", 1)]) (g := gName 1) (tt := tYes) rfl scWord.nd
        (pi_range1 (by rfl) N.range (pa_cons (pe_call GX hr (by rfl) gX FX.kp bX .nil pass0 (pa_cons (pv 0) (pa_cons pe_int pa_nil))) pa_nil))
        (blkOk_by (N := ["state", "k"]) (sc := defScope sWord) (by decide +kernel))
        (fun _ _ _ _ _ => pg_name (i := 1) scWord.nd rfl (Or.inl rfl)) (fun _ _ _ _ _ => pts_nil)
        (fun _ _ _ _ _ => pe_ix ix_str pe_str (pe_call GX hr (by rfl) gX FX.kp bX .nil pass0 (pa_cons (pv 0) (pa_cons pe_int pa_nil))) (fun _ _ => rfl))))), ?_⟩
    refine ⟨⟨_, rfl⟩, _, rfl, d, l, 4, rfl, S, by decide, fun H1 n n0 n4 k1 => ?_⟩
    refine ⟨n, rfl, by omega, by omega, fun D nD => ?_⟩
    have nDd := k1.st.nd nD
    have nD0 := k1.free nD
    refine lc_range (lo := 0) (n := n.toNat) (fun i H3 => Kp d l H H3 ∧ ∃ zs : List Str, zs.length = i ∧ (∀ z ∈ zs, Txt95 z ∧ z.length = 1) ∧ H3 D = some (.lst (zs.map V.str))) ?_ ?_ ?_
    · exact ⟨k1.new nD, [], rfl, fun z hz => (List.not_mem_nil hz).elim, upd_same⟩
    · rintro i H3 hi ⟨k3, zs, hl, hz, hD⟩
      refine ⟨rfl, ?_⟩
      dsimp only [tYes]
      rw [if_pos rfl]
      refine ⟨_, rfl, d, l, 12, rfl, k3.st, by decide, fun H4 m m0 m1 k4 => ?_⟩
      obtain ⟨c, ac, oc⟩ := sgs_at m0 m1
      have hD4 := k4.keep _ _ hD nDd.1
      refine ⟨SGS, m, c, rfl, rfl, (by decide +kernel), ac, zs.map V.str, hD4, ?_, ?_⟩
      · rw [List.length_map]
        exact small1000 (by omega)
      · refine ⟨(k3.trans k4).put nD0 nDd, zs ++ [⟨#[c]⟩], ?_, ?_, ?_⟩
        · rw [List.length_append, hl]
          rfl
        · intro z hz'
          rcases List.mem_append.mp hz' with h | h
          · exact hz z h
          · rw [List.mem_singleton.mp h]
            exact ⟨one_ok oc, rfl⟩
        · rw [upd_same, List.map_append]
          rfl
    · rintro H3 ⟨k3, zs, hl, hz, hD⟩
      have hs := sum_ones hz
      refine ⟨("" : Str), D, zs, rfl, rfl, .inl (.inl (.inl hD)), ?_, ?_⟩
      · rw [hs]
        have e0 : ("" : Str).length = 0 := by decide +kernel
        rw [e0]
        omega
      · refine q H3 _ (join_ok fun y hy => (hz y hy).1) ?_ k3
        have := join_len zs
        omega
def NumOk (n : Int) : Prop := -(10 ^ 30) < n ∧ n < 10 ^ 30
theorem num_tab : ∀ m ∈ ([10 ^ (30 : Int).toNat - 1, 1 - 10 ^ (30 : Int).toNat, 10 ^ (15 : Int).toNat, 0 - 10 ^ (15 : Int).toNat, 10 ^ (29 : Int).toNat] : List Int), NumOk m := by unfold NumOk; decide +kernel
theorem num_mul {x y : Int} (x0 : 0 ≤ x) (x1 : x < 1048576) (y0 : 0 ≤ y) (y1 : y < 1048576) : NumOk (x * y - 1 * 2 ^ (39 : Int).toNat) := by
  have h1 : x * y ≤ 1048576 * 1048576 := Int.mul_le_mul (by omega) (by omega) y0 (by decide)
  have h2 : 0 ≤ x * y := Int.mul_nonneg x0 y0
  have e : (1 : Int) * 2 ^ (39 : Int).toNat = 549755813888 := by decide
  rw [e]
  exact ⟨by omega, by omega⟩
theorem int_in {ms : List Int} {xs : List V} {n : Int} (e : xs = ms.map V.int) (h0 : 0 ≤ n) (h1 : n < ms.length) : ∃ m ∈ ms, atI xs n = some (.int m) := by
  obtain ⟨j, rfl⟩ : ∃ j : Nat, n = (j : Int) := ⟨_, (Int.toNat_of_nonneg h0).symm⟩
  have hj : j < ms.length := by omega
  refine ⟨ms[j], List.getElem_mem hj, atI_nat ?_⟩
  rw [e, List.getElem?_map, List.getElem?_eq_getElem hj]
  rfl
def spNumber : Sp := fun vs H Q _ => ∃ d l : Addr, vs = [.ref d] ∧ StAt H d l ∧ ∀ H' n, NumOk n → Kp d l H H' → Q (.int n) H'
theorem scNumber : FnScope ["state", "choice"] ["state"] (defScope sNumber) := ⟨rfl, rfl, rfl, by decide +kernel, rfl, by decide +kernel, by decide +kernel⟩
theorem ok_number {f fX : Addr} {fd fdX : FuncData} (F : Fun K "_law_number" "_law_number" sNumber f fd) (N : Nm mg) (FX : Fun K "_law_next" "_law_next" sNext fX fdX) (bX : Binds K fdX ["state", "bound"] []) (gX : mg "_law_next" = some (.ref fX)) :
    FnOk P w K mg base CX0 2 f fd ["state"] spNumber := by
  have GX : FnOk P w K mg base CX0 1 fX fdX ["state", "bound"] spNext := ok_next FX N.int N.len
  refine F.ok scNumber (fun vs H Q E h => ?_) (fun cdv A outer s H vs Q E hr h => ?_)
  · obtain ⟨d, l, rfl, _⟩ := h
    rfl
  · obtain ⟨d, l, rfl, S, q⟩ := h
    refine ⟨_, pss_cons (ps_set (i := 1) scNumber.nd rfl (.inl rfl) (pe_call GX hr (by rfl) gX FX.kp bX .nil pass0 (pa_cons (pv 0) (pa_cons pe_int pa_nil))))
      (pss_cons (ps_if (pt_cmpR op_eq (pv 1) pe_int (nomark _)) (pss_one (ps_ret (pe_ix ix_list
          (pe_lst (pa_cons (pe_op op_sub (pe_op op_pow pe_int pe_int) pe_int) (pa_cons (pe_op op_sub pe_int (pe_op op_pow pe_int pe_int)) (pa_cons (pe_op op_pow pe_int pe_int) (pa_cons (pe_op op_sub pe_int (pe_op op_pow pe_int pe_int)) (pa_cons (pe_op op_pow pe_int pe_int) pa_nil))))))
          (pe_call GX hr (by rfl) gX FX.kp bX .nil pass0 (pa_cons (pv 0) (pa_cons pe_int pa_nil))) (fun _ _ => rfl)))) pss_nil)
      (pss_cons (ps_if (pt_cmpR op_eq (pv 1) pe_int (nomark _)) (pss_one (ps_ret (pe_op op_sub (pe_op op_mul
          (pe_call GX hr (by rfl) gX FX.kp bX .nil pass0 (pa_cons (pv 0) (pa_cons (pe_op op_shl pe_int pe_int) pa_nil)))
          (pe_call GX hr (by rfl) gX FX.kp bX .nil pass0 (pa_cons (pv 0) (pa_cons (pe_op op_shl pe_int pe_int) pa_nil)))) (pe_op op_shl pe_int pe_int)))) pss_nil)
      (pss_one (ps_ret (pe_op op_sub (pe_call GX hr (by rfl) gX FX.kp bX .nil pass0 (pa_cons (pv 0) (pa_cons pe_int pa_nil))) pe_int))))), ?_⟩
    refine ⟨_, rfl, d, l, 9, rfl, S, by decide, fun H1 n n0 n1 k1 => ?_⟩
    refine ⟨_, rfl, rfl, _, rfl, ite2 (fun _ => ?_) (fun _ => ?_)⟩
    · refine ⟨10, 30, rfl, rfl, ⟨by decide, by decide, by decide⟩, _, 1, rfl, rfl, 10, 30, rfl, rfl, ⟨by decide, by decide, by decide⟩, 1, _, rfl, rfl, 10, 15, rfl, rfl, ⟨by decide, by decide, by decide⟩,
        10, 15, rfl, rfl, ⟨by decide, by decide, by decide⟩, 0, _, rfl, rfl, 10, 29, rfl, rfl, ⟨by decide, by decide, by decide⟩, (by show 5 ≤ sizeLine; decide), fun p np => ?_⟩
      have k2 := k1.new (o := .lst [.int (10 ^ (30 : Int).toNat - 1), .int (1 - 10 ^ (30 : Int).toNat), .int (10 ^ (15 : Int).toNat), .int (0 - 10 ^ (15 : Int).toNat), .int (10 ^ (29 : Int).toNat)]) np
      refine ⟨_, rfl, d, l, 5, rfl, k2.st, by decide, fun H3 m m0 m1 k3 => ?_⟩
      obtain ⟨r, hrm, hr⟩ := int_in (ms := [10 ^ (30 : Int).toNat - 1, 1 - 10 ^ (30 : Int).toNat, 10 ^ (15 : Int).toNat, 0 - 10 ^ (15 : Int).toNat, 10 ^ (29 : Int).toNat]) rfl m0 m1
      exact ⟨p, _, m, _, rfl, rfl, .inl (.inl (k3.keep _ _ upd_same (k1.st.nd np).1)), hr, q H3 r (num_tab r hrm) (k2.trans k3)⟩
    · refine ⟨_, rfl, rfl, _, rfl, ite2 (fun _ => ?_) (fun _ => ?_)⟩
      · refine ⟨_, rfl, 1, 20, rfl, rfl, ⟨by decide, by decide, by decide⟩, d, l, 1048576, rfl, k1.st, by decide, fun H2 x x0 x1 k2 => ?_⟩
        refine ⟨_, rfl, 1, 20, rfl, rfl, ⟨by decide, by decide, by decide⟩, d, l, 1048576, rfl, k2.st, by decide, fun H3 y y0 y1 k3 => ?_⟩
        exact ⟨x, y, rfl, rfl, .inl ⟨by omega, by omega⟩, 1, 39, rfl, rfl, ⟨by decide, by decide, by decide⟩, _, _, rfl, rfl, q H3 _ (num_mul x0 x1 y0 y1) ((k1.trans k2).trans k3)⟩
      · exact ⟨_, rfl, d, l, 13, rfl, k1.st, by decide, fun H2 x x0 x1 k2 => ⟨x, 6, rfl, rfl, q H2 _ ⟨by omega, by omega⟩ (k1.trans k2)⟩⟩
def spThing : Sp := fun vs H Q _ => ∃ (d l : Addr) (k : Kd), vs = [.ref d, .str (kdS k)] ∧ StAt H d l ∧ ∀ H' v, OfK k v → isVal k v = true → Kp d l H H' → Q v H'
theorem scThing : FnScope ["state", "kind"] ["state", "kind"] (defScope sThing) := ⟨rfl, rfl, rfl, by decide +kernel, rfl, by decide +kernel, by decide +kernel⟩
abbrev tilde : Str := "~"
theorem reps_ok : ∀ j, j < 3 → ∃ z, ([("~" : Str), "ab", " "] : List Str)[j]? = some z ∧ Txt95 z ∧ z.length ≤ 2
  | 0, _ => ⟨_, rfl, by unfold Txt95; decide +kernel, by decide +kernel⟩
  | 1, _ => ⟨_, rfl, by unfold Txt95; decide +kernel, by decide +kernel⟩
  | 2, _ => ⟨_, rfl, by unfold Txt95; decide +kernel, by decide +kernel⟩
  | j + 3, h => absurd h (by omega)
theorem str_at {zs : List Str} {xs : List V} {n : Int} (e : xs = zs.map V.str) (h0 : 0 ≤ n) (h1 : n < zs.length) : ∃ j : Nat, n = (j : Int) ∧ j < zs.length ∧ ∀ z, zs[j]? = some z → atI xs n = some (.str z) := by
  obtain ⟨j, rfl⟩ : ∃ j : Nat, n = (j : Int) := ⟨_, (Int.toNat_of_nonneg h0).symm⟩
  refine ⟨j, rfl, by omega, fun z hz => atI_nat ?_⟩
  rw [e, List.getElem?_map, hz]
  rfl
theorem ok_thing {f fX fW fU : Addr} {fd fdX fdW fdU : FuncData} (F : Fun K "_law_thing" "_law_thing" sThing f fd) (N : Nm mg) (FX : Fun K "_law_next" "_law_next" sNext fX fdX) (bX : Binds K fdX ["state", "bound"] []) (gX : mg "_law_next" = some (.ref fX))
    (FW : Fun K "_law_word" "_law_word" sWord fW fdW) (bW : Binds K fdW ["state"] []) (gW : mg "_law_word" = some (.ref fW)) (FU : Fun K "_law_number" "_law_number" sNumber fU fdU) (bU : Binds K fdU ["state"] []) (gU : mg "_law_number" = some (.ref fU)) :
    FnOk P w K mg base CX0 3 f fd ["state", "kind"] spThing := by
  have GX : FnOk P w K mg base CX0 1 fX fdX ["state", "bound"] spNext := ok_next FX N.int N.len
  have GW : FnOk P w K mg base CX0 2 fW fdW ["state"] spWord := ok_word FW N FX bX gX
  have GU : FnOk P w K mg base CX0 2 fU fdU ["state"] spNumber := ok_number FU N FX bX gX
  refine F.ok scThing (fun vs H Q E h => ?_) (fun cdv A outer s H vs Q E hr h => ?_)
  · obtain ⟨d, l, k, rfl, _⟩ := h
    rfl
  · obtain ⟨d, l, k, rfl, S, q⟩ := h
    have hr1 := hr.mono (j := 1) (by decide)
    refine ⟨_, pss_cons (ps_if (pt_cmpR op_eq (pv 1) pe_str (nomark _)) (pss_one (ps_ret (pe_call GU hr (by rfl) gU FU.kp bU .nil pass0 (pa_cons (pv 0) pa_nil)))) pss_nil)
      (pss_cons (ps_if (pt_cmpR op_eq (pv 1) pe_str (nomark _)) (pss_one (ps_ret (pe_cmpR op_eq (pe_call GX hr1 (by rfl) gX FX.kp bX .nil pass0 (pa_cons (pv 0) (pa_cons pe_int pa_nil))) pe_int (nomark _)))) pss_nil)
      (pss_cons (ps_if (pt_cmpR op_eq (pe_call GX hr1 (by rfl) gX FX.kp bX .nil pass0 (pa_cons (pv 0) (pa_cons pe_int pa_nil))) pe_int (nomark _))
        (pss_one (ps_ret (pe_op op_mul_str (pe_ix ix_list (pe_lst (pa_cons pe_str (pa_cons pe_str (pa_cons pe_str pa_nil)))) (pe_call GX hr1 (by rfl) gX FX.kp bX .nil pass0 (pa_cons (pv 0) (pa_cons pe_int pa_nil))) (fun _ _ => rfl))
          (pe_ix ix_list (pe_lst (pa_cons pe_int (pa_cons pe_int (pa_cons pe_int pa_nil)))) (pe_call GX hr1 (by rfl) gX FX.kp bX .nil pass0 (pa_cons (pv 0) (pa_cons pe_int pa_nil))) (fun _ _ => rfl))))) pss_nil)
      (pss_one (ps_ret (pe_call GW hr (by rfl) gW FW.kp bW .nil pass0 (pa_cons (pv 0) pa_nil)))))), ?_⟩
    refine ⟨_, rfl, rfl, _, rfl, ?_⟩
    cases k with
    | i => exact iteB (kd_int .i) ⟨_, rfl, d, l, rfl, S, fun H1 n hn k1 => q H1 _ ⟨n, rfl⟩ (by show (decide _ && decide _) = true; rw [Bool.and_eq_true, decide_eq_true_eq, decide_eq_true_eq]; exact hn) k1⟩
    | f =>
      refine iteBF (kd_int .f) ⟨_, rfl, rfl, _, rfl, iteB (kd_flag .f) ?_⟩
      exact ⟨_, rfl, d, l, 2, rfl, S, by decide, fun H1 n n0 n1 k1 => ⟨rfl, q H1 _ ⟨_, rfl⟩ rfl k1⟩⟩
    | t =>
      refine iteBF (kd_int .t) ⟨_, rfl, rfl, _, rfl, iteBF (kd_flag .t) ?_⟩
      refine ⟨_, rfl, d, l, 12, rfl, S, by decide, fun H1 n n0 n1 k1 => ⟨rfl, _, rfl, ite2 (fun _ => ?_) (fun _ => ?_)⟩⟩
      · refine ⟨(by show 3 ≤ sizeLine; decide), fun p np => ?_⟩
        have k2 := k1.new (o := .lst [.str "~", .str "ab", .str " "]) np
        refine ⟨_, rfl, d, l, 3, rfl, k2.st, by decide, fun H3 m m0 m1 k3 => ?_⟩
        obtain ⟨j, rfl, hj, hat⟩ := str_at (zs := [("~" : Str), "ab", " "]) rfl m0 m1
        obtain ⟨z, hz, oz, lz⟩ := reps_ok j hj
        refine ⟨p, _, _, _, rfl, rfl, .inl (.inl (k3.keep _ _ upd_same (k1.st.nd np).1)), hat z hz, ?_⟩
        refine ⟨(by show 3 ≤ sizeLine; decide), fun p2 np2 => ?_⟩
        have k4 := (k2.trans k3).new (o := .lst [.int 100, .int 99, .int 60]) np2
        refine ⟨_, rfl, d, l, 3, rfl, k4.st, by decide, fun H5 m m0 m1 k5 => ?_⟩
        obtain ⟨j2, rfl⟩ : ∃ j : Nat, m = (j : Int) := ⟨_, (Int.toNat_of_nonneg m0).symm⟩
        obtain ⟨r, hr, r0, r1⟩ : ∃ r : Int, ([.int 100, .int 99, .int 60] : List V)[j2]? = some (.int r) ∧ 0 ≤ r ∧ r ≤ 100 := by
          match j2, m1 with
          | 0, _ => exact ⟨_, rfl, by decide, by decide⟩
          | 1, _ => exact ⟨_, rfl, by decide, by decide⟩
          | 2, _ => exact ⟨_, rfl, by decide, by decide⟩
          | j + 3, h => exact absurd h (by omega)
        refine ⟨p2, _, _, _, rfl, rfl, .inl (.inl (k5.keep _ _ upd_same ((k2.trans k3).st.nd np2).1)), atI_nat hr, ?_⟩
        have h1 := mul_len (z := z) (n := r)
        have h2 : r.toNat * z.length ≤ 100 * 2 := Nat.mul_le_mul (by omega) lz
        refine ⟨z, r, rfl, rfl, mul_may r0 (by omega) (by omega), q H5 _ ⟨_, rfl, mul_ok oz, by omega⟩ (by show decide _ = true; exact decide_eq_true (by omega)) (k4.trans k5)⟩
      · exact ⟨_, rfl, d, l, rfl, k1.st, fun H2 z oz lz k2 => q H2 _ ⟨z, rfl, oz, by omega⟩ (by show decide _ = true; exact decide_eq_true (by omega)) (k1.trans k2)⟩
end
end K2

namespace PySem.W
open PySem PySem.Spec PySem.Calls PyProof.Rows Builtin Builtin.ObjectAttr Builtin.Getset_descriptor
section
variable {prog : Program} {w : World} {A : Around} {E : Value → Shared → Prop} {s : Shared} {K : Frag} {x C : Addr} {ox : Obj} {od : Option Obj} {R : Result → Shared → Prop}
/-- e.__class__, as an expression, for an instance of an exception class of the program -/
theorem mx_classE {gt : Option Value} {Q : Value → Shared → Prop} {ex : Bool} (X : K.In s.heap) (I : InstAt s.heap x ox C od) (hga : findIn K (.ref C) "__getattribute__" = some (some (.builtin "BaseException.__getattribute__"))) (hgt : findIn K (.ref C) "__getattr__" = some gt)
    (hsub : subIn K (.ref C) (.type "BaseException") = some true) (hf : findObj K C od "__class__" = some (.bind (.builtin "getset_descriptor.__get__") (.builtin "object.__class__"))) (hm : mroIn K C (.type "object") = some true)
    (h : Q (.ref C) { s with toks := s.toks + 1 }) : wpAny (model prog w) A (getAttr (.ref x) "__class__" ex) Q E s := by
  obtain ⟨hp, g, d, t, os⟩ := s
  have L0 := I.type (M := model prog w)
  have L1 := looks_findIn (M := model prog w) X hga
  have L2 := looks_findIn (M := model prog w) X hgt
  have L3 := looks_find (M := model prog w) X I hf
  have sub : Looks (model prog w) hp (isInstance (.ref x) (.type "BaseException")) true := L0.andThen (looks_subIn X hsub)
  have hx0 : (ex && onTheHeap (Value.builtin "BaseException.__getattribute__")) = false := by cases ex <;> rfl
  have hx2 : (Value.builtin "BaseException.__getattribute__" == Value.builtin "object.__getattribute__") = false := by decide +kernel
  have hx1 : (onTheHeap (Value.ref C) && Value.builtin "BaseException.__getattribute__" == Value.builtin "object.__getattribute__") = false := by rw [hx2]; rfl
  unfold getAttr getAttrBy
  refine wpAny_bind (wpAny_mkText (wpAny_holding (wpAny_bind (L0.at (wpAny_bind (L1.at ?_))))))
  show wpAny _ _ (if (onTheHeap (Value.ref C) && Value.builtin "BaseException.__getattribute__" == Value.builtin "object.__getattribute__") = true then _ else _) _ _ _
  rw [hx1, if_neg Bool.false_ne_true]
  unfold getAttrByItsOwn hookBefore
  refine wpAny_bind ?_
  rw [if_pos (show onTheHeap (Value.ref C) = true from rfl)]
  refine L2.at ?_
  refine wpAny_bind (wpAny_attempt (wpAny_holding ?_))
  unfold callGetattribute
  rw [hx0, if_neg Bool.false_ne_true]
  unfold boundAndCalled
  rw [PySem.F.excAttr_ValueError.ga.bind (.ref x)]
  refine wpAny_bind (wpAny_pure ?_)
  show wpAny _ _ (call (.builtin "BaseException.__getattribute__") [.ref x, .str "__class__" t]) _ _ _
  refine wpAny_call (codeAny_call_builtin PySem.F.excAttr_ValueError.ga.plain PySem.F.entry_bexc_ga ?_)
  refine @PySem.W.check_slot (model prog w) _ _ ⟨hp, g, d, t + 1, os⟩ "BaseException.__getattribute__" "BaseException" "__getattribute__" (.ref x) [.str "__class__" t] [] _ (by decide +kernel) (by decide +kernel) sub (PySem.F.args_bexc_ga (.ref x) (.str "__class__" t)) ?_
  unfold Builtin.«object.__getattribute__»
  refine wpAny_bind (wpAny_of_eq (a := ((Value.ref x : Value), [Value.str "__class__" t])) (by first | rfl | (simp only [slotArgs]; rfl)) ?_)
  refine wpAny_bind (wpAny_pure (wpAny_bind (L0.at (wpAny_bind (L3.at ?_)))))
  refine wpAny_bind (wpAny_holding (wpAny_call (class_get (s := ⟨hp, g, d, t + 1, os⟩) (ox := ox) (od := od) X I hm ?_)))
  refine wpAny_pure ?_
  show wpAny _ _ (handedOut (.ref C)) _ _ _
  rw [handedOut_of (show handedIn (.ref C) = true from rfl)]
  first | exact wpAny_pure h | exact wpAny_pure (wpAny_pure h)
/-- C.__name__ of a class of the program whose name is kept -/
theorem mx_nameC {o : Obj} {nm : Str} {tk : Tok} {tp : Value} (X : K.In s.heap) (ht : typeIn K (.ref C) = some (.type "type")) (hl : K.lookup C = some o) (hs : o.slots[2]? = some (some (.str nm tk))) (h : R (.ok (.ret (.str nm tk))) s) :
    codeAny (model prog w) A (.call (.builtin "getset_descriptor.__get__") ⟨[.builtin "type.__name__", .ref C, tp], []⟩) R s := by
  obtain ⟨hh, g, dr, t, os⟩ := s
  have L0 := looks_typeIn (M := model prog w) X ht
  have L1 : Looks (model prog w) hh (isSubtype (.type "type") (.type "type")) true := Looks.of_pure (by rw [isSubtype_type]; kernel_rfl)
  have ho := X _ _ hl
  refine codeAny_call_builtin KF.slot_gs.plain KF.entry_gs (KF.slot_gs.check _ _ _ _ _ _ _ _ ktyn_type (KF.args_gs _ _ _) ?_)
  unfold Builtin.«getset_descriptor.__get__» descrGet
  rw [dga_obj]
  refine wpAny_bind (wpAny_pure ?_)
  unfold descrGetter descrCheckInstance descrNameAndClass isInstance
  simp only [ktyn_owner]
  repeat lk
  refine ⟨Code.quiet_builtin _ (by decide +kernel), codeAny_builtin ktyn_entry ?_⟩
  unfold Builtin.«type.__name__»
  dsimp only
  unfold keptObject slotAt
  dsimp only
  refine wpAny_bind (wpAny_bind (wpAny_loadPart ho (wpAny_pure ?_)))
  rw [hs]
  first
    | exact wpAny_bind (wpAny_pure h)
    | exact wpAny_pure h
    | exact wpAny_bind (wpAny_pure (wpAny_pure h))
end
end PySem.W
namespace L2
open PySem PySem.Spec PyProof.Rows
/-- what the written part says of an exception class's name -/
structure NameC (K : PySem.W.Frag) (C : Addr) (nm : Str) : Prop where
  rd : PySem.W.readsIn K C (.type "type") = true
  fc : PySem.W.findCls K (.ref C) (.type "type") "__name__" = some (.get (.builtin "getset_descriptor.__get__") (.builtin "type.__name__") (.ref C) (.type "type"))
  ty : PySem.W.typeIn K (.ref C) = some (.type "type")
  lk : ∃ o tk, K.lookup C = some o ∧ o.slots[2]? = some (some (.str nm tk))
/-- e.__class__, e an exception that is being made -/
def tECls (K : PySem.W.Frag) (te : TE) : TE := fun σ H Q => te σ H fun x H1 => ∃ (a C : Addr) (d : Option Addr), x = .ref a ∧ ExcC K C ∧ H1 a = some (exo a C d) ∧ (∀ dx, d = some dx → ∃ fs, H1 dx = some (exd dx fs)) ∧ Q (.ref C) H1
/-- C.__name__ -/
def tCNm (K : PySem.W.Frag) (te : TE) : TE := fun σ H Q => te σ H fun x H1 => ∃ (C : Addr) (nm : Str), x = .ref C ∧ NameC K C nm ∧ Q (.str nm) H1
section
variable {X : Cx} {e : Expr} {te : TE} {pos : Pos}
theorem pe_eclass (he : PE X e te) (hb : attributeBase e "__class__" X.env (eval e X.env) = eval e X.env := by rfl) : PE X (.Attribute e "__class__" pos) (tECls X.K te) := by
  refine ⟨fun pins s σ H Q I h => ?_⟩
  refine attr_of hb (thn (he.run pins s σ H _ I h) fun u s1 ⟨x, H1, I1, rx, a, C, d, ex, T, ea, hd, q⟩ => ?_)
  subst ex
  obtain rfl : u = Value.ref a := rx
  obtain ⟨t1, ho⟩ := exo_at I1.hok ea
  have hcl : (PySem.W.clsIn X.K C).isSome = true := by
    obtain ⟨cd, hc, _⟩ := PySem.W.any_some T.hd
    rw [hc]
    rfl
  have key : ∀ od, PySem.W.InstAt s1.heap a { cls := .ref C, dict := d, data := .fields #[.ref t1, .none, .none, .none, .bool false, .none] } C od → wpAny (model X.prog X.w) X.A (getAttr (.ref a) "__class__" true) (EP X pins σ Q) X.xe s1 := fun od J =>
    PySem.W.mx_classE I1.kIn J T.hg T.hk T.hs (PySem.W.findObj_dataE hcl T.ha T.hn T.ht) T.hm ⟨.ref C, H1, I1.tok _, rfl, q⟩
  cases d with
  | none => exact key none ⟨ho, rfl, rfl, trivial⟩
  | some dx =>
    obtain ⟨fs, ed⟩ := hd dx rfl
    obtain ⟨mA, ⟨oD, _, _, hoD, _⟩, _⟩ := exd_at I1.hok ed
    exact key (some oD) ⟨ho, rfl, rfl, hoD⟩
theorem pe_cname (he : PE X e te) (hb : attributeBase e "__name__" X.env (eval e X.env) = eval e X.env := by rfl) : PE X (.Attribute e "__name__" pos) (tCNm X.K te) := by
  refine ⟨fun pins s σ H Q I h => ?_⟩
  refine attr_of hb (thn (he.run pins s σ H _ I h) fun u s1 ⟨x, H1, I1, rx, C, nm, ex, T, q⟩ => ?_)
  subst ex
  obtain rfl : u = Value.ref C := rx
  obtain ⟨o, tk, hl, hs⟩ := T.lk
  refine PySem.W.cls_bind I1.kIn T.rd T.fc (wpAny_call (PySem.W.mx_nameC (s := { s1 with toks := s1.toks + 1 }) I1.kIn T.ty hl hs ?_))
  exact PySem.W.handed_on rfl ⟨.str nm, H1, I1.tok _, ⟨_, rfl⟩, q⟩
/-- isinstance(e, c), e the exception that the suite holds, which has its dict -/
def rIsE2 (K : PySem.W.Frag) (D a : Addr) (cls : Value) (d : Option Addr) : List V → Hp → VK → Prop := fun xs H Q => ∃ (c : V) (cv : Value) (b : Bool) (dd : Addr) (fs : List (Str × V)), xs = [.ref a, c] ∧ cls = .ref D ∧ d = some dd ∧ H dd = some (.xd fs) ∧ (∀ u, RelV c u → u = cv) ∧ PySem.W.kitOne K (.ref D) cv = some b ∧ Q (.bl b) H
theorem call_isE2 {a D : Addr} {oe : Obj} {cls : Value} {d : Option Addr} {pn : List (Addr × Obj)} (C : ExcC X.K D) (hz : Zc cls d oe) (hf : ∃ vs, oe.data = .fields vs) : CallR (X.suite a ((a, oe) :: pn)) (.builtin "isinstance") (rIsE2 X.K D a cls d) := by
  intro pins s σ H xs us Q I r h
  obtain ⟨c, cv, b, dd, fs, rfl, ec, ed, ea, hcv, e, q⟩ := h
  subst ec
  cases r with
  | cons rx rr =>
    cases rr with
    | cons rt rr =>
      cases rr
      cases rx
      have ec := hcv _ rt
      subst ec
      obtain ⟨hget, _⟩ := I.pin (a, oe) (List.mem_append.mpr (.inl List.mem_cons_self))
      obtain ⟨vs, hv⟩ := hf
      have hx : ObjOk X.prog X.w H s.heap dd (.xd fs) := I.hok dd _ ea
      obtain ⟨mA, ⟨od, _, _, hod, _⟩, _⟩ := hx
      have hcl : (PySem.W.clsIn X.K D).isSome = true := by
        obtain ⟨cd, hc, _⟩ := PySem.W.any_some C.hd
        rw [hc]
        rfl
      have J : PySem.W.InstAt s.heap a oe D (some od) := ⟨hget, hz.1, by unfold PySem.W.notCls; rw [hv] <;> rfl, by rw [hz.2, ed]; exact hod⟩
      exact PySem.W.kia_one (PySem.W.kitx_exc hcl C.hg C.hk C.hs C.ha C.hn C.ht C.hm) I.kIn J e (fun z => nomatch z) fun tk => ⟨.bl b, H, I.kept (t' := tk) fun _ _ z => z, rfl, q⟩
theorem passNo {X : Cx} : Passes (L2.CX X.prog X.w) X (fun _ _ _ => False) := fun _ _ _ _ _ _ _ h => by
  obtain ⟨_, _, _, _, _, _, _, _, _, _, _, _, q⟩ := h
  exact q.elim
end
end L2

/-! enumerate over a tuple -/
namespace K2
open PySem PySem.Spec PyProof.Rows L2
section
variable {prog : Program} {w : World} {A : Around} {E : Value → Shared → Prop} {s : Shared}
theorem enew1 {v : Value} {o : Obj} {Hh : Heap → Prop} (B : Begins v o Hh) : Meets (Builtin.«enumerate.__new__» ⟨[.type "enumerate", v], []⟩) (fun _ R s0 => Hh s0.heap ∧
    R (.ok (.ret (.ref (s0.heap.push o).objs.size))) { s0 with heap := (s0.heap.push o).push ⟨.type "enumerate", none, .fields #[.none, .bool false, .ref s0.heap.objs.size, rawInt 0, .none, .none], #[]⟩ }) := .of_wp fun pr w0 A0 R s0 z => by
  obtain ⟨z1, z2⟩ := z
  obtain ⟨hp, g, dd, tk, os⟩ := s0
  have sb := sub_enumerate
  have it1 : ∀ {A' : Around} {E' : Value → Shared → Prop} {Q' : Value → Shared → Prop}, Q' (.ref hp.objs.size) ⟨hp.push o, g, dd, tk, os⟩ → wpAny (model pr w0) A' (pyIter v) Q' E' ⟨hp, g, dd, tk, os⟩ := fun z3 => B.iter pr w0 _ _ ⟨hp, g, dd, tk, os⟩ _ z1 z3
  wp_walk using it1
  refine wpAny_stack_any fun _ => ?_
  refine wpAny_pure ?_
  split
  · rename_i c _ _ _ _ _
    cases (c == Value.type "enumerate") <;> (wp_walk using it1; exact ⟨_, rfl, z2⟩)
  · wp_walk using it1
    exact ⟨_, rfl, z2⟩
theorem ecall1 {v : Value} {o : Obj} {Hh : Heap → Prop} {Q : Value → Shared → Prop} (B : Begins v o Hh) (z1 : Hh s.heap)
    (z : ∀ h2, IsEnum h2 (s.heap.objs.size + 1) s.heap.objs.size 0 .none → h2.get? s.heap.objs.size = some o → (∀ b u, s.heap.get? b = some u → h2.get? b = some u) → Q (.ref (s.heap.objs.size + 1)) { s with heap := h2 }) :
    wpAny (model prog w) A (call (.type "enumerate") [v]) Q E s := by
  have sz : (s.heap.push o).objs.size = s.heap.objs.size + 1 := Heap.size_push ..
  refine callType_new F.called_enumerate (by decide) (F.typeCall_enumerate_1 _) (F.newCall_enumerate_1 _) (fun ob => F.args_object_init_2 ob _) F.entry_enumerate_new (enew1 B) ⟨z1, ?_⟩
  show _ ∧ _
  rw [sz]
  have en : IsEnum ((s.heap.push o).push ⟨.type "enumerate", none, .fields #[.none, .bool false, .ref s.heap.objs.size, rawInt 0, .none, .none], #[]⟩) (s.heap.objs.size + 1) s.heap.objs.size 0 .none := by
    have y := Heap.get?_push_size (s.heap.push o) (o := ⟨.type "enumerate", none, .fields #[.none, .bool false, .ref s.heap.objs.size, rawInt 0, .none, .none], #[]⟩) rfl
    rw [sz] at y
    exact y
  exact ⟨⟨_, en, rfl⟩, z _ en (Heap.get?_push_of_some _ (Heap.get?_push_size _ B.free)) fun b u y => Heap.get?_push_of_some _ (Heap.get?_push_of_some _ y)⟩
end
/-- the tuple at a, each item in a new pair with its number -/
def IteT (K : PySem.W.Frag) (a : Addr) (xs : List V) : It :=
  ⟨fun i H => SqT K H a xs ∧ i < xs.length, fun i H v H' => ∃ T x, v = .ref T ∧ H T = none ∧ H' = upd H T (.tup [.int (i : Nat), x]) ∧ xs[i]? = some x, fun i H => SqT K H a xs ∧ xs.length = i⟩
theorem tu_enumT {P : Program} {w : World} {K : PySem.W.Frag} {elts : List Expr} {kk : Nat} {tpos : Pos} (a e it : Addr) (xs : List V) :
    Turn P w K (.Tuple elts kk tpos) (IteT K a xs) [e, it] e (fun i h => (∃ old, IsEnum h e it ((i : Nat) : Int) old) ∧ h.IsTupleIter it a i ∧ e ≠ it) := by
  have apart : ∀ {h : Heap} {i : Nat} {old : Value} {its : Array Value}, IsEnum h e it (i : Int) old → h.IsTupleIter it a i → h.IsTuple a its → e ≠ a ∧ a ≠ it := by
    rintro h i old its q1 ⟨o, q2, q3, _⟩ ⟨o', q4, q5, _⟩
    refine ⟨fun z => ?_, fun z => ?_⟩
    · rw [← z, q1] at q4
      have y := Option.some.inj q4
      rw [← y] at q5
      exact absurd (Value.type.inj q5) (by decide)
    · rw [z, q2] at q4
      have y := Option.some.inj q4
      rw [← y, q3] at q5
      exact absurd (Value.type.inj q5) (by decide)
  refine ⟨by simp, ?_, ?_, ?_, ?_, ?_⟩
  · rintro i h ⟨⟨old, q1⟩, ⟨o, q2, q3, q4⟩, _⟩ b hb
    rcases List.mem_cons.mp hb with rfl | hb
    · exact ⟨_, q1, fun v z => nomatch z⟩
    · rw [List.mem_singleton.mp hb]
      exact ⟨o, q2, fun v z => by rw [q4] at z; cases z⟩
  · rintro i h h' ⟨⟨old, q1⟩, q2, q3⟩ k
    exact ⟨⟨old, k e (by simp) _ q1⟩, q2.at fun o q => k it (by simp) o q, q3⟩
  · intro X hP hw hK hc i pins s σ H E I hf st hg
    subst hP hw hK
    obtain ⟨⟨old, q1⟩, q2, ne⟩ := st
    obtain ⟨hq, hi⟩ := hg
    obtain ⟨its, rv, p, _⟩ := I.tuple hq
    have pt : s.heap.IsTuple a its.toArray := p
    obtain ⟨na, nt⟩ := apart q1 q2 pt
    have hi2 : i < its.toArray.size := by rw [List.size_toArray, ← rv.length]; exact hi
    obtain ⟨u, hu, ru⟩ := rv.get (List.getElem?_eq_getElem hi)
    have l1 : e < s.heap.objs.size := Heap.lt_size q1
    have l2 : it < s.heap.objs.size := by obtain ⟨_, q, _⟩ := q2; exact Heap.lt_size q
    refine wpAny_pyNext_enum_itemD (Draws.tuple (prog := X.prog) (w := X.w) (A := X.A.in1) (I.ok.hd hc) it a nt its.toArray) q1 ⟨q2, pt⟩ hi2 ne (by simp [ne, na]) fun x h2 tk hPx ho hst hT hsz hk => ?_
    have ex : x = u := by
      have y : its.toArray[i]? = some x := hPx
      rw [List.getElem?_toArray, hu] at y
      exact (Option.some.inj y).symm
    subst ex
    refine ⟨_, rfl, wpAny_letOwnedTupleGo_enum (s := { s with heap := h2, toks := tk + 1 }) ho fun h3 he3 sb => ?_⟩
    have hT3 : h3.get? s.heap.objs.size = some { cls := .type "tuple", data := .seq #[.int i tk, x] } := (sb.2 _ (Nat.ne_of_gt l1)).trans hT
    have sm3 : ∀ b ob, b ∉ [e, it] → s.heap.get? b = some ob → h3.get? b = some ob := fun b ob hb q => by
      have n1 : b ≠ e := fun z => hb (by simp [z])
      have n2 : b ≠ it := fun z => hb (by simp [z])
      exact (sb.2 b n1).trans (hk b ob n1 n2 q)
    have nw : ObjOk X.prog X.w (upd H s.heap.objs.size (.tup [.int (i : Nat), xs[i]])) h3 s.heap.objs.size (.tup [.int (i : Nat), xs[i]]) :=
      ⟨by show 2 ≤ sizeLine; decide, [.int i tk, x], .cons ⟨_, rfl⟩ (.cons ru .nil), _, hT3, rfl, _, rfl⟩
    have I3 := I.turnedNew (t' := tk + 1) (ch := [e, it]) sm3 hf (Nat.le_refl _) nw
    refine ⟨.ref s.heap.objs.size, _, I3, rfl, ⟨_, xs[i], rfl, I.hok.fresh (Nat.le_refl _), rfl, List.getElem?_eq_getElem hi⟩, ⟨⟨x, ?_⟩, hst.1.at fun o q => (sb.2 it ne.symm).trans q, ne⟩, fun b hb => ?_⟩
    · have y : ((i + 1 : Nat) : Int) = (i : Int) + 1 := by omega
      rw [y]
      exact he3
    · have lb : b < s.heap.objs.size := by
        rcases List.mem_cons.mp hb with rfl | hb
        · exact l1
        · rw [List.mem_singleton.mp hb]
          exact l2
      rw [upd_ne (Nat.ne_of_lt lb)]
      exact (hf b hb).1
  · intro X hP hw hK hc i pins s σ H E I hf st hg
    subst hP hw hK
    obtain ⟨⟨old, q1⟩, q2, ne⟩ := st
    obtain ⟨hq, hi⟩ := hg
    obtain ⟨its, rv, p, _⟩ := I.tuple hq
    have pt : s.heap.IsTuple a its.toArray := p
    obtain ⟨na, nt⟩ := apart q1 q2 pt
    obtain ⟨f0, f1, f2, f3, f4, f5⟩ := hf it (by simp)
    have hi2 : i = its.toArray.size := by rw [List.size_toArray, ← rv.length]; exact hi.symm
    subst hi2
    exact wpAny_pyNext_enum_endD (Draws.tuple (prog := X.prog) (w := X.w) (A := X.A.in1) (I.ok.hd hc) it a nt its.toArray) q1 ⟨q2, pt⟩ fun h2 eb => ⟨rfl, I.turned (t' := s.toks) (fun b o hb q => eb b o hb q) f0 f1 f3 f4 f5⟩
  · exact fun A i s Q E st h => let ⟨⟨_, q⟩, _⟩ := st; wpAny_pyIter_enum q h
def iEnumT (K : PySem.W.Frag) (ta : TA) : TI := fun σ H R => ta σ H fun vs H1 => ∃ a xs, vs = [.ref a] ∧ SqT K H1 a xs ∧ R (IteT K a xs) H1
theorem pi_enumT {X : Cx} {e : Expr} {ta : TA} {p pos tpos : Pos} {elts : List Expr} {kk : Nat} (hg : Gl X "enumerate") (hm : X.mg "enumerate" = none) (ha : PA X [e] ta) (hs : starEach [e] X.env = [(false, eval e X.env)] := by rfl) :
    PI X (.Tuple elts kk tpos) (.Call (.Name "enumerate" p) [e] [] pos) (iEnumT X.K ta) := by
  refine ⟨fun pins s σ H R I h => Call_ (ld_blt I hg hm boot_enumerate (PyProof.Rows.callWith_type1 (thn (ha.run pos pins s σ H _ I h) fun us s1 ⟨vs, H1, I1, r1, a, xs, ex, hq, q⟩ => ?_) hs rfl))⟩
  subst ex
  obtain ⟨its, rv, p', _⟩ := I1.tuple hq
  cases r1 with
  | cons r rr =>
    cases rr
    cases r
    refine ecall1 (begins_tuple a its.toArray) p' fun h2 he ht hk => wpAny_pyIter_enum he ?_
    refine ⟨s1.heap.objs.size + 1, [s1.heap.objs.size + 1, s1.heap.objs.size], _, _, H1, rfl, I1.kept (t' := s1.toks) hk, tu_enumT a (s1.heap.objs.size + 1) s1.heap.objs.size xs, ⟨⟨.none, he⟩, ⟨_, ht, rfl, rfl⟩, Nat.succ_ne_self _⟩, fun b hb => ?_, q⟩
    have lb : s1.heap.objs.size ≤ b := by
      rcases List.mem_cons.mp hb with rfl | hb
      · exact Nat.le_succ _
      · rw [List.mem_singleton.mp hb]
        exact Nat.le_refl _
    exact I1.fpOk lb (I1.hok.fresh lb)
theorem walk_enumT {K : PySem.W.Frag} {a : Addr} {xs : List V} : Walk (IteT K a xs) xs.length (fun H => SqT K H a xs) (YPair (fun i => some (.int (i : Nat))) (fun i => xs[i]?)) :=
  ⟨fun i _ hi q => ⟨q, hi⟩, fun _ q => ⟨q, rfl⟩, fun i H v H' _ q ⟨T, x, h1, h2, h3, h4⟩ => ⟨T, .int (i : Nat), x, h1, h2, h3, rfl, h4⟩⟩
end K2

namespace K2
open PySem L2
abbrev sInit : Stmt := inClass (top 1) 0
abbrev sShInit : Stmt := inClass (top 13) 0
abbrev sDimIx : Stmt := top 14
abbrev sAttrIx : Stmt := top 15
abbrev sIndex : Stmt := top 16
abbrev sPartsOf : Stmt := top 21
abbrev sKindOf : Stmt := top 22
abbrev sKindFrom : Stmt := top 23
abbrev sLeafKind : Stmt := top 24
abbrev sKindOver : Stmt := top 25
abbrev sShape : Stmt := top 33
abbrev sLeaf : Stmt := top 34
abbrev sFlag : Stmt := top 35
abbrev sExpr : Stmt := top 36
abbrev sCount : Stmt := top 37
abbrev sStrange : Stmt := top 38
abbrev sReplaced : Stmt := top 39
abbrev sLLeafKind : Stmt := top 40
abbrev sJoint : Stmt := top 41
abbrev sLKind : Stmt := top 42
abbrev sTold : Stmt := top 43
abbrev sLaw : Stmt := top 44
structure D where
  n : Str
  l : Int
  h : Int
  s : Int
structure T where
  n : Str
  k : Str
def D.v (d : D) : List V := [.str d.n, .int d.l, .int d.h, .int d.s]
def T.v (t : T) : List V := [.str t.n, .str t.k]
def D.p (d : D) : PyData := .tuple [.str d.n, .int d.l, .int d.h, .int d.s]
def T.p (t : T) : PyData := .tuple [.str t.n, .str t.k]
def Rows (H : Hp) (xs : List V) (rs : List (List V)) : Prop := xs.length = rs.length ∧ ∀ (i : Nat) (r : List V), rs[i]? = some r → ∃ a, xs[i]? = some (V.ref a) ∧ H a = some (.tup r)
theorem Rows.same {H H1 : Hp} {xs : List V} {rs : List (List V)} (h : Rows H xs rs) (e : Same H H1) : Rows H1 xs rs := ⟨h.1, fun i r hr => let ⟨a, h1, h2⟩ := h.2 i r hr; ⟨a, h1, e _ _ h2⟩⟩
theorem Rows.keep {H H1 : Hp} {xs : List V} {rs : List (List V)} (h : Rows H xs rs) (e : ∀ a r, H a = some (.tup r) → H1 a = some (.tup r)) : Rows H1 xs rs := ⟨h.1, fun i r hr => let ⟨a, h1, h2⟩ := h.2 i r hr; ⟨a, h1, e _ _ h2⟩⟩
theorem Rows.nil {H : Hp} : Rows H [] [] := ⟨rfl, fun i r h => by simp at h⟩
theorem Rows.push {H : Hp} {xs : List V} {rs : List (List V)} {a : Addr} {r : List V} (h : Rows H xs rs) (e : H a = some (.tup r)) : Rows H (xs ++ [V.ref a]) (rs ++ [r]) := by
  refine ⟨by rw [List.length_append, List.length_append, h.1]; rfl, fun i q hq => ?_⟩
  rcases Nat.lt_trichotomy i rs.length with hi | hi | hi
  · rw [List.getElem?_append_left hi] at hq
    obtain ⟨b, h1, h2⟩ := h.2 i q hq
    exact ⟨b, by rw [List.getElem?_append_left (by rw [h.1]; exact hi)]; exact h1, h2⟩
  · subst hi
    rw [List.getElem?_append_right (Nat.le_refl _), Nat.sub_self] at hq
    have : r = q := Option.some.inj hq
    subst this
    exact ⟨a, by rw [List.getElem?_append_right (Nat.le_of_eq h.1), h.1, Nat.sub_self]; rfl, e⟩
  · rw [List.getElem?_eq_none (by rw [List.length_append, List.length_singleton]; omega)] at hq
    cases hq
theorem Rows.cons {H : Hp} {xs : List V} {rs : List (List V)} {a : Addr} {r : List V} (h : Rows H xs rs) (e : H a = some (.tup r)) : Rows H (V.ref a :: xs) (r :: rs) := by
  refine ⟨by rw [List.length_cons, List.length_cons, h.1], fun i q hq => ?_⟩
  cases i with
  | zero =>
    have : r = q := Option.some.inj hq
    subst this
    exact ⟨a, rfl, e⟩
  | succ i =>
    obtain ⟨b, h1, h2⟩ := h.2 i q hq
    exact ⟨b, h1, h2⟩
theorem Rows.set {H : Hp} {xs : List V} {rs : List (List V)} {a : Addr} {r : List V} (h : Rows H xs rs) (j : Nat) (e : H a = some (.tup r)) : Rows H (xs.set j (V.ref a)) (rs.set j r) := by
  refine ⟨by rw [List.length_set, List.length_set, h.1], fun i q hq => ?_⟩
  rw [List.getElem?_set] at hq
  by_cases hij : j = i
  · subst hij
    rw [if_pos rfl] at hq
    by_cases hj : j < rs.length
    · rw [if_pos hj] at hq
      have : r = q := Option.some.inj hq
      subst this
      exact ⟨a, by rw [List.getElem?_set, if_pos rfl, if_pos (by rw [h.1]; exact hj)], e⟩
    · rw [if_neg hj] at hq
      cases hq
  · rw [if_neg hij] at hq
    obtain ⟨b, h1, h2⟩ := h.2 i q hq
    exact ⟨b, by rw [List.getElem?_set, if_neg hij]; exact h1, h2⟩
def optV : Option Nat → V
  | none => .non
  | some i => .int (i : Int)
/-- the first row of a name -/
def IsIdx (ns : List Str) (n : Str) : Option Nat → Prop
  | none => n ∉ ns
  | some i => ns[i]? = some n ∧ ∀ j < i, ns[j]? ≠ some n
theorem idx_one {ns : List Str} {n : Str} : ∀ {r q : Option Nat}, IsIdx ns n r → IsIdx ns n q → r = q
  | none, none, _, _ => rfl
  | none, some j, h, g => absurd (List.mem_of_getElem? g.1) h
  | some j, none, g, h => absurd (List.mem_of_getElem? g.1) h
  | some i, some j, h, g => by
    rcases Nat.lt_trichotomy i j with e | e | e
    · exact absurd h.1 (g.2 i e)
    · rw [e]
    · exact absurd g.1 (h.2 j e)
structure Nk (K : PySem.W.Frag) (mg : Str → Option Value) : Prop where
  enumerate : mg "enumerate" = none
  tuple : mg "tuple" = none
  list : mg "list" = none
  sum : mg "sum" = none
  ve : mg "ValueError" = none
  leaves : ∃ kk, mg "LEAVES" = some (.ref kk) ∧ ∀ H : Hp, SqT K H kk ((["value", "attr", "dim"] : List Str).map V.str)
  kinds : ∃ kk, mg "KINDS" = some (.ref kk) ∧ ∀ H : Hp, SqT K H kk ((["int", "flag", "text"] : List Str).map V.str)
  cmps : ∃ kk, mg "COMPARISONS" = some (.ref kk) ∧ ∀ H : Hp, SqT K H kk ((["eq", "ne", "lt", "le", "gt", "ge"] : List Str).map V.str)
structure ErrC (K : PySem.W.Frag) (C fI : Addr) (nm : Str) : Prop where
  oc : OexC K C
  ec : ExcC K C
  nc : NameC K C nm
  xf : XfC K C
  noP : PySem.W.findIn K (.ref C) "place" = some none
  noN : PySem.W.findIn K (.ref C) "name" = some none
  iC : PySem.W.findIn K (.ref C) "__init__" = some (some (.ref fI))
  tI : PySem.W.typeIn K (.ref fI) = some (.type "function")
structure ShC (K : PySem.W.Frag) (C fI fE : Addr) : Prop where
  mm : Mk K C fI
  cl : Cls K C
  nD : NoAttr K C "dims"
  nA : NoAttr K C "attrs"
  eq : PySem.W.findIn K (.ref C) "__eq__" = some (some (.ref fE))
  ef : PySem.W.isFn K (.ref fE) = true
  n1 : PySem.W.notFirst K C (.ref C) = true
  n2 : PySem.W.notFirst K C (.type "tuple") = true
  ha : PySem.W.findIn K (.ref C) "__class__" = some (some (.builtin "object.__class__"))
  hn : PySem.W.specialIn K (.builtin "object.__class__") "__get__" = some (some (.builtin "getset_descriptor.__get__"))
  htk : PySem.W.takesIn K (.builtin "object.__class__") = some true
  hm : PySem.W.mroIn K C (.type "object") = some true
  k1 : PySem.W.kitOne K (.ref C) (.ref C) = some true
  k2 : PySem.W.kitOne K (.type "tuple") (.ref C) = some false
def ShapeAt (H : Hp) (C a : Addr) (ds : List D) (ts : List T) : Prop := ∃ (dx td ta : Addr) (xs ys : List V), H a = some (.ins C dx [("dims", .ref td), ("attrs", .ref ta)]) ∧ H td = some (.tup xs) ∧ Rows H xs (ds.map D.v) ∧ H ta = some (.tup ys) ∧ Rows H ys (ts.map T.v)
theorem ShapeAt.same {H H1 : Hp} {C a : Addr} {ds : List D} {ts : List T} (h : ShapeAt H C a ds ts) (e : Same H H1) : ShapeAt H1 C a ds ts := by
  obtain ⟨dx, td, ta, xs, ys, h1, h2, h3, h4, h5⟩ := h
  exact ⟨dx, td, ta, xs, ys, e _ _ h1, e _ _ h2, h3.same e, e _ _ h4, h5.same e⟩
section
variable {P : Program} {w : World} {K : PySem.W.Frag} {mg : Str → Option Value} {base : Heap}
def spInit (K : PySem.W.Frag) (fI : Addr) : Sp := fun vs H Q _ => ∃ (a C : Addr) (nm : Str) (v : V), vs = [.ref a, v] ∧ ErrC K C fI nm ∧ H a = some (exo a C none) ∧
  ∀ dx, H dx = none → dx ≠ a → Q .non (upd (upd (upd H dx (exd dx [("place", v)])) a (exo a C (some dx))) dx (exd dx [("name", .str nm), ("place", v)]))
theorem scInit : FnScope ["self", "place"] ["self", "place"] (defScope sInit) := ⟨rfl, rfl, rfl, by decide +kernel, rfl, by decide +kernel, by decide +kernel⟩
theorem ok_init {f : Addr} {fd : FuncData} (F : Fun K "__init__" "ManysidesError.__init__" sInit f fd) : FnOk P w K mg base CX0 1 f fd ["self", "place"] (spInit K f) := by
  refine F.ok scInit (fun vs H Q E h => ?_) (fun cdv A outer s H vs Q E hr h => ?_)
  · obtain ⟨a, C, nm, v, rfl, _⟩ := h
    rfl
  · obtain ⟨a, C, nm, v, rfl, T, ha, q⟩ := h
    refine ⟨_, pss_cons (ps_ost (pv 0) (pv 1)) (pss_one (ps_ost (pv 0) (pe_cname (pe_eclass (pv 0))))), ?_⟩
    refine ⟨_, rfl, _, rfl, a, C, rfl, T.oc, T.noP, .inl ⟨ha, fun dx ndx nda => ?_⟩⟩
    have e1 : (upd (upd H dx (exd dx [("place", v)])) a (exo a C (some dx))) dx = some (exd dx [("place", v)]) := by rw [upd_ne nda, upd_same]
    refine ⟨_, rfl, a, C, some dx, rfl, T.ec, upd_same, fun d e => ?_, C, nm, rfl, T.nc, _, rfl, a, C, rfl, T.oc, T.noN, .inr ⟨dx, _, upd_same, e1, (by show 1 ≤ 900; decide), q dx ndx nda⟩⟩
    cases e
    exact ⟨_, e1⟩
/-! ### a shape -/
def spShInit (K : PySem.W.Frag) (C fI fE : Addr) : Sp := fun vs H Q _ => ∃ (x dx : Addr) (u v : V), vs = [.ref x, u, v] ∧ H x = some (.ins C dx []) ∧ Q .non (upd (upd H x (.ins C dx [("dims", u)])) x (.ins C dx [("dims", u), ("attrs", v)]))
theorem scShInit : FnScope ["self", "dims", "attrs"] ["self", "dims", "attrs"] (defScope sShInit) := ⟨rfl, rfl, rfl, by decide +kernel, rfl, by decide +kernel, by decide +kernel⟩
theorem ok_shInit {f C fE : Addr} {fd : FuncData} (F : Fun K "__init__" "Shape.__init__" sShInit f fd) (S : ShC K C f fE) : FnOk P w K mg base CX0 1 f fd ["self", "dims", "attrs"] (spShInit K C f fE) := by
  refine F.ok scShInit (fun vs H Q E h => ?_) (fun cdv A outer s H vs Q E hr h => ?_)
  · obtain ⟨x, dx, u, v, rfl, _⟩ := h
    rfl
  · obtain ⟨x, dx, u, v, rfl, hx, q⟩ := h
    refine ⟨_, pss_cons (ps_fld (pv 0) (pv 1) rfl) (pss_one (ps_fld (pv 0) (pv 2) rfl)), ?_⟩
    refine ⟨_, rfl, _, rfl, x, C, dx, [], rfl, hx, S.cl, S.nD, (by decide), ?_⟩
    exact ⟨_, rfl, _, rfl, x, C, dx, [("dims", u)], rfl, upd_same, S.cl, S.nA, (by show 1 < 1000; decide), q⟩
end
section
variable {P : Program} {w : World} {K : PySem.W.Frag} {mg : Str → Option Value} {base : Heap}
def Heads (rs : List (List V)) (ns : List Str) : Prop := rs.length = ns.length ∧ ∀ (i : Nat) (r : List V), rs[i]? = some r → ∃ m t, ns[i]? = some m ∧ r = .str m :: t
theorem headsD (ds : List D) : Heads (ds.map D.v) (ds.map (·.n)) := by
  refine ⟨by rw [List.length_map, List.length_map], fun i r h => ?_⟩
  rw [List.getElem?_map] at h ⊢
  cases e : ds[i]? with
  | none =>
    rw [e] at h
    cases h
  | some d =>
    rw [e] at h
    have : d.v = r := Option.some.inj h
    subst this
    exact ⟨d.n, _, rfl, rfl⟩
theorem headsT (ds : List T) : Heads (ds.map T.v) (ds.map (·.n)) := by
  refine ⟨by rw [List.length_map, List.length_map], fun i r h => ?_⟩
  rw [List.getElem?_map] at h ⊢
  cases e : ds[i]? with
  | none =>
    rw [e] at h
    cases h
  | some d =>
    rw [e] at h
    have : d.v = r := Option.some.inj h
    subst this
    exact ⟨d.n, _, rfl, rfl⟩
def spIndex : Sp := fun vs H Q _ => ∃ (a : Addr) (n : Str) (xs : List V) (rs : List (List V)) (ns : List Str), vs = [.ref a, .str n] ∧ H a = some (.tup xs) ∧ Rows H xs rs ∧ Heads rs ns ∧ ∀ r, IsIdx ns n r → ∀ H', Same H H' → Q (optV r) H'
theorem scIndex : FnScope ["rows", "name", "index", "row"] ["rows", "name"] (defScope sIndex) := ⟨rfl, rfl, rfl, by decide +kernel, rfl, by decide +kernel, by decide +kernel⟩
theorem str_eq (a b : Str) : decide (V.str a = V.str b) = decide (a = b) := by
  by_cases e : a = b
  · subst e
    rw [decide_eq_true rfl, decide_eq_true rfl]
  · rw [decide_eq_false e, decide_eq_false fun h => e (V.str.inj h)]
theorem row_at {H : Hp} {xs : List V} {rs : List (List V)} {ns : List Str} {i : Nat} (hR : Rows H xs rs) (hN : Heads rs ns) (hi : i < xs.length) : ∃ b m t, xs[i]? = some (V.ref b) ∧ H b = some (.tup (.str m :: t)) ∧ ns[i]? = some m := by
  have h1 : i < rs.length := by rw [← hR.1]; exact hi
  obtain ⟨b, e1, e2⟩ := hR.2 i _ (List.getElem?_eq_getElem h1)
  obtain ⟨m, t, e3, e4⟩ := hN.2 i _ (List.getElem?_eq_getElem h1)
  rw [e4] at e2
  exact ⟨b, m, t, e1, e2, e3⟩
theorem ok_index {f : Addr} {fd : FuncData} (F : Fun K "index_of" "index_of" sIndex f fd) (N : Nk K mg) : FnOk P w K mg base CX0 1 f fd ["rows", "name"] spIndex := by
  refine F.ok scIndex (fun vs H Q E h => ?_) (fun cdv A outer s H vs Q E hr h => ?_)
  · obtain ⟨a, n, xs, rs, ns, rfl, _⟩ := h
    rfl
  · obtain ⟨a, n, xs, rs, ns, rfl, ha, hR, hN, q⟩ := h
    refine ⟨_, pss_cons (ps_for PassesOwn.never rfl (pi_enumT (by rfl) N.enumerate (pa_cons (pv 0) pa_nil)) (pg_tup (by rfl) (pgs_cons (pg_name (i := 2) scIndex.nd rfl (.inl rfl)) (pgs_cons (pg_name (i := 3) scIndex.nd rfl (.inl rfl)) pgs_nil)))
        (pss_one (ps_if (pt_cmpR op_eq (pe_ix ix_tup (pv 3) pe_int (fun _ _ => rfl)) (pv 1) (nomark _)) (pss_one (ps_ret (pv 2))) pss_nil)))
      (pss_one (ps_ret pe_non)), ?_⟩
    refine ⟨_, rfl, a, xs, rfl, SqT.of ha, ?_⟩
    refine for_it (walk_enumT (xs := xs)) (fun i σ H3 => ∃ y2 y3, σ = [some (.ref a), some (.str n), y2, y3] ∧ Same H H3 ∧ ∀ j < i, ns[j]? ≠ some n) ⟨_, _, rfl, Same.refl _, fun j h => absurd h (Nat.not_lt_zero _)⟩ (fun i σ H3 hi => ?_) ?_ ?_
    · rintro ⟨y2, y3, rfl, sm, _⟩
      exact SqT.of (sm _ _ ha)
    · rintro i x σ H3 H' hi ⟨y2, y3, rfl, sm, hno⟩ hY
      obtain ⟨b, m, t, e1, e2, e3⟩ := row_at hR hN hi
      obtain ⟨Tp, x1, x2, rfl, nT, rfl, f1, f2⟩ := hY
      obtain rfl : x1 = .int (i : Int) := (Option.some.inj f1).symm
      obtain rfl : x2 = .ref b := Option.some.inj (f2.symm.trans e1)
      have sm' := sm.trans (same_new (o := .tup [V.int (i : Int), V.ref b]) nT)
      refine ⟨Tp, _, rfl, .inl (.inl upd_same), rfl, _, _, rfl, _, _, rfl, rfl, ?_⟩
      refine ⟨_, rfl, b, _, 0, .str m, rfl, rfl, SqT.of (sm' _ _ e2), atI_nat (j := 0) rfl, _, rfl, rfl, _, rfl, ?_⟩
      rw [str_eq]
      by_cases e : m = n
      · subst e
        exact iteB (decide_eq_true rfl) ⟨_, rfl, q (some i) ⟨e3, hno⟩ _ sm'⟩
      · refine iteBF (decide_eq_false e) ⟨_, _, rfl, sm', fun j hj => ?_⟩
        rcases Nat.lt_succ_iff_lt_or_eq.mp hj with h | h
        · exact hno j h
        · subst h
          rw [e3]
          exact fun z => e (Option.some.inj z)
    · rintro σ H3 ⟨y2, y3, rfl, sm, hno⟩
      refine q none (fun hm => ?_) _ sm
      obtain ⟨j, hj⟩ := List.mem_iff_getElem?.mp hm
      have : j < ns.length := (List.getElem?_eq_some_iff.mp hj).1
      exact hno j (by rw [hR.1, hN.1]; exact this) hj
def spDimIx (C : Addr) : Sp := fun vs H Q _ => ∃ (a : Addr) (n : Str) (ds : List D) (ts : List T), vs = [.ref a, .str n] ∧ ShapeAt H C a ds ts ∧ ∀ r, IsIdx (ds.map (·.n)) n r → ∀ H', Same H H' → Q (optV r) H'
theorem scDimIx : FnScope ["shape", "name"] ["shape", "name"] (defScope sDimIx) := ⟨rfl, rfl, rfl, by decide +kernel, rfl, by decide +kernel, by decide +kernel⟩
theorem ok_dimIx {f fI C f1 f2 : Addr} {fd fdI : FuncData} (F : Fun K "dim_index" "dim_index" sDimIx f fd) (N : Nk K mg) (S : ShC K C f1 f2) (FI : Fun K "index_of" "index_of" sIndex fI fdI) (bI : Binds K fdI ["rows", "name"] []) (gI : mg "index_of" = some (.ref fI)) :
    FnOk P w K mg base CX0 2 f fd ["shape", "name"] (spDimIx C) := by
  have GI : FnOk P w K mg base CX0 1 fI fdI ["rows", "name"] spIndex := ok_index FI N
  refine F.ok scDimIx (fun vs H Q E h => ?_) (fun cdv A outer s H vs Q E hr h => ?_)
  · obtain ⟨a, n, ds, ts, rfl, _⟩ := h
    rfl
  · obtain ⟨a, n, ds, ts, rfl, ⟨dx, td, ta, xs, ys, h1, h2, h3, h4, h5⟩, q⟩ := h
    refine ⟨_, pss_one (ps_ret (pe_call GI hr (by rfl) gI FI.kp bI .nil pass0 (pa_cons (pe_fld (pv 0) rfl) (pa_cons (pv 1) pa_nil)))), ?_⟩
    exact ⟨_, rfl, a, C, dx, _, .ref td, rfl, h1, S.cl, S.nD, rfl, _, rfl, td, n, xs, _, _, rfl, h2, h3, headsD ds, q⟩
def spAttrIx (C : Addr) : Sp := fun vs H Q _ => ∃ (a : Addr) (n : Str) (ds : List D) (ts : List T), vs = [.ref a, .str n] ∧ ShapeAt H C a ds ts ∧ ∀ r, IsIdx (ts.map (·.n)) n r → ∀ H', Same H H' → Q (optV r) H'
theorem scAttrIx : FnScope ["shape", "name"] ["shape", "name"] (defScope sAttrIx) := ⟨rfl, rfl, rfl, by decide +kernel, rfl, by decide +kernel, by decide +kernel⟩
theorem ok_attrIx {f fI C f1 f2 : Addr} {fd fdI : FuncData} (F : Fun K "attr_index" "attr_index" sAttrIx f fd) (N : Nk K mg) (S : ShC K C f1 f2) (FI : Fun K "index_of" "index_of" sIndex fI fdI) (bI : Binds K fdI ["rows", "name"] []) (gI : mg "index_of" = some (.ref fI)) :
    FnOk P w K mg base CX0 2 f fd ["shape", "name"] (spAttrIx C) := by
  have GI : FnOk P w K mg base CX0 1 fI fdI ["rows", "name"] spIndex := ok_index FI N
  refine F.ok scAttrIx (fun vs H Q E h => ?_) (fun cdv A outer s H vs Q E hr h => ?_)
  · obtain ⟨a, n, ds, ts, rfl, _⟩ := h
    rfl
  · obtain ⟨a, n, ds, ts, rfl, ⟨dx, td, ta, xs, ys, h1, h2, h3, h4, h5⟩, q⟩ := h
    refine ⟨_, pss_one (ps_ret (pe_call GI hr (by rfl) gI FI.kp bI .nil pass0 (pa_cons (pe_fld (pv 0) rfl) (pa_cons (pv 1) pa_nil)))), ?_⟩
    exact ⟨_, rfl, a, C, dx, _, .ref ta, rfl, h1, S.cl, S.nA, rfl, _, rfl, ta, n, ys, _, _, rfl, h4, h5, headsT ts, q⟩
end
end K2

namespace K2
open PySem L2
/-! ### expressions -/
inductive Ex where
  | val (k : Str) (v : V)
  | attr (n : Str)
  | dim (n : Str)
  | op (w : Str) (ps : List Ex)
def LV : List Str := ["value", "attr", "dim"]
mutual
def Ex.size : Ex → Nat
  | .op _ ps => 1 + Ex.sizes ps
  | .val _ _ => 1
  | .attr _ => 1
  | .dim _ => 1
def Ex.sizes : List Ex → Nat
  | [] => 0
  | e :: r => e.size + Ex.sizes r
end
mutual
def Ex.dep : Ex → Nat
  | .op _ ps => 1 + Ex.deps ps
  | .val _ _ => 0
  | .attr _ => 0
  | .dim _ => 0
def Ex.deps : List Ex → Nat
  | [] => 0
  | e :: r => max e.dep (Ex.deps r)
end
mutual
inductive ExAt (H : Hp) : V → Ex → Prop
  | val {a : Addr} {k : Str} {v : V} : H a = some (.tup [.str "value", .str k, v]) → ExAt H (.ref a) (.val k v)
  | attr {a : Addr} {n : Str} : H a = some (.tup [.str "attr", .str n]) → ExAt H (.ref a) (.attr n)
  | dim {a : Addr} {n : Str} : H a = some (.tup [.str "dim", .str n]) → ExAt H (.ref a) (.dim n)
  | op {a : Addr} {w : Str} {xs : List V} {ps : List Ex} : H a = some (.tup (.str w :: xs)) → ExAll H xs ps → w ∉ LV → ps ≠ [] → ExAt H (.ref a) (.op w ps)
inductive ExAll (H : Hp) : List V → List Ex → Prop
  | nil : ExAll H [] []
  | cons {x : V} {xs : List V} {e : Ex} {es : List Ex} : ExAt H x e → ExAll H xs es → ExAll H (x :: xs) (e :: es)
end
mutual
theorem ExAt.keep {H H1 : Hp} (k : ∀ a r, H a = some (.tup r) → H1 a = some (.tup r)) : ∀ {e : Ex} {v : V}, ExAt H v e → ExAt H1 v e
  | .val _ _, _, h => by
    cases h with
    | val h => exact .val (k _ _ h)
  | .attr _, _, h => by
    cases h with
    | attr h => exact .attr (k _ _ h)
  | .dim _, _, h => by
    cases h with
    | dim h => exact .dim (k _ _ h)
  | .op _ _, _, h => by
    cases h with
    | op h g nw ne => exact .op (k _ _ h) (ExAll.keep k g) nw ne
theorem ExAll.keep {H H1 : Hp} (k : ∀ a r, H a = some (.tup r) → H1 a = some (.tup r)) : ∀ {es : List Ex} {vs : List V}, ExAll H vs es → ExAll H1 vs es
  | [], _, h => by
    cases h
    exact .nil
  | _ :: _, _, h => by
    cases h with
    | cons h g => exact .cons (ExAt.keep k h) (ExAll.keep k g)
end
theorem ExAt.same {H H1 : Hp} {e : Ex} {v : V} (h : ExAt H v e) (s : Same H H1) : ExAt H1 v e := h.keep fun a r e => s _ _ e
theorem ExAll.same {H H1 : Hp} {e : List Ex} {v : List V} (h : ExAll H v e) (s : Same H H1) : ExAll H1 v e := h.keep fun a r e => s _ _ e
theorem kp_tup {d l : Addr} {H H1 : Hp} (S : StAt H d l) (k : Kp d l H H1) : ∀ a r, H a = some (.tup r) → H1 a = some (.tup r) := fun a r e => k.keep _ _ e fun z => by
  obtain ⟨ns, y, h1, _⟩ := S.ex
  rw [z, h1] at e
  cases e
theorem ExAt.kp {d l : Addr} {H H1 : Hp} {e : Ex} {v : V} (h : ExAt H v e) (S : StAt H d l) (k : Kp d l H H1) : ExAt H1 v e := h.keep (kp_tup S k)
theorem ExAll.kp {d l : Addr} {H H1 : Hp} {e : List Ex} {v : List V} (h : ExAll H v e) (S : StAt H d l) (k : Kp d l H H1) : ExAll H1 v e := h.keep (kp_tup S k)
theorem ExAll.len {H : Hp} : ∀ {es : List Ex} {vs : List V}, ExAll H vs es → vs.length = es.length
  | _, _, .nil => rfl
  | _, _, .cons _ g => by rw [List.length_cons, List.length_cons, ExAll.len g]
theorem ExAll.at {H : Hp} : ∀ {es : List Ex} {vs : List V} {i : Nat} {e : Ex}, ExAll H vs es → es[i]? = some e → ∃ v, vs[i]? = some v ∧ ExAt H v e
  | _, _, _, _, .nil, h => by simp at h
  | _, _, 0, _, .cons h g, q => by
    have := Option.some.inj q
    subst this
    exact ⟨_, rfl, h⟩
  | _, _, i + 1, _, .cons h g, q => ExAll.at (i := i) g q
/-! ### kinds -/
instance : DecidableEq Kd := fun a b => by cases a <;> cases b <;> first | exact isTrue rfl | exact isFalse (fun h => nomatch h)
def kdOf (k : Str) : Option Kd := if k = "int" then some .i else if k = "flag" then some .f else if k = "text" then some .t else none
theorem kdOf_S (k : Kd) : kdOf (kdS k) = some k := by cases k <;> decide +kernel
def kv : Option Kd → V
  | none => .non
  | some k => .str (kdS k)
def CMP : List Str := ["eq", "ne", "lt", "le", "gt", "ge"]
def SIG : List (Str × List Kd × Kd) := [("neg", [.i], .i), ("abs", [.i], .i), ("not", [.f], .f), ("length", [.t], .i), ("add", [.i, .i], .i), ("sub", [.i, .i], .i), ("mul", [.i, .i], .i), ("div", [.i, .i], .i), ("mod", [.i, .i], .i),
  ("and", [.f, .f], .f), ("or", [.f, .f], .f), ("joined", [.t, .t], .t)]
/-- how many parts a word wants -/
def ar (w : Str) : Option Nat := if w = "is missing" then some 1 else if w ∈ CMP then some 2 else if w = "if" then some 3 else if w = "or else" then some 2 else (SIG.lookup w).map fun p => p.1.length
def joint (w : Str) (ks : List Kd) : Option Kd :=
  if w = "is missing" then some .f else if w ∈ CMP then (if ks[0]? = ks[1]? then some .f else none)
  else if w = "if" then (if ks[0]? = some .f then (if ks[1]? = ks[2]? then ks[1]? else none) else none)
  else if w = "or else" then (if ks[0]? = ks[1]? then ks[0]? else none) else (SIG.lookup w).bind fun p => if ks = p.1 then some p.2 else none
def leafK (ds : List D) (ts : List T) : Ex → Option Kd
  | .val k v => (kdOf k).bind fun q => if v = .non ∨ isVal q v = true then some q else none
  | .attr n => (ts.find? fun t => decide (t.n = n)).bind fun t => kdOf t.k
  | .dim n => if n ∈ ds.map (·.n) then some .i else none
  | .op _ _ => none
mutual
/-- the kind, or the number of the first wrong one -/
def ck (ds : List D) (ts : List T) : Ex → Nat → Except Nat Kd
  | .op w ps, n => match cks ds ts ps (n + 1) with
    | .error m => .error m
    | .ok ks => match joint w ks with
      | some k => .ok k
      | none => .error n
  | .val k v, n => match leafK ds ts (.val k v) with
    | some k => .ok k
    | none => .error n
  | .attr a, n => match leafK ds ts (.attr a) with
    | some k => .ok k
    | none => .error n
  | .dim a, n => match leafK ds ts (.dim a) with
    | some k => .ok k
    | none => .error n
def cks (ds : List D) (ts : List T) : List Ex → Nat → Except Nat (List Kd)
  | [], _ => .ok []
  | e :: r, n => match ck ds ts e n with
    | .error m => .error m
    | .ok k => match cks ds ts r (n + e.size) with
      | .error m => .error m
      | .ok ks => .ok (k :: ks)
end
def ValOk (v : V) : Prop := v = .non ∨ (∃ n, v = .int n) ∨ (∃ b, v = .bl b) ∨ ∃ z, v = .str z ∧ Txt95 z ∧ z.length ≤ 200
mutual
/-- every word with its parts, every value a thing -/
def WF : Ex → Prop
  | .op w ps => ar w = some ps.length ∧ WFs ps
  | .val k v => ValOk v ∧ PyData.strOk k = true
  | .attr n => PyData.strOk n = true
  | .dim n => PyData.strOk n = true
def WFs : List Ex → Prop
  | [] => True
  | e :: r => WF e ∧ WFs r
end
end K2

namespace K2
open PySem L2
theorem cut1 (x : V) (xs : List V) : cutV (x :: xs) (some 1) none = xs := by
  unfold cutV
  have e1 : HT.sIx (x :: xs).length 0 (some 1) = 1 := by
    rw [show HT.sIx (x :: xs).length 0 (some 1) = min 1 (x :: xs).length from HT.sIx_nat _ _ 1, List.length_cons]
    omega
  rw [e1, HT.sIx_none]
  rw [List.drop_succ_cons, List.drop_zero, List.length_cons, Nat.add_sub_cancel, List.take_length]
theorem cut1_not (x : V) (xs : List V) : ¬ (HT.sIx (x :: xs).length 0 (some 1) = 0 ∧ HT.sIx (x :: xs).length (x :: xs).length none = (x :: xs).length) := by
  have e1 : HT.sIx (x :: xs).length 0 (some 1) = 1 := by
    rw [show HT.sIx (x :: xs).length 0 (some 1) = min 1 (x :: xs).length from HT.sIx_nat _ _ 1, List.length_cons]
    omega
  rw [e1]
  exact fun h => absurd h.1 (by decide)
theorem inV_str (n : Str) : ∀ ns : List Str, inV (.str n) (ns.map V.str) = decide (n ∈ ns)
  | [] => rfl
  | m :: r => by
    have ih := inV_str n r
    unfold inV at ih ⊢
    rw [List.map_cons, List.any_cons, ih]
    by_cases e : m = n
    · subst e
      rw [decide_eq_true (List.mem_cons_self ..)]
      have : eqV (.str m) (.str m) = true := by simp [eqV]
      rw [this]
      rfl
    · have h1 : eqV (.str m) (.str n) = false := by simp [eqV, e]
      rw [h1, Bool.false_or]
      by_cases h : n ∈ r
      · rw [decide_eq_true h, decide_eq_true (List.mem_cons_of_mem _ h)]
      · rw [decide_eq_false h, decide_eq_false]
        intro z
        rcases List.mem_cons.mp z with z | z
        · exact e z.symm
        · exact h z
theorem flat_strs (ns : List Str) : (ns.map V.str).all flatV = true := by
  rw [List.all_eq_true]
  intro x hx
  obtain ⟨z, _, rfl⟩ := List.mem_map.mp hx
  rfl
def Ex.parts : Ex → List Ex
  | .op _ ps => ps
  | .val _ _ => []
  | .attr _ => []
  | .dim _ => []
def Ex.word : Ex → Str
  | .op w _ => w
  | .val _ _ => "value"
  | .attr _ => "attr"
  | .dim _ => "dim"
/-- an expression's tuple: its word, and what follows -/
theorem ExAt.tup {H : Hp} {e : Ex} {v : V} (h : ExAt H v e) : ∃ (a : Addr) (xs : List V), v = .ref a ∧ H a = some (.tup (.str e.word :: xs)) ∧ (e.word ∉ LV → ExAll H xs e.parts) ∧ (e.word ∈ LV → e.parts = []) := by
  cases h with
  | val h => exact ⟨_, _, rfl, h, fun z => absurd (by show ("value" : Str) ∈ LV; decide +kernel) z, fun _ => rfl⟩
  | attr h => exact ⟨_, _, rfl, h, fun z => absurd (by show ("attr" : Str) ∈ LV; decide +kernel) z, fun _ => rfl⟩
  | dim h => exact ⟨_, _, rfl, h, fun z => absurd (by show ("dim" : Str) ∈ LV; decide +kernel) z, fun _ => rfl⟩
  | op h g nw ne => exact ⟨_, _, rfl, h, fun _ => g, fun z => absurd z nw⟩
section
variable {P : Program} {w : World} {K : PySem.W.Frag} {mg : Str → Option Value} {base : Heap}
def spParts : Sp := fun vs H Q _ => ∃ (r : V) (e : Ex), vs = [r] ∧ ExAt H r e ∧ ∀ H' p xs, Same H H' → H p = none → H' p = some (.lst xs) → ExAll H' xs e.parts → Q (.ref p) H'
theorem scParts : FnScope ["expression"] ["expression"] (defScope sPartsOf) := ⟨rfl, rfl, rfl, by decide +kernel, rfl, by decide +kernel, by decide +kernel⟩
theorem ok_parts {f : Addr} {fd : FuncData} (F : Fun K "parts_of" "parts_of" sPartsOf f fd) (N : Nk K mg) : FnOk P w K mg base CX0 1 f fd ["expression"] spParts := by
  refine F.ok scParts (fun vs H Q E h => ?_) (fun cdv A outer s H vs Q E hr h => ?_)
  · obtain ⟨r, e, rfl, _⟩ := h
    rfl
  · obtain ⟨r, e, rfl, he, q⟩ := h
    obtain ⟨kk, m1, r1⟩ := N.leaves
    refine ⟨_, pss_cons (ps_if (pt_cmpR op_in_seq (pe_ix ix_tup (pv 0) pe_int (fun _ _ => rfl)) (pe_glob (v := .ref kk) (by rfl) m1 rfl) (by rfl)) (pss_one (ps_ret (pe_lst pa_nil))) pss_nil)
      (pss_one (ps_ret (pe_callTy call_list_of (by rfl) N.list (by decide +kernel) (pa_cons (pe_slice sl_tup (pv 0) (po_some pe_int) po_none) pa_nil)))), ?_⟩
    obtain ⟨a, xs, rfl, ha, h1, h2⟩ := he.tup
    refine ⟨_, rfl, a, _, 0, _, rfl, rfl, SqT.of ha, atI_nat (j := 0) rfl, kk, _, rfl, .inr (r1 H), rfl, flat_strs LV, _, rfl, ?_⟩
    by_cases hw : e.word ∈ LV
    · refine iteB ((inV_str _ LV).trans (decide_eq_true hw)) ⟨Nat.zero_le _, fun p np => ?_⟩
      exact q _ p [] (same_new np) np upd_same (by rw [h2 hw]; exact .nil)
    · refine iteBF ((inV_str _ LV).trans (decide_eq_false hw)) ?_
      refine ⟨_, rfl, 1, rfl, a, _, rfl, SqT.of ha, cut1_not _ _, fun p np => ?_⟩
      have s1 := same_new (o := .tup (cutV (.str e.word :: xs) (some 1) none)) np
      refine ⟨p, _, rfl, .inr (SqT.of upd_same), fun p2 np2 => ?_⟩
      have s2 := s1.trans (same_new (o := .lst (cutV (.str e.word :: xs) (some 1) none)) np2)
      exact q _ p2 xs s2 (s1.free np2) (by rw [upd_same, cut1]) ((h1 hw).same s2)
end
end K2

namespace K2
open PySem L2
def KS : List Str := ["int", "flag", "text"]
theorem kdOf_in {k : Str} (h : k ∈ KS) : ∃ q, k = kdS q ∧ kdOf k = some q := by
  rcases List.mem_cons.mp h with rfl | h
  · exact ⟨.i, rfl, kdOf_S .i⟩
  rcases List.mem_cons.mp h with rfl | h
  · exact ⟨.f, rfl, kdOf_S .f⟩
  rcases List.mem_cons.mp h with rfl | h
  · exact ⟨.t, rfl, kdOf_S .t⟩
  · exact absurd h (List.not_mem_nil)
theorem kdOf_not {k : Str} (h : k ∉ KS) : kdOf k = none := by
  unfold kdOf
  rw [if_neg fun e => h (by rw [e]; decide +kernel), if_neg fun e => h (by rw [e]; decide +kernel), if_neg fun e => h (by rw [e]; decide +kernel)]
theorem find_none {ts : List T} {n : Str} (h : n ∉ ts.map (·.n)) : ts.find? (fun t => decide (t.n = n)) = none := by
  rw [List.find?_eq_none]
  intro t ht e
  exact h (List.mem_map.mpr ⟨t, ht, of_decide_eq_true e⟩)
theorem find_some : ∀ {ts : List T} {n : Str} {i : Nat} (_ : (ts.map (·.n))[i]? = some n) (_ : ∀ j < i, (ts.map (·.n))[j]? ≠ some n), ts.find? (fun t => decide (t.n = n)) = ts[i]?
  | [], _, _, h, _ => by simp at h
  | t :: r, n, 0, h, _ => by
    have e : t.n = n := Option.some.inj h
    rw [List.find?_cons_of_pos (p := fun t : T => decide (t.n = n)) (decide_eq_true e)]
    rfl
  | t :: r, n, i + 1, h, g => by
    have e : ¬ decide (t.n = n) = true := fun z => g 0 (by omega) (by rw [← of_decide_eq_true z]; rfl)
    rw [List.find?_cons_of_neg (p := fun t : T => decide (t.n = n)) e]
    exact find_some (i := i) h fun j hj z => g (j + 1) (by omega) z
def GoodK (ds : List D) (ts : List T) : Prop := ds.length ≤ 900 ∧ ts.length ≤ 900 ∧ ∀ t ∈ ts, ∃ q, t.k = kdS q
theorem OfK.any {K : PySem.W.Frag} {H : Hp} {v : V} (h : ValOk v) : ∃ T, Thg K H v T := by
  rcases h with rfl | ⟨n, rfl⟩ | ⟨b, rfl⟩ | ⟨z, rfl, h1, h2⟩
  · exact ⟨_, .non⟩
  · exact ⟨_, .int n⟩
  · exact ⟨_, .bl b⟩
  · exact ⟨_, .str z h1 (by omega)⟩
section
variable {P : Program} {w : World} {K : PySem.W.Frag} {mg : Str → Option Value} {base : Heap}
def spLeafKind (C : Addr) : Sp := fun vs H Q _ => ∃ (r : V) (s : Addr) (e : Ex) (ds : List D) (ts : List T), vs = [r, .ref s] ∧ ExAt H r e ∧ e.word ∈ LV ∧ WF e ∧ ShapeAt H C s ds ts ∧ GoodK ds ts ∧ ∀ H', Same H H' → Q (kv (leafK ds ts e)) H'
theorem scLeafKind : FnScope ["expression", "shape", "word", "index", "kind", "value"] ["expression", "shape"] (defScope sLeafKind) := ⟨rfl, rfl, rfl, by decide +kernel, rfl, by decide +kernel, by decide +kernel⟩
theorem ok_leafKind {f fA fD fI fV fT C f1 f2 : Addr} {fd fdA fdD fdI fdV fdT : FuncData} (F : Fun K "leaf_kind" "leaf_kind" sLeafKind f fd) (N : Nk K mg) (M : Nm mg) (S : ShC K C f1 f2)
    (FA : Fun K "attr_index" "attr_index" sAttrIx fA fdA) (bA : Binds K fdA ["shape", "name"] []) (gA : mg "attr_index" = some (.ref fA)) (FD : Fun K "dim_index" "dim_index" sDimIx fD fdD) (bD : Binds K fdD ["shape", "name"] []) (gD : mg "dim_index" = some (.ref fD))
    (FI : Fun K "index_of" "index_of" sIndex fI fdI) (bI : Binds K fdI ["rows", "name"] []) (gI : mg "index_of" = some (.ref fI)) (FV : Fun K "is_value" "is_value" sIsValue fV fdV) (bV : Binds K fdV ["kind", "value"] []) (gV : mg "is_value" = some (.ref fV))
    (FT : Fun K "is_text" "is_text" sIsText fT fdT) (bT : Binds K fdT ["text"] []) (gT : mg "is_text" = some (.ref fT)) : FnOk P w K mg base CX0 3 f fd ["expression", "shape"] (spLeafKind C) := by
  have GA : FnOk P w K mg base CX0 2 fA fdA ["shape", "name"] (spAttrIx C) := ok_attrIx FA N S FI bI gI
  have GD : FnOk P w K mg base CX0 2 fD fdD ["shape", "name"] (spDimIx C) := ok_dimIx FD N S FI bI gI
  have GV : FnOk P w K mg base CX0 2 fV fdV ["kind", "value"] (spVal K) := ok_isValue FV M FT bT gT
  refine F.ok scLeafKind (fun vs H Q E h => ?_) (fun cdv A outer s H vs Q E hr h => ?_)
  · obtain ⟨r, s, e, ds, ts, rfl, _⟩ := h
    rfl
  · obtain ⟨r, s', e, ds, ts, rfl, he, hw, wf, hS, gk, q⟩ := h
    obtain ⟨kk, m1, r1⟩ := N.kinds
    refine ⟨_, pss_cons (ps_set (i := 2) scLeafKind.nd rfl (.inl rfl) (pe_ix ix_tup (pv 0) pe_int (fun _ _ => rfl)))
      (pss_cons (ps_if (pt_cmpR op_eq (pv 2) pe_str (nomark _))
          (pss_cons (ps_set (i := 3) scLeafKind.nd rfl (.inl rfl) (pe_call GA hr (by rfl) gA FA.kp bA .nil pass0 (pa_cons (pv 1) (pa_cons (pe_ix ix_tup (pv 0) pe_int (fun _ _ => rfl)) pa_nil))))
          (pss_one (ps_ret (pe_ifExp (pt_cmpR op_isN (pv 3) pe_non (nomark _)) pe_non (pe_ix ix_tup (pe_ix ix_tup (pe_fld (pv 1) rfl) (pv 3) (fun _ _ => rfl)) pe_int (fun _ _ => rfl)))))) pss_nil)
      (pss_cons (ps_if (pt_cmpR op_eq (pv 2) pe_str (nomark _))
          (pss_one (ps_ret (pe_ifExp (pt_cmpR op_isN (pe_call GD hr (by rfl) gD FD.kp bD .nil pass0 (pa_cons (pv 1) (pa_cons (pe_ix ix_tup (pv 0) pe_int (fun _ _ => rfl)) pa_nil))) pe_non (nomark _)) pe_non pe_str))) pss_nil)
      (pss_cons (ps_asg (pe_slice sl_tup (pv 0) (po_some pe_int) po_none) (pg_tup (by rfl) (pgs_cons (pg_name (i := 4) scLeafKind.nd rfl (.inl rfl)) (pgs_cons (pg_name (i := 5) scLeafKind.nd rfl (.inl rfl)) pgs_nil))))
      (pss_one (ps_ret (pe_ifExp (PW.pt (pw_and (pt_cmpR op_in_seq (pv 4) (pe_glob (v := .ref kk) (by rfl) m1 rfl) (by rfl)) (pw_and1 (PW.pt (pw_or (pt_cmpR op_isN (pv 5) pe_non (nomark _)) (pw_or1 (pt_val (pe_call GV hr (by rfl) gV FV.kp bV .nil pass0 (pa_cons (pv 4) (pa_cons (pv 5) pa_nil)))))))))) (pv 4) pe_non)))))), ?_⟩
    cases he with
    | op h g nw ne => exact absurd hw nw
    | @attr a n ha =>
      refine ⟨_, rfl, a, _, 0, _, rfl, rfl, SqT.of ha, atI_nat (j := 0) rfl, _, rfl, rfl, _, rfl, iteB (by decide +kernel) ?_⟩
      refine ⟨_, rfl, _, rfl, a, _, 1, _, rfl, rfl, SqT.of ha, atI_nat (j := 1) rfl, s', n, ds, ts, rfl, hS, fun r hi H1 e1 => ?_⟩
      refine ⟨_, rfl, rfl, _, rfl, ?_⟩
      cases r with
      | none =>
        have : leafK ds ts (.attr n) = none := by
          show (ts.find? _).bind _ = none
          rw [find_none hi]
          rfl
        rw [this] at q
        exact iteB (decide_eq_true rfl) (q _ e1)
      | some i =>
        refine iteBF (by rfl) ?_
        obtain ⟨hi1, hi2⟩ := hi
        have hl : i < ts.length := by
          have := (List.getElem?_eq_some_iff.mp hi1).1
          rwa [List.length_map] at this
        obtain ⟨qk, hq⟩ := gk.2.2 _ (List.getElem_mem hl)
        have e2 : leafK ds ts (.attr n) = some qk := by
          show (ts.find? _).bind _ = some qk
          rw [find_some hi1 hi2, List.getElem?_eq_getElem hl]
          show kdOf ts[i].k = some qk
          rw [hq, kdOf_S]
        rw [e2] at q
        obtain ⟨dx, td, ta, xs, ys, h1, h2, h3, h4, h5⟩ := hS.same e1
        obtain ⟨b, e3, e4⟩ := h5.2 i ts[i].v (by rw [List.getElem?_map, List.getElem?_eq_getElem hl]; rfl)
        refine ⟨_, rfl, s', C, dx, _, .ref ta, rfl, h1, S.cl, S.nA, rfl, _, rfl, ta, ys, _, .ref b, rfl, rfl, SqT.of h4, atI_nat e3, b, _, 1, .str ts[i].k, rfl, rfl, SqT.of e4, atI_nat (j := 1) rfl, ?_⟩
        rw [hq]
        exact q _ e1
    | @dim a n ha =>
      refine ⟨_, rfl, a, _, 0, _, rfl, rfl, SqT.of ha, atI_nat (j := 0) rfl, _, rfl, rfl, _, rfl, iteBF (by decide +kernel) ?_⟩
      refine ⟨_, rfl, rfl, _, rfl, iteB (by decide +kernel) ?_⟩
      refine ⟨_, rfl, _, rfl, a, _, 1, _, rfl, rfl, SqT.of ha, atI_nat (j := 1) rfl, s', n, ds, ts, rfl, hS, fun r hi H1 e1 => ?_⟩
      refine ⟨rfl, _, rfl, ?_⟩
      cases r with
      | none =>
        have : leafK ds ts (.dim n) = none := if_neg hi
        rw [this] at q
        exact iteB (decide_eq_true rfl) (q _ e1)
      | some i =>
        have : leafK ds ts (.dim n) = some .i := if_pos (List.mem_of_getElem? hi.1)
        rw [this] at q
        exact iteBF (by rfl) (q _ e1)
    | @val a k v ha =>
      refine ⟨_, rfl, a, _, 0, _, rfl, rfl, SqT.of ha, atI_nat (j := 0) rfl, _, rfl, rfl, _, rfl, iteBF (by decide +kernel) ?_⟩
      refine ⟨_, rfl, rfl, _, rfl, iteBF (by decide +kernel) ?_⟩
      refine ⟨_, rfl, 1, rfl, a, _, rfl, SqT.of ha, cut1_not _ _, fun p np => ?_⟩
      have s1 := same_new (o := .tup (cutV [.str "value", .str k, v] (some 1) none)) np
      refine ⟨p, [.str k, v], rfl, SqT.of (by rw [upd_same, cut1]), rfl, _, _, rfl, _, _, rfl, rfl, ?_⟩
      refine ⟨_, rfl, kk, _, rfl, .inr (r1 _), rfl, flat_strs KS, _, rfl, ?_⟩
      by_cases hk : k ∈ KS
      case neg =>
        have : leafK ds ts (.val k v) = none := by
          show (kdOf k).bind _ = none
          rw [kdOf_not hk]
          rfl
        rw [this] at q
        exact iteBF ((inV_str _ KS).trans (decide_eq_false hk)) (iteF (q _ s1))
      obtain ⟨qk, rfl, hq⟩ := kdOf_in hk
      have e2 : leafK ds ts (.val (kdS qk) v) = if v = .non ∨ isVal qk v = true then some qk else none := by
        show (kdOf (kdS qk)).bind _ = _
        rw [hq]
        rfl
      rw [e2] at q
      refine iteB ((inV_str _ KS).trans (decide_eq_true hk)) ⟨_, rfl, rfl, _, rfl, ?_⟩
      by_cases hv : v = .non
      · rw [if_pos (.inl hv)] at q
        exact iteB (decide_eq_true hv) (iteT ⟨_, rfl, q _ s1⟩)
      refine iteBF (decide_eq_false hv) ?_
      obtain ⟨Tt, ht⟩ := OfK.any (K := K) (H := upd H p (.tup (cutV [.str "value", .str (kdS qk), v] (some 1) none))) wf.1
      refine ⟨_, rfl, _, rfl, qk, v, Tt, rfl, ht, _, rfl, ?_⟩
      by_cases hb : isVal qk v = true
      · rw [if_pos (.inr hb)] at q
        exact iteB hb ⟨_, rfl, q _ s1⟩
      · rw [if_neg fun z => z.elim hv hb] at q
        exact iteBF (Bool.eq_false_iff.mpr hb) (q _ s1)
end
end K2

namespace K2
open PySem L2
def ks (k : Kd) : V := .str (kdS k)
theorem ks_eq (a b : Kd) : decide (ks a = ks b) = decide (a = b) := by cases a <;> cases b <;> decide +kernel
theorem kdS_inj {a b : Kd} (h : kdS a = kdS b) : a = b := by
  have := kdOf_S a
  rw [h, kdOf_S] at this
  exact (Option.some.inj this).symm
def pk (k : Kd) : PyData := .str (kdS k)
theorem eqv_ks : ∀ a b : List Kd, PyData.eqvAll (a.map pk) (b.map pk) = decide (a = b)
  | [], [] => by simp [PyData.eqvAll]
  | [], _ :: _ => by simp [PyData.eqvAll]
  | _ :: _, [] => by simp [PyData.eqvAll]
  | x :: r, y :: t => by
    have ih := eqv_ks r t
    rw [List.map_cons, List.map_cons, PyData.eqvAll, ih]
    have e : PyData.eqv (pk x) (pk y) = decide (x = y) := by
      unfold pk
      rw [PyData.eqv]
      cases x <;> cases y <;> decide +kernel
    rw [e]
    by_cases h1 : x = y
    · subst h1
      by_cases h2 : r = t
      · subst h2
        rw [decide_eq_true rfl, decide_eq_true rfl, decide_eq_true rfl]
        rfl
      · rw [decide_eq_true rfl, decide_eq_false h2, decide_eq_false fun z => h2 (List.cons.inj z).2]
        rfl
    · rw [decide_eq_false h1, decide_eq_false fun z => h1 (List.cons.inj z).1]
      rfl
theorem pk_ok (k : Kd) : (pk k).canLay0 = true := by cases k <;> (unfold pk; simp only [PyData.canLay0]; decide +kernel)
theorem lay_ks : ∀ a : List Kd, PyData.canLayAll0 (a.map pk) = true
  | [] => by simp [PyData.canLayAll0]
  | x :: r => by
    rw [List.map_cons, PyData.canLayAll0, pk_ok, lay_ks r]
    rfl
theorem dep_ks : ∀ a : List Kd, PyData.depthAll (a.map pk) = 0
  | [] => by simp [PyData.depthAll]
  | x :: r => by
    rw [List.map_cons, PyData.depthAll, dep_ks r]
    unfold pk
    simp [PyData.depth]
def TK (a : List Kd) : PyData := .tuple (a.map pk)
theorem TK_shp (a : List Kd) : SeqAt.shaped (TK a) = true := by
  show (PyData.canLay0 (.tuple (a.map pk)) && decide (PyData.depth (.tuple (a.map pk)) ≤ 64)) = true
  rw [Bool.and_eq_true]
  refine ⟨by simp only [PyData.canLay0]; exact lay_ks a, decide_eq_true ?_⟩
  simp only [PyData.depth]
  rw [dep_ks]
  decide
theorem TK_eqv (a b : List Kd) : PyData.eqv (TK a) (TK b) = decide (a = b) := by
  unfold TK
  rw [PyData.eqv]
  exact eqv_ks a b
theorem TK_dp {K : PySem.W.Frag} {H : Hp} : ∀ a : List Kd, DpAll K H (a.map ks) (a.map pk)
  | [] => .nil
  | x :: r => .cons (.str _) (TK_dp r)
structure Sg (K : PySem.W.Frag) (w : World) (mg : Str → Option Value) : Prop where
  sig : ∃ sd, mg "SIGNATURES" = some (.ref sd) ∧ ∀ p ∈ SIG, ∃ a b, KDct K w sd p.1 (.ref a) ∧ (∀ H, SqT K H a [.ref b, ks p.2.2]) ∧ ∀ H, SqT K H b (p.2.1.map ks)
theorem sig_tab : ∀ p ∈ SIG, SIG.lookup p.1 = some p.2 := by decide +kernel
theorem lookup_in {w : Str} {q : List Kd × Kd} : ∀ {l : List (Str × List Kd × Kd)}, l.lookup w = some q → (w, q) ∈ l
  | [], h => by cases h
  | (x, y) :: r, h => by
    by_cases e : w = x
    · subst e
      rw [List.lookup_cons_self] at h
      rw [Option.some.inj h]
      exact List.mem_cons_self ..
    · rw [List.lookup_cons, beq_false_of_ne e] at h
      exact List.mem_cons_of_mem _ (lookup_in h)
theorem two {α : Type} {l : List α} (h : l.length = 2) : ∃ a b, l = [a, b] := by
  match l, h with
  | [a, b], _ => exact ⟨a, b, rfl⟩
theorem three {α : Type} {l : List α} (h : l.length = 3) : ∃ a b c, l = [a, b, c] := by
  match l, h with
  | [a, b, c], _ => exact ⟨a, b, c, rfl⟩
section
variable {P : Program} {w : World} {K : PySem.W.Frag} {mg : Str → Option Value} {base : Heap}
def spOver : Sp := fun vs H Q _ => ∃ (wd : Str) (p : Addr) (qs : List Kd), vs = [.str wd, .ref p] ∧ H p = some (.lst (qs.map ks)) ∧ ar wd = some qs.length ∧ ∀ H', Same H H' → Q (kv (joint wd qs)) H'
theorem scOver : FnScope ["word", "kinds", "needed", "kind"] ["word", "kinds"] (defScope sKindOver) := ⟨rfl, rfl, rfl, by decide +kernel, rfl, by decide +kernel, by decide +kernel⟩
theorem ok_over {f : Addr} {fd : FuncData} (F : Fun K "kind_over" "kind_over" sKindOver f fd) (N : Nk K mg) (G : Sg K w mg) : FnOk P w K mg base CX0 1 f fd ["word", "kinds"] spOver := by
  refine F.ok scOver (fun vs H Q E h => ?_) (fun cdv A outer s H vs Q E hr h => ?_)
  · obtain ⟨wd, p, qs, rfl, _⟩ := h
    rfl
  · obtain ⟨wd, p, qs, rfl, hp, har, q⟩ := h
    obtain ⟨kk, m1, r1⟩ := N.cmps
    obtain ⟨sd, m2, r2⟩ := G.sig
    refine ⟨_, pss_cons (ps_if (pt_cmpR op_eq (pv 0) pe_str (nomark _)) (pss_one (ps_ret pe_str)) pss_nil)
      (pss_cons (ps_if (pt_cmpR op_in_seq (pv 0) (pe_glob (v := .ref kk) (by rfl) m1 rfl) (by rfl)) (pss_one (ps_ret (pe_ifExp (pt_cmpR op_eq (pe_ix ix_list (pv 1) pe_int (fun _ _ => rfl)) (pe_ix ix_list (pv 1) pe_int (fun _ _ => rfl)) (nomark _)) pe_str pe_non))) pss_nil)
      (pss_cons (ps_if (pt_cmpR op_eq (pv 0) pe_str (nomark _)) (pss_one (ps_ret (pe_ifExp (PW.pt (pw_and (pt_cmpR op_eq (pe_ix ix_list (pv 1) pe_int (fun _ _ => rfl)) pe_str (nomark _)) (pw_and1 (pt_cmpR op_eq (pe_ix ix_list (pv 1) pe_int (fun _ _ => rfl)) (pe_ix ix_list (pv 1) pe_int (fun _ _ => rfl)) (nomark _))))) (pe_ix ix_list (pv 1) pe_int (fun _ _ => rfl)) pe_non))) pss_nil)
      (pss_cons (ps_if (pt_cmpR op_eq (pv 0) pe_str (nomark _)) (pss_one (ps_ret (pe_ifExp (pt_cmpR op_eq (pe_ix ix_list (pv 1) pe_int (fun _ _ => rfl)) (pe_ix ix_list (pv 1) pe_int (fun _ _ => rfl)) (nomark _)) (pe_ix ix_list (pv 1) pe_int (fun _ _ => rfl)) pe_non))) pss_nil)
      (pss_cons (ps_asg (pe_ix ix_kdict (pe_glob (v := .ref sd) (by rfl) m2 rfl) (pv 0) (fun _ _ => rfl)) (pg_tup (by rfl) (pgs_cons (pg_name (i := 2) scOver.nd rfl (.inl rfl)) (pgs_cons (pg_name (i := 3) scOver.nd rfl (.inl rfl)) pgs_nil))))
      (pss_one (ps_ret (pe_ifExp (pt_cmpR (op_eqD hr.units) (pe_callTy call_tuple_of (by rfl) N.tuple (by decide +kernel) (pa_cons (pv 1) pa_nil)) (pv 2) (nomark _)) (pv 3) pe_non))))))), ?_⟩
    have sp : SqL K H p (qs.map ks) := .inl (.inl hp)
    unfold joint at q
    unfold ar at har
    refine ⟨_, rfl, rfl, _, rfl, ?_⟩
    rw [str_eq]
    by_cases w1 : wd = "is missing"
    · rw [if_pos w1] at q
      exact iteB (decide_eq_true w1) (q _ (Same.refl _))
    rw [if_neg w1] at q har
    refine iteBF (decide_eq_false w1) ⟨_, rfl, kk, _, rfl, .inr (r1 H), rfl, flat_strs CMP, _, rfl, ?_⟩
    by_cases w2 : wd ∈ CMP
    · rw [if_pos w2] at q har
      obtain ⟨a, b, rfl⟩ := two (Option.some.inj har).symm
      simp only [List.getElem?_cons_zero, List.getElem?_cons_succ] at q
      refine iteB ((inV_str _ CMP).trans (decide_eq_true w2)) ⟨_, rfl, p, _, 0, ks a, rfl, rfl, sp, atI_nat (j := 0) rfl, _, rfl, p, _, 1, ks b, rfl, rfl, sp, atI_nat (j := 1) rfl, rfl, _, rfl, ?_⟩
      rw [ks_eq]
      by_cases e : a = b
      · subst e
        rw [if_pos rfl] at q
        exact iteB (decide_eq_true rfl) (q _ (Same.refl _))
      · rw [if_neg fun z => e (Option.some.inj z)] at q
        exact iteBF (decide_eq_false e) (q _ (Same.refl _))
    rw [if_neg w2] at q har
    refine iteBF ((inV_str _ CMP).trans (decide_eq_false w2)) ⟨_, rfl, rfl, _, rfl, ?_⟩
    rw [str_eq]
    by_cases w3 : wd = "if"
    · rw [if_pos w3] at q har
      obtain ⟨a, b, c, rfl⟩ := three (Option.some.inj har).symm
      simp only [List.getElem?_cons_zero, List.getElem?_cons_succ] at q
      refine iteB (decide_eq_true w3) ⟨_, rfl, p, _, 0, ks a, rfl, rfl, sp, atI_nat (j := 0) rfl, rfl, _, rfl, ?_⟩
      have ef : decide (ks a = .str ("flag" : Str)) = decide (a = .f) := ks_eq a .f
      rw [ef]
      by_cases e : a = .f
      case neg =>
        rw [if_neg fun z => e (Option.some.inj z)] at q
        exact iteBF (decide_eq_false e) (iteF (q _ (Same.refl _)))
      subst e
      refine iteB (decide_eq_true rfl) ⟨_, rfl, p, _, 1, ks b, rfl, rfl, sp, atI_nat (j := 1) rfl, _, rfl, p, _, 2, ks c, rfl, rfl, sp, atI_nat (j := 2) rfl, rfl, _, rfl, ?_⟩
      rw [ks_eq]
      by_cases e : b = c
      · subst e
        rw [if_pos rfl, if_pos rfl] at q
        exact iteB (decide_eq_true rfl) ⟨_, rfl, p, _, 1, ks b, rfl, rfl, sp, atI_nat (j := 1) rfl, q _ (Same.refl _)⟩
      · rw [if_pos rfl, if_neg fun z => e (Option.some.inj z)] at q
        exact iteBF (decide_eq_false e) (q _ (Same.refl _))
    rw [if_neg w3] at q har
    refine iteBF (decide_eq_false w3) ⟨_, rfl, rfl, _, rfl, ?_⟩
    rw [str_eq]
    by_cases w4 : wd = "or else"
    · rw [if_pos w4] at q har
      obtain ⟨a, b, rfl⟩ := two (Option.some.inj har).symm
      simp only [List.getElem?_cons_zero, List.getElem?_cons_succ] at q
      refine iteB (decide_eq_true w4) ⟨_, rfl, p, _, 0, ks a, rfl, rfl, sp, atI_nat (j := 0) rfl, _, rfl, p, _, 1, ks b, rfl, rfl, sp, atI_nat (j := 1) rfl, rfl, _, rfl, ?_⟩
      rw [ks_eq]
      by_cases e : a = b
      · subst e
        rw [if_pos rfl] at q
        exact iteB (decide_eq_true rfl) ⟨_, rfl, p, _, 0, ks a, rfl, rfl, sp, atI_nat (j := 0) rfl, q _ (Same.refl _)⟩
      · rw [if_neg fun z => e (Option.some.inj z)] at q
        exact iteBF (decide_eq_false e) (q _ (Same.refl _))
    rw [if_neg w4] at q har
    refine iteBF (decide_eq_false w4) ?_
    cases hl : SIG.lookup wd with
    | none =>
      rw [hl] at har
      cases har
    | some pr =>
      obtain ⟨need, kd⟩ := pr
      rw [hl] at q
      obtain ⟨a, b, k1, k2, k3⟩ := r2 _ (lookup_in hl)
      refine ⟨_, rfl, sd, wd, .ref a, rfl, rfl, k1, a, _, rfl, k2 H, rfl, _, _, rfl, _, _, rfl, rfl, ?_⟩
      refine ⟨_, rfl, p, _, rfl, .inl ⟨sp, fun t nt => ?_⟩⟩
      have s1 := same_new (o := .tup (qs.map ks)) nt
      refine ⟨_, rfl, TK qs, TK need, .tup (SqT.of upd_same) (TK_dp qs), .tup (k3 _) (TK_dp need), TK_shp _, TK_shp _, _, rfl, ?_⟩
      rw [TK_eqv]
      have q2 : ∀ H', Same H H' → Q (kv (if qs = need then some kd else none)) H' := q
      by_cases e : qs = need
      · rw [if_pos e] at q2
        exact iteB (decide_eq_true e) ⟨_, rfl, q2 _ s1⟩
      · rw [if_neg e] at q2
        exact iteBF (decide_eq_false e) (q2 _ s1)
end
end K2

namespace K2
open PySem L2
theorem sizes_app : ∀ a b : List Ex, Ex.sizes (a ++ b) = Ex.sizes a + Ex.sizes b
  | [], b => by simp [Ex.sizes]
  | e :: r, b => by
    rw [List.cons_append, Ex.sizes, Ex.sizes, sizes_app r b, Nat.add_assoc]
theorem cks_app (ds : List D) (ts : List T) : ∀ (a b : List Ex) (n : Nat), cks ds ts (a ++ b) n = match cks ds ts a n with
    | .error m => .error m
    | .ok qs => match cks ds ts b (n + Ex.sizes a) with
      | .error m => .error m
      | .ok rs => .ok (qs ++ rs)
  | [], b, n => by
    rw [List.nil_append, cks, Ex.sizes, Nat.add_zero]
    cases cks ds ts b n <;> rfl
  | e :: r, b, n => by
    rw [List.cons_append, cks, cks]
    cases ck ds ts e n with
    | error m => rfl
    | ok k =>
      show (match cks ds ts (r ++ b) (n + e.size) with | .error m => Except.error m | .ok ks => .ok (k :: ks)) = _
      rw [cks_app ds ts r b, Ex.sizes, ← Nat.add_assoc]
      cases cks ds ts r (n + e.size) with
      | error m => rfl
      | ok qs =>
        show (match (match cks ds ts b (n + e.size + Ex.sizes r) with | .error m => Except.error m | .ok rs => .ok (qs ++ rs)) with | .error m => Except.error m | .ok ks => .ok (k :: ks)) = match cks ds ts b (n + e.size + Ex.sizes r) with | .error m => Except.error m | .ok rs => .ok (k :: qs ++ rs)
        cases cks ds ts b (n + e.size + Ex.sizes r) <;> rfl
theorem take_at {es : List Ex} {i : Nat} (h : i < es.length) : es.take (i + 1) = es.take i ++ [es[i]] := by
  rw [List.take_add_one, List.getElem?_eq_getElem h]
  rfl
theorem cks_one (ds : List D) (ts : List T) (e : Ex) (n : Nat) : cks ds ts [e] n = match ck ds ts e n with | .error m => .error m | .ok k => .ok [k] := by
  rw [cks]
  cases ck ds ts e n <;> rfl
theorem cks_ok {ds : List D} {ts : List T} {es : List Ex} {i n : Nat} {qs : List Kd} {k : Kd} (h : i < es.length) (h1 : cks ds ts (es.take i) n = .ok qs) (h2 : ck ds ts es[i] (n + Ex.sizes (es.take i)) = .ok k) : cks ds ts (es.take (i + 1)) n = .ok (qs ++ [k]) := by
  rw [take_at h, cks_app, h1]
  show (match cks ds ts [es[i]] (n + Ex.sizes (es.take i)) with | .error m => Except.error m | .ok rs => .ok (qs ++ rs)) = _
  rw [cks_one, h2]
theorem cks_bad {ds : List D} {ts : List T} {es : List Ex} {i n j : Nat} {qs : List Kd} (h : i < es.length) (h1 : cks ds ts (es.take i) n = .ok qs) (h2 : ck ds ts es[i] (n + Ex.sizes (es.take i)) = .error j) : cks ds ts es n = .error j := by
  have e1 : cks ds ts (es.take (i + 1)) n = .error j := by
    rw [take_at h, cks_app, h1]
    show (match cks ds ts [es[i]] (n + Ex.sizes (es.take i)) with | .error m => Except.error m | .ok rs => .ok (qs ++ rs)) = _
    rw [cks_one, h2]
  have e2 := cks_app ds ts (es.take (i + 1)) (es.drop (i + 1)) n
  rw [List.take_append_drop, e1] at e2
  exact e2
theorem ck_leaf {ds : List D} {ts : List T} {e : Ex} {n : Nat} (h : e.word ∈ LV) {H : Hp} {v : V} (he : ExAt H v e) : ck ds ts e n = match leafK ds ts e with | some k => .ok k | none => .error n := by
  cases he with
  | val _ => rw [ck] <;> rfl
  | attr _ => rw [ck] <;> rfl
  | dim _ => rw [ck] <;> rfl
  | op _ _ nw _ => exact absurd h nw
theorem ck_op {ds : List D} {ts : List T} {e : Ex} {n : Nat} (h : e.word ∉ LV) {H : Hp} {v : V} (he : ExAt H v e) : ck ds ts e n = match cks ds ts e.parts (n + 1) with | .error m => .error m | .ok qs => match joint e.word qs with | some k => .ok k | none => .error n := by
  cases he with
  | val _ => exact absurd (by show ("value" : Str) ∈ LV; decide +kernel) h
  | attr _ => exact absurd (by show ("attr" : Str) ∈ LV; decide +kernel) h
  | dim _ => exact absurd (by show ("dim" : Str) ∈ LV; decide +kernel) h
  | op _ _ _ _ => rw [ck]; rfl
theorem ar_le {w : Str} {n : Nat} (h : ar w = some n) : n ≤ 3 := by
  unfold ar at h
  by_cases w1 : w = "is missing"
  · rw [if_pos w1] at h
    rw [← Option.some.inj h]
    decide
  rw [if_neg w1] at h
  by_cases w2 : w ∈ CMP
  · rw [if_pos w2] at h
    rw [← Option.some.inj h]
    decide
  rw [if_neg w2] at h
  by_cases w3 : w = "if"
  · rw [if_pos w3] at h
    rw [← Option.some.inj h]
    decide
  rw [if_neg w3] at h
  by_cases w4 : w = "or else"
  · rw [if_pos w4] at h
    rw [← Option.some.inj h]
    decide
  rw [if_neg w4] at h
  cases e : SIG.lookup w with
  | none =>
    rw [e] at h
    cases h
  | some p =>
    rw [e] at h
    rw [← Option.some.inj h]
    have tab : ∀ p ∈ SIG, p.2.1.length ≤ 3 := by decide +kernel
    exact tab _ (lookup_in e)
theorem size_parts (e : Ex) : e.size = 1 + Ex.sizes e.parts := by cases e <;> simp [Ex.size, Ex.parts, Ex.sizes]
theorem dep_le : ∀ {es : List Ex} {e : Ex}, e ∈ es → e.dep ≤ Ex.deps es
  | x :: r, e, h => by
    rw [Ex.deps]
    rcases List.mem_cons.mp h with rfl | h
    · exact Nat.le_max_left ..
    · exact Nat.le_trans (dep_le h) (Nat.le_max_right ..)
theorem dep_part {e x : Ex} (h : x ∈ e.parts) : x.dep + 1 ≤ e.dep := by
  cases e with
  | op w ps =>
    have := dep_le h
    rw [Ex.dep]
    have h2 : Ex.deps ps = Ex.deps (Ex.parts (.op w ps)) := rfl
    omega
  | val _ _ => exact absurd h List.not_mem_nil
  | attr _ => exact absurd h List.not_mem_nil
  | dim _ => exact absurd h List.not_mem_nil
theorem WFs.mem : ∀ {es : List Ex} {e : Ex}, WFs es → e ∈ es → WF e
  | x :: r, e, h, m => by
    rw [WFs] at h
    rcases List.mem_cons.mp m with rfl | m
    · exact h.1
    · exact WFs.mem h.2 m
theorem WF.part {e x : Ex} (h : WF e) (m : x ∈ e.parts) : WF x := by
  cases e with
  | op w ps =>
    rw [WF] at h
    exact h.2.mem m
  | val _ _ => exact absurd m List.not_mem_nil
  | attr _ => exact absurd m List.not_mem_nil
  | dim _ => exact absurd m List.not_mem_nil
theorem WF.ar {e : Ex} (h : WF e) {H : Hp} {v : V} (he : ExAt H v e) (nw : e.word ∉ LV) : K2.ar e.word = some e.parts.length := by
  cases he with
  | val _ => exact absurd (by show ("value" : Str) ∈ LV; decide +kernel) nw
  | attr _ => exact absurd (by show ("attr" : Str) ∈ LV; decide +kernel) nw
  | dim _ => exact absurd (by show ("dim" : Str) ∈ LV; decide +kernel) nw
  | op _ _ _ _ => rw [WF] at h; exact h.1
theorem same_err {H H3 : Hp} {e dx : Addr} {o1 o2 o3 o4 o5 : HO} (sm : Same H H3) (ne : H3 e = none) (nx : H3 dx = none) : Same H (upd (del (upd (upd (upd (upd H3 e o1) dx o2) e o3) dx o4) e) dx o5) := fun b o hb => by
  have y := sm b o hb
  have n1 : b ≠ e := ne_of_none y ne
  have n2 : b ≠ dx := ne_of_none y nx
  rw [upd_ne n2, del_ne n1, upd_ne n2, upd_ne n1, upd_ne n2, upd_ne n1]
  exact y
def errD (i : Nat) : HO := .xd [("name", .str "InvalidQuery"), ("place", .int (i : Int))]
section
variable {P : Program} {w : World} {K : PySem.W.Frag} {mg : Str → Option Value} {base : Heap}
def spKF (C CE : Addr) (n : Nat) : Sp := fun vs H Q E => ∃ (r : V) (s : Addr) (m : Nat) (e : Ex) (ds : List D) (ts : List T), vs = [r, .ref s, .int (m : Int)] ∧ ExAt H r e ∧ WF e ∧ e.dep < n ∧ ShapeAt H C s ds ts ∧ GoodK ds ts ∧
  (∀ k, ck ds ts e m = .ok k → ∀ H' p, Same H H' → H p = none → H' p = some (.tup [ks k, .int ((m + e.size : Nat) : Int)]) → Q (.ref p) H') ∧
  (∀ i : Nat, ck ds ts e m = .error i → ∀ H' d, Same H H' → H d = none → H' d = some (errD i) → E (.ref CE) (some d) H')
theorem scKF : FnScope ["expression", "shape", "number", "kinds", "upcoming", "part", "kind", "own"] ["expression", "shape", "number"] (defScope sKindFrom) := ⟨rfl, rfl, rfl, by decide +kernel, rfl, by decide +kernel, by decide +kernel⟩
theorem kv_non (o : Option Kd) : decide (kv o = .non) = o.isNone := by cases o <;> rfl
theorem ok_kf {f fP fL fO fI C CE : Addr} {fd fdP fdL fdO fdI : FuncData} (F : Fun K "kind_from" "kind_from" sKindFrom f fd) (gF : mg "kind_from" = some (.ref f)) (bF : Binds K fd ["expression", "shape", "number"] []) (N : Nk K mg)
    (GP : FnOk P w K mg base CX0 1 fP fdP ["expression"] spParts) (kP : PySem.W.keepIn K (.ref fP) = true) (bP : Binds K fdP ["expression"] []) (gP : mg "parts_of" = some (.ref fP))
    (GL : FnOk P w K mg base CX0 3 fL fdL ["expression", "shape"] (spLeafKind C)) (kL : PySem.W.keepIn K (.ref fL) = true) (bL : Binds K fdL ["expression", "shape"] []) (gL : mg "leaf_kind" = some (.ref fL))
    (GO : FnOk P w K mg base CX0 1 fO fdO ["word", "kinds"] spOver) (kO : PySem.W.keepIn K (.ref fO) = true) (bO : Binds K fdO ["word", "kinds"] []) (gO : mg "kind_over" = some (.ref fO))
    (FI : Fun K "__init__" "ManysidesError.__init__" sInit fI fdI) (bI : Binds K fdI ["self", "place"] []) (E0 : ErrC K CE fI "InvalidQuery") (gE : mg "InvalidQuery" = some (.ref CE)) :
    ∀ n : Nat, FnOk P w K mg base (L2.CX P w) (5 + n) f fd ["expression", "shape", "number"] (spKF C CE n) := by
  have GI : FnOk P w K mg base CX0 1 fI fdI ["self", "place"] (spInit K fI) := ok_init FI
  intro n
  induction n with
  | zero =>
    refine F.okX scKF (fun vs H Q E h => ?_) (fun cdv A outer s H vs Q E hr h => ?_)
    · obtain ⟨r, s, m, e, ds, ts, rfl, _⟩ := h
      rfl
    · obtain ⟨r, s', m, e, ds, ts, rfl, he, wf, hd, _⟩ := h
      exact absurd hd (Nat.not_lt_zero _)
  | succ n ih =>
    refine F.okX scKF (fun vs H Q E h => ?_) (fun cdv A outer s H vs Q E hr h => ?_)
    · obtain ⟨r, s, m, e, ds, ts, rfl, _⟩ := h
      rfl
    · obtain ⟨r, s', m, e, ds, ts, rfl, he, wf, hd, hS, gk, q, qe⟩ := h
      have hr1 := hr.mono (j := 1) (by show 1 ≤ 5 + n; omega)
      have hr2 := hr.mono (j := 2) (by show 2 ≤ 5 + n; omega)
      have hr3 := hr.mono (j := 3) (by show 3 ≤ 5 + n; omega)
      have hrn := hr.mono (j := 5 + n) (by show 5 + n ≤ 5 + n; omega)
      obtain ⟨kk, m1, r1⟩ := N.leaves
      refine ⟨_, pss_cons (ps_set (i := 3) scKF.nd rfl (.inl rfl) (pe_lst pa_nil)) (pss_cons (ps_set (i := 4) scKF.nd rfl (.inl rfl) (pe_op op_add (pv 2) pe_int))
        (pss_cons (ps_for (passes_of rfl) rfl (pi_list (pe_call GP hr1 (by rfl) gP kP bP .nil pass0 (pa_cons (pv 0) pa_nil))) (pg_name (i := 5) scKF.nd rfl (.inl rfl))
          (pss_cons (ps_asg (pe_callS ih hrn (by rfl) gF F.kp bF (fun σ => passAt (takes_of rfl rfl rfl rfl) σ) (pa_cons (pv 5) (pa_cons (pv 1) (pa_cons (pv 4) pa_nil)))) (pg_tup (by rfl) (pgs_cons (pg_name (i := 6) scKF.nd rfl (.inl rfl)) (pgs_cons (pg_name (i := 4) scKF.nd rfl (.inl rfl)) pgs_nil))))
          (pss_one (ps_expr (pe_bm PySem.F.plainAttrs_list PySem.F.slot_list_append PySem.F.type_list_append mt_append (pv 3) (pa_cons (pv 6) pa_nil))))))
        (Evl.pss_cut (ps_set (i := 7) scKF.nd rfl (.inl rfl) (pe_ifExp (pt_cmpR op_in_seq (pe_ix ix_tup (pv 0) pe_int (fun _ _ => rfl)) (pe_glob (v := .ref kk) (by rfl) m1 rfl) (by rfl)) (pe_call GL hr3 (by rfl) gL kL bL .nil pass0 (pa_cons (pv 0) (pa_cons (pv 1) pa_nil)))
            (pe_call GO hr1 (by rfl) gO kO bO .nil pass0 (pa_cons (pe_ix ix_tup (pv 0) pe_int (fun _ _ => rfl)) (pa_cons (pv 3) pa_nil)))))
        (pss_cons (ps_if (pt_cmpR op_isN (pv 7) pe_non (nomark _)) (pss_one (ps_raise rfl (takes_of rfl rfl rfl rfl) (pmk_oex E0.oc E0.iC E0.tI GI hr2 bI .nil pass0 (by rfl) gE (pa_cons (pv 2) pa_nil)))) pss_nil)
        (pss_one (ps_ret (pe_tup (pa_cons (pv 7) (pa_cons (pv 4) pa_nil))))))))), ?_⟩
      have hS0 := hS
      refine ⟨Nat.zero_le _, fun nl nn => ?_⟩
      refine ⟨_, rfl, (m : Int), 1, rfl, rfl, ?_⟩
      refine ⟨_, rfl, r, e, rfl, he.same (same_new nn), fun H1 p xs s1 np hp hx => ?_⟩
      have s01 : Same H H1 := (same_new nn).trans s1
      have hnl1 := s1 _ _ upd_same
      have npl : nl ≠ p := ne_of_none upd_same np
      have lx := hx.len
      refine ⟨p, rfl, ⟨_, .inl (.inl hp)⟩, ?_⟩
      refine for_list (xs := xs) (fun i σ H3 => ∃ (qs : List Kd) (y5 y6 : Option V), σ = [some r, some (.ref s'), some (.int (m : Int)), some (.ref nl), some (.int ((m + 1 + Ex.sizes (e.parts.take i) : Nat) : Int)), y5, y6, none] ∧ Same H H3 ∧ H3 p = some (.lst xs) ∧
        H3 nl = some (.lst (qs.map ks)) ∧ qs.length = i ∧ cks ds ts (e.parts.take i) (m + 1) = .ok qs ∧ ExAll H3 xs e.parts) ?_ ?_ ?_ ?_
      · exact ⟨[], _, _, rfl, s01, hp, hnl1, rfl, by rw [List.take_zero, cks], hx⟩
      · rintro i σ H3 hi ⟨qs, y5, y6, rfl, sm, hp3, _⟩
        exact .inl (.inl hp3)
      · rintro i x σ H3 hxi ⟨qs, y5, y6, rfl, sm, hp3, hnl3, hq, hck, hx3⟩
        have hi : i < xs.length := (List.getElem?_eq_some_iff.mp hxi).1
        have hi2 : i < e.parts.length := by omega
        obtain ⟨v, e1, e2⟩ := hx3.at (List.getElem?_eq_getElem hi2)
        obtain rfl : x = v := Option.some.inj (hxi.symm.trans e1)
        have hm : e.parts[i] ∈ e.parts := List.getElem_mem hi2
        have hdp := dep_part hm
        refine ⟨_, rfl, _, rfl, _, rfl, x, s', m + 1 + Ex.sizes (e.parts.take i), e.parts[i], ds, ts, rfl, e2, wf.part hm, by omega, hS.same sm, gk, fun k hk H4 t s4 nt ht => ?_, fun j hj H4 d s4 nd hd => ?_⟩
        · refine ⟨t, _, rfl, SqT.of ht, rfl, _, _, rfl, _, _, rfl, rfl, ?_⟩
          have hnl4 := s4 _ _ hnl3
          refine ⟨_, rfl, .inl ⟨rfl, _, .inl (.inl hnl4)⟩, _, rfl, nl, _, _, rfl, rfl, hnl4, ?_, ?_⟩
          · have : e.parts.length ≤ 3 := by
              by_cases nw : e.word ∈ LV
              · obtain ⟨_, _, _, _, _, g⟩ := he.tup
                rw [g nw] at hi2
                exact absurd hi2 (Nat.not_lt_zero _)
              · exact ar_le (wf.ar he nw)
            rw [List.length_map]
            exact small1000 (by omega)
          · refine ⟨qs ++ [k], some x, some (ks k), ?_, same_put (sm.trans s4) nn, ?_, ?_, ?_, cks_ok hi2 hck hk, ?_⟩
            · have : m + 1 + Ex.sizes (e.parts.take i) + e.parts[i].size = m + 1 + Ex.sizes (e.parts.take (i + 1)) := by
                rw [take_at hi2, sizes_app, Ex.sizes, Ex.sizes]
                omega
              rw [← this]
              rfl
            · rw [upd_ne npl.symm]
              exact s4 _ _ hp3
            · rw [upd_same, List.map_append]
              rfl
            · rw [List.length_append, hq]
              rfl
            · refine (hx3.same s4).keep fun b r hb => ?_
              rw [upd_ne]
              · exact hb
              · intro z
                rw [z, hnl4] at hb
                cases hb
        · have hbad := cks_bad hi2 hck hj
          have nw : e.word ∉ LV := fun z => by
            obtain ⟨_, _, _, _, _, g⟩ := he.tup
            rw [g z] at hi2
            exact absurd hi2 (Nat.not_lt_zero _)
          refine qe j ?_ H4 d (sm.trans s4) (sm.free nd) hd
          rw [ck_op nw he, hbad]
      · rintro σ H3 ⟨qs, y5, y6, rfl, sm, hp3, hnl3, hq, hck, hx3⟩
        rw [lx, List.take_length] at hck
        have hup : m + 1 + Ex.sizes (e.parts.take xs.length) = m + e.size := by
          rw [lx, List.take_length, size_parts]
          omega
        rw [hup]
        have he3 := he.same sm
        obtain ⟨a, zs, rfl, ha, h1, h2⟩ := he3.tup
        refine ⟨fun σ H5 => ∃ (o : Option Kd), σ = [some (.ref a), some (.ref s'), some (.int (m : Int)), some (.ref nl), some (.int ((m + e.size : Nat) : Int)), y5, y6, some (kv o)] ∧ Same H H5 ∧ ck ds ts e m = (match o with | some k => .ok k | none => .error m), ?_, ?_⟩
        · refine ⟨_, rfl, a, _, 0, _, rfl, rfl, SqT.of ha, atI_nat (j := 0) rfl, kk, _, rfl, .inr (r1 _), rfl, flat_strs LV, _, rfl, ?_⟩
          by_cases hw : e.word ∈ LV
          · refine iteB ((inV_str _ LV).trans (decide_eq_true hw)) ⟨_, rfl, _, rfl, _, s', e, ds, ts, rfl, he3, hw, wf, hS.same sm, gk, fun H5 s5 => ⟨_, rfl, sm.trans s5, ?_⟩⟩
            rw [ck_leaf hw he3]
          · refine iteBF ((inV_str _ LV).trans (decide_eq_false hw)) ⟨_, rfl, a, _, 0, _, rfl, rfl, SqT.of ha, atI_nat (j := 0) rfl, _, rfl, e.word, nl, qs, rfl, hnl3, ?_, fun H5 s5 => ⟨_, rfl, sm.trans s5, ?_⟩⟩
            · rw [wf.ar he3 hw, hq, lx]
            · rw [ck_op hw he3, hck]
        · rintro σ H5 ⟨o, rfl, s5, hc⟩
          refine ⟨_, rfl, rfl, _, rfl, ?_⟩
          rw [kv_non]
          cases o with
          | some k =>
            refine iteBF rfl ⟨_, rfl, _, rfl, (by show 2 ≤ sizeLine; decide), fun t nt => ?_⟩
            exact q k hc _ t (s5.trans (same_new nt)) (s5.free nt) upd_same
          | none =>
            refine iteB rfl ?_
            refine ⟨_, rfl, (by show 1 ≤ 1000; decide), fun e0 ne => ⟨e0, CE, "InvalidQuery", _, rfl, E0, upd_same, fun dx ndx nde => ⟨rfl, dx, [("name", .str "InvalidQuery"), ("place", .int (m : Int))], ?_, upd_same, ?_, ?_⟩⟩⟩
            · rw [upd_ne nde.symm, upd_same]
            · rw [upd_ne nde] at ndx
              exact ndx
            · rw [upd_ne nde] at ndx
              exact qe m hc _ dx (same_err s5 ne ndx) (s5.free ndx) upd_same
end
end K2

namespace K2
open PySem L2
def res : Except Nat Kd → List V
  | .ok k => [.str "kind", ks k]
  | .error i => [.str "wrong", .int (i : Int)]
section
variable {P : Program} {w : World} {K : PySem.W.Frag} {mg : Str → Option Value} {base : Heap}
def spKindOf (C CE : Addr) (n : Nat) : Sp := fun vs H Q E => ∃ (r : V) (s : Addr) (e : Ex) (ds : List D) (ts : List T), vs = [r, .ref s] ∧ ExAt H r e ∧ WF e ∧ e.dep < n ∧ ShapeAt H C s ds ts ∧ GoodK ds ts ∧
  (∀ k, ck ds ts e 0 = .ok k → ∀ H', Same H H' → Q (ks k) H') ∧ (∀ i : Nat, ck ds ts e 0 = .error i → ∀ H' d, Same H H' → H d = none → H' d = some (errD i) → E (.ref CE) (some d) H')
theorem scKindOf : FnScope ["expression", "shape", "kind", "_"] ["expression", "shape"] (defScope sKindOf) := ⟨rfl, rfl, rfl, by decide +kernel, rfl, by decide +kernel, by decide +kernel⟩
theorem ok_kindOf {f fK C CE : Addr} {fd fdK : FuncData} {n : Nat} (F : Fun K "kind_of" "kind_of" sKindOf f fd) (GK : FnOk P w K mg base (L2.CX P w) (5 + n) fK fdK ["expression", "shape", "number"] (spKF C CE n)) (kK : PySem.W.keepIn K (.ref fK) = true) (bK : Binds K fdK ["expression", "shape", "number"] []) (gK : mg "kind_from" = some (.ref fK)) :
    FnOk P w K mg base (L2.CX P w) (6 + n) f fd ["expression", "shape"] (spKindOf C CE n) := by
  have GK' : FnOk P w K mg base (L2.CX P w) (5 + n) fK fdK ["expression", "shape", "number"] (spKF C CE n) := GK
  have e6 : 6 + n = (5 + n) + 1 := by omega
  rw [e6]
  refine F.okX scKindOf (fun vs H Q E h => ?_) (fun cdv A outer s H vs Q E hr h => ?_)
  · obtain ⟨r, s, e, ds, ts, rfl, _⟩ := h
    rfl
  · obtain ⟨r, s', e, ds, ts, rfl, he, wf, hd, hS, gk, q, qe⟩ := h
    refine ⟨_, pss_cons (ps_asg (pe_callS GK' hr (by rfl) gK kK bK (fun σ => passAt (takes_of rfl rfl rfl rfl) σ) (pa_cons (pv 0) (pa_cons (pv 1) (pa_cons pe_int pa_nil)))) (pg_tup (by rfl) (pgs_cons (pg_name (i := 2) scKindOf.nd rfl (.inl rfl)) (pgs_cons (pg_name (i := 3) scKindOf.nd rfl (.inl rfl)) pgs_nil))))
      (pss_one (ps_ret (pv 2))), ?_⟩
    refine ⟨_, rfl, _, rfl, r, s', 0, e, ds, ts, rfl, he, wf, hd, hS, gk, fun k hk H4 t s4 nt ht => ?_, fun j hj H4 d s4 nd hd => qe j hj H4 d s4 nd hd⟩
    exact ⟨t, _, rfl, SqT.of ht, rfl, _, _, rfl, _, _, rfl, rfl, _, rfl, q k hk _ s4⟩
structure ToldT (K : PySem.W.Frag) (mg : Str → Option Value) (C CM CC : Addr) : Prop where
  gC : mg "InvalidQuery" = some (.ref C)
  gM : mg "ManysidesError" = some (.ref CM)
  gX : mg "InvalidWords" = some (.ref CC)
  ex : PySem.W.exmOne K (.ref C) (.ref CM) = some true
  k1 : PySem.W.kitOne K (.ref C) (.ref C) = some true
  k2 : PySem.W.kitOne K (.ref C) (.ref CC) = some false
def spTold (C : Addr) (n : Nat) : Sp := fun vs H Q _ => ∃ (r : V) (s : Addr) (e : Ex) (ds : List D) (ts : List T), vs = [r, .ref s] ∧ ExAt H r e ∧ WF e ∧ e.dep < n ∧ ShapeAt H C s ds ts ∧ GoodK ds ts ∧
  ∀ H' p, Same H H' → H p = none → H' p = some (.tup (res (ck ds ts e 0))) → Q (.ref p) H'
theorem scTold : FnScope ["expression", "shape", "error"] ["expression", "shape"] (defScope sTold) := ⟨rfl, rfl, rfl, by decide +kernel, rfl, by decide +kernel, by decide +kernel⟩
theorem ok_told {f fK C CE CM CC fI : Addr} {fd fdK : FuncData} {n : Nat} (F : Fun K "_law_told" "_law_told" sTold f fd) (N : Nm mg) (GK : FnOk P w K mg base (L2.CX P w) (6 + n) fK fdK ["expression", "shape"] (spKindOf C CE n)) (kK : PySem.W.keepIn K (.ref fK) = true) (bK : Binds K fdK ["expression", "shape"] []) (gK : mg "kind_of" = some (.ref fK))
    (E : ErrC K CE fI "InvalidQuery") (T : ToldT K mg CE CM CC) : FnOk P w K mg base CX0 (7 + n) f fd ["expression", "shape"] (spTold C n) := by
  have GK' : FnOk P w K mg base (L2.CX P w) (6 + n) fK fdK ["expression", "shape"] (spKindOf C CE n) := GK
  have e6 : 7 + n = (6 + n) + 1 := by omega
  rw [e6]
  refine F.ok scTold (fun vs H Q E h => ?_) (fun cdv A outer s H vs Q Ex hr h => ?_)
  · obtain ⟨r, s, e, ds, ts, rfl, _⟩ := h
    rfl
  · obtain ⟨r, s', e, ds, ts, rfl, he, wf, hdp, hS, gk, q⟩ := h
    refine ⟨_, pss_one (ps_try_as (i := 2) (Wout := fun _ _ _ _ => False) rfl rfl scTold.nd rfl rfl ⟨rfl, by decide, Or.inl T.gM⟩ takes0
      (fun W pn xe tk _ => pss_one (ps_ret (pe_tup (pa_cons pe_str (pa_cons (pe_callS GK' hr (by rfl) gK kK bK (fun σ => passAt tk σ) (pa_cons (pv 0) (pa_cons (pv 1) pa_nil))) pa_nil)))))
      (fun a oe cls d pn hz hf => pss_cons (ps_if (PW.pt (pw_or (pt_not (pt_val (pe_callB (call_isE2 E.ec hz hf) (by rfl) N.isinstance (by decide +kernel) (pa_cons (pv 2) (pa_cons (pe_glob (v := .ref CE) (by rfl) T.gC rfl) pa_nil)))))
          (pw_or (pt_val (pe_callB (call_isE2 E.ec hz hf) (by rfl) N.isinstance (by decide +kernel) (pa_cons (pv 2) (pa_cons (pe_glob (v := .ref CC) (by rfl) T.gX rfl) pa_nil))))
            (pw_or1 (pt_cmpR op_ne (pe_xf E.xf E.noN hz hf (pv 2)) pe_str (nomark _))))))
          (pss_one (ps_ret (pe_tup (pa_cons pe_str (pa_cons pe_int pa_nil))))) pss_nil)
        (pss_one (ps_ret (pe_tup (pa_cons pe_str (pa_cons (pe_xf E.xf E.noP hz hf (pv 2)) pa_nil))))))), ?_⟩
    refine ⟨_, rfl, _, rfl, r, s', e, ds, ts, rfl, he, wf, hdp, hS, gk, fun k hk H' sm => ⟨(by show 2 ≤ sizeLine; decide), fun p np => ?_⟩, fun i hb H' d sm nd hd => ?_⟩
    · rw [hk] at q
      exact q _ p (same_put sm (sm.free np)) (sm.free np) upd_same
    rw [hb] at q
    refine ⟨true, T.ex, fun _ e0 ne => ?_, fun z => Bool.noConfusion z⟩
    have ref1 : ∀ (D : Addr) (u : Value), RelV (.ref D) u → u = .ref D := fun D u h => h
    refine ⟨_, rfl, _, .ref CE, true, d, _, rfl, rfl, rfl, hd, ref1 CE, T.k1, true, rfl, iteF ?_⟩
    refine ⟨_, rfl, _, .ref CC, false, d, _, rfl, rfl, rfl, hd, ref1 CC, T.k2, false, rfl, iteF ?_⟩
    refine ⟨_, rfl, rfl, rfl, d, _, .str "InvalidQuery", rfl, hd, (by rw [lookup_put, if_pos rfl]), rfl, _, rfl, iteBF (by rw [decide_eq_true rfl]; rfl) ?_⟩
    refine ⟨_, rfl, rfl, rfl, d, _, .int (i : Int), rfl, hd, (by rw [lookup_put, if_neg (by decide +kernel), lookup_put, if_pos rfl]), (by show 2 ≤ sizeLine; decide), fun p np => ?_⟩
    exact q _ p (same_put sm (sm.free np)) (sm.free np) upd_same
end
end K2

namespace K2
open PySem L2
theorem sum_sizes : ∀ es : List Ex, (es.map fun x => (x.size : Int)).sum = (Ex.sizes es : Int)
  | [] => rfl
  | e :: r => by
    rw [List.map_cons, List.sum_cons, sum_sizes r, Ex.sizes]
    omega
section
variable {P : Program} {w : World} {K : PySem.W.Frag} {mg : Str → Option Value} {base : Heap}
def spCount (n : Nat) : Sp := fun vs H Q _ => ∃ (r : V) (e : Ex), vs = [r] ∧ ExAt H r e ∧ WF e ∧ e.dep < n ∧ ∀ H', Same H H' → Q (.int (e.size : Int)) H'
theorem scCount : FnScope ["expression", "part"] ["expression"] (defScope sCount) := ⟨rfl, rfl, rfl, by decide +kernel, rfl, by decide +kernel, by decide +kernel⟩
theorem parts_le {e : Ex} (wf : WF e) {H : Hp} {v : V} (he : ExAt H v e) : e.parts.length ≤ 3 := by
  by_cases nw : e.word ∈ LV
  · obtain ⟨_, _, _, _, _, g⟩ := he.tup
    rw [g nw]
    decide
  · exact ar_le (wf.ar he nw)
theorem ok_count {f : Addr} {fd : FuncData} (F : Fun K "_law_count" "_law_count" sCount f fd) (gF : mg "_law_count" = some (.ref f)) (bF : Binds K fd ["expression"] []) (N : Nk K mg) : ∀ n : Nat, FnOk P w K mg base CX0 (1 + n) f fd ["expression"] (spCount n) := by
  intro n
  induction n with
  | zero =>
    refine F.ok scCount (fun vs H Q E h => ?_) (fun cdv A outer s H vs Q E hr h => ?_)
    · obtain ⟨r, e, rfl, _⟩ := h
      rfl
    · obtain ⟨r, e, rfl, he, wf, hd, _⟩ := h
      exact absurd hd (Nat.not_lt_zero _)
  | succ n ih =>
    refine F.ok scCount (fun vs H Q E h => ?_) (fun cdv A outer s H vs Q E hr h => ?_)
    · obtain ⟨r, e, rfl, _⟩ := h
      rfl
    · obtain ⟨r, e, rfl, he, wf, hd, q⟩ := h
      have hrn := hr.mono (j := 1 + n) (by show 1 + n ≤ 1 + n; omega)
      refine ⟨_, pss_cons (ps_if (pt_cmpR op_in_seq (pe_ix ix_tup (pv 0) pe_int (fun _ _ => rfl)) (pe_lst (pa_cons pe_str (pa_cons pe_str (pa_cons pe_str pa_nil)))) (by rfl)) (pss_one (ps_ret pe_int)) pss_nil)
        (pss_one (ps_ret (pe_op op_add pe_int (pe_callB (cr_sum rfl) (by rfl) N.sum (by decide +kernel) (pa_cons (pe_lc (own := [("part", 1)]) (g := gName 1) (tt := tYes) rfl scCount.nd (pi_tup (pe_slice sl_tup (pv 0) (po_some pe_int) po_none))
          (blkOk_by (N := ["expression", "part"]) (sc := defScope sCount) (by decide +kernel)) (fun _ _ _ _ _ => pg_name (i := 1) scCount.nd rfl (Or.inl rfl)) (fun _ _ _ _ _ => pts_nil)
          (fun _ _ _ _ _ => pe_call ih hrn (by rfl) gF F.kp bF .nil pass0 (pa_cons (pv 1) pa_nil))) pa_nil))))), ?_⟩
      have hpl := parts_le wf he
      obtain ⟨a, xs, rfl, ha, h1, h2⟩ := he.tup
      refine ⟨_, rfl, a, _, 0, _, rfl, rfl, SqT.of ha, atI_nat (j := 0) rfl, (by show 3 ≤ sizeLine; decide), fun o no => ?_⟩
      have s1 := same_new (o := .lst [V.str "value", V.str "attr", V.str "dim"]) no
      refine ⟨o, _, rfl, .inl (.inl (.inl upd_same)), rfl, flat_strs LV, _, rfl, ?_⟩
      by_cases hw : e.word ∈ LV
      · refine iteB ((inV_str _ LV).trans (decide_eq_true hw)) ?_
        have : e.size = 1 := by rw [size_parts, h2 hw]; rfl
        rw [this] at q
        exact q _ s1
      refine iteBF ((inV_str _ LV).trans (decide_eq_false hw)) ?_
      have hx := h1 hw
      have lx := hx.len
      refine ⟨_, rfl, 1, rfl, a, _, rfl, SqT.of (s1 _ _ ha), cut1_not _ _, fun p np => ?_⟩
      rw [cut1]
      have s2 := s1.trans (same_new (o := .tup xs) np)
      refine ⟨p, rfl, ⟨_, SqT.of upd_same⟩, fun D nD => ?_⟩
      have s3 := s2.trans (same_new (o := .lst []) nD)
      refine lc_it (walk_tup (xs := xs)) (fun i H3 => Same H H3 ∧ H3 p = some (.tup xs) ∧ H3 D = some (.lst (((e.parts.take i).map fun x => (x.size : Int)).map V.int))) ⟨s3, same_new nD _ _ upd_same, upd_same⟩ (fun _ _ _ z => SqT.of z.2.1) ?_ ?_
      · rintro i x H3 H' hi ⟨sm, hp3, hD⟩ ⟨rfl, hxi⟩
        have hi2 : i < e.parts.length := by omega
        obtain ⟨v, e1, e2⟩ := (hx.same sm).at (List.getElem?_eq_getElem hi2)
        obtain rfl : x = v := Option.some.inj (hxi.symm.trans e1)
        have hm : e.parts[i] ∈ e.parts := List.getElem_mem hi2
        have hdp := dep_part hm
        refine ⟨rfl, ?_⟩
        dsimp only [tYes]
        rw [if_pos rfl]
        refine ⟨_, rfl, x, e.parts[i], rfl, e2, wf.part hm, by omega, fun H4 s4 => ⟨_, s4 _ _ hD, ?_, same_put (sm.trans s4) (s2.free nD), ?_, ?_⟩⟩
        · rw [List.length_map, List.length_map, List.length_take]
          exact small1000 (by omega)
        · rw [upd_ne]
          · exact s4 _ _ hp3
          · intro z
            rw [z, hD] at hp3
            cases hp3
        · rw [upd_same, take_at hi2, List.map_append, List.map_append]
          rfl
      · rintro H3 ⟨sm, hp3, hD⟩
        rw [lx, List.take_length] at hD
        refine ⟨D, _, rfl, .inl (.inl hD), 1, _, rfl, rfl, ?_⟩
        rw [sum_sizes]
        have : (e.size : Int) = 1 + (Ex.sizes e.parts : Int) := by rw [size_parts]; omega
        show Q (.int (1 + (Ex.sizes e.parts : Int))) H3
        rw [← this]
        exact q _ sm
end
end K2

namespace K2
open PySem L2
section
variable {X : Cx}
theorem ix_tupK (K : PySem.W.Frag) (hK : X.K = K) : IxR X (rIxT K) := by
  subst hK
  exact ix_tup
theorem pg_tupK {es : List Expr} {k : Nat} {t : TGs} {n : Nat} {pos : Pos} (K : PySem.W.Frag) (hK : X.K = K) (hc : X.calm = true) (h : PGs X es t)
    (hn : (assignEach es X.env).length = n := by rfl) (hst : (assignEach es X.env).findIdx? (·.1) = none := by rfl) : PG X (.Tuple es k pos) (gTup K n t) := by
  subst hK
  exact pg_tup hc h hn hst
end
theorem filt_find {p : T → Bool} : ∀ {l : List T}, (l.find? p = none → l.filter p = []) ∧ ∀ t, l.find? p = some t → ∃ r, l.filter p = t :: r
  | [] => ⟨fun _ => rfl, fun t h => by cases h⟩
  | x :: r => by
    by_cases e : p x = true
    · rw [List.find?_cons_of_pos e, List.filter_cons_of_pos e]
      exact ⟨fun h => (by cases h), fun t h => ⟨_, by rw [Option.some.inj h]⟩⟩
    · rw [List.find?_cons_of_neg e, List.filter_cons_of_neg e]
      exact filt_find
theorem leaf_val {ds : List D} {ts : List T} {k : Str} {v : V} {q : Kd} (h : leafK ds ts (.val k v) = some q) : k = kdS q := by
  have h2 : ((kdOf k).bind fun q => if v = .non ∨ isVal q v = true then some q else none) = some q := h
  by_cases hk : k ∈ KS
  · obtain ⟨q2, rfl, e⟩ := kdOf_in hk
    rw [e] at h2
    have h3 : (if v = .non ∨ isVal q2 v = true then some q2 else none) = some q := h2
    by_cases c : v = .non ∨ isVal q2 v = true
    · rw [if_pos c] at h3
      rw [Option.some.inj h3]
    · rw [if_neg c] at h3
      cases h3
  · rw [kdOf_not hk] at h2
    cases h2
section
variable {P : Program} {w : World} {K : PySem.W.Frag} {mg : Str → Option Value} {base : Heap}
theorem scLLK : FnScope ["expression", "shape", "kind", "found", "word", "value", "good", "name", "dim"] ["expression", "shape"] (defScope sLLeafKind) := ⟨rfl, rfl, rfl, by decide +kernel, rfl, by decide +kernel, by decide +kernel⟩
theorem ok_llk {f C f1 f2 : Addr} {fd : FuncData} (F : Fun K "_law_leaf_kind" "_law_leaf_kind" sLLeafKind f fd) (N : Nk K mg) (M : Nm mg) (S : ShC K C f1 f2) : FnOk P w K mg base CX0 1 f fd ["expression", "shape"] (spLeafKind C) := by
  refine F.ok scLLK (fun vs H Q E h => ?_) (fun cdv A outer s H vs Q E hr h => ?_)
  · obtain ⟨r, s, e, ds, ts, rfl, _⟩ := h
    rfl
  · obtain ⟨r, s', e, ds, ts, rfl, he, hw, wf, hS, gk, q⟩ := h
    refine ⟨_, pss_cons (ps_if (pt_cmpR op_eq (pe_ix ix_tup (pv 0) pe_int (fun _ _ => rfl)) pe_str (nomark _))
          (pss_cons (ps_setLc (i := 3) (own := [("name", 7), ("kind", 2)]) (g := gTup K 2 (gCons (gName 7) (gCons (gName 2) gNil))) rfl scLLK.nd rfl rfl (sw_true rfl rfl rfl (by decide +kernel)) (pi_tup (pe_fld (pv 1) rfl))
            (blkOk_by (N := ["expression", "shape", "kind", "found", "word", "value", "good", "name", "dim"]) (sc := defScope sLLeafKind) (by decide +kernel))
            (fun _ _ _ _ _ => pg_tupK K rfl (by rfl) (pgs_cons (pg_name (i := 7) scLLK.nd rfl (Or.inl rfl)) (pgs_cons (pg_name (i := 2) scLLK.nd rfl (Or.inl rfl)) pgs_nil)))
            (fun _ _ _ _ _ => pts_one (pt_cmpR op_eq (pv 7) (pe_ix (ix_tupK K rfl) (pv 0) pe_int (fun _ _ => rfl)) (nomark _))) (fun _ _ _ _ _ => pv 2))
          (pss_one (ps_ret (pe_ix ix_list (pe_op op_cat (pv 3) (pe_lst (pa_cons pe_non pa_nil))) pe_int (fun _ _ => rfl))))) pss_nil)
      (pss_cons (ps_if (pt_cmpR op_eq (pe_ix ix_tup (pv 0) pe_int (fun _ _ => rfl)) pe_str (nomark _))
          (pss_one (ps_ret (pe_ix ix_list (pe_lst (pa_cons pe_non (pa_cons pe_str pa_nil))) (pe_callTy call_int1 (by rfl) M.int (by decide +kernel) (pa_cons (pe_cmpR op_in_seq (pe_ix ix_tup (pv 0) pe_int (fun _ _ => rfl))
            (pe_lc (own := [("dim", 8)]) (g := gName 8) (tt := tYes) rfl scLLK.nd (pi_tup (pe_fld (pv 1) rfl)) (blkOk_by (N := ["expression", "shape", "kind", "found", "word", "value", "good", "name", "dim"]) (sc := defScope sLLeafKind) (by decide +kernel))
              (fun _ _ _ _ _ => pg_name (i := 8) scLLK.nd rfl (Or.inl rfl)) (fun _ _ _ _ _ => pts_nil) (fun _ _ _ _ _ => pe_ix (ix_tupK K rfl) (pv 8) pe_int (fun _ _ => rfl))) (by rfl)) pa_nil)) (fun _ _ => rfl)))) pss_nil)
      (pss_cons (ps_asg (pv 0) (pg_tup (by rfl) (pgs_cons (pg_name (i := 4) scLLK.nd rfl (.inl rfl)) (pgs_cons (pg_name (i := 2) scLLK.nd rfl (.inl rfl)) (pgs_cons (pg_name (i := 5) scLLK.nd rfl (.inl rfl)) pgs_nil)))))
      (pss_cons (ps_set (i := 6) scLLK.nd rfl (.inl rfl) (pe_cmpR op_isN (pv 5) pe_non (nomark _)))
      (Evl.pss_cut (ps_if (pt_cmpR op_eq (pv 2) pe_str (nomark _))
          (pss_one (ps_set (i := 6) scLLK.nd rfl (.inl rfl) (pe_or (pv 6) (pe_one (pe_and (pe_callB call_isi (by rfl) M.isinstance (by decide +kernel) (pa_cons (pv 5) (pa_cons (pe_bltn (v := .ty "int") (by rfl) M.int (by decide +kernel) rfl) pa_nil)))
            (pe_and (pe_not (pe_callB call_isi (by rfl) M.isinstance (by decide +kernel) (pa_cons (pv 5) (pa_cons (pe_bltn (v := .ty "bool") (by rfl) M.bool (by decide +kernel) rfl) pa_nil))))
              (pe_one (pe_chain op_lt op_lt (pe_un un_neg (pe_op op_pow pe_int pe_int)) (pv 5) (pe_op op_pow pe_int pe_int)))))))))
          (pss_one (ps_if (pt_cmpR op_eq (pv 2) pe_str (nomark _))
            (pss_one (ps_set (i := 6) scLLK.nd rfl (.inl rfl) (pe_or (pv 6) (pe_one (pe_callB call_isi (by rfl) M.isinstance (by decide +kernel) (pa_cons (pv 5) (pa_cons (pe_bltn (v := .ty "bool") (by rfl) M.bool (by decide +kernel) rfl) pa_nil)))))))
            (pss_one (ps_set (i := 6) scLLK.nd rfl (.inl rfl) (pe_and (pe_cmpR op_eq (pv 2) pe_str (nomark _)) (pe_one (pe_or (pv 6) (pe_one (pe_callB call_isi (by rfl) M.isinstance (by decide +kernel) (pa_cons (pv 5) (pa_cons (pe_bltn (v := .ty "str") (by rfl) M.str (by decide +kernel) rfl) pa_nil))))))))))))
      (pss_one (ps_ret (pe_ix ix_list (pe_lst (pa_cons pe_non (pa_cons (pv 2) pa_nil))) (pe_callTy call_int1 (by rfl) M.int (by decide +kernel) (pa_cons (pv 6) pa_nil)) (fun _ _ => rfl)))))))), ?_⟩
    cases he with
    | op h g nw ne => exact absurd hw nw
    | @attr a n ha =>
      refine ⟨_, rfl, a, _, 0, _, rfl, rfl, SqT.of ha, atI_nat (j := 0) rfl, rfl, _, rfl, iteB (by decide +kernel) ?_⟩
      obtain ⟨dx, td, ta, xs, ys, h1, h2, h3, h4, h5⟩ := id hS
      refine ⟨_, rfl, s', C, dx, _, .ref ta, rfl, h1, S.cl, S.nA, rfl, ta, rfl, ⟨_, SqT.of h4⟩, fun D nD => ?_⟩
      refine lc_it (walk_tup (xs := ys)) (fun i H3 => Same H H3 ∧ H3 D = some (.lst (((ts.take i).filter fun t => decide (t.n = n)).map fun t => V.str t.k))) ⟨same_new nD, upd_same⟩ (fun _ _ _ z => SqT.of (z.1 _ _ h4)) ?_ ?_
      · rintro i x H3 H' hi ⟨sm, hD⟩ ⟨rfl, hxi⟩
        have hi2 : i < ts.length := by
          have := h5.1
          rw [List.length_map] at this
          omega
        obtain ⟨b, e1, e2⟩ := h5.2 i ts[i].v (by rw [List.getElem?_map, List.getElem?_eq_getElem hi2]; rfl)
        obtain rfl : x = .ref b := Option.some.inj (hxi.symm.trans e1)
        have etk : ts.take (i + 1) = ts.take i ++ [ts[i]] := by
          rw [List.take_add_one, List.getElem?_eq_getElem hi2]
          rfl
        refine ⟨b, _, rfl, SqT.of (sm _ _ e2), rfl, _, _, rfl, _, _, rfl, rfl, rfl, ?_⟩
        refine ⟨_, rfl, _, rfl, a, _, 1, .str n, rfl, rfl, SqT.of (sm _ _ ha), atI_nat (j := 1) rfl, rfl, _, rfl, ?_⟩
        rw [str_eq]
        by_cases e : ts[i].n = n
        · refine iteB (decide_eq_true e) ⟨_, rfl, _, hD, ?_, same_put sm nD, ?_⟩
          · rw [List.length_map]
            exact small1000 (Nat.le_trans (List.length_filter_le ..) (by rw [List.length_take]; have := gk.2.1; omega))
          · rw [upd_same, etk, List.filter_append, List.map_append]
            rw [show [ts[i]].filter (fun t => decide (t.n = n)) = [ts[i]] from List.filter_cons_of_pos (decide_eq_true e)]
            rfl
        · refine iteBF (decide_eq_false e) ⟨sm, ?_⟩
          rw [etk, List.filter_append]
          rw [show [ts[i]].filter (fun t => decide (t.n = n)) = [] from List.filter_cons_of_neg (by rw [decide_eq_false e]; decide), List.append_nil]
          exact hD
      · rintro H3 ⟨sm, hD⟩
        have ly : ys.length = ts.length := by
          have := h5.1
          rwa [List.length_map] at this
        rw [ly, List.take_length] at hD
        refine ⟨_, rfl, (by show 1 ≤ sizeLine; decide), fun o no => ?_⟩
        have s2 := sm.trans (same_new (o := .lst [V.non]) no)
        refine ⟨D, o, _, _, rfl, rfl, same_new no _ _ hD, upd_same, ?_, fun p np => ?_⟩
        · rw [List.length_map]
          have h1 := List.length_filter_le (fun t : T => decide (t.n = n)) ts
          have h2 := gk.2.1
          exact Nat.le_of_lt (small1000 (show (ts.filter _).length + 1 ≤ 1000 by omega))
        · refine ⟨p, _, 0, kv (leafK ds ts (.attr n)), rfl, rfl, .inl (.inl upd_same), ?_, q _ (s2.trans (same_new np))⟩
          have hf := filt_find (p := fun t : T => decide (t.n = n)) (l := ts)
          cases e : ts.find? (fun t => decide (t.n = n)) with
          | none =>
            have e2 : leafK ds ts (.attr n) = none := by
              show (ts.find? _).bind _ = none
              rw [e]
              rfl
            rw [hf.1 e, e2]
            exact atI_nat (j := 0) rfl
          | some t =>
            obtain ⟨r, er⟩ := hf.2 t e
            obtain ⟨qk, hq⟩ := gk.2.2 t (List.mem_of_find?_eq_some e)
            have e2 : leafK ds ts (.attr n) = some qk := by
              show (ts.find? _).bind _ = some qk
              rw [e]
              show kdOf t.k = some qk
              rw [hq, kdOf_S]
            rw [er, e2]
            refine atI_nat (j := 0) ?_
            show some (V.str t.k) = some (V.str (kdS qk))
            rw [hq]
    | @dim a n ha =>
      refine ⟨_, rfl, a, _, 0, _, rfl, rfl, SqT.of ha, atI_nat (j := 0) rfl, rfl, _, rfl, iteBF (by decide +kernel) ?_⟩
      refine ⟨_, rfl, a, _, 0, _, rfl, rfl, SqT.of ha, atI_nat (j := 0) rfl, rfl, _, rfl, iteB (by decide +kernel) ?_⟩
      refine ⟨(by show 2 ≤ sizeLine; decide), fun o no => ?_⟩
      have s1 := same_new (o := .lst [V.non, V.str "int"]) no
      obtain ⟨dx, td, ta, xs, ys, h1, h2, h3, h4, h5⟩ := hS.same s1
      have lx : xs.length = ds.length := by
        have := h3.1
        rwa [List.length_map] at this
      refine ⟨_, rfl, a, _, 1, .str n, rfl, rfl, SqT.of (s1 _ _ ha), atI_nat (j := 1) rfl, ?_⟩
      refine ⟨_, rfl, s', C, dx, _, .ref td, rfl, h1, S.cl, S.nD, rfl, td, rfl, ⟨_, SqT.of h2⟩, fun D nD => ?_⟩
      refine lc_it (walk_tup (xs := xs)) (fun i H3 => Same (upd H o (.lst [V.non, V.str "int"])) H3 ∧ H3 D = some (.lst (((ds.take i).map (·.n)).map V.str))) ⟨same_new nD, upd_same⟩ (fun _ _ _ z => SqT.of (z.1 _ _ h2)) ?_ ?_
      · rintro i x H3 H' hi ⟨sm, hD⟩ ⟨rfl, hxi⟩
        have hi2 : i < ds.length := by omega
        obtain ⟨b, e1, e2⟩ := h3.2 i ds[i].v (by rw [List.getElem?_map, List.getElem?_eq_getElem hi2]; rfl)
        obtain rfl : x = .ref b := Option.some.inj (hxi.symm.trans e1)
        refine ⟨rfl, ?_⟩
        dsimp only [tYes]
        rw [if_pos rfl]
        refine ⟨_, rfl, b, _, 0, .str ds[i].n, rfl, rfl, SqT.of (sm _ _ e2), atI_nat (j := 0) rfl, _, hD, ?_, same_put sm nD, ?_⟩
        · rw [List.length_map, List.length_map, List.length_take]
          have := gk.1
          exact small1000 (by omega)
        · rw [upd_same, List.take_add_one, List.getElem?_eq_getElem hi2, List.map_append, List.map_append]
          rfl
      · rintro H3 ⟨sm, hD⟩
        rw [lx, List.take_length] at hD
        refine ⟨D, _, rfl, .inl (.inl (.inl hD)), rfl, flat_strs _, .inr ⟨_, rfl, ?_⟩⟩
        have e0 : inV (.str n) ((ds.map (·.n)).map V.str) = decide (n ∈ ds.map (·.n)) := inV_str _ _
        have ho := sm _ _ upd_same
        by_cases hm : n ∈ ds.map (·.n)
        · have e2 : leafK ds ts (.dim n) = some .i := if_pos hm
          rw [e2] at q
          refine ⟨o, _, _, .str "int", rfl, rfl, .inl (.inl ho), ?_, q _ (s1.trans sm)⟩
          rw [if_pos (by show inV _ _ = true; rw [e0, decide_eq_true hm])]
          exact atI_nat (j := 1) rfl
        · have e2 : leafK ds ts (.dim n) = none := if_neg hm
          rw [e2] at q
          refine ⟨o, _, _, .non, rfl, rfl, .inl (.inl ho), ?_, q _ (s1.trans sm)⟩
          rw [if_neg (by show ¬ inV _ _ = true; rw [e0, decide_eq_false hm]; decide)]
          exact atI_nat (j := 0) rfl
    | @val a k v ha =>
      refine ⟨_, rfl, a, _, 0, _, rfl, rfl, SqT.of ha, atI_nat (j := 0) rfl, rfl, _, rfl, iteBF (by decide +kernel) ?_⟩
      refine ⟨_, rfl, a, _, 0, _, rfl, rfl, SqT.of ha, atI_nat (j := 0) rfl, rfl, _, rfl, iteBF (by decide +kernel) ?_⟩
      refine ⟨_, rfl, a, _, rfl, SqT.of ha, rfl, _, _, rfl, _, _, rfl, _, _, rfl, rfl, ?_⟩
      refine ⟨_, rfl, rfl, ?_⟩
      refine ⟨fun σ H3 => ∃ y3 y7 y8, σ = [some (.ref a), some (.ref s'), some (.str k), y3, some (.str "value"), some v, some (.bl (leafK ds ts (.val k v)).isSome), y7, y8] ∧ H3 = H, ?_, ?_⟩
      · have unI : kdOf "int" = some .i := kdOf_S .i
        have unF : kdOf "flag" = some .f := kdOf_S .f
        have unT : kdOf "text" = some .t := kdOf_S .t
        have lk : ∀ q, kdOf k = some q → leafK ds ts (.val k v) = if v = .non ∨ isVal q v = true then some q else none := fun q e => by
          show (kdOf k).bind _ = _
          rw [e]
          rfl
        refine ⟨_, rfl, rfl, _, rfl, ?_⟩
        rw [str_eq]
        by_cases k1 : k = "int"
        · refine iteB (decide_eq_true k1) ?_
          have e := lk .i (by rw [k1, unI])
          rcases wf.1 with rfl | ⟨n, rfl⟩ | ⟨b, rfl⟩ | ⟨z, rfl, hz1, hz2⟩
          · refine ⟨_, rfl, _, rfl, iteB (decide_eq_true rfl) ⟨none, none, none, ?_, rfl⟩⟩
            rw [e, if_pos (.inl rfl)]
            rfl
          · refine ⟨_, rfl, _, rfl, iteBF (by rfl) ?_⟩
            refine ⟨_, rfl, _, .ty "int", .type "int", .type "int", true, rfl, .ty _, .base (.int n), kit_ty (by decide +kernel), _, rfl, iteT ?_⟩
            refine ⟨_, rfl, _, .ty "bool", .type "int", .type "bool", false, rfl, .ty _, .base (.int n), kit_ty (by decide +kernel), false, rfl, true, rfl, iteT ?_⟩
            refine ⟨10, 30, rfl, rfl, ⟨by decide, by decide, by decide⟩, _, rfl, _, rfl, _, n, rfl, rfl, _, rfl, ?_⟩
            have ei : leafK ds ts (.val k (.int n)) = if (decide (-(10 ^ 30 : Int) < n) && decide (n < 10 ^ 30)) = true then some .i else none := by
              rw [e]
              by_cases c : isVal .i (.int n) = true
              · rw [if_pos (.inr c)]
                exact (if_pos c).symm
              · rw [if_neg fun z => z.elim (fun z => nomatch z) c]
                exact (if_neg c).symm
            by_cases c1 : -(10 ^ 30 : Int) < n
            · refine iteB (decide_eq_true c1) ⟨10, 30, rfl, rfl, ⟨by decide, by decide, by decide⟩, n, _, rfl, rfl, none, none, none, ?_, rfl⟩
              rw [ei, decide_eq_true c1, Bool.true_and]
              by_cases c2 : n < 10 ^ 30
              · rw [if_pos (decide_eq_true c2)]
                show [some (V.ref a), some (V.ref s'), some (V.str k), none, some (V.str "value"), some (V.int n), some (V.bl (decide (n < (10 : Int) ^ (30 : Int).toNat))), none, none] = _
                rw [show decide (n < (10 : Int) ^ (30 : Int).toNat) = true from decide_eq_true c2]
                rfl
              · rw [if_neg (by rw [decide_eq_false c2]; decide)]
                show [some (V.ref a), some (V.ref s'), some (V.str k), none, some (V.str "value"), some (V.int n), some (V.bl (decide (n < (10 : Int) ^ (30 : Int).toNat))), none, none] = _
                rw [show decide (n < (10 : Int) ^ (30 : Int).toNat) = false from decide_eq_false c2]
                rfl
            · refine iteBF (decide_eq_false c1) ⟨none, none, none, ?_, rfl⟩
              rw [ei, decide_eq_false c1, Bool.false_and]
              rfl
          · refine ⟨_, rfl, _, rfl, iteBF (by rfl) ?_⟩
            refine ⟨_, rfl, _, .ty "int", .type "bool", .type "int", true, rfl, .ty _, .base (.bl b), kit_ty (by decide +kernel), _, rfl, iteT ?_⟩
            refine ⟨_, rfl, _, .ty "bool", .type "bool", .type "bool", true, rfl, .ty _, .base (.bl b), kit_ty (by decide +kernel), true, rfl, false, rfl, iteF ⟨none, none, none, ?_, rfl⟩⟩
            rw [e, if_neg fun z => z.elim (fun z => nomatch z) (fun z => nomatch z)]
            rfl
          · refine ⟨_, rfl, _, rfl, iteBF (by rfl) ?_⟩
            refine ⟨_, rfl, _, .ty "int", .type "str", .type "int", false, rfl, .ty _, .base (.str z), kit_ty (by decide +kernel), _, rfl, iteF ⟨none, none, none, ?_, rfl⟩⟩
            rw [e, if_neg fun z => z.elim (fun z => nomatch z) (fun z => nomatch z)]
            rfl
        refine iteBF (decide_eq_false k1) ⟨_, rfl, rfl, _, rfl, ?_⟩
        rw [str_eq]
        by_cases k2 : k = "flag"
        · refine iteB (decide_eq_true k2) ?_
          have e := lk .f (by rw [k2, unF])
          rcases wf.1 with rfl | ⟨n, rfl⟩ | ⟨b, rfl⟩ | ⟨z, rfl, hz1, hz2⟩
          · refine ⟨_, rfl, _, rfl, iteB (decide_eq_true rfl) ⟨none, none, none, ?_, rfl⟩⟩
            rw [e, if_pos (.inl rfl)]
            rfl
          · refine ⟨_, rfl, _, rfl, iteBF (by rfl) ⟨_, rfl, _, .ty "bool", .type "int", .type "bool", false, rfl, .ty _, .base (.int n), kit_ty (by decide +kernel), none, none, none, ?_, rfl⟩⟩
            rw [e, if_neg fun z => z.elim (fun z => nomatch z) (fun z => nomatch z)]
            rfl
          · refine ⟨_, rfl, _, rfl, iteBF (by rfl) ⟨_, rfl, _, .ty "bool", .type "bool", .type "bool", true, rfl, .ty _, .base (.bl b), kit_ty (by decide +kernel), none, none, none, ?_, rfl⟩⟩
            rw [e, if_pos (.inr rfl)]
            rfl
          · refine ⟨_, rfl, _, rfl, iteBF (by rfl) ⟨_, rfl, _, .ty "bool", .type "str", .type "bool", false, rfl, .ty _, .base (.str z), kit_ty (by decide +kernel), none, none, none, ?_, rfl⟩⟩
            rw [e, if_neg fun z => z.elim (fun z => nomatch z) (fun z => nomatch z)]
            rfl
        refine iteBF (decide_eq_false k2) ⟨_, rfl, rfl, _, rfl, ?_⟩
        rw [str_eq]
        by_cases k3 : k = "text"
        · have e := lk .t (by rw [k3, unT])
          refine iteB (decide_eq_true k3) ?_
          rcases wf.1 with rfl | ⟨n, rfl⟩ | ⟨b, rfl⟩ | ⟨z, rfl, hz1, hz2⟩
          · refine ⟨_, rfl, _, rfl, iteB (decide_eq_true rfl) ⟨none, none, none, ?_, rfl⟩⟩
            rw [e, if_pos (.inl rfl)]
            rfl
          · refine ⟨_, rfl, _, rfl, iteBF (by rfl) ⟨_, rfl, _, .ty "str", .type "int", .type "str", false, rfl, .ty _, .base (.int n), kit_ty (by decide +kernel), none, none, none, ?_, rfl⟩⟩
            rw [e, if_neg fun z => z.elim (fun z => nomatch z) (fun z => nomatch z)]
            rfl
          · refine ⟨_, rfl, _, rfl, iteBF (by rfl) ⟨_, rfl, _, .ty "str", .type "bool", .type "str", false, rfl, .ty _, .base (.bl b), kit_ty (by decide +kernel), none, none, none, ?_, rfl⟩⟩
            rw [e, if_neg fun z => z.elim (fun z => nomatch z) (fun z => nomatch z)]
            rfl
          · refine ⟨_, rfl, _, rfl, iteBF (by rfl) ⟨_, rfl, _, .ty "str", .type "str", .type "str", true, rfl, .ty _, .base (.str z), kit_ty (by decide +kernel), none, none, none, ?_, rfl⟩⟩
            rw [e, if_pos (.inr (by show decide _ = true; exact decide_eq_true (by omega)))]
            rfl
        · refine iteBF (decide_eq_false k3) ⟨none, none, none, ?_, rfl⟩
          have e : leafK ds ts (.val k v) = none := by
            show (kdOf k).bind _ = none
            have : kdOf k = none := by
              unfold kdOf
              rw [if_neg k1, if_neg k2, if_neg k3]
            rw [this]
            rfl
          rw [e]
          rfl
      · rintro σ H3 ⟨y3, y7, y8, rfl, rfl⟩
        refine ⟨_, rfl, (by show 2 ≤ sizeLine; decide), fun o no => ⟨_, rfl, .inr ⟨_, rfl, ?_⟩⟩⟩
        cases e : leafK ds ts (.val k v) with
        | none =>
          rw [e] at q
          exact ⟨o, _, _, .non, rfl, rfl, .inl (.inl upd_same), atI_nat (j := 0) rfl, q _ (same_new no)⟩
        | some qk =>
          rw [e] at q
          have := leaf_val e
          subst this
          exact ⟨o, _, _, .str (kdS qk), rfl, rfl, .inl (.inl upd_same), atI_nat (j := 1) rfl, q _ (same_new no)⟩
end
end K2

namespace K2
open PySem L2
def W1 : List Str := ["neg", "abs", "add", "sub", "mul", "div", "mod"]
def W2 : List Str := ["not", "and", "or"]
def L1 : List (List Kd) := [[.i], [.f], [.t]]
def L2' : List (List Kd) := L1.flatMap fun r => [.i :: r, .f :: r, .t :: r]
def L3' : List (List Kd) := L2'.flatMap fun r => [.i :: r, .f :: r, .t :: r]
def LA : List (List Kd) := [[]] ++ L1 ++ L2' ++ L3'
theorem la_in : ∀ {qs : List Kd}, qs.length ≤ 3 → qs ∈ LA
  | [], _ => by decide +kernel
  | [a], _ => by cases a <;> decide +kernel
  | [a, b], _ => by cases a <;> cases b <;> decide +kernel
  | [a, b, c], _ => by cases a <;> cases b <;> cases c <;> decide +kernel
  | _ :: _ :: _ :: _ :: _, h => by simp at h
theorem tab1 : ∀ w ∈ W1, ∀ qs ∈ LA, ar w = some qs.length → joint w qs = if qs = List.replicate qs.length .i then some .i else none := by decide +kernel
theorem tab2 : ∀ w ∈ W2, ∀ qs ∈ LA, ar w = some qs.length → joint w qs = if qs = List.replicate qs.length .f then some .f else none := by decide +kernel
theorem tabL : ∀ qs ∈ LA, ar "length" = some qs.length → joint "length" qs = if qs = [.t] then some .i else none := by decide +kernel
theorem tabJ : ∀ qs ∈ LA, ar "joined" = some qs.length → joint "joined" qs = if qs = [.t, .t] then some .t else none := by decide +kernel
theorem tabM : ∀ qs ∈ LA, joint "is missing" qs = some .f := by decide +kernel
theorem tabF : ∀ qs ∈ LA, ar "if" = some qs.length → ∃ a b c, qs = [a, b, c] ∧ joint "if" qs = if a = .f then (if b = c then some b else none) else none := by
  intro qs _ h
  have h2 : ar "if" = some 3 := by decide +kernel
  rw [h2] at h
  obtain ⟨a, b, c, rfl⟩ := three (Option.some.inj h).symm
  refine ⟨a, b, c, rfl, ?_⟩
  cases a <;> cases b <;> cases c <;> decide +kernel
theorem tabO : ∀ qs : List Kd, ar "or else" = some qs.length → ∃ a b, qs = [a, b] ∧ joint "or else" qs = if a = b then some a else none := by
  intro qs h
  have h2 : ar "or else" = some 2 := by decide +kernel
  rw [h2] at h
  obtain ⟨a, b, rfl⟩ := two (Option.some.inj h).symm
  refine ⟨a, b, rfl, ?_⟩
  cases a <;> cases b <;> decide +kernel
theorem tabC : ∀ w ∈ CMP, ∀ qs : List Kd, ar w = some qs.length → ∃ a b, qs = [a, b] ∧ joint w qs = if a = b then some .f else none := by
  intro w hw qs h
  have h2 : ∀ w ∈ CMP, ar w = some 2 := by decide +kernel
  rw [h2 w hw] at h
  obtain ⟨a, b, rfl⟩ := two (Option.some.inj h).symm
  refine ⟨a, b, rfl, ?_⟩
  have h3 : ∀ w ∈ CMP, ∀ a ∈ [Kd.i, .f, .t], ∀ b ∈ [Kd.i, .f, .t], joint w [a, b] = if a = b then some .f else none := by decide +kernel
  exact h3 w hw a (by cases a <;> decide) b (by cases b <;> decide)
def AW : List Str := [("is missing" : Str)] ++ CMP ++ [("if" : Str), "or else"] ++ SIG.map (·.1)
theorem ar_in {w : Str} {n : Nat} (h : ar w = some n) : w ∈ AW := by
  unfold ar at h
  unfold AW
  by_cases w1 : w = "is missing"
  · rw [w1]
    decide +kernel
  rw [if_neg w1] at h
  by_cases w2 : w ∈ CMP
  · exact List.mem_append_left _ (List.mem_append_left _ (List.mem_append_right _ w2))
  rw [if_neg w2] at h
  by_cases w3 : w = "if"
  · rw [w3]
    decide +kernel
  rw [if_neg w3] at h
  by_cases w4 : w = "or else"
  · rw [w4]
    decide +kernel
  rw [if_neg w4] at h
  cases e : SIG.lookup w with
  | none =>
    rw [e] at h
    cases h
  | some p => exact List.mem_append_right _ (List.mem_map.mpr ⟨_, lookup_in e, rfl⟩)
theorem aw_tab : ∀ w ∈ AW, w ∈ W1 ∨ w ∈ W2 ∨ w = "is missing" ∨ w = "length" ∨ w = "joined" ∨ w = "if" ∨ w = "or else" ∨ w ∈ CMP := by decide +kernel
def TL (a : List Kd) : PyData := .list (a.map pk)
theorem TL_shp (a : List Kd) : SeqAt.shaped (TL a) = true := by
  show (PyData.canLay0 (.list (a.map pk)) && decide (PyData.depth (.list (a.map pk)) ≤ 64)) = true
  rw [Bool.and_eq_true]
  refine ⟨by simp only [PyData.canLay0]; exact lay_ks a, decide_eq_true ?_⟩
  simp only [PyData.depth]
  rw [dep_ks]
  decide
theorem TL_eqv (a b : List Kd) : PyData.eqv (TL a) (TL b) = decide (a = b) := by
  unfold TL
  rw [PyData.eqv]
  exact eqv_ks a b
theorem rep_one (n : Nat) (k : Kd) : (List.replicate n [ks k]).flatten = (List.replicate n k).map ks := by
  induction n with
  | zero => rfl
  | succ n ih =>
    rw [List.replicate_succ, List.flatten_cons, ih, List.replicate_succ, List.map_cons]
    rfl
section
variable {P : Program} {w : World} {K : PySem.W.Frag} {mg : Str → Option Value} {base : Heap}
/-- what is taken out of [None, x] by a truth value -/
theorem pick (b : Bool) (x : V) : ∃ v, atI [V.non, x] (if b then 1 else 0) = some v ∧ v = (if b = true then x else .non) := by
  cases b
  · exact ⟨_, atI_nat (j := 0) rfl, rfl⟩
  · exact ⟨_, atI_nat (j := 1) rfl, rfl⟩
theorem scJoint : FnScope ["word", "kinds"] ["word", "kinds"] (defScope sJoint) := ⟨rfl, rfl, rfl, by decide +kernel, rfl, by decide +kernel, by decide +kernel⟩
theorem ok_joint {f : Addr} {fd : FuncData} (F : Fun K "_law_joint" "_law_joint" sJoint f fd) (M : Nm mg) : FnOk P w K mg base CX0 1 f fd ["word", "kinds"] spOver := by
  refine F.ok scJoint (fun vs H Q E h => ?_) (fun cdv A outer s H vs Q E hr h => ?_)
  · obtain ⟨wd, p, qs, rfl, _⟩ := h
    rfl
  · obtain ⟨wd, p, qs, rfl, hp, har, q⟩ := h
    refine ⟨_, pss_cons (ps_if (pt_cmpR op_in_seq (pv 0) (pe_lst (pa_cons pe_str (pa_cons pe_str (pa_cons pe_str (pa_cons pe_str (pa_cons pe_str (pa_cons pe_str (pa_cons pe_str pa_nil)))))))) (by rfl))
          (pss_one (ps_ret (pe_ix ix_list (pe_lst (pa_cons pe_non (pa_cons pe_str pa_nil))) (pe_callTy call_int1 (by rfl) M.int (by decide +kernel) (pa_cons (pe_cmpR (op_eqD hr.units) (pv 1) (pe_op op_rep (pe_lst (pa_cons pe_str pa_nil)) (pe_callB call_len_seq (by rfl) M.len PySem.boot_len (pa_cons (pv 1) pa_nil))) (nomark _)) pa_nil)) (fun _ _ => rfl)))) pss_nil)
      (pss_cons (ps_if (pt_cmpR op_in_seq (pv 0) (pe_lst (pa_cons pe_str (pa_cons pe_str (pa_cons pe_str pa_nil)))) (by rfl))
          (pss_one (ps_ret (pe_ix ix_list (pe_lst (pa_cons pe_non (pa_cons pe_str pa_nil))) (pe_callTy call_int1 (by rfl) M.int (by decide +kernel) (pa_cons (pe_cmpR (op_eqD hr.units) (pv 1) (pe_op op_rep (pe_lst (pa_cons pe_str pa_nil)) (pe_callB call_len_seq (by rfl) M.len PySem.boot_len (pa_cons (pv 1) pa_nil))) (nomark _)) pa_nil)) (fun _ _ => rfl)))) pss_nil)
      (pss_cons (ps_if (pt_cmpR op_eq (pv 0) pe_str (nomark _)) (pss_one (ps_ret pe_str)) pss_nil)
      (pss_cons (ps_if (pt_cmpR op_eq (pv 0) pe_str (nomark _))
          (pss_one (ps_ret (pe_ix ix_list (pe_lst (pa_cons pe_non (pa_cons pe_str pa_nil))) (pe_callTy call_int1 (by rfl) M.int (by decide +kernel) (pa_cons (pe_cmpR (op_eqD hr.units) (pv 1) (pe_lst (pa_cons pe_str pa_nil)) (nomark _)) pa_nil)) (fun _ _ => rfl)))) pss_nil)
      (pss_cons (ps_if (pt_cmpR op_eq (pv 0) pe_str (nomark _))
          (pss_one (ps_ret (pe_ix ix_list (pe_lst (pa_cons pe_non (pa_cons pe_str pa_nil))) (pe_callTy call_int1 (by rfl) M.int (by decide +kernel) (pa_cons (pe_cmpR (op_eqD hr.units) (pv 1) (pe_lst (pa_cons pe_str (pa_cons pe_str pa_nil))) (nomark _)) pa_nil)) (fun _ _ => rfl)))) pss_nil)
      (pss_cons (ps_if (pt_cmpR op_eq (pv 0) pe_str (nomark _))
          (pss_one (ps_ret (pe_ix ix_list (pe_lst (pa_cons pe_non (pa_cons (pe_ix ix_list (pv 1) pe_int (fun _ _ => rfl)) pa_nil))) (pe_callTy call_int1 (by rfl) M.int (by decide +kernel) (pa_cons (pe_and (pe_cmpR op_eq (pe_ix ix_list (pv 1) pe_int (fun _ _ => rfl)) pe_str (nomark _))
            (pe_one (pe_cmpR op_eq (pe_ix ix_list (pv 1) pe_int (fun _ _ => rfl)) (pe_ix ix_list (pv 1) pe_int (fun _ _ => rfl)) (nomark _)))) pa_nil)) (fun _ _ => rfl)))) pss_nil)
      (pss_cons (ps_if (pt_cmpR op_eq (pv 0) pe_str (nomark _))
          (pss_one (ps_ret (pe_ix ix_list (pe_lst (pa_cons pe_non (pa_cons (pe_ix ix_list (pv 1) pe_int (fun _ _ => rfl)) pa_nil))) (pe_callTy call_int1 (by rfl) M.int (by decide +kernel) (pa_cons (pe_cmpR op_eq (pe_ix ix_list (pv 1) pe_int (fun _ _ => rfl)) (pe_ix ix_list (pv 1) pe_int (fun _ _ => rfl)) (nomark _)) pa_nil)) (fun _ _ => rfl)))) pss_nil)
      (pss_one (ps_ret (pe_ix ix_list (pe_lst (pa_cons pe_non (pa_cons pe_str pa_nil))) (pe_callTy call_int1 (by rfl) M.int (by decide +kernel) (pa_cons (pe_cmpR op_eq (pe_ix ix_list (pv 1) pe_int (fun _ _ => rfl)) (pe_ix ix_list (pv 1) pe_int (fun _ _ => rfl)) (nomark _)) pa_nil)) (fun _ _ => rfl)))))))))), ?_⟩
    have hla := la_in (ar_le har)
    have l3 := ar_le har
    have at_ : ∀ H', Same H H' → SqL K H' p (qs.map ks) := fun H' s => .inl (.inl (s _ _ hp))
    have fin : ∀ (b : Bool) (x : Kd) (v : V) (H' : Hp), Same H H' → v = (if b = true then ks x else .non) → joint wd qs = (if b = true then some x else none) → Q v H' := fun b x v H' s e1 e2 => by
      rw [e2] at q
      rw [e1]
      cases b
      · exact q _ s
      · exact q _ s
    refine ⟨_, rfl, (by show 7 ≤ sizeLine; decide), fun o1 no1 => ?_⟩
    have s1 := same_new (o := .lst (W1.map V.str)) no1
    refine ⟨o1, _, rfl, .inl (.inl (.inl upd_same)), rfl, flat_strs W1, _, rfl, ?_⟩
    by_cases w1 : wd ∈ W1
    · refine iteB ((inV_str _ W1).trans (decide_eq_true w1)) ?_
      refine ⟨(by show 2 ≤ sizeLine; decide), fun o2 no2 => ?_⟩
      have s2 := s1.trans (same_new (o := .lst [V.non, ks .i]) no2)
      refine ⟨_, rfl, (by show 1 ≤ sizeLine; decide), fun o3 no3 => ?_⟩
      have e3 := same_new (o := .lst [ks .i]) no3
      have s3 := s2.trans e3
      refine ⟨_, rfl, p, _, rfl, .inl (.inl (.inl (s3 _ _ hp))), o3, _, _, rfl, rfl, upd_same, (by rw [List.length_map]; omega), (by rw [List.length_map]; omega), (by show 1 * _ ≤ _; rw [List.length_map, Nat.one_mul]; exact Nat.le_trans (show ((qs.length : Nat) : Int).toNat ≤ 3 by omega) (by decide)), fun o4 no4 => ?_⟩
      have er : (List.replicate (((qs.map ks).length : Nat) : Int).toNat [ks .i]).flatten = (List.replicate qs.length .i).map ks := by
        rw [rep_one, List.length_map]
        rfl
      have s4 := s3.trans (same_new (o := .lst (List.replicate (((qs.map ks).length : Nat) : Int).toNat [ks .i]).flatten) no4)
      refine ⟨TL qs, TL (List.replicate qs.length .i), .lst (.inl (.inl (s4 _ _ hp))) (TK_dp qs), .lst (.inl (.inl (by rw [upd_same]; exact congrArg (fun z => some (HO.lst z)) er))) (TK_dp _), TL_shp _, TL_shp _, .inr ⟨_, rfl, ?_⟩⟩
      rw [TL_eqv]
      obtain ⟨v, hv, ev⟩ := pick (decide (qs = List.replicate qs.length .i)) (ks .i)
      refine ⟨o2, _, _, v, rfl, rfl, .inl (.inl (same_new no4 _ _ (e3 _ _ upd_same))), hv, ?_⟩
      refine fin _ .i v _ s4 ev ?_
      rw [tab1 wd w1 qs hla har]
      by_cases c : qs = List.replicate qs.length .i
      · rw [if_pos c, if_pos (decide_eq_true c)]
      · rw [if_neg c, if_neg (by rw [decide_eq_false c]; decide)]
    refine iteBF ((inV_str _ W1).trans (decide_eq_false w1)) ?_
    refine ⟨_, rfl, (by show 3 ≤ sizeLine; decide), fun o5 no5 => ?_⟩
    have s5 := s1.trans (same_new (o := .lst (W2.map V.str)) no5)
    refine ⟨o5, _, rfl, .inl (.inl (.inl upd_same)), rfl, flat_strs W2, _, rfl, ?_⟩
    by_cases w2 : wd ∈ W2
    · refine iteB ((inV_str _ W2).trans (decide_eq_true w2)) ?_
      refine ⟨(by show 2 ≤ sizeLine; decide), fun o2 no2 => ?_⟩
      have s2 := s5.trans (same_new (o := .lst [V.non, ks .f]) no2)
      refine ⟨_, rfl, (by show 1 ≤ sizeLine; decide), fun o3 no3 => ?_⟩
      have e3 := same_new (o := .lst [ks .f]) no3
      have s3 := s2.trans e3
      refine ⟨_, rfl, p, _, rfl, .inl (.inl (.inl (s3 _ _ hp))), o3, _, _, rfl, rfl, upd_same, (by rw [List.length_map]; omega), (by rw [List.length_map]; omega), (by show 1 * _ ≤ _; rw [List.length_map, Nat.one_mul]; exact Nat.le_trans (show ((qs.length : Nat) : Int).toNat ≤ 3 by omega) (by decide)), fun o4 no4 => ?_⟩
      have er : (List.replicate (((qs.map ks).length : Nat) : Int).toNat [ks .f]).flatten = (List.replicate qs.length .f).map ks := by
        rw [rep_one, List.length_map]
        rfl
      have s4 := s3.trans (same_new (o := .lst (List.replicate (((qs.map ks).length : Nat) : Int).toNat [ks .f]).flatten) no4)
      refine ⟨TL qs, TL (List.replicate qs.length .f), .lst (.inl (.inl (s4 _ _ hp))) (TK_dp qs), .lst (.inl (.inl (by rw [upd_same]; exact congrArg (fun z => some (HO.lst z)) er))) (TK_dp _), TL_shp _, TL_shp _, .inr ⟨_, rfl, ?_⟩⟩
      rw [TL_eqv]
      obtain ⟨v, hv, ev⟩ := pick (decide (qs = List.replicate qs.length .f)) (ks .f)
      refine ⟨o2, _, _, v, rfl, rfl, .inl (.inl (same_new no4 _ _ (e3 _ _ upd_same))), hv, ?_⟩
      refine fin _ .f v _ s4 ev ?_
      rw [tab2 wd w2 qs hla har]
      by_cases c : qs = List.replicate qs.length .f
      · rw [if_pos c, if_pos (decide_eq_true c)]
      · rw [if_neg c, if_neg (by rw [decide_eq_false c]; decide)]
    refine iteBF ((inV_str _ W2).trans (decide_eq_false w2)) ?_
    have sp := at_ _ s5
    refine ⟨_, rfl, rfl, _, rfl, ?_⟩
    rw [str_eq]
    by_cases w3 : wd = "is missing"
    · rw [w3, tabM qs hla] at q
      exact iteB (decide_eq_true w3) (q _ s5)
    refine iteBF (decide_eq_false w3) ?_
    refine ⟨_, rfl, rfl, _, rfl, ?_⟩
    rw [str_eq]
    by_cases w4 : wd = "length"
    · refine iteB (decide_eq_true w4) ?_
      refine ⟨(by show 2 ≤ sizeLine; decide), fun o2 no2 => ?_⟩
      have s2 := s5.trans (same_new (o := .lst [V.non, ks .i]) no2)
      refine ⟨_, rfl, (by show 1 ≤ sizeLine; decide), fun o3 no3 => ?_⟩
      have e3 := same_new (o := .lst ([.t].map ks)) no3
      have s3 := s2.trans e3
      refine ⟨TL qs, TL [.t], .lst (.inl (.inl (s3 _ _ hp))) (TK_dp qs), .lst (.inl (.inl upd_same)) (TK_dp [.t]), TL_shp _, TL_shp _, .inr ⟨_, rfl, ?_⟩⟩
      rw [TL_eqv]
      obtain ⟨v, hv, ev⟩ := pick (decide (qs = [.t])) (ks .i)
      refine ⟨o2, _, _, v, rfl, rfl, .inl (.inl (e3 _ _ upd_same)), hv, ?_⟩
      refine fin _ .i v _ s3 ev ?_
      rw [w4] at har ⊢
      rw [tabL qs hla har]
      by_cases c : qs = [.t]
      · rw [if_pos c, if_pos (decide_eq_true c)]
      · rw [if_neg c, if_neg (by rw [decide_eq_false c]; decide)]
    refine iteBF (decide_eq_false w4) ?_
    refine ⟨_, rfl, rfl, _, rfl, ?_⟩
    rw [str_eq]
    by_cases w5 : wd = "joined"
    · refine iteB (decide_eq_true w5) ?_
      refine ⟨(by show 2 ≤ sizeLine; decide), fun o2 no2 => ?_⟩
      have s2 := s5.trans (same_new (o := .lst [V.non, ks .t]) no2)
      refine ⟨_, rfl, (by show 2 ≤ sizeLine; decide), fun o3 no3 => ?_⟩
      have e3 := same_new (o := .lst ([.t, .t].map ks)) no3
      have s3 := s2.trans e3
      refine ⟨TL qs, TL [.t, .t], .lst (.inl (.inl (s3 _ _ hp))) (TK_dp qs), .lst (.inl (.inl upd_same)) (TK_dp [.t, .t]), TL_shp _, TL_shp _, .inr ⟨_, rfl, ?_⟩⟩
      rw [TL_eqv]
      obtain ⟨v, hv, ev⟩ := pick (decide (qs = [.t, .t])) (ks .t)
      refine ⟨o2, _, _, v, rfl, rfl, .inl (.inl (e3 _ _ upd_same)), hv, ?_⟩
      refine fin _ .t v _ s3 ev ?_
      rw [w5] at har ⊢
      rw [tabJ qs hla har]
      by_cases c : qs = [.t, .t]
      · rw [if_pos c, if_pos (decide_eq_true c)]
      · rw [if_neg c, if_neg (by rw [decide_eq_false c]; decide)]
    refine iteBF (decide_eq_false w5) ?_
    refine ⟨_, rfl, rfl, _, rfl, ?_⟩
    rw [str_eq]
    by_cases w6 : wd = "if"
    · refine iteB (decide_eq_true w6) ?_
      rw [w6] at har fin
      obtain ⟨a, b, c, rfl, hj⟩ := tabF qs hla har
      refine ⟨_, rfl, p, _, 1, ks b, rfl, rfl, sp, atI_nat (j := 1) rfl, (by show 2 ≤ sizeLine; decide), fun o2 no2 => ?_⟩
      have s2 := s5.trans (same_new (o := .lst [V.non, ks b]) no2)
      have sp2 := at_ _ s2
      refine ⟨_, rfl, p, _, 0, ks a, rfl, rfl, sp2, atI_nat (j := 0) rfl, rfl, _, rfl, ?_⟩
      have ef : decide (ks a = .str ("flag" : Str)) = decide (a = .f) := ks_eq a .f
      rw [ef]
      by_cases e : a = .f
      · refine iteB (decide_eq_true e) ⟨_, rfl, p, _, 1, ks b, rfl, rfl, sp2, atI_nat (j := 1) rfl, _, rfl, p, _, 2, ks c, rfl, rfl, sp2, atI_nat (j := 2) rfl, rfl, .inr ⟨_, rfl, ?_⟩⟩
        rw [ks_eq]
        obtain ⟨v, hv, ev⟩ := pick (decide (b = c)) (ks b)
        refine ⟨o2, _, _, v, rfl, rfl, .inl (.inl upd_same), hv, fin _ b v _ s2 ev ?_⟩
        rw [hj, if_pos e]
        by_cases e2 : b = c
        · rw [if_pos e2, if_pos (decide_eq_true e2)]
        · rw [if_neg e2, if_neg (by rw [decide_eq_false e2]; decide)]
      · refine iteBF (decide_eq_false e) (.inr ⟨false, rfl, o2, _, _, .non, rfl, rfl, .inl (.inl upd_same), atI_nat (j := 0) rfl, fin false b _ _ s2 rfl ?_⟩)
        rw [hj, if_neg e]
        rfl
    refine iteBF (decide_eq_false w6) ⟨_, rfl, rfl, _, rfl, ?_⟩
    rw [str_eq]
    by_cases w7 : wd = "or else"
    · refine iteB (decide_eq_true w7) ?_
      rw [w7] at har fin
      obtain ⟨a, b, rfl, hj⟩ := tabO qs har
      refine ⟨_, rfl, p, _, 0, ks a, rfl, rfl, sp, atI_nat (j := 0) rfl, (by show 2 ≤ sizeLine; decide), fun o2 no2 => ?_⟩
      have s2 := s5.trans (same_new (o := .lst [V.non, ks a]) no2)
      have sp2 := at_ _ s2
      refine ⟨_, rfl, p, _, 0, ks a, rfl, rfl, sp2, atI_nat (j := 0) rfl, _, rfl, p, _, 1, ks b, rfl, rfl, sp2, atI_nat (j := 1) rfl, rfl, .inr ⟨_, rfl, ?_⟩⟩
      rw [ks_eq]
      obtain ⟨v, hv, ev⟩ := pick (decide (a = b)) (ks a)
      refine ⟨o2, _, _, v, rfl, rfl, .inl (.inl upd_same), hv, fin _ a v _ s2 ev ?_⟩
      rw [hj]
      by_cases e2 : a = b
      · rw [if_pos e2, if_pos (decide_eq_true e2)]
      · rw [if_neg e2, if_neg (by rw [decide_eq_false e2]; decide)]
    refine iteBF (decide_eq_false w7) ?_
    have wc : wd ∈ CMP := by
      rcases aw_tab wd (ar_in har) with h | h | h | h | h | h | h | h
      · exact absurd h w1
      · exact absurd h w2
      · exact absurd h w3
      · exact absurd h w4
      · exact absurd h w5
      · exact absurd h w6
      · exact absurd h w7
      · exact h
    obtain ⟨a, b, rfl, hj⟩ := tabC wd wc qs har
    refine ⟨(by show 2 ≤ sizeLine; decide), fun o2 no2 => ?_⟩
    have s2 := s5.trans (same_new (o := .lst [V.non, ks .f]) no2)
    have sp2 := at_ _ s2
    refine ⟨_, rfl, p, _, 0, ks a, rfl, rfl, sp2, atI_nat (j := 0) rfl, _, rfl, p, _, 1, ks b, rfl, rfl, sp2, atI_nat (j := 1) rfl, rfl, .inr ⟨_, rfl, ?_⟩⟩
    rw [ks_eq]
    obtain ⟨v, hv, ev⟩ := pick (decide (a = b)) (ks .f)
    refine ⟨o2, _, _, v, rfl, rfl, .inl (.inl upd_same), hv, fin _ .f v _ s2 ev ?_⟩
    rw [hj]
    by_cases e2 : a = b
    · rw [if_pos e2, if_pos (decide_eq_true e2)]
    · rw [if_neg e2, if_neg (by rw [decide_eq_false e2]; decide)]
end
end K2

namespace K2
open PySem L2
section
variable {P : Program} {w : World} {K : PySem.W.Frag} {mg : Str → Option Value} {base : Heap}
def spLKind (C : Addr) (n : Nat) : Sp := fun vs H Q _ => ∃ (r : V) (s : Addr) (m : Nat) (e : Ex) (ds : List D) (ts : List T), vs = [r, .ref s, .int (m : Int)] ∧ ExAt H r e ∧ WF e ∧ e.dep < n ∧ ShapeAt H C s ds ts ∧ GoodK ds ts ∧
  ∀ H' p, Same H H' → H p = none → H' p = some (.tup (res (ck ds ts e m))) → Q (.ref p) H'
theorem scLKind : FnScope ["expression", "shape", "number", "kind", "kinds", "at", "part", "told"] ["expression", "shape", "number"] (defScope sLKind) := ⟨rfl, rfl, rfl, by decide +kernel, rfl, by decide +kernel, by decide +kernel⟩
theorem ok_lkind {f fL fJ fC C : Addr} {fd fdL fdJ fdC : FuncData} (F : Fun K "_law_kind" "_law_kind" sLKind f fd) (gF : mg "_law_kind" = some (.ref f)) (bF : Binds K fd ["expression", "shape", "number"] [])
    (GL : FnOk P w K mg base CX0 1 fL fdL ["expression", "shape"] (spLeafKind C)) (kL : PySem.W.keepIn K (.ref fL) = true) (bL : Binds K fdL ["expression", "shape"] []) (gL : mg "_law_leaf_kind" = some (.ref fL))
    (GJ : FnOk P w K mg base CX0 1 fJ fdJ ["word", "kinds"] spOver) (kJ : PySem.W.keepIn K (.ref fJ) = true) (bJ : Binds K fdJ ["word", "kinds"] []) (gJ : mg "_law_joint" = some (.ref fJ))
    (GC : ∀ n, FnOk P w K mg base CX0 (1 + n) fC fdC ["expression"] (spCount n)) (kC : PySem.W.keepIn K (.ref fC) = true) (bC : Binds K fdC ["expression"] []) (gC : mg "_law_count" = some (.ref fC)) :
    ∀ n : Nat, FnOk P w K mg base CX0 (2 + n) f fd ["expression", "shape", "number"] (spLKind C n) := by
  intro n
  induction n with
  | zero =>
    refine F.ok scLKind (fun vs H Q E h => ?_) (fun cdv A outer s H vs Q E hr h => ?_)
    · obtain ⟨r, s, m, e, ds, ts, rfl, _⟩ := h
      rfl
    · obtain ⟨r, s', m, e, ds, ts, rfl, he, wf, hd, _⟩ := h
      exact absurd hd (Nat.not_lt_zero _)
  | succ n ih =>
    have GCn := GC n
    refine F.ok scLKind (fun vs H Q E h => ?_) (fun cdv A outer s H vs Q E hr h => ?_)
    · obtain ⟨r, s, m, e, ds, ts, rfl, _⟩ := h
      rfl
    · obtain ⟨r, s', m, e, ds, ts, rfl, he, wf, hd, hS, gk, q⟩ := h
      have hr1 := hr.mono (j := 1) (by show 1 ≤ 2 + n; omega)
      have hrc := hr.mono (j := 1 + n) (by show 1 + n ≤ 2 + n; omega)
      have hrn := hr.mono (j := 2 + n) (by show 2 + n ≤ 2 + n; omega)
      refine ⟨_, pss_cons (ps_if (pt_cmpR op_in_seq (pe_ix ix_tup (pv 0) pe_int (fun _ _ => rfl)) (pe_lst (pa_cons pe_str (pa_cons pe_str (pa_cons pe_str pa_nil)))) (by rfl))
            (pss_cons (ps_set (i := 3) scLKind.nd rfl (.inl rfl) (pe_call GL hr1 (by rfl) gL kL bL .nil pass0 (pa_cons (pv 0) (pa_cons (pv 1) pa_nil))))
            (pss_cons (ps_if (pt_cmpR op_isN (pv 3) pe_non (nomark _)) (pss_one (ps_ret (pe_tup (pa_cons pe_str (pa_cons (pv 2) pa_nil))))) pss_nil)
            (pss_one (ps_ret (pe_tup (pa_cons pe_str (pa_cons (pv 3) pa_nil))))))) pss_nil)
        (pss_cons (ps_set (i := 4) scLKind.nd rfl (.inl rfl) (pe_lst pa_nil)) (pss_cons (ps_set (i := 5) scLKind.nd rfl (.inl rfl) (pe_op op_add (pv 2) pe_int))
        (pss_cons (ps_for PassesOwn.never rfl (pi_tup (pe_slice sl_tup (pv 0) (po_some pe_int) po_none)) (pg_name (i := 6) scLKind.nd rfl (.inl rfl))
            (pss_cons (ps_set (i := 7) scLKind.nd rfl (.inl rfl) (pe_call ih hrn (by rfl) gF F.kp bF .nil pass0 (pa_cons (pv 6) (pa_cons (pv 1) (pa_cons (pv 5) pa_nil)))))
            (pss_cons (ps_if (pt_cmpR op_eq (pe_ix ix_tup (pv 7) pe_int (fun _ _ => rfl)) pe_str (nomark _)) (pss_one (ps_ret (pv 7))) pss_nil)
            (pss_cons (ps_expr (pe_bm PySem.F.plainAttrs_list PySem.F.slot_list_append PySem.F.type_list_append mt_append (pv 4) (pa_cons (pe_ix ix_tup (pv 7) pe_int (fun _ _ => rfl)) pa_nil)))
            (pss_one (ps_set (i := 5) scLKind.nd rfl (.inl rfl) (pe_op op_add (pv 5) (pe_call GCn hrc (by rfl) gC kC bC .nil pass0 (pa_cons (pv 6) pa_nil)))))))))
        (pss_cons (ps_set (i := 3) scLKind.nd rfl (.inl rfl) (pe_call GJ hr1 (by rfl) gJ kJ bJ .nil pass0 (pa_cons (pe_ix ix_tup (pv 0) pe_int (fun _ _ => rfl)) (pa_cons (pv 4) pa_nil))))
        (pss_cons (ps_if (pt_cmpR op_isN (pv 3) pe_non (nomark _)) (pss_one (ps_ret (pe_tup (pa_cons pe_str (pa_cons (pv 2) pa_nil))))) pss_nil)
        (pss_one (ps_ret (pe_tup (pa_cons pe_str (pa_cons (pv 3) pa_nil)))))))))), ?_⟩
      have hpl := parts_le wf he
      have he0 := he
      obtain ⟨a, xs, rfl, ha, h1, h2⟩ := he.tup
      refine ⟨_, rfl, a, _, 0, _, rfl, rfl, SqT.of ha, atI_nat (j := 0) rfl, (by show 3 ≤ sizeLine; decide), fun o no => ?_⟩
      have s1 := same_new (o := .lst [V.str "value", V.str "attr", V.str "dim"]) no
      refine ⟨o, _, rfl, .inl (.inl (.inl upd_same)), rfl, flat_strs LV, _, rfl, ?_⟩
      by_cases hw : e.word ∈ LV
      · refine iteB ((inV_str _ LV).trans (decide_eq_true hw)) ?_
        refine ⟨_, rfl, _, rfl, _, s', e, ds, ts, rfl, he.same s1, hw, wf, hS.same s1, gk, fun H3 s3 => ?_⟩
        have s13 := s1.trans s3
        refine ⟨_, rfl, rfl, _, rfl, ?_⟩
        rw [kv_non]
        rw [ck_leaf hw he] at q
        cases eo : leafK ds ts e with
        | none =>
          rw [eo] at q
          exact iteB rfl ⟨_, rfl, (by show 2 ≤ sizeLine; decide), fun t nt => q _ t (s13.trans (same_new nt)) (s13.free nt) upd_same⟩
        | some k =>
          rw [eo] at q
          exact iteBF rfl ⟨_, rfl, (by show 2 ≤ sizeLine; decide), fun t nt => q _ t (s13.trans (same_new nt)) (s13.free nt) upd_same⟩
      refine iteBF ((inV_str _ LV).trans (decide_eq_false hw)) ⟨Nat.zero_le _, fun nl nn => ?_⟩
      have s2 := s1.trans (same_new (o := .lst []) nn)
      refine ⟨_, rfl, (m : Int), 1, rfl, rfl, ?_⟩
      refine ⟨_, rfl, 1, rfl, a, _, rfl, SqT.of (s2 _ _ ha), cut1_not _ _, fun p np => ?_⟩
      rw [cut1]
      have s3 := s2.trans (same_new (o := .tup xs) np)
      have hx0 := h1 hw
      have lx := hx0.len
      have nl0 : H nl = none := s1.free nn
      refine ⟨p, rfl, ⟨_, SqT.of upd_same⟩, ?_⟩
      refine for_tup (xs := xs) (fun i σ H3 => ∃ (qs : List Kd) (y6 y7 : Option V), σ = [some (.ref a), some (.ref s'), some (.int (m : Int)), none, some (.ref nl), some (.int ((m + 1 + Ex.sizes (e.parts.take i) : Nat) : Int)), y6, y7] ∧ Same H H3 ∧ H3 p = some (.tup xs) ∧
        H3 nl = some (.lst (qs.map ks)) ∧ qs.length = i ∧ cks ds ts (e.parts.take i) (m + 1) = .ok qs ∧ ExAll H3 xs e.parts) ?_ ?_ ?_ ?_
      · exact ⟨[], _, _, rfl, s3, upd_same, same_new np _ _ upd_same, rfl, by rw [List.take_zero, cks], hx0.same s3⟩
      · rintro i σ H3 hi ⟨qs, y6, y7, rfl, sm, hp3, _⟩
        exact SqT.of hp3
      · rintro i x σ H3 hxi ⟨qs, y6, y7, rfl, sm, hp3, hnl3, hq, hck, hx3⟩
        have hi : i < xs.length := (List.getElem?_eq_some_iff.mp hxi).1
        have hi2 : i < e.parts.length := by omega
        obtain ⟨v, e1, e2⟩ := hx3.at (List.getElem?_eq_getElem hi2)
        obtain rfl : x = v := Option.some.inj (hxi.symm.trans e1)
        have hm : e.parts[i] ∈ e.parts := List.getElem_mem hi2
        have hdp := dep_part hm
        refine ⟨_, rfl, _, rfl, _, rfl, x, s', m + 1 + Ex.sizes (e.parts.take i), e.parts[i], ds, ts, rfl, e2, wf.part hm, by omega, hS.same sm, gk, fun H4 t s4 nt ht => ?_⟩
        cases hc : ck ds ts e.parts[i] (m + 1 + Ex.sizes (e.parts.take i)) with
        | error j =>
          rw [hc] at ht
          refine ⟨_, rfl, t, _, 0, .str "wrong", rfl, rfl, SqT.of ht, atI_nat (j := 0) rfl, rfl, _, rfl, iteB (by decide +kernel) ⟨_, rfl, ?_⟩⟩
          refine q _ t (sm.trans s4) (sm.free nt) ?_
          rw [ht, ck_op hw he, cks_bad hi2 hck hc]
        | ok k =>
          rw [hc] at ht
          refine ⟨_, rfl, t, _, 0, .str "kind", rfl, rfl, SqT.of ht, atI_nat (j := 0) rfl, rfl, _, rfl, iteBF (by decide +kernel) ?_⟩
          have hnl4 := s4 _ _ hnl3
          refine ⟨_, rfl, .inl ⟨rfl, _, .inl (.inl hnl4)⟩, _, rfl, t, _, 1, ks k, rfl, rfl, SqT.of ht, atI_nat (j := 1) rfl, nl, _, _, rfl, rfl, hnl4, ?_, ?_⟩
          · rw [List.length_map]
            exact small1000 (by omega)
          · have k4 : ∀ b r, H4 b = some (.tup r) → (upd H4 nl (.lst (qs.map ks ++ [ks k]))) b = some (.tup r) := fun b r hb => by
              rw [upd_ne]
              · exact hb
              · intro z
                rw [z, hnl4] at hb
                cases hb
            have hx5 := (hx3.same s4).keep k4
            obtain ⟨v5, e5, e6⟩ := hx5.at (List.getElem?_eq_getElem hi2)
            obtain rfl : x = v5 := Option.some.inj (hxi.symm.trans e5)
            refine ⟨_, rfl, _, rfl, x, e.parts[i], rfl, e6, wf.part hm, by omega, fun H6 s6 => ⟨_, _, rfl, rfl, ?_⟩⟩
            refine ⟨qs ++ [k], some x, some (.ref t), ?_, (same_put (sm.trans s4) nl0).trans s6, s6 _ _ (k4 _ _ (s4 _ _ hp3)), ?_, ?_, cks_ok hi2 hck hc, hx5.same s6⟩
            · have : ((m + 1 + Ex.sizes (e.parts.take i) : Nat) : Int) + (e.parts[i].size : Int) = ((m + 1 + Ex.sizes (e.parts.take (i + 1)) : Nat) : Int) := by
                rw [take_at hi2, sizes_app, Ex.sizes, Ex.sizes]
                omega
              rw [← this]
              rfl
            · rw [s6 _ _ upd_same, List.map_append]
              rfl
            · rw [List.length_append, hq]
              rfl
      · rintro σ H3 ⟨qs, y6, y7, rfl, sm, hp3, hnl3, hq, hck, hx3⟩
        rw [lx, List.take_length] at hck
        refine ⟨_, rfl, a, _, 0, _, rfl, rfl, SqT.of (sm _ _ ha), atI_nat (j := 0) rfl, _, rfl, e.word, nl, qs, rfl, hnl3, by rw [wf.ar he0 hw, hq, lx], fun H5 s5 => ?_⟩
        have s35 := sm.trans s5
        refine ⟨_, rfl, rfl, _, rfl, ?_⟩
        rw [kv_non]
        rw [ck_op hw he, hck] at q
        cases eo : joint e.word qs with
        | none =>
          have q2 : ∀ H' p, Same H H' → H p = none → H' p = some (.tup [.str "wrong", .int (m : Int)]) → Q (.ref p) H' := by
            intro H' p u1 u2 u3
            refine q H' p u1 u2 ?_
            rw [u3]
            simp only [eo]
            rfl
          exact iteB rfl ⟨_, rfl, (by show 2 ≤ sizeLine; decide), fun t nt => q2 _ t (s35.trans (same_new nt)) (s35.free nt) upd_same⟩
        | some k =>
          have q2 : ∀ H' p, Same H H' → H p = none → H' p = some (.tup [.str "kind", ks k]) → Q (.ref p) H' := by
            intro H' p u1 u2 u3
            refine q H' p u1 u2 ?_
            rw [u3]
            simp only [eo]
            rfl
          exact iteBF rfl ⟨_, rfl, (by show 2 ≤ sizeLine; decide), fun t nt => q2 _ t (s35.trans (same_new nt)) (s35.free nt) upd_same⟩
end
end K2

namespace K2
open PySem L2
theorem str_in {ms : List Str} {xs : List V} {n : Int} (e : xs = ms.map V.str) (h0 : 0 ≤ n) (h1 : n < ms.length) : ∃ m ∈ ms, atI xs n = some (.str m) := by
  obtain ⟨j, rfl⟩ : ∃ j : Nat, n = (j : Int) := ⟨_, (Int.toNat_of_nonneg h0).symm⟩
  have hj : j < ms.length := by omega
  refine ⟨ms[j], List.getElem_mem hj, atI_nat ?_⟩
  rw [e, List.getElem?_map, List.getElem?_eq_getElem hj]
  rfl
/-- rows stay: no tuple is the state -/
theorem Rows.kp {d l : Addr} {H H1 : Hp} {xs : List V} {rs : List (List V)} (h : Rows H xs rs) (S : StAt H d l) (k : Kp d l H H1) : Rows H1 xs rs := by
  obtain ⟨ns, z, h1, _⟩ := S.ex
  refine h.keep fun a r e => k.keep _ _ e fun z => ?_
  rw [z, h1] at e
  cases e
structure Acc (d l p : Addr) (xs : List V) (rs : List (List V)) (H H1 : Hp) : Prop where
  k : Kp d l H H1
  p : H1 p = some (.lst xs)
  r : Rows H1 xs rs
section
variable {d l p : Addr} {xs : List V} {rs : List (List V)} {H H1 H2 : Hp}
theorem Acc.kp (a : Acc d l p xs rs H H1) (k : Kp d l H1 H2) : Acc d l p xs rs H H2 := by
  obtain ⟨ns, z, h1, _⟩ := a.k.st.ex
  refine ⟨a.k.trans k, k.keep _ _ a.p fun z => ?_, a.r.kp a.k.st k⟩
  have := a.p
  rw [z, h1] at this
  cases this
theorem Acc.new {o : Addr} {ob : HO} (a : Acc d l p xs rs H H1) (h : H1 o = none) : Acc d l p xs rs H (upd H1 o ob) :=
  ⟨a.k.new h, same_new h _ _ a.p, a.r.same (same_new h)⟩
theorem Acc.push {o : Addr} {r : List V} (a : Acc d l p xs rs H H1) (n : H p = none) (nd : p ≠ d ∧ p ≠ l) (e : H1 o = some (.tup r)) : Acc d l p (xs ++ [.ref o]) (rs ++ [r]) H (upd H1 p (.lst (xs ++ [.ref o]))) := by
  refine ⟨a.k.put n nd, upd_same, (a.r.push e).keep fun b q hb => ?_⟩
  rw [upd_ne]
  · exact hb
  · intro z
    have := a.p
    rw [← z, hb] at this
    cases this
end
theorem cutn {α : Type} (f : α → V) (ns : List α) (m : Nat) : cutV (ns.map f) none (some (m : Int)) = (ns.take m).map f := by
  unfold cutV
  rw [HT.sIx_none, show HT.sIx (ns.map f).length (ns.map f).length (some (m : Int)) = min m (ns.map f).length from HT.sIx_nat _ _ m, List.drop_zero, Nat.sub_zero, List.map_take]
  rw [Nat.min_def]
  split
  · rfl
  · rw [List.take_length, List.take_of_length_le (by omega)]
section
variable {d l p q x C : Addr} {xs : List V} {ds : List D} {ys : List V} {ts : List T} {H H1 : Hp}
theorem same_mk {x dx : Addr} {o1 o2 o3 o4 : HO} (nx : H x = none) (ndx : H dx = none) : Same H (upd (upd (upd (upd H dx o1) x o2) x o3) x o4) := same_put (same_put (same_put (same_new ndx) nx) nx) nx
theorem shape_mk {x dx td ta : Addr} (nx : H x = none) (ndx : H dx = none) (h2 : H td = some (.tup xs)) (h3 : Rows H xs (ds.map D.v)) (h4 : H ta = some (.tup ys)) (h5 : Rows H ys (ts.map T.v)) :
    ShapeAt (upd (upd (upd (upd H dx (.own x)) x (.ins C dx [])) x (.ins C dx [("dims", .ref td)])) x (.ins C dx [("dims", .ref td), ("attrs", .ref ta)])) C x ds ts := by
  have s := same_mk (o1 := .own x) (o2 := .ins C dx []) (o3 := .ins C dx [("dims", .ref td)]) (o4 := .ins C dx [("dims", .ref td), ("attrs", .ref ta)]) nx ndx
  exact ⟨dx, td, ta, xs, ys, upd_same, s _ _ h2, h3.same s, s _ _ h4, h5.same s⟩
end
def XY : List Str := ["x", "y", "z"]
def AB : List Str := ["a", "b", "c", "d"]
def KK : List Str := ["int", "flag", "text", "int"]
theorem kk_tab : ∀ z ∈ KK, ∃ q, z = kdS q := by
  intro z h
  rcases List.mem_cons.mp h with rfl | h
  · exact ⟨.i, rfl⟩
  rcases List.mem_cons.mp h with rfl | h
  · exact ⟨.f, rfl⟩
  rcases List.mem_cons.mp h with rfl | h
  · exact ⟨.t, rfl⟩
  rcases List.mem_cons.mp h with rfl | h
  · exact ⟨.i, rfl⟩
  · exact absurd h List.not_mem_nil
/-- what a drawn shape is -/
structure Dr (ds : List D) (ts : List T) : Prop where
  d1 : 1 ≤ ds.length
  d2 : ds.length ≤ 3
  t2 : ts.length ≤ 4
  nm : ts.map (·.n) = AB.take ts.length
  kd : ∀ t ∈ ts, ∃ q, t.k = kdS q
  dn : ∀ x ∈ ds, PyData.strOk x.n = true
theorem xy_ok : ∀ z ∈ XY, PyData.strOk z = true := by decide +kernel
theorem Dr.gk {ds : List D} {ts : List T} (h : Dr ds ts) : GoodK ds ts := ⟨by have := h.d2; omega, by have := h.t2; omega, h.kd⟩
section
variable {P : Program} {w : World} {K : PySem.W.Frag} {mg : Str → Option Value} {base : Heap}
def spShape (C : Addr) : Sp := fun vs H Q _ => ∃ d l : Addr, vs = [.ref d] ∧ StAt H d l ∧ ∀ H' s ds ts, Kp d l H H' → ShapeAt H' C s ds ts → Dr ds ts → Q (.ref s) H'
theorem scShape : FnScope ["state", "dims", "name", "low", "attrs", "k"] ["state"] (defScope sShape) := ⟨rfl, rfl, rfl, by decide +kernel, rfl, by decide +kernel, by decide +kernel⟩
theorem ok_shape {f fN C gI gE : Addr} {fd fdN dGI : FuncData} (F : Fun K "_law_shape" "_law_shape" sShape f fd) (N : Nk K mg) (M : Nm mg) (FN : Fun K "_law_next" "_law_next" sNext fN fdN) (bN : Binds K fdN ["state", "bound"] []) (gN : mg "_law_next" = some (.ref fN))
    (S : ShC K C gI gE) (gC : mg "Shape" = some (.ref C)) (GI : FnOk P w K mg base CX0 1 gI dGI ["self", "dims", "attrs"] (spShInit K C gI gE)) (bGI : Binds K dGI ["self", "dims", "attrs"] []) : FnOk P w K mg base CX0 3 f fd ["state"] (spShape C) := by
  have GN : FnOk P w K mg base CX0 1 fN fdN ["state", "bound"] spNext := ok_next FN M.int M.len
  refine F.ok scShape (fun vs H Q E h => ?_) (fun cdv A outer s H vs Q E hr h => ?_)
  · obtain ⟨d, l, rfl, _⟩ := h
    rfl
  · obtain ⟨d, l, rfl, St, q⟩ := h
    have hr1 := hr.mono (j := 1) (by decide)
    refine ⟨_, pss_cons (ps_set (i := 1) scShape.nd rfl (.inl rfl) (pe_lst pa_nil))
      (pss_cons (ps_for PassesOwn.never rfl (pi_list (pe_slice sl_list (pe_lst (pa_cons pe_str (pa_cons pe_str (pa_cons pe_str pa_nil)))) po_none (po_some (pe_op op_add pe_int (pe_call GN hr1 (by rfl) gN FN.kp bN .nil pass0 (pa_cons (pv 0) (pa_cons pe_int pa_nil))))))) (pg_name (i := 2) scShape.nd rfl (.inl rfl))
        (pss_cons (ps_set (i := 3) scShape.nd rfl (.inl rfl) (pe_op op_sub (pe_call GN hr1 (by rfl) gN FN.kp bN .nil pass0 (pa_cons (pv 0) (pa_cons pe_int pa_nil))) pe_int))
        (pss_one (ps_expr (pe_bm PySem.F.plainAttrs_list PySem.F.slot_list_append PySem.F.type_list_append mt_append (pv 1) (pa_cons (pe_tup (pa_cons (pv 2) (pa_cons (pv 3) (pa_cons (pe_op op_add (pv 3) (pe_call GN hr1 (by rfl) gN FN.kp bN .nil pass0 (pa_cons (pv 0) (pa_cons pe_int pa_nil))))
          (pa_cons (pe_op op_add pe_int (pe_call GN hr1 (by rfl) gN FN.kp bN .nil pass0 (pa_cons (pv 0) (pa_cons pe_int pa_nil)))) pa_nil))))) pa_nil))))))
      (pss_cons (ps_set (i := 4) scShape.nd rfl (.inl rfl) (pe_lst pa_nil))
      (pss_cons (ps_for PassesOwn.never rfl (pi_range1 (by rfl) M.range (pa_cons (pe_op op_add pe_int (pe_call GN hr1 (by rfl) gN FN.kp bN .nil pass0 (pa_cons (pv 0) (pa_cons pe_int pa_nil)))) pa_nil)) (pg_name (i := 5) scShape.nd rfl (.inl rfl))
        (pss_one (ps_expr (pe_bm PySem.F.plainAttrs_list PySem.F.slot_list_append PySem.F.type_list_append mt_append (pv 4) (pa_cons (pe_tup (pa_cons (pe_ix ix_list (pe_lst (pa_cons pe_str (pa_cons pe_str (pa_cons pe_str (pa_cons pe_str pa_nil))))) (pv 5) (fun _ _ => rfl))
          (pa_cons (pe_ix ix_list (pe_lst (pa_cons pe_str (pa_cons pe_str (pa_cons pe_str (pa_cons pe_str pa_nil))))) (pe_op op_mod (pe_callTy call_int1 (by rfl) M.int (by decide +kernel) (pa_cons (pe_op op_add (pv 5) (pe_call GN hr1 (by rfl) gN FN.kp bN .nil pass0 (pa_cons (pv 0) (pa_cons pe_int pa_nil)))) pa_nil)) pe_int) (fun _ _ => rfl)) pa_nil))) pa_nil)))))
      (pss_one (ps_ret (pe_make S.mm GI hr (by rfl) gC bGI .nil pass0 (pa_cons (pe_callTy call_tuple_of (by rfl) N.tuple (by decide +kernel) (pa_cons (pv 1) pa_nil)) (pa_cons (pe_callTy call_tuple_of (by rfl) N.tuple (by decide +kernel) (pa_cons (pv 4) pa_nil)) pa_nil)))))))), ?_⟩
    refine ⟨Nat.zero_le _, fun p np => ?_⟩
    have npd := St.nd np
    have a0 : Acc d l p [] [] H (upd H p (.lst [])) := ⟨Kp.pre (same_new np) (Kp.refl (St.same (same_new np))), upd_same, Rows.nil⟩
    refine ⟨(by show 3 ≤ sizeLine; decide), fun o no => ?_⟩
    have a1 := a0.new (ob := .lst [.str "x", .str "y", .str "z"]) no
    refine ⟨_, rfl, d, l, 3, rfl, a1.k.st, by decide, fun H2 n n0 n1 k2 => ?_⟩
    obtain ⟨j, rfl⟩ : ∃ j : Nat, n = (j : Int) := ⟨_, (Int.toNat_of_nonneg n0).symm⟩
    have a2 := a1.kp k2
    refine ⟨1, _, rfl, rfl, _, rfl, o, _, rfl, .inl (.inl (k2.keep _ _ upd_same (a0.k.st.nd no).1)), fun p2 np2 => ?_⟩
    rw [show cutV [V.str "x", V.str "y", V.str "z"] none (some (1 + (j : Int))) = (XY.take (1 + j)).map V.str from by
      rw [show (1 : Int) + (j : Int) = ((1 + j : Nat) : Int) from by omega]
      exact cutn V.str XY (1 + j)]
    have a3 := a2.new (ob := .lst ((XY.take (1 + j)).map V.str)) np2
    have p2d := (a2.k.st.nd np2).1
    have pp2 : p ≠ p2 := ne_of_none a2.p np2
    have lxy : (XY.take (1 + j)).length = 1 + j := by
      rw [List.length_take]
      show min (1 + j) 3 = 1 + j
      omega
    refine ⟨p2, rfl, ⟨_, .inl (.inl upd_same)⟩, for_list (xs := (XY.take (1 + j)).map V.str) (fun i σ H3 => ∃ (y2 y3 : Option V) (xs : List V) (ds : List D), σ = [some (.ref d), some (.ref p), y2, y3, none, none] ∧ Acc d l p xs (ds.map D.v) H H3 ∧ H3 p2 = some (.lst ((XY.take (1 + j)).map V.str)) ∧ ds.length = i ∧ ∀ x ∈ ds, PyData.strOk x.n = true) ?_ ?_ ?_ ?_⟩
    · exact ⟨_, _, [], [], rfl, a3, upd_same, rfl, fun x h => (List.not_mem_nil h).elim⟩
    · rintro i σ H3 hi ⟨y2, y3, xs, ds, rfl, a, hp2, hl, hok⟩
      exact .inl (.inl hp2)
    · rintro i x σ H3 hx ⟨y2, y3, xs, ds, rfl, a, hp2, hl, hok⟩
      obtain ⟨z, hzx, rfl⟩ : ∃ z ∈ XY, x = .str z := by
        obtain ⟨z, hm, e⟩ := List.mem_map.mp (List.mem_of_getElem? hx)
        exact ⟨z, List.mem_of_mem_take hm, e.symm⟩
      have hi : i < 1 + j := by
        have := (List.getElem?_eq_some_iff.mp hx).1
        rwa [List.length_map, lxy] at this
      refine ⟨_, rfl, d, l, 9, rfl, a.k.st, by decide, fun H4 u u0 u1 k4 => ⟨u, 5, rfl, rfl, ?_⟩⟩
      have b4 := a.kp k4
      refine ⟨_, rfl, .inl ⟨rfl, _, .inl (.inl b4.p)⟩, _, rfl, _, rfl, _, rfl, _, rfl, d, l, 6, rfl, b4.k.st, by decide, fun H5 v v0 v1 k5 => ⟨_, v, rfl, rfl, ?_⟩⟩
      have b5 := b4.kp k5
      refine ⟨_, rfl, d, l, 4, rfl, b5.k.st, by decide, fun H6 y y0 y1 k6 => ⟨1, y, rfl, rfl, (by show 4 ≤ sizeLine; decide), fun t nt => ?_⟩⟩
      have b6 := b5.kp k6
      have b7 := b6.new (ob := .tup [.str z, .int (u - 5), .int (u - 5 + v), .int (1 + y)]) nt
      have h6 := k6.keep _ _ (k5.keep _ _ (k4.keep _ _ hp2 p2d) p2d) p2d
      refine ⟨p, _, _, rfl, rfl, b7.p, ?_, ?_⟩
      · have := b7.r.1
        rw [List.length_map] at this
        exact small1000 (by omega)
      · refine ⟨_, _, xs ++ [.ref t], ds ++ [⟨z, u - 5, u - 5 + v, 1 + y⟩], rfl, ?_, ?_, ?_, ?_⟩
        · rw [List.map_append]
          exact b7.push np npd upd_same
        · rw [upd_ne pp2.symm]
          exact same_new nt _ _ h6
        · rw [List.length_append, hl]
          rfl
        · intro x hx
          rcases List.mem_append.mp hx with h | h
          · exact hok x h
          · rw [List.mem_singleton.mp h]
            exact xy_ok z hzx
    · rintro σ H3 ⟨y2, y3, xs, ds, rfl, a, hp2, hl, hok⟩
      rw [List.length_map, lxy] at hl
      refine ⟨Nat.zero_le _, fun r nr => ?_⟩
      have nrd := a.k.st.nd nr
      have rp : r ≠ p := fun z => by
        have := a.p
        rw [← z, nr] at this
        cases this
      have c0 : Acc d l r [] [] H3 (upd H3 r (.lst [])) := ⟨Kp.pre (same_new nr) (Kp.refl (a.k.st.same (same_new nr))), upd_same, Rows.nil⟩
      refine ⟨_, rfl, d, l, 4, rfl, c0.k.st, by decide, fun H4 n n0 n1 k4 => ⟨1, n, rfl, rfl, _, rfl, by omega, by omega, ?_⟩⟩
      have c1 := c0.kp k4
      refine for_range (lo := 0) (n := (1 + n).toNat) (fun i σ H5 => ∃ (y2 y3 y5 : Option V) (ys : List V) (ts : List T), σ = [some (.ref d), some (.ref p), y2, y3, some (.ref r), y5] ∧ Acc d l r ys (ts.map T.v) H3 H5 ∧ ts.length = i ∧ ts.map (·.n) = AB.take i ∧ ∀ t ∈ ts, ∃ q, t.k = kdS q) ⟨_, _, _, [], [], rfl, c1, rfl, rfl, fun t h => (List.not_mem_nil h).elim⟩ ?_ ?_
      · rintro i σ H5 hi ⟨y2, y3, y5, ys, ts, rfl, c, ht, hnm, hkd⟩
        rw [Int.zero_add]
        have hi4 : i < 4 := by omega
        have hab : i < AB.length := hi4
        refine ⟨_, rfl, .inl ⟨rfl, _, .inl (.inl c.p)⟩, (by show 4 ≤ sizeLine; decide), fun o1 no1 => ?_⟩
        have d1 := c.new (ob := .lst (AB.map V.str)) no1
        refine ⟨_, rfl, o1, _, _, .str AB[i], rfl, rfl, .inl (.inl upd_same), atI_nat (by show (AB.map V.str)[i]? = _; rw [List.getElem?_map, List.getElem?_eq_getElem hab]; rfl), (by show 4 ≤ sizeLine; decide), fun o2 no2 => ?_⟩
        have d2 := d1.new (ob := .lst (KK.map V.str)) no2
        refine ⟨_, rfl, _, rfl, d, l, 3, rfl, d2.k.st, by decide, fun H6 u u0 u1 k6 => ⟨_, u, rfl, rfl, .inl ⟨_, rfl, _, 4, rfl, rfl, (by show (0 : Int) < 4; decide), ?_⟩⟩⟩
        have d3 := d2.kp k6
        obtain ⟨kz, hkz, hat⟩ := str_in (ms := KK) (n := ((i : Int) + u) % 4) rfl (Int.emod_nonneg _ (by decide)) (Int.emod_lt_of_pos _ (by decide))
        obtain ⟨qk, hqk⟩ := kk_tab kz hkz
        refine ⟨o2, _, _, _, rfl, rfl, .inl (.inl (k6.keep _ _ upd_same (d1.k.st.nd no2).1)), hat, (by show 2 ≤ sizeLine; decide), fun t nt => ?_⟩
        have d4 := d3.new (ob := .tup [.str AB[i], .str kz]) nt
        refine ⟨r, _, _, rfl, rfl, d4.p, ?_, ?_⟩
        · have := d4.r.1
          rw [List.length_map] at this
          exact small1000 (by omega)
        · refine ⟨_, _, _, ys ++ [.ref t], ts ++ [⟨AB[i], kz⟩], rfl, ?_, ?_, ?_, ?_⟩
          · rw [List.map_append]
            exact d4.push nr nrd upd_same
          · rw [List.length_append, ht]
            rfl
          · rw [List.map_append, hnm, List.take_add_one, List.getElem?_eq_getElem hab]
            rfl
          · intro x hx
            rcases List.mem_append.mp hx with h | h
            · exact hkd x h
            · rw [List.mem_singleton.mp h]
              exact ⟨qk, hqk⟩
      · rintro σ H5 ⟨y2, y3, y5, ys, ts, rfl, c, ht, hnm, hkd⟩
        have hp5 := c.k.keep _ _ a.p (fun z => npd.1 z)
        have r5 := a.r.kp a.k.st c.k
        refine ⟨_, rfl, p, xs, rfl, .inl ⟨.inl (.inl hp5), fun td ntd => ?_⟩⟩
        have e1 := same_new (o := .tup xs) ntd
        refine ⟨_, rfl, r, ys, rfl, .inl ⟨.inl (.inl (e1 _ _ c.p)), fun ta nta => ?_⟩⟩
        have e2 := same_new (o := .tup ys) nta
        intro x dx nx ndx nex
        refine ⟨x, dx, .ref td, .ref ta, rfl, upd_same, rfl, ?_⟩
        have s8 := same_mk (o1 := .own x) (o2 := .ins C dx []) (o3 := .ins C dx [("dims", .ref td)]) (o4 := .ins C dx [("dims", .ref td), ("attrs", .ref ta)]) nx ndx
        have e12 := e1.trans e2
        have lt : ts.length ≤ 4 := by omega
        refine q _ x ds ts (((a.k.trans c.k).same e12).same s8) (shape_mk (C := C) nx ndx (e2 _ _ upd_same) (r5.same e12) upd_same (c.r.same e12)) ⟨by omega, by omega, lt, by rw [hnm, ht], hkd, hok⟩
end
end K2

namespace K2
open PySem L2
theorem Kp.at {d l a : Addr} {H H1 : Hp} {o : HO} (k : Kp d l H H1) (S : StAt H d l) (e : H a = some o) (ho : ∀ kv, o ≠ .dK kv) : H1 a = some o := by
  obtain ⟨ns, z, h1, _⟩ := S.ex
  refine k.keep _ _ e fun y => ?_
  rw [y, h1] at e
  exact ho _ (Option.some.inj e).symm
structure Gd (ds : List D) (ts : List T) (k : Kd) (n : Nat) (e : Ex) : Prop where
  wf : WF e
  dp : e.dep ≤ n
  ty : ∀ m, ck ds ts e m = .ok k
theorem find_nodup : ∀ {ts : List T} {t : T}, (ts.map (·.n)).Nodup → t ∈ ts → ts.find? (fun x => decide (x.n = t.n)) = some t
  | x :: r, t, h, m => by
    rw [List.map_cons, List.nodup_cons] at h
    rcases List.mem_cons.mp m with e | m
    · subst e
      rw [List.find?_cons_of_pos (p := fun x : T => decide (x.n = t.n)) (decide_eq_true rfl)]
    · have ne : ¬ decide (x.n = t.n) = true := fun z => h.1 (by rw [of_decide_eq_true z]; exact List.mem_map.mpr ⟨t, m, rfl⟩)
      rw [List.find?_cons_of_neg (p := fun x : T => decide (x.n = t.n)) ne]
      exact find_nodup h.2 m
theorem Dr.nodup {ds : List D} {ts : List T} (h : Dr ds ts) : (ts.map (·.n)).Nodup := by
  rw [h.nm]
  exact List.Nodup.sublist (List.take_sublist ..) (by decide +kernel)
theorem ab_ok : ∀ z ∈ AB, PyData.strOk z = true := by decide +kernel
theorem kd_ok (k : Kd) : PyData.strOk (kdS k) = true := by cases k <;> decide +kernel
theorem gd_attr {ds : List D} {ts : List T} {k : Kd} {t : T} {n : Nat} (h : Dr ds ts) (m : t ∈ ts) (hk : t.k = kdS k) : Gd ds ts k n (.attr t.n) := by
  refine ⟨by rw [WF]; exact ab_ok _ (List.mem_of_mem_take (i := ts.length) (by rw [← h.nm]; exact List.mem_map.mpr ⟨t, m, rfl⟩)), by rw [Ex.dep]; exact Nat.zero_le _, fun j => ?_⟩
  have e : leafK ds ts (.attr t.n) = some k := by
    show (ts.find? _).bind _ = some k
    rw [find_nodup h.nodup m]
    show kdOf t.k = some k
    rw [hk, kdOf_S]
  rw [ck, e]
theorem gd_dim {ds : List D} {ts : List T} {x : D} {n : Nat} (h : Dr ds ts) (m : x ∈ ds) : Gd ds ts .i n (.dim x.n) := by
  refine ⟨by rw [WF]; exact h.dn x m, by rw [Ex.dep]; exact Nat.zero_le _, fun j => ?_⟩
  have e : leafK ds ts (.dim x.n) = some .i := if_pos (List.mem_map.mpr ⟨x, m, rfl⟩)
  rw [ck, e]
theorem gd_val {ds : List D} {ts : List T} {k : Kd} {v : V} {n : Nat} (h : v = .non ∨ (OfK k v ∧ isVal k v = true)) : Gd ds ts k n (.val (kdS k) v) := by
  refine ⟨?_, by rw [Ex.dep]; exact Nat.zero_le _, fun j => ?_⟩
  · rw [WF]
    refine ⟨?_, kd_ok k⟩
    rcases h with h | ⟨h, g⟩
    · exact .inl h
    · cases k with
      | i => exact .inr (.inl h)
      | f => exact .inr (.inr (.inl h))
      | t =>
        obtain ⟨z, rfl, h1, h2⟩ := h
        have h3 : ((z.length : Int) ≤ 200) := of_decide_eq_true g
        exact .inr (.inr (.inr ⟨z, rfl, h1, by omega⟩))
  · have e : leafK ds ts (.val (kdS k) v) = some k := by
      show (kdOf (kdS k)).bind _ = some k
      rw [kdOf_S]
      show (if v = .non ∨ isVal k v = true then some k else none) = some k
      rw [if_pos (h.elim .inl fun z => .inr z.2)]
    rw [ck, e]
section
variable {P : Program} {w : World} {K : PySem.W.Frag} {mg : Str → Option Value} {base : Heap}
def spLeaf (C : Addr) : Sp := fun vs H Q _ => ∃ (d l s : Addr) (k : Kd) (ds : List D) (ts : List T), vs = [.ref d, .ref s, ks k] ∧ StAt H d l ∧ ShapeAt H C s ds ts ∧ Dr ds ts ∧ ∀ H' r e, Kp d l H H' → ExAt H' r e → Gd ds ts k 0 e → Q r H'
theorem scLeaf : FnScope ["state", "shape", "kind", "names", "choice", "name", "word"] ["state", "shape", "kind"] (defScope sLeaf) := ⟨rfl, rfl, rfl, by decide +kernel, rfl, by decide +kernel, by decide +kernel⟩
theorem ok_leaf {f fN fT C f1 f2 : Addr} {fd fdN fdT : FuncData} (F : Fun K "_law_leaf" "_law_leaf" sLeaf f fd) (N : Nk K mg) (M : Nm mg) (S : ShC K C f1 f2) (FN : Fun K "_law_next" "_law_next" sNext fN fdN) (bN : Binds K fdN ["state", "bound"] []) (gN : mg "_law_next" = some (.ref fN))
    (GT : FnOk P w K mg base CX0 3 fT fdT ["state", "kind"] spThing) (kT : PySem.W.keepIn K (.ref fT) = true) (bT : Binds K fdT ["state", "kind"] []) (gT : mg "_law_thing" = some (.ref fT)) : FnOk P w K mg base CX0 4 f fd ["state", "shape", "kind"] (spLeaf C) := by
  have GN : FnOk P w K mg base CX0 1 fN fdN ["state", "bound"] spNext := ok_next FN M.int M.len
  refine F.ok scLeaf (fun vs H Q E h => ?_) (fun cdv A outer s H vs Q E hr h => ?_)
  · obtain ⟨d, l, s, k, ds, ts, rfl, _⟩ := h
    rfl
  · obtain ⟨d, l, s', k, ds, ts, rfl, St, hS, dr, q⟩ := h
    have hr1 := hr.mono (j := 1) (by decide)
    refine ⟨_, pss_cons (ps_setLc (i := 3) (own := [("name", 5), ("word", 6)]) (g := gTup K 2 (gCons (gName 5) (gCons (gName 6) gNil))) rfl scLeaf.nd rfl rfl (sw_true rfl rfl rfl (by decide +kernel)) (pi_tup (pe_fld (pv 1) rfl))
          (blkOk_by (N := ["state", "shape", "kind", "names", "choice", "name", "word"]) (sc := defScope sLeaf) (by decide +kernel))
          (fun _ _ _ _ _ => pg_tupK K rfl (by rfl) (pgs_cons (pg_name (i := 5) scLeaf.nd rfl (Or.inl rfl)) (pgs_cons (pg_name (i := 6) scLeaf.nd rfl (Or.inl rfl)) pgs_nil)))
          (fun _ _ _ _ _ => pts_one (pt_cmpR op_eq (pv 6) (pv 2) (nomark _))) (fun _ _ _ _ _ => pv 5))
      (pss_cons (ps_set (i := 4) scLeaf.nd rfl (.inl rfl) (pe_call GN hr1 (by rfl) gN FN.kp bN .nil pass0 (pa_cons (pv 0) (pa_cons pe_int pa_nil))))
      (Evl.pss_cut (ps_if (PW.pt (pw_and (pt_cmpR op_lt (pv 4) pe_int (nomark _)) (pw_and1 (pt_cmpR op_gt (pe_callB call_len_seq (by rfl) M.len PySem.boot_len (pa_cons (pv 3) pa_nil)) pe_int (nomark _)))))
          (pss_one (ps_ret (pe_tup (pa_cons pe_str (pa_cons (pe_ix ix_list (pv 3) (pe_call GN hr1 (by rfl) gN FN.kp bN .nil pass0 (pa_cons (pv 0) (pa_cons (pe_callB call_len_seq (by rfl) M.len PySem.boot_len (pa_cons (pv 3) pa_nil)) pa_nil))) (fun _ _ => rfl)) pa_nil))))) pss_nil)
      (Evl.pss_cut (ps_if (PW.pt (pw_and (pt_cmpR op_lt (pv 4) pe_int (nomark _)) (pw_and1 (pt_cmpR op_eq (pv 2) pe_str (nomark _)))))
          (pss_one (ps_ret (pe_tup (pa_cons pe_str (pa_cons (pe_ix ix_tup (pe_ix ix_tup (pe_fld (pv 1) rfl) (pe_call GN hr1 (by rfl) gN FN.kp bN .nil pass0 (pa_cons (pv 0) (pa_cons (pe_callB call_len_seq (by rfl) M.len PySem.boot_len (pa_cons (pe_fld (pv 1) rfl) pa_nil)) pa_nil))) (fun _ _ => rfl)) pe_int (fun _ _ => rfl)) pa_nil))))) pss_nil)
      (Evl.pss_cut (ps_if (PW.pt (pw_and (pt_cmpR op_eq (pv 4) pe_int (nomark _)) (pw_and1 (pt_cmpR op_eq (pe_call GN hr1 (by rfl) gN FN.kp bN .nil pass0 (pa_cons (pv 0) (pa_cons pe_int pa_nil))) pe_int (nomark _)))))
          (pss_one (ps_ret (pe_tup (pa_cons pe_str (pa_cons (pv 2) (pa_cons pe_non pa_nil)))))) pss_nil)
      (pss_one (ps_ret (pe_tup (pa_cons pe_str (pa_cons (pv 2) (pa_cons (pe_call GT hr (by rfl) gT kT bT .nil pass0 (pa_cons (pv 0) (pa_cons (pv 2) pa_nil))) pa_nil)))))))))), ?_⟩
    obtain ⟨dx, td, ta, xs, ys, h1, h2, h3, h4, h5⟩ := id hS
    have lx : xs.length = ds.length := by
      have := h3.1
      rwa [List.length_map] at this
    have ly : ys.length = ts.length := by
      have := h5.1
      rwa [List.length_map] at this
    refine ⟨_, rfl, s', C, dx, _, .ref ta, rfl, h1, S.cl, S.nA, rfl, ta, rfl, ⟨_, SqT.of h4⟩, fun D nD => ?_⟩
    refine lc_it (walk_tup (xs := ys)) (fun i H3 => Same H H3 ∧ H3 D = some (.lst (((ts.take i).filter fun t => decide (t.k = kdS k)).map fun t => V.str t.n))) ⟨same_new nD, upd_same⟩ (fun _ _ _ z => SqT.of (z.1 _ _ h4)) ?_ ?_
    · rintro i x H3 H' hi ⟨sm, hD⟩ ⟨rfl, hxi⟩
      have hi2 : i < ts.length := by omega
      obtain ⟨b, e1, e2⟩ := h5.2 i ts[i].v (by rw [List.getElem?_map, List.getElem?_eq_getElem hi2]; rfl)
      obtain rfl : x = .ref b := Option.some.inj (hxi.symm.trans e1)
      have etk : ts.take (i + 1) = ts.take i ++ [ts[i]] := by
        rw [List.take_add_one, List.getElem?_eq_getElem hi2]
        rfl
      refine ⟨b, _, rfl, SqT.of (sm _ _ e2), rfl, _, _, rfl, _, _, rfl, rfl, rfl, ?_⟩
      refine ⟨_, rfl, _, rfl, rfl, _, rfl, ?_⟩
      have es : decide (V.str ts[i].k = ks k) = decide (ts[i].k = kdS k) := str_eq _ _
      rw [es]
      by_cases e : ts[i].k = kdS k
      · refine iteB (decide_eq_true e) ⟨_, rfl, _, hD, ?_, same_put sm nD, ?_⟩
        · rw [List.length_map]
          exact small1000 (Nat.le_trans (List.length_filter_le ..) (by rw [List.length_take]; have := dr.t2; omega))
        · rw [upd_same, etk, List.filter_append, List.map_append]
          rw [show [ts[i]].filter (fun t => decide (t.k = kdS k)) = [ts[i]] from List.filter_cons_of_pos (decide_eq_true e)]
          rfl
      · refine iteBF (decide_eq_false e) ⟨sm, ?_⟩
        rw [etk, List.filter_append]
        rw [show [ts[i]].filter (fun t => decide (t.k = kdS k)) = [] from List.filter_cons_of_neg (by rw [decide_eq_false e]; decide), List.append_nil]
        exact hD
    · rintro H3 ⟨sm, hD⟩
      rw [ly, List.take_length] at hD
      have k3 : Kp d l H H3 := (Kp.refl St).same sm
      refine ⟨_, rfl, d, l, 6, rfl, k3.st, by decide, fun H4 n n0 n1 k4 => ?_⟩
      have k34 := k3.trans k4
      have hS4 := hS.same sm
      have nDd : D ≠ d := (St.nd nD).1
      have hD4 := k4.keep _ _ hD nDd
      obtain ⟨L, eL⟩ : ∃ L : List T, L = ts.filter fun t => decide (t.k = kdS k) := ⟨_, rfl⟩
      rw [← eL] at hD4
      have memL : ∀ t ∈ L, t ∈ ts ∧ t.k = kdS k := fun t h => by
        rw [eL] at h
        have := List.mem_filter.mp h
        exact ⟨this.1, of_decide_eq_true this.2⟩
      have sD : SqL K H4 D (L.map fun t => V.str t.n) := .inl (.inl hD4)
      refine ⟨fun σ H' => ∃ y5 y6, σ = [some (.ref d), some (.ref s'), some (ks k), some (.ref D), some (.int n), y5, y6] ∧ H' = H4, ?_, ?_⟩
      · refine ⟨_, rfl, n, 3, rfl, rfl, _, rfl, ?_⟩
        by_cases c1 : n < 3
        case neg => exact iteBF (decide_eq_false c1) (iteF ⟨_, _, rfl, rfl⟩)
        refine iteB (decide_eq_true c1) ⟨_, rfl, D, _, rfl, .inl sD, ((L.map fun t => V.str t.n).length : Int), 0, rfl, rfl, _, rfl, ?_⟩
        by_cases c2 : 0 < ((L.map fun t => V.str t.n).length : Int)
        case neg => exact iteBF (decide_eq_false c2) ⟨_, _, rfl, rfl⟩
        refine iteB (decide_eq_true c2) ?_
        refine ⟨_, rfl, _, rfl, _, rfl, D, _, rfl, .inl sD, d, l, _, rfl, k34.st, c2, fun H5 m m0 m1 k5 => ?_⟩
        obtain ⟨j, rfl⟩ : ∃ j : Nat, m = (j : Int) := ⟨_, (Int.toNat_of_nonneg m0).symm⟩
        have hj : j < L.length := by
          rw [List.length_map] at m1
          omega
        obtain ⟨hm1, hm2⟩ := memL _ (List.getElem_mem hj)
        refine ⟨D, _, _, .str L[j].n, rfl, rfl, .inl (.inl (k5.keep _ _ hD4 nDd)), atI_nat (by rw [List.getElem?_map, List.getElem?_eq_getElem hj]; rfl), (by show 2 ≤ sizeLine; decide), fun t nt => ?_⟩
        exact q _ _ (.attr L[j].n) ((k34.trans k5).new nt) (.attr upd_same) (gd_attr dr hm1 hm2)
      rintro σ H' ⟨y5, y6, rfl, rfl⟩
      obtain ⟨dx2, td2, ta2, zs, us, f1, f2, f3, f4, f5⟩ := hS4
      have g1 := k4.at k3.st f1 (fun _ z => nomatch z)
      have g2 := k4.at k3.st f2 (fun _ z => nomatch z)
      have g3 := f3.kp k3.st k4
      have lz : zs.length = ds.length := by
        have := g3.1
        rwa [List.length_map] at this
      refine ⟨fun σ H'' => σ = [some (.ref d), some (.ref s'), some (ks k), some (.ref D), some (.int n), y5, y6] ∧ H'' = H', ?_, ?_⟩
      · refine ⟨_, rfl, n, 4, rfl, rfl, _, rfl, ?_⟩
        by_cases c1 : n < 4
        case neg => exact iteBF (decide_eq_false c1) (iteF ⟨rfl, rfl⟩)
        refine iteB (decide_eq_true c1) ⟨_, rfl, rfl, _, rfl, ?_⟩
        have ek : decide (ks k = .str ("int" : Str)) = decide (k = .i) := ks_eq k .i
        rw [ek]
        by_cases c2 : k = .i
        case neg => exact iteBF (decide_eq_false c2) ⟨rfl, rfl⟩
        subst c2
        refine iteB (decide_eq_true rfl) ?_
        refine ⟨_, rfl, s', C, dx2, _, .ref td2, rfl, g1, S.cl, S.nD, rfl, _, rfl, _, rfl, s', C, dx2, _, .ref td2, rfl, g1, S.cl, S.nD, rfl, td2, zs, rfl, .inr (SqT.of g2), d, l, _, rfl, k34.st, (by have := dr.d1; omega), fun H5 m m0 m1 k5 => ?_⟩
        obtain ⟨j, rfl⟩ : ∃ j : Nat, m = (j : Int) := ⟨_, (Int.toNat_of_nonneg m0).symm⟩
        have hj : j < ds.length := by omega
        obtain ⟨b, e1, e2⟩ := (g3.kp k34.st k5).2 j ds[j].v (by rw [List.getElem?_map, List.getElem?_eq_getElem hj]; rfl)
        refine ⟨td2, zs, _, .ref b, rfl, rfl, SqT.of (k5.at k34.st g2 (fun _ z => nomatch z)), atI_nat e1, b, _, 0, .str ds[j].n, rfl, rfl, SqT.of e2, atI_nat (j := 0) rfl, (by show 2 ≤ sizeLine; decide), fun t nt => ?_⟩
        exact q _ _ (.dim ds[j].n) ((k34.trans k5).new nt) (.dim upd_same) (gd_dim dr (List.getElem_mem hj))
      rintro σ H'' ⟨rfl, rfl⟩
      refine ⟨fun σ H5 => σ = [some (.ref d), some (.ref s'), some (ks k), some (.ref D), some (.int n), y5, y6] ∧ Kp d l H H5, ?_, ?_⟩
      · refine ⟨_, rfl, rfl, _, rfl, ?_⟩
        by_cases c1 : V.int n = V.int 5
        case neg => exact iteBF (decide_eq_false c1) (iteF ⟨rfl, k34⟩)
        refine iteB (decide_eq_true c1) ⟨_, rfl, d, l, 3, rfl, k34.st, by decide, fun H5 m m0 m1 k5 => ⟨rfl, _, rfl, ?_⟩⟩
        have k35 := k34.trans k5
        by_cases c2 : V.int m = V.int 0
        case neg => exact iteBF (decide_eq_false c2) ⟨rfl, k35⟩
        refine iteB (decide_eq_true c2) ⟨_, rfl, (by show 3 ≤ sizeLine; decide), fun t nt => ?_⟩
        exact q _ _ (.val (kdS k) .non) (k35.new nt) (.val upd_same) (gd_val (.inl rfl))
      rintro σ H5 ⟨rfl, k5⟩
      refine ⟨_, rfl, _, rfl, _, rfl, d, l, k, rfl, k5.st, fun H6 v hv1 hv2 k6 => ⟨(by show 3 ≤ sizeLine; decide), fun t nt => ?_⟩⟩
      exact q _ _ (.val (kdS k) v) ((k5.trans k6).new nt) (.val upd_same) (gd_val (.inr ⟨hv1, hv2⟩))
end
end K2

namespace K2
open PySem L2
theorem cks1 {ds : List D} {ts : List T} {e : Ex} {m : Nat} {k : Kd} (h : ∀ m, ck ds ts e m = .ok k) : cks ds ts [e] m = .ok [k] := by rw [cks_one, h]
theorem cksC {ds : List D} {ts : List T} {e : Ex} {r : List Ex} {m : Nat} {k : Kd} {qs : List Kd} (h : ∀ m, ck ds ts e m = .ok k) (g : ∀ m, cks ds ts r m = .ok qs) : cks ds ts (e :: r) m = .ok (k :: qs) := by
  rw [cks, h]
  show (match cks ds ts r (m + e.size) with | .error m => Except.error m | .ok ks => .ok (k :: ks)) = _
  rw [g]
theorem gd_op1 {ds : List D} {ts : List T} {w : Str} {e : Ex} {k k1 : Kd} {n : Nat} (g : Gd ds ts k1 n e) (ha : ar w = some 1) (hj : joint w [k1] = some k) : Gd ds ts k (n + 1) (.op w [e]) := by
  refine ⟨by rw [WF, WFs, WFs]; exact ⟨ha, g.wf, trivial⟩, ?_, fun m => ?_⟩
  · rw [Ex.dep, Ex.deps, Ex.deps]
    have := g.dp
    omega
  · rw [ck, cks1 g.ty]
    show (match joint w [k1] with | some k => Except.ok k | none => .error m) = _
    rw [hj]
theorem gd_op2 {ds : List D} {ts : List T} {w : Str} {e1 e2 : Ex} {k k1 k2 : Kd} {n : Nat} (g1 : Gd ds ts k1 n e1) (g2 : Gd ds ts k2 n e2) (ha : ar w = some 2) (hj : joint w [k1, k2] = some k) : Gd ds ts k (n + 1) (.op w [e1, e2]) := by
  refine ⟨by rw [WF, WFs, WFs, WFs]; exact ⟨ha, g1.wf, g2.wf, trivial⟩, ?_, fun m => ?_⟩
  · rw [Ex.dep, Ex.deps, Ex.deps, Ex.deps]
    have := g1.dp
    have := g2.dp
    omega
  · rw [ck, cksC g1.ty fun m => cks1 g2.ty]
    show (match joint w [k1, k2] with | some k => Except.ok k | none => .error m) = _
    rw [hj]
theorem gd_op3 {ds : List D} {ts : List T} {w : Str} {e1 e2 e3 : Ex} {k k1 k2 k3 : Kd} {n : Nat} (g1 : Gd ds ts k1 n e1) (g2 : Gd ds ts k2 n e2) (g3 : Gd ds ts k3 n e3) (ha : ar w = some 3) (hj : joint w [k1, k2, k3] = some k) : Gd ds ts k (n + 1) (.op w [e1, e2, e3]) := by
  refine ⟨by rw [WF, WFs, WFs, WFs, WFs]; exact ⟨ha, g1.wf, g2.wf, g3.wf, trivial⟩, ?_, fun m => ?_⟩
  · rw [Ex.dep, Ex.deps, Ex.deps, Ex.deps, Ex.deps]
    have := g1.dp
    have := g2.dp
    have := g3.dp
    omega
  · rw [ck, cksC g1.ty fun m => cksC g2.ty fun m => cks1 g3.ty]
    show (match joint w [k1, k2, k3] with | some k => Except.ok k | none => .error m) = _
    rw [hj]
theorem Gd.mono {ds : List D} {ts : List T} {e : Ex} {k : Kd} {n m : Nat} (g : Gd ds ts k n e) (h : n ≤ m) : Gd ds ts k m e := ⟨g.wf, Nat.le_trans g.dp h, g.ty⟩
theorem ex1 {H : Hp} {a : Addr} {w : Str} {r : V} {e : Ex} (h : H a = some (.tup [.str w, r])) (x : ExAt H r e) (nw : w ∉ LV) : ExAt H (.ref a) (.op w [e]) := .op h (.cons x .nil) nw (by simp)
theorem ex2 {H : Hp} {a : Addr} {w : Str} {r1 r2 : V} {e1 e2 : Ex} (h : H a = some (.tup [.str w, r1, r2])) (x : ExAt H r1 e1) (y : ExAt H r2 e2) (nw : w ∉ LV) : ExAt H (.ref a) (.op w [e1, e2]) := .op h (.cons x (.cons y .nil)) nw (by simp)
theorem ex3 {H : Hp} {a : Addr} {w : Str} {r1 r2 r3 : V} {e1 e2 e3 : Ex} (h : H a = some (.tup [.str w, r1, r2, r3])) (x : ExAt H r1 e1) (y : ExAt H r2 e2) (z : ExAt H r3 e3) (nw : w ∉ LV) : ExAt H (.ref a) (.op w [e1, e2, e3]) := .op h (.cons x (.cons y (.cons z .nil))) nw (by simp)
theorem ShapeAt.kp {d l : Addr} {H H1 : Hp} {C a : Addr} {ds : List D} {ts : List T} (h : ShapeAt H C a ds ts) (S : StAt H d l) (k : Kp d l H H1) : ShapeAt H1 C a ds ts := by
  obtain ⟨dx, td, ta, xs, ys, h1, h2, h3, h4, h5⟩ := h
  exact ⟨dx, td, ta, xs, ys, k.at S h1 (fun _ z => nomatch z), k.at S h2 (fun _ z => nomatch z), h3.kp S k, k.at S h4 (fun _ z => nomatch z), h5.kp S k⟩
def K3 : List Str := ["int", "flag", "text"]
def K5 : List Str := ["int", "int", "int", "text", "flag"]
def AO : List Str := ["and", "or"]
def NA : List Str := ["neg", "abs"]
def A5 : List Str := ["add", "sub", "mul", "div", "mod"]
theorem k3_tab : ∀ z ∈ K3, ∃ q, z = kdS q := by
  intro z h
  rcases List.mem_cons.mp h with rfl | h
  · exact ⟨.i, rfl⟩
  rcases List.mem_cons.mp h with rfl | h
  · exact ⟨.f, rfl⟩
  rcases List.mem_cons.mp h with rfl | h
  · exact ⟨.t, rfl⟩
  · exact absurd h List.not_mem_nil
theorem k5_tab : ∀ z ∈ K5, ∃ q, z = kdS q := fun z h => k3_tab z (by
  have : ∀ z ∈ K5, z ∈ K3 := by decide +kernel
  exact this z h)
def QS : List Kd := [.i, .f, .t]
theorem qs_in (k : Kd) : k ∈ QS := by cases k <;> decide +kernel
theorem cmp_t : ∀ w ∈ CMP, ∀ k ∈ QS, ar w = some 2 ∧ joint w [k, k] = some .f ∧ w ∉ LV := by decide +kernel
theorem ao_t : ∀ w ∈ AO, ar w = some 2 ∧ joint w [.f, .f] = some .f ∧ w ∉ LV := by decide +kernel
theorem na_t : ∀ w ∈ NA, ar w = some 1 ∧ joint w [.i] = some .i ∧ w ∉ LV := by decide +kernel
theorem a5_t : ∀ w ∈ A5, ar w = some 2 ∧ joint w [.i, .i] = some .i ∧ w ∉ LV := by decide +kernel
theorem mi_t : ∀ k ∈ QS, joint "is missing" [k] = some .f := by decide +kernel
theorem if_t : ∀ k ∈ QS, joint "if" [.f, k, k] = some k := by decide +kernel
theorem oe_t : ∀ k ∈ QS, joint "or else" [k, k] = some k := by decide +kernel
section
variable {P : Program} {w : World} {K : PySem.W.Frag} {mg : Str → Option Value} {base : Heap}
def spE (C : Addr) (n : Nat) : Sp := fun vs H Q _ => ∃ (d l s : Addr) (k : Kd) (z : Nat) (ds : List D) (ts : List T), vs = [.ref d, .ref s, ks k, .int (z : Int)] ∧ z < n ∧ StAt H d l ∧ ShapeAt H C s ds ts ∧ Dr ds ts ∧ ∀ H' r e, Kp d l H H' → ExAt H' r e → Gd ds ts k z e → Q r H'
def spFl (C : Addr) (n : Nat) : Sp := fun vs H Q _ => ∃ (d l s : Addr) (z : Nat) (ds : List D) (ts : List T), vs = [.ref d, .ref s, .int ((z + 1 : Nat) : Int)] ∧ z < n ∧ StAt H d l ∧ ShapeAt H C s ds ts ∧ Dr ds ts ∧ ∀ H' r e, Kp d l H H' → ExAt H' r e → Gd ds ts .f (z + 1) e → Q r H'
theorem scFlag : FnScope ["state", "shape", "depth", "choice", "word", "kind"] ["state", "shape", "depth"] (defScope sFlag) := ⟨rfl, rfl, rfl, by decide +kernel, rfl, by decide +kernel, by decide +kernel⟩
theorem ok_flag {f fN fE C : Addr} {fd fdN fdE : FuncData} {n lv : Nat} (F : Fun K "_law_flag" "_law_flag" sFlag f fd) (M : Nm mg) (FN : Fun K "_law_next" "_law_next" sNext fN fdN) (bN : Binds K fdN ["state", "bound"] []) (gN : mg "_law_next" = some (.ref fN))
    (GE : FnOk P w K mg base CX0 lv fE fdE ["state", "shape", "kind", "depth"] (spE C n)) (kE : PySem.W.keepIn K (.ref fE) = true) (bE : Binds K fdE ["state", "shape", "kind", "depth"] []) (gE : mg "_law_expression" = some (.ref fE)) (hl : 1 ≤ lv) : FnOk P w K mg base CX0 (lv + 1) f fd ["state", "shape", "depth"] (spFl C n) := by
  have GN : FnOk P w K mg base CX0 1 fN fdN ["state", "bound"] spNext := ok_next FN M.int M.len
  refine F.ok scFlag (fun vs H Q E h => ?_) (fun cdv A outer s H vs Q E hr h => ?_)
  · obtain ⟨d, l, s, z, ds, ts, rfl, _⟩ := h
    rfl
  · obtain ⟨d, l, s', z, ds, ts, rfl, hz, St, hS, dr, q⟩ := h
    have hr1 := hr.mono (j := 1) hl
    refine ⟨_, pss_cons (ps_set (i := 3) scFlag.nd rfl (.inl rfl) (pe_call GN hr1 (by rfl) gN FN.kp bN .nil pass0 (pa_cons (pv 0) (pa_cons pe_int pa_nil))))
      (pss_cons (ps_if (pt_cmpR op_eq (pv 3) pe_int (nomark _)) (pss_one (ps_ret (pe_tup (pa_cons pe_str (pa_cons (pe_call GE hr (by rfl) gE kE bE .nil pass0 (pa_cons (pv 0) (pa_cons (pv 1) (pa_cons pe_str (pa_cons (pe_op op_sub (pv 2) pe_int) pa_nil))))) pa_nil))))) pss_nil)
      (pss_cons (ps_if (pt_cmpR op_eq (pv 3) pe_int (nomark _)) (pss_one (ps_ret (pe_tup (pa_cons pe_str (pa_cons (pe_call GE hr (by rfl) gE kE bE .nil pass0 (pa_cons (pv 0) (pa_cons (pv 1) (pa_cons (pe_ix ix_list (pe_lst (pa_cons pe_str (pa_cons pe_str (pa_cons pe_str pa_nil))))
          (pe_call GN hr1 (by rfl) gN FN.kp bN .nil pass0 (pa_cons (pv 0) (pa_cons pe_int pa_nil))) (fun _ _ => rfl)) (pa_cons (pe_op op_sub (pv 2) pe_int) pa_nil))))) pa_nil))))) pss_nil)
      (pss_cons (ps_if (pt_cmpR op_lt (pv 3) pe_int (nomark _)) (pss_cons (ps_set (i := 4) scFlag.nd rfl (.inl rfl) (pe_ix ix_list (pe_lst (pa_cons pe_str (pa_cons pe_str pa_nil))) (pe_op op_sub (pv 3) pe_int) (fun _ _ => rfl)))
          (pss_one (ps_ret (pe_tup (pa_cons (pv 4) (pa_cons (pe_call GE hr (by rfl) gE kE bE .nil pass0 (pa_cons (pv 0) (pa_cons (pv 1) (pa_cons pe_str (pa_cons (pe_op op_sub (pv 2) pe_int) pa_nil))))) (pa_cons (pe_call GE hr (by rfl) gE kE bE .nil pass0 (pa_cons (pv 0) (pa_cons (pv 1) (pa_cons pe_str (pa_cons (pe_op op_sub (pv 2) pe_int) pa_nil))))) pa_nil))))))) pss_nil)
      (pss_cons (ps_set (i := 5) scFlag.nd rfl (.inl rfl) (pe_ix ix_list (pe_lst (pa_cons pe_str (pa_cons pe_str (pa_cons pe_str (pa_cons pe_str (pa_cons pe_str pa_nil)))))) (pe_call GN hr1 (by rfl) gN FN.kp bN .nil pass0 (pa_cons (pv 0) (pa_cons pe_int pa_nil))) (fun _ _ => rfl)))
      (pss_cons (ps_set (i := 4) scFlag.nd rfl (.inl rfl) (pe_ix ix_list (pe_lst (pa_cons pe_str (pa_cons pe_str (pa_cons pe_str (pa_cons pe_str (pa_cons pe_str (pa_cons pe_str pa_nil))))))) (pe_call GN hr1 (by rfl) gN FN.kp bN .nil pass0 (pa_cons (pv 0) (pa_cons pe_int pa_nil))) (fun _ _ => rfl)))
      (pss_one (ps_ret (pe_tup (pa_cons (pv 4) (pa_cons (pe_call GE hr (by rfl) gE kE bE .nil pass0 (pa_cons (pv 0) (pa_cons (pv 1) (pa_cons (pv 5) (pa_cons (pe_op op_sub (pv 2) pe_int) pa_nil))))) (pa_cons (pe_call GE hr (by rfl) gE kE bE .nil pass0 (pa_cons (pv 0) (pa_cons (pv 1) (pa_cons (pv 5) (pa_cons (pe_op op_sub (pv 2) pe_int) pa_nil))))) pa_nil)))))))))))
      , ?_⟩
    have ez : ((z + 1 : Nat) : Int) - 1 = (z : Int) := by omega
    have ev : ∀ u : V, [V.ref d, V.ref s', u, V.int (((z + 1 : Nat) : Int) - 1)] = [V.ref d, V.ref s', u, V.int (z : Int)] := fun u => by rw [ez]
    refine ⟨_, rfl, d, l, 9, rfl, St, by decide, fun H1 n0 n1 n2 k1 => ?_⟩
    have hS1 := hS.kp St k1
    refine ⟨_, rfl, rfl, _, rfl, ite2 (fun _ => ?_) (fun _ => ?_)⟩
    · refine ⟨_, rfl, _, rfl, _, rfl, _, 1, rfl, rfl, d, l, s', .f, z, ds, ts, ev (ks .f), hz, k1.st, hS1, dr, fun H2 r e k2 x g => ⟨(by show 2 ≤ sizeLine; decide), fun t nt => ?_⟩⟩
      exact q _ _ _ ((k1.trans k2).new nt) (ex1 upd_same (x.same (same_new nt)) (by decide +kernel)) (gd_op1 g (by decide +kernel) (by decide +kernel))
    refine ⟨_, rfl, rfl, _, rfl, ite2 (fun _ => ?_) (fun _ => ?_)⟩
    · refine ⟨_, rfl, _, rfl, (by show 3 ≤ sizeLine; decide), fun o no => ?_⟩
      have k2 := k1.new (o := .lst (K3.map V.str)) no
      refine ⟨_, rfl, d, l, 3, rfl, k2.st, by decide, fun H3 m m0 m1 k3 => ?_⟩
      obtain ⟨kz, hkz, hat⟩ := str_in (ms := K3) rfl m0 m1
      obtain ⟨qk, rfl⟩ := k3_tab kz hkz
      have k23 := k2.trans k3
      refine ⟨o, _, _, _, rfl, rfl, .inl (.inl (k3.keep _ _ upd_same (k1.st.nd no).1)), hat, _, rfl, _, 1, rfl, rfl, d, l, s', qk, z, ds, ts, ev (ks qk), hz, k23.st, hS.kp St k23, dr, fun H4 r e k4 x g => ⟨(by show 2 ≤ sizeLine; decide), fun t nt => ?_⟩⟩
      exact q _ _ _ ((k23.trans k4).new nt) (ex1 upd_same (x.same (same_new nt)) (by decide +kernel)) (gd_op1 g (by decide +kernel) (mi_t qk (qs_in qk)))
    rename_i hn0 hn1
    have hn0' : n0 ≠ 0 := fun h => by rw [h] at hn0; exact absurd hn0 (by decide)
    have hn1' : n0 ≠ 1 := fun h => by rw [h] at hn1; exact absurd hn1 (by decide)
    refine ⟨_, rfl, n0, 4, rfl, rfl, _, rfl, ?_⟩
    by_cases c : n0 < 4
    · refine iteB (decide_eq_true c) ⟨(by show 2 ≤ sizeLine; decide), fun o no => ?_⟩
      have k2 := k1.new (o := .lst (AO.map V.str)) no
      obtain ⟨wz, hwz, hat⟩ := str_in (ms := AO) (n := n0 - 2) rfl (by omega) (by show n0 - 2 < ((2 : Nat) : Int); omega)
      obtain ⟨t1, t2, t3⟩ := ao_t wz hwz
      refine ⟨_, rfl, n0, 2, rfl, rfl, o, _, _, _, rfl, rfl, .inl (.inl upd_same), hat, ?_⟩
      refine ⟨_, rfl, _, rfl, _, rfl, _, rfl, _, 1, rfl, rfl, d, l, s', .f, z, ds, ts, ev (ks .f), hz, k2.st, hS.kp St k2, dr, fun H4 r e k4 x g => ?_⟩
      have k24 := k2.trans k4
      refine ⟨_, rfl, _, rfl, _, rfl, _, 1, rfl, rfl, d, l, s', .f, z, ds, ts, ev (ks .f), hz, k24.st, hS.kp St k24, dr, fun H5 r2 e2 k5 x2 g2 => ⟨(by show 3 ≤ sizeLine; decide), fun t nt => ?_⟩⟩
      exact q _ _ _ ((k24.trans k5).new nt) (ex2 upd_same ((x.kp k24.st k5).same (same_new nt)) (x2.same (same_new nt)) t3) (gd_op2 g g2 t1 t2)
    refine iteBF (decide_eq_false c) ⟨(by show 5 ≤ sizeLine; decide), fun o no => ?_⟩
    have k2 := k1.new (o := .lst (K5.map V.str)) no
    refine ⟨_, rfl, d, l, 5, rfl, k2.st, by decide, fun H3 m m0 m1 k3 => ?_⟩
    obtain ⟨kz, hkz, hat⟩ := str_in (ms := K5) rfl m0 m1
    obtain ⟨qk, rfl⟩ := k5_tab kz hkz
    have k23 := k2.trans k3
    refine ⟨o, _, _, _, rfl, rfl, .inl (.inl (k3.keep _ _ upd_same (k1.st.nd no).1)), hat, (by show 6 ≤ sizeLine; decide), fun o2 no2 => ?_⟩
    have k4 := k23.new (o := .lst (CMP.map V.str)) no2
    refine ⟨_, rfl, d, l, 6, rfl, k4.st, by decide, fun H5 m2 m20 m21 k5 => ?_⟩
    obtain ⟨wz, hwz, hat2⟩ := str_in (ms := CMP) rfl m20 m21
    obtain ⟨t1, t2, t3⟩ := cmp_t wz hwz qk (qs_in qk)
    have k45 := k4.trans k5
    refine ⟨o2, _, _, _, rfl, rfl, .inl (.inl (k5.keep _ _ upd_same (k23.st.nd no2).1)), hat2, ?_⟩
    refine ⟨_, rfl, _, rfl, _, rfl, _, rfl, _, rfl, _, 1, rfl, rfl, d, l, s', qk, z, ds, ts, ev (ks qk), hz, k45.st, hS.kp St k45, dr, fun H6 r e k6 x g => ?_⟩
    have k56 := k45.trans k6
    refine ⟨_, rfl, _, rfl, _, rfl, _, rfl, _, 1, rfl, rfl, d, l, s', qk, z, ds, ts, ev (ks qk), hz, k56.st, hS.kp St k56, dr, fun H7 r2 e2 k7 x2 g2 => ⟨(by show 3 ≤ sizeLine; decide), fun t nt => ?_⟩⟩
    exact q _ _ _ ((k56.trans k7).new nt) (ex2 upd_same ((x.kp k56.st k7).same (same_new nt)) (x2.same (same_new nt)) t3) (gd_op2 g g2 t1 t2)
end
end K2

namespace K2
open PySem L2
section
variable {P : Program} {w : World} {K : PySem.W.Frag} {mg : Str → Option Value} {base : Heap}
theorem scExpr : FnScope ["state", "shape", "kind", "depth", "choice", "parts", "word"] ["state", "shape", "kind", "depth"] (defScope sExpr) := ⟨rfl, rfl, rfl, by decide +kernel, rfl, by decide +kernel, by decide +kernel⟩
theorem ok_expr {f fN fL fF C : Addr} {fd fdN fdL fdF : FuncData} (F : Fun K "_law_expression" "_law_expression" sExpr f fd) (gF : mg "_law_expression" = some (.ref f)) (bF : Binds K fd ["state", "shape", "kind", "depth"] []) (M : Nm mg) (FN : Fun K "_law_next" "_law_next" sNext fN fdN) (bN : Binds K fdN ["state", "bound"] []) (gN : mg "_law_next" = some (.ref fN))
    (GL : FnOk P w K mg base CX0 4 fL fdL ["state", "shape", "kind"] (spLeaf C)) (kL : PySem.W.keepIn K (.ref fL) = true) (bL : Binds K fdL ["state", "shape", "kind"] []) (gL : mg "_law_leaf" = some (.ref fL))
    (FF : Fun K "_law_flag" "_law_flag" sFlag fF fdF) (bFF : Binds K fdF ["state", "shape", "depth"] []) (gFF : mg "_law_flag" = some (.ref fF)) : ∀ n : Nat, FnOk P w K mg base CX0 (5 + 2 * n) f fd ["state", "shape", "kind", "depth"] (spE C n) := by
  have GN : FnOk P w K mg base CX0 1 fN fdN ["state", "bound"] spNext := ok_next FN M.int M.len
  intro n
  induction n with
  | zero =>
    refine F.ok scExpr (fun vs H Q E h => ?_) (fun cdv A outer s H vs Q E hr h => ?_)
    · obtain ⟨d, l, s, k, z, ds, ts, rfl, _⟩ := h
      rfl
    · obtain ⟨d, l, s, k, z, ds, ts, rfl, hz, _⟩ := h
      exact absurd hz (Nat.not_lt_zero _)
  | succ n ih =>
    have GF : FnOk P w K mg base CX0 (5 + 2 * n + 1) fF fdF ["state", "shape", "depth"] (spFl C n) := ok_flag FF M FN bN gN ih F.kp bF gF (by omega)
    have e7 : 5 + 2 * (n + 1) = (6 + 2 * n) + 1 := by omega
    rw [e7]
    refine F.ok scExpr (fun vs H Q E h => ?_) (fun cdv A outer s H vs Q E hr h => ?_)
    · obtain ⟨d, l, s, k, z, ds, ts, rfl, _⟩ := h
      rfl
    · obtain ⟨d, l, s', k, z, ds, ts, rfl, hz, St, hS, dr, q⟩ := h
      have hr1 := hr.mono (j := 1) (by omega)
      have hr4 := hr.mono (j := 4) (by omega)
      have hre := hr.mono (j := 5 + 2 * n) (by omega)
      have hrf := hr.mono (j := 5 + 2 * n + 1) (by omega)
      refine ⟨_, pss_cons (ps_set (i := 4) scExpr.nd rfl (.inl rfl) (pe_call GN hr1 (by rfl) gN FN.kp bN .nil pass0 (pa_cons (pv 0) (pa_cons pe_int pa_nil))))
        (pss_cons (ps_if (PW.pt (pw_or (pt_cmpR op_le (pv 3) pe_int (nomark _)) (pw_or1 (pt_cmpR op_eq (pv 4) pe_int (nomark _))))) (pss_one (ps_ret (pe_call GL hr4 (by rfl) gL kL bL .nil pass0 (pa_cons (pv 0) (pa_cons (pv 1) (pa_cons (pv 2) pa_nil)))))) pss_nil)
        (pss_cons (ps_if (pt_cmpR op_eq (pv 4) pe_int (nomark _)) (pss_cons (ps_set (i := 5) scExpr.nd rfl (.inl rfl) (pe_tup (pa_cons (pe_call ih hre (by rfl) gF F.kp bF .nil pass0 (pa_cons (pv 0) (pa_cons (pv 1) (pa_cons (pv 2) (pa_cons (pe_op op_sub (pv 3) pe_int) pa_nil)))))
              (pa_cons (pe_call ih hre (by rfl) gF F.kp bF .nil pass0 (pa_cons (pv 0) (pa_cons (pv 1) (pa_cons (pv 2) (pa_cons (pe_op op_sub (pv 3) pe_int) pa_nil))))) pa_nil))))
            (pss_one (ps_ret (pe_op op_catT (pe_tup (pa_cons pe_str (pa_cons (pe_call ih hre (by rfl) gF F.kp bF .nil pass0 (pa_cons (pv 0) (pa_cons (pv 1) (pa_cons pe_str (pa_cons (pe_op op_sub (pv 3) pe_int) pa_nil))))) pa_nil))) (pv 5))))) pss_nil)
        (pss_cons (ps_if (pt_cmpR op_eq (pv 4) pe_int (nomark _)) (pss_one (ps_ret (pe_tup (pa_cons pe_str (pa_cons (pe_call ih hre (by rfl) gF F.kp bF .nil pass0 (pa_cons (pv 0) (pa_cons (pv 1) (pa_cons (pv 2) (pa_cons (pe_op op_sub (pv 3) pe_int) pa_nil)))))
              (pa_cons (pe_call ih hre (by rfl) gF F.kp bF .nil pass0 (pa_cons (pv 0) (pa_cons (pv 1) (pa_cons (pv 2) (pa_cons (pe_op op_sub (pv 3) pe_int) pa_nil))))) pa_nil)))))) pss_nil)
        (pss_cons (ps_if (pt_cmpR op_eq (pv 2) pe_str (nomark _)) (pss_one (ps_ret (pe_call GF hrf (by rfl) gFF FF.kp bFF .nil pass0 (pa_cons (pv 0) (pa_cons (pv 1) (pa_cons (pv 3) pa_nil)))))) pss_nil)
        (pss_cons (ps_if (pt_cmpR op_eq (pv 2) pe_str (nomark _)) (pss_one (ps_ret (pe_tup (pa_cons pe_str (pa_cons (pe_call ih hre (by rfl) gF F.kp bF .nil pass0 (pa_cons (pv 0) (pa_cons (pv 1) (pa_cons (pv 2) (pa_cons (pe_op op_sub (pv 3) pe_int) pa_nil)))))
              (pa_cons (pe_call ih hre (by rfl) gF F.kp bF .nil pass0 (pa_cons (pv 0) (pa_cons (pv 1) (pa_cons (pv 2) (pa_cons (pe_op op_sub (pv 3) pe_int) pa_nil))))) pa_nil)))))) pss_nil)
        (pss_cons (ps_if (pt_cmpR op_eq (pv 4) pe_int (nomark _)) (pss_one (ps_ret (pe_tup (pa_cons pe_str (pa_cons (pe_call ih hre (by rfl) gF F.kp bF .nil pass0 (pa_cons (pv 0) (pa_cons (pv 1) (pa_cons pe_str (pa_cons (pe_op op_sub (pv 3) pe_int) pa_nil))))) pa_nil))))) pss_nil)
        (pss_cons (ps_if (pt_cmpR op_eq (pv 4) pe_int (nomark _)) (pss_one (ps_ret (pe_tup (pa_cons (pe_ix ix_list (pe_lst (pa_cons pe_str (pa_cons pe_str pa_nil))) (pe_call GN hr1 (by rfl) gN FN.kp bN .nil pass0 (pa_cons (pv 0) (pa_cons pe_int pa_nil))) (fun _ _ => rfl))
              (pa_cons (pe_call ih hre (by rfl) gF F.kp bF .nil pass0 (pa_cons (pv 0) (pa_cons (pv 1) (pa_cons (pv 2) (pa_cons (pe_op op_sub (pv 3) pe_int) pa_nil))))) pa_nil))))) pss_nil)
        (pss_cons (ps_set (i := 6) scExpr.nd rfl (.inl rfl) (pe_ix ix_list (pe_lst (pa_cons pe_str (pa_cons pe_str (pa_cons pe_str (pa_cons pe_str (pa_cons pe_str pa_nil)))))) (pe_call GN hr1 (by rfl) gN FN.kp bN .nil pass0 (pa_cons (pv 0) (pa_cons pe_int pa_nil))) (fun _ _ => rfl)))
        (pss_one (ps_ret (pe_tup (pa_cons (pv 6) (pa_cons (pe_call ih hre (by rfl) gF F.kp bF .nil pass0 (pa_cons (pv 0) (pa_cons (pv 1) (pa_cons (pv 2) (pa_cons (pe_op op_sub (pv 3) pe_int) pa_nil)))))
              (pa_cons (pe_call ih hre (by rfl) gF F.kp bF .nil pass0 (pa_cons (pv 0) (pa_cons (pv 1) (pa_cons (pv 2) (pa_cons (pe_op op_sub (pv 3) pe_int) pa_nil))))) pa_nil)))))))))))))), ?_⟩
      refine ⟨_, rfl, d, l, 10, rfl, St, by decide, fun H1 c c0 c1 k1 => ?_⟩
      have hS1 := hS.kp St k1
      refine ⟨_, rfl, (z : Int), 0, rfl, rfl, _, rfl, ?_⟩
      by_cases hz0 : (z : Int) ≤ 0
      · exact iteB (decide_eq_true hz0) ⟨_, rfl, _, rfl, _, rfl, d, l, s', k, ds, ts, rfl, k1.st, hS1, dr, fun H2 r e k2 x g => q _ _ _ (k1.trans k2) x (g.mono (Nat.zero_le _))⟩
      refine iteBF (decide_eq_false hz0) ⟨_, rfl, rfl, _, rfl, ite2 (fun _ => ?_) (fun _ => ?_)⟩
      · exact ⟨_, rfl, _, rfl, _, rfl, d, l, s', k, ds, ts, rfl, k1.st, hS1, dr, fun H2 r e k2 x g => q _ _ _ (k1.trans k2) x (g.mono (Nat.zero_le _))⟩
      obtain ⟨y, rfl⟩ : ∃ y, z = y + 1 := ⟨z - 1, by omega⟩
      have hy : y < n := by omega
      have ez : ((y + 1 : Nat) : Int) - 1 = (y : Int) := by omega
      have ev : ∀ u : V, [V.ref d, V.ref s', u, V.int (((y + 1 : Nat) : Int) - 1)] = [V.ref d, V.ref s', u, V.int (y : Int)] := fun u => by rw [ez]
      refine ⟨_, rfl, rfl, _, rfl, ite2 (fun _ => ?_) (fun _ => ?_)⟩
      · refine ⟨_, rfl, _, rfl, _, rfl, _, rfl, _, 1, rfl, rfl, d, l, s', k, y, ds, ts, ev (ks k), hy, k1.st, hS1, dr, fun H2 r1 e1 k2 x1 g1 => ?_⟩
        have k12 := k1.trans k2
        refine ⟨_, rfl, _, rfl, _, rfl, _, rfl, _, 1, rfl, rfl, d, l, s', k, y, ds, ts, ev (ks k), hy, k12.st, hS.kp St k12, dr, fun H3 r2 e2 k3 x2 g2 => ⟨(by show 2 ≤ sizeLine; decide), fun t nt => ?_⟩⟩
        have k13 := (k12.trans k3).new (o := .tup [r1, r2]) nt
        have x1' := (x1.kp k12.st k3).same (same_new (o := .tup [r1, r2]) nt)
        have x2' := x2.same (same_new (o := .tup [r1, r2]) nt)
        refine ⟨_, rfl, _, rfl, _, rfl, _, 1, rfl, rfl, d, l, s', .f, y, ds, ts, ev (ks .f), hy, k13.st, hS.kp St k13, dr, fun H4 r3 e3 k4 x3 g3 => ⟨(by show 2 ≤ sizeLine; decide), fun t2 nt2 => ?_⟩⟩
        have k14 := (k13.trans k4).new (o := .tup [.str "if", r3]) nt2
        have ht := same_new (o := .tup [.str "if", r3]) nt2 _ _ (k4.at k13.st upd_same (fun _ z => nomatch z))
        refine ⟨_, rfl, t2, t, _, _, rfl, rfl, SqT.of upd_same, SqT.of ht, (by simp), (by show 2 + 2 ≤ sizeLine; decide), (fun h => absurd h (by simp)), fun _ p3 np3 => ?_⟩
        have s5 := (same_new (o := .tup [.str "if", r3]) nt2).trans (same_new (o := .tup ([.str "if", r3] ++ [r1, r2])) np3)
        exact q _ _ _ (k14.new np3) (ex3 upd_same (x3.same s5) ((x1'.kp k13.st k4).same s5) ((x2'.kp k13.st k4).same s5) (by decide +kernel)) (gd_op3 g3 g1 g2 (by decide +kernel) (if_t k (qs_in k)))
      refine ⟨_, rfl, rfl, _, rfl, ite2 (fun _ => ?_) (fun _ => ?_)⟩
      · refine ⟨_, rfl, _, rfl, _, rfl, _, rfl, _, 1, rfl, rfl, d, l, s', k, y, ds, ts, ev (ks k), hy, k1.st, hS1, dr, fun H2 r1 e1 k2 x1 g1 => ?_⟩
        have k12 := k1.trans k2
        refine ⟨_, rfl, _, rfl, _, rfl, _, rfl, _, 1, rfl, rfl, d, l, s', k, y, ds, ts, ev (ks k), hy, k12.st, hS.kp St k12, dr, fun H3 r2 e2 k3 x2 g2 => ⟨(by show 3 ≤ sizeLine; decide), fun t nt => ?_⟩⟩
        exact q _ _ _ ((k12.trans k3).new nt) (ex2 upd_same ((x1.kp k12.st k3).same (same_new nt)) (x2.same (same_new nt)) (by decide +kernel)) (gd_op2 g1 g2 (by decide +kernel) (oe_t k (qs_in k)))
      refine ⟨_, rfl, rfl, _, rfl, ?_⟩
      rw [show decide (ks k = .str ("flag" : Str)) = decide (k = .f) from ks_eq k .f]
      by_cases kf : k = .f
      · subst kf
        exact iteB (decide_eq_true rfl) ⟨_, rfl, _, rfl, _, rfl, d, l, s', y, ds, ts, rfl, hy, k1.st, hS1, dr, fun H2 r e k2 x g => q _ _ _ (k1.trans k2) x g⟩
      refine iteBF (decide_eq_false kf) ⟨_, rfl, rfl, _, rfl, ?_⟩
      rw [show decide (ks k = .str ("text" : Str)) = decide (k = .t) from ks_eq k .t]
      by_cases kt : k = .t
      · subst kt
        refine iteB (decide_eq_true rfl) ⟨_, rfl, _, rfl, _, rfl, _, rfl, _, 1, rfl, rfl, d, l, s', .t, y, ds, ts, ev (ks .t), hy, k1.st, hS1, dr, fun H2 r1 e1 k2 x1 g1 => ?_⟩
        have k12 := k1.trans k2
        refine ⟨_, rfl, _, rfl, _, rfl, _, rfl, _, 1, rfl, rfl, d, l, s', .t, y, ds, ts, ev (ks .t), hy, k12.st, hS.kp St k12, dr, fun H3 r2 e2 k3 x2 g2 => ⟨(by show 3 ≤ sizeLine; decide), fun t nt => ?_⟩⟩
        exact q _ _ _ ((k12.trans k3).new nt) (ex2 upd_same ((x1.kp k12.st k3).same (same_new nt)) (x2.same (same_new nt)) (by decide +kernel)) (gd_op2 g1 g2 (by decide +kernel) (by decide +kernel))
      have ki : k = .i := by cases k <;> first | rfl | exact absurd rfl kf | exact absurd rfl kt
      subst ki
      refine iteBF (decide_eq_false kt) ⟨_, rfl, rfl, _, rfl, ite2 (fun _ => ?_) (fun _ => ?_)⟩
      · refine ⟨_, rfl, _, rfl, _, rfl, _, 1, rfl, rfl, d, l, s', .t, y, ds, ts, ev (ks .t), hy, k1.st, hS1, dr, fun H2 r1 e1 k2 x1 g1 => ⟨(by show 2 ≤ sizeLine; decide), fun t nt => ?_⟩⟩
        exact q _ _ _ ((k1.trans k2).new nt) (ex1 upd_same (x1.same (same_new nt)) (by decide +kernel)) (gd_op1 g1 (by decide +kernel) (by decide +kernel))
      refine ⟨_, rfl, rfl, _, rfl, ite2 (fun _ => ?_) (fun _ => ?_)⟩
      · refine ⟨(by show 2 ≤ sizeLine; decide), fun o no => ?_⟩
        have k2 := k1.new (o := .lst (NA.map V.str)) no
        refine ⟨_, rfl, d, l, 2, rfl, k2.st, by decide, fun H3 m m0 m1 k3 => ?_⟩
        obtain ⟨wz, hwz, hat⟩ := str_in (ms := NA) rfl m0 m1
        obtain ⟨t1, t2, t3⟩ := na_t wz hwz
        have k23 := k2.trans k3
        refine ⟨o, _, _, _, rfl, rfl, .inl (.inl (k3.keep _ _ upd_same (k1.st.nd no).1)), hat, _, rfl, _, rfl, _, rfl, _, rfl, _, 1, rfl, rfl, d, l, s', .i, y, ds, ts, ev (ks .i), hy, k23.st, hS.kp St k23, dr, fun H4 r1 e1 k4 x1 g1 => ⟨(by show 2 ≤ sizeLine; decide), fun t nt => ?_⟩⟩
        exact q _ _ _ ((k23.trans k4).new nt) (ex1 upd_same (x1.same (same_new nt)) t3) (gd_op1 g1 t1 t2)
      refine ⟨(by show 5 ≤ sizeLine; decide), fun o no => ?_⟩
      have k2 := k1.new (o := .lst (A5.map V.str)) no
      refine ⟨_, rfl, d, l, 5, rfl, k2.st, by decide, fun H3 m m0 m1 k3 => ?_⟩
      obtain ⟨wz, hwz, hat⟩ := str_in (ms := A5) rfl m0 m1
      obtain ⟨t1, t2, t3⟩ := a5_t wz hwz
      have k23 := k2.trans k3
      refine ⟨o, _, _, _, rfl, rfl, .inl (.inl (k3.keep _ _ upd_same (k1.st.nd no).1)), hat, ?_⟩
      refine ⟨_, rfl, _, rfl, _, rfl, _, rfl, _, rfl, _, 1, rfl, rfl, d, l, s', .i, y, ds, ts, ev (ks .i), hy, k23.st, hS.kp St k23, dr, fun H4 r1 e1 k4 x1 g1 => ?_⟩
      have k24 := k23.trans k4
      refine ⟨_, rfl, _, rfl, _, rfl, _, rfl, _, 1, rfl, rfl, d, l, s', .i, y, ds, ts, ev (ks .i), hy, k24.st, hS.kp St k24, dr, fun H5 r2 e2 k5 x2 g2 => ⟨(by show 3 ≤ sizeLine; decide), fun t nt => ?_⟩⟩
      exact q _ _ _ ((k24.trans k5).new nt) (ex2 upd_same ((x1.kp k24.st k5).same (same_new nt)) (x2.same (same_new nt)) t3) (gd_op2 g1 g2 t1 t2)
end
end K2

namespace K2
open PySem L2
theorem deps_le : ∀ {es : List Ex} {b : Nat}, (∀ x ∈ es, x.dep ≤ b) → Ex.deps es ≤ b
  | [], _, _ => by rw [Ex.deps]; exact Nat.zero_le _
  | x :: r, b, h => by
    rw [Ex.deps]
    exact Nat.max_le.mpr ⟨h x (List.mem_cons_self ..), deps_le fun y hy => h y (List.mem_cons_of_mem _ hy)⟩
theorem wfs_of : ∀ {es : List Ex}, (∀ x ∈ es, WF x) → WFs es
  | [], _ => by rw [WFs]; trivial
  | x :: r, h => by
    rw [WFs]
    exact ⟨h x (List.mem_cons_self ..), wfs_of fun y hy => h y (List.mem_cons_of_mem _ hy)⟩
theorem ExAll.push {H : Hp} : ∀ {es : List Ex} {vs : List V} {e : Ex} {v : V}, ExAll H vs es → ExAt H v e → ExAll H (vs ++ [v]) (es ++ [e])
  | _, _, _, _, .nil, h => .cons h .nil
  | _, _, _, _, .cons x g, h => .cons x (ExAll.push g h)
section
variable {P : Program} {w : World} {K : PySem.W.Frag} {mg : Str → Option Value} {base : Heap}
def spRep (n : Nat) : Sp := fun vs H Q _ => ∃ (r rn : V) (m : Nat) (e en : Ex), vs = [r, .int (m : Int), rn] ∧ ExAt H r e ∧ ExAt H rn en ∧ WF e ∧ WF en ∧ e.dep < n ∧ m < e.size ∧
  ∀ H' r' e', Same H H' → ExAt H' r' e' → WF e' → e'.dep ≤ e.dep + en.dep → Q r' H'
theorem scRep : FnScope ["expression", "number", "new", "left", "parts", "part", "size"] ["expression", "number", "new"] (defScope sReplaced) := ⟨rfl, rfl, rfl, by decide +kernel, rfl, by decide +kernel, by decide +kernel⟩
theorem ok_rep {f fC : Addr} {fd fdC : FuncData} (F : Fun K "_law_replaced" "_law_replaced" sReplaced f fd) (gF : mg "_law_replaced" = some (.ref f)) (bF : Binds K fd ["expression", "number", "new"] []) (N : Nk K mg)
    (GC : ∀ n, FnOk P w K mg base CX0 (1 + n) fC fdC ["expression"] (spCount n)) (kC : PySem.W.keepIn K (.ref fC) = true) (bC : Binds K fdC ["expression"] []) (gC : mg "_law_count" = some (.ref fC)) : ∀ n : Nat, FnOk P w K mg base CX0 (2 + n) f fd ["expression", "number", "new"] (spRep n) := by
  intro n
  induction n with
  | zero =>
    refine F.ok scRep (fun vs H Q E h => ?_) (fun cdv A outer s H vs Q E hr h => ?_)
    · obtain ⟨r, rn, m, e, en, rfl, _⟩ := h
      rfl
    · obtain ⟨r, rn, m, e, en, rfl, _, _, _, _, hd, _⟩ := h
      exact absurd hd (Nat.not_lt_zero _)
  | succ n ih =>
    have GCn := GC n
    refine F.ok scRep (fun vs H Q E h => ?_) (fun cdv A outer s H vs Q E hr h => ?_)
    · obtain ⟨r, rn, m, e, en, rfl, _⟩ := h
      rfl
    · obtain ⟨r, rn, m, e, en, rfl, he, hen, wf, wfn, hd, hm, q⟩ := h
      have hrc := hr.mono (j := 1 + n) (by show 1 + n ≤ 2 + n; omega)
      have hrn := hr.mono (j := 2 + n) (by show 2 + n ≤ 2 + n; omega)
      refine ⟨_, pss_cons (ps_if (pt_cmpR op_eq (pv 1) pe_int (nomark _)) (pss_one (ps_ret (pv 2))) pss_nil)
        (pss_cons (ps_set (i := 3) scRep.nd rfl (.inl rfl) (pe_op op_sub (pv 1) pe_int)) (pss_cons (ps_set (i := 4) scRep.nd rfl (.inl rfl) (pe_lst pa_nil))
        (pss_cons (ps_for PassesOwn.never rfl (pi_tup (pe_slice sl_tup (pv 0) (po_some pe_int) po_none)) (pg_name (i := 5) scRep.nd rfl (.inl rfl))
          (pss_cons (ps_set (i := 6) scRep.nd rfl (.inl rfl) (pe_call GCn hrc (by rfl) gC kC bC .nil pass0 (pa_cons (pv 5) pa_nil)))
          (Evl.pss_cut (ps_if (pt_chain op_le op_lt pe_int (pv 3) (pv 6))
              (pss_one (ps_expr (pe_bm PySem.F.plainAttrs_list PySem.F.slot_list_append PySem.F.type_list_append mt_append (pv 4) (pa_cons (pe_call ih hrn (by rfl) gF F.kp bF .nil pass0 (pa_cons (pv 5) (pa_cons (pv 3) (pa_cons (pv 2) pa_nil)))) pa_nil))))
              (pss_one (ps_expr (pe_bm PySem.F.plainAttrs_list PySem.F.slot_list_append PySem.F.type_list_append mt_append (pv 4) (pa_cons (pv 5) pa_nil)))))
          (pss_one (ps_set (i := 3) scRep.nd rfl (.inl rfl) (pe_op op_sub (pv 3) (pv 6)))))))
        (pss_one (ps_ret (pe_op op_catT (pe_tup (pa_cons (pe_ix ix_tup (pv 0) pe_int (fun _ _ => rfl)) pa_nil)) (pe_callTy call_tuple_of (by rfl) N.tuple (by decide +kernel) (pa_cons (pv 4) pa_nil)))))))), ?_⟩
      refine ⟨_, rfl, rfl, _, rfl, ?_⟩
      by_cases c0 : V.int (m : Int) = V.int 0
      · exact iteB (decide_eq_true c0) ⟨_, rfl, q _ _ _ (Same.refl _) hen wfn (Nat.le_add_left _ _)⟩
      have m0 : m ≠ 0 := fun z => c0 (by rw [z]; rfl)
      have hpl := parts_le wf he
      have hw : e.word ∉ LV := fun z => by
        obtain ⟨_, _, _, _, _, g⟩ := he.tup
        have h1 := g z
        rw [size_parts, h1] at hm
        have : Ex.sizes [] = 0 := by rw [Ex.sizes]
        omega
      have har := wf.ar he hw
      obtain ⟨a, xs, rfl, ha, h1, h2⟩ := he.tup
      have hx0 := h1 hw
      have lx := hx0.len
      have hne : e.parts ≠ [] := fun z => by
        rw [size_parts, z] at hm
        have : Ex.sizes [] = 0 := by rw [Ex.sizes]
        omega
      refine iteBF (decide_eq_false c0) ⟨_, rfl, (m : Int), 1, rfl, rfl, Nat.zero_le _, fun nl nn => ?_⟩
      have s1 := same_new (o := .lst []) nn
      refine ⟨_, rfl, 1, rfl, a, _, rfl, SqT.of (s1 _ _ ha), cut1_not _ _, fun p np => ?_⟩
      rw [cut1]
      have s2 := s1.trans (same_new (o := .tup xs) np)
      refine ⟨p, rfl, ⟨_, SqT.of upd_same⟩, ?_⟩
      refine for_tup (xs := xs) (fun i σ H3 => ∃ (lf : Int) (ys : List V) (es : List Ex) (y5 y6 : Option V), σ = [some (.ref a), some (.int (m : Int)), some rn, some (.int lf), some (.ref nl), y5, y6] ∧ Same H H3 ∧ H3 p = some (.tup xs) ∧ H3 nl = some (.lst ys) ∧
        ExAll H3 ys es ∧ es.length = i ∧ ∀ x ∈ es, WF x ∧ x.dep + 1 ≤ e.dep + en.dep) ?_ ?_ ?_ ?_
      · exact ⟨_, [], [], _, _, rfl, s2, upd_same, same_new np _ _ upd_same, .nil, rfl, fun x h => (List.not_mem_nil h).elim⟩
      · rintro i σ H3 hi ⟨lf, ys, es, y5, y6, rfl, sm, hp3, _⟩
        exact SqT.of hp3
      · rintro i x σ H3 hxi ⟨lf, ys, es, y5, y6, rfl, sm, hp3, hnl, hys, hl, hall⟩
        have hi : i < xs.length := (List.getElem?_eq_some_iff.mp hxi).1
        have hi2 : i < e.parts.length := by omega
        obtain ⟨v, e1, e2⟩ := (hx0.same sm).at (List.getElem?_eq_getElem hi2)
        obtain rfl : x = v := Option.some.inj (hxi.symm.trans e1)
        have hmem : e.parts[i] ∈ e.parts := List.getElem_mem hi2
        have hdp := dep_part hmem
        refine ⟨_, rfl, x, e.parts[i], rfl, e2, wf.part hmem, by omega, fun H4 s4 => ?_⟩
        have sm4 := sm.trans s4
        have hnl4 := s4 _ _ hnl
        have put : ∀ (H5 : Hp) (r' : V) (e' : Ex), Same H4 H5 → ExAt H5 r' e' → WF e' → e'.dep + 1 ≤ e.dep + en.dep → H5 nl = some (.lst ys) ∧ ys.length < sizeLine ∧
            (Same H (upd H5 nl (.lst (ys ++ [r']))) ∧ (upd H5 nl (.lst (ys ++ [r']))) p = some (.tup xs) ∧ (upd H5 nl (.lst (ys ++ [r']))) nl = some (.lst (ys ++ [r'])) ∧ ExAll (upd H5 nl (.lst (ys ++ [r']))) (ys ++ [r']) (es ++ [e']) ∧ (es ++ [e']).length = i + 1 ∧ ∀ x ∈ es ++ [e'], WF x ∧ x.dep + 1 ≤ e.dep + en.dep) := fun H5 r' e' s5 x' w' d' => by
          have hnl5 := s5 _ _ hnl4
          have k5 : ∀ b r, H5 b = some (.tup r) → (upd H5 nl (.lst (ys ++ [r']))) b = some (.tup r) := fun b r hb => by
            rw [upd_ne]
            · exact hb
            · intro z
              rw [z, hnl5] at hb
              cases hb
          refine ⟨hnl5, small1000 (by have := hys.len; omega), same_put (sm4.trans s5) nn, k5 _ _ (s5 _ _ (s4 _ _ hp3)), upd_same, (((hys.same s4).same s5).push x').keep k5, by rw [List.length_append, hl]; rfl, fun y hy => ?_⟩
          rcases List.mem_append.mp hy with h | h
          · exact hall y h
          · rw [List.mem_singleton.mp h]
            exact ⟨w', d'⟩
        refine ⟨fun σ H5 => ∃ (ys' : List V) (es' : List Ex), σ = [some (.ref a), some (.int (m : Int)), some rn, some (.int lf), some (.ref nl), some x, some (.int (e.parts[i].size : Int))] ∧ Same H H5 ∧ H5 p = some (.tup xs) ∧ H5 nl = some (.lst ys') ∧
          ExAll H5 ys' es' ∧ es'.length = i + 1 ∧ ∀ x ∈ es', WF x ∧ x.dep + 1 ≤ e.dep + en.dep, ?_, ?_⟩
        · have other : H4 nl = some (.lst ys) ∧ ys.length < sizeLine ∧ _ := put H4 x e.parts[i] (Same.refl _) (e2.same s4) (wf.part hmem) (by omega)
          refine ⟨_, rfl, 0, lf, rfl, rfl, _, rfl, ?_⟩
          by_cases c1 : 0 ≤ lf
          case neg =>
            obtain ⟨u1, u2, u3⟩ := other
            exact iteBF (decide_eq_false c1) ⟨false, rfl, iteF ⟨_, rfl, .inl ⟨rfl, _, .inl (.inl u1)⟩, _, rfl, nl, _, _, rfl, rfl, u1, u2, _, _, rfl, u3⟩⟩
          refine iteB (decide_eq_true c1) ⟨_, rfl, lf, (e.parts[i].size : Int), rfl, rfl, _, rfl, ?_⟩
          by_cases c2 : lf < (e.parts[i].size : Int)
          case neg =>
            obtain ⟨u1, u2, u3⟩ := other
            exact iteBF (decide_eq_false c2) ⟨_, rfl, .inl ⟨rfl, _, .inl (.inl u1)⟩, _, rfl, nl, _, _, rfl, rfl, u1, u2, _, _, rfl, u3⟩
          obtain ⟨j, rfl⟩ : ∃ j : Nat, lf = (j : Int) := ⟨_, (Int.toNat_of_nonneg c1).symm⟩
          refine iteB (decide_eq_true c2) ⟨_, rfl, .inl ⟨rfl, _, .inl (.inl hnl4)⟩, _, rfl, _, rfl, _, rfl, x, rn, j, e.parts[i], en, rfl, e2.same s4, hen.same sm4, wf.part hmem, wfn, by omega, by omega, fun H5 r' e' s5 x' w' d' => ?_⟩
          obtain ⟨u1, u2, u3⟩ := put H5 r' e' s5 x' w' (by omega)
          exact ⟨nl, _, _, rfl, rfl, u1, u2, _, _, rfl, u3⟩
        · rintro σ H5 ⟨ys', es', rfl, u3⟩
          exact ⟨_, rfl, _, rfl, _, _, rfl, rfl, _, ys', es', _, _, rfl, u3⟩
      · rintro σ H3 ⟨lf, ys, es, y5, y6, rfl, sm, hp3, hnl, hys, hl, hall⟩
        have lys := hys.len
        have hy0 : ys ≠ [] := fun z => by
          rw [z] at lys
          have := List.length_pos_iff.mpr hne
          have : (0 : Nat) = es.length := lys
          omega
        refine ⟨_, rfl, a, _, 0, _, rfl, rfl, SqT.of (sm _ _ ha), atI_nat (j := 0) rfl, (by show 1 ≤ sizeLine; decide), fun t1 nt1 => ?_⟩
        have s4 := same_new (o := .tup [V.str e.word]) nt1
        refine ⟨_, rfl, nl, ys, rfl, .inl ⟨.inl (.inl (s4 _ _ hnl)), fun t2 nt2 => ?_⟩⟩
        have s5 := s4.trans (same_new (o := .tup ys) nt2)
        refine ⟨t1, t2, [V.str e.word], ys, rfl, rfl, SqT.of (same_new nt2 _ _ upd_same), SqT.of upd_same, (by simp), ?_, (fun h => absurd h hy0), fun _ t3 nt3 => ?_⟩
        · show 1 + ys.length ≤ sizeLine
          exact Nat.le_of_lt (small1000 (by omega))
        · have s6 := s5.trans (same_new (o := .tup ([V.str e.word] ++ ys)) nt3)
          refine q _ (.ref t3) (.op e.word es) (sm.trans s6) (.op upd_same (hys.same s6) hw fun z => ?_) ?_ ?_
          · rw [z] at lys
            exact hy0 (List.length_eq_zero_iff.mp lys)
          · rw [WF]
            exact ⟨by rw [har, hl, lx], wfs_of fun x hx => (hall x hx).1⟩
          · rw [Ex.dep]
            have h9 : Ex.deps es ≤ e.dep + en.dep - 1 := deps_le fun x hx => by have := (hall x hx).2; omega
            have h10 : 1 ≤ e.dep := by
              obtain ⟨y, hy⟩ := List.exists_mem_of_ne_nil _ hne
              have := dep_part hy
              omega
            omega
end
end K2

namespace K2
open PySem L2
def vdata : V → PyData
  | .int i => .int i
  | .bl b => .bool b
  | .str z => .str z
  | _ => .none
mutual
def Ex.py : Ex → PyData
  | .val k v => .tuple [.str "value", .str k, vdata v]
  | .attr n => .tuple [.str "attr", .str n]
  | .dim n => .tuple [.str "dim", .str n]
  | .op w ps => .tuple (.str w :: Ex.pys ps)
def Ex.pys : List Ex → List PyData
  | [] => []
  | e :: r => e.py :: Ex.pys r
end
theorem val_dp {K : PySem.W.Frag} {H : Hp} {v : V} (h : ValOk v) : Dp K H v (vdata v) := by
  rcases h with rfl | ⟨n, rfl⟩ | ⟨b, rfl⟩ | ⟨z, rfl, _, _⟩
  · exact .non
  · exact .int n
  · exact .bl b
  · exact .str z
mutual
theorem dp_ex (K : PySem.W.Frag) {H : Hp} : ∀ (e : Ex) (v : V), ExAt H v e → WF e → Dp K H v e.py
  | .val k v, _, h, w => by
    cases h with
    | val h => exact .tup (SqT.of h) (.cons (.str _) (.cons (.str _) (.cons (val_dp w.1) .nil)))
  | .attr n, _, h, w => by
    cases h with
    | attr h => exact .tup (SqT.of h) (.cons (.str _) (.cons (.str _) .nil))
  | .dim n, _, h, w => by
    cases h with
    | dim h => exact .tup (SqT.of h) (.cons (.str _) (.cons (.str _) .nil))
  | .op w0 ps, _, h, w => by
    cases h with
    | op h g nw ne => exact .tup (SqT.of h) (.cons (.str _) (dp_exs K ps _ g w.2))
theorem dp_exs (K : PySem.W.Frag) {H : Hp} : ∀ (es : List Ex) (vs : List V), ExAll H vs es → WFs es → DpAll K H vs (Ex.pys es)
  | [], _, h, w => by
    cases h
    exact .nil
  | e :: r, _, h, w => by
    cases h with
    | cons h g => exact .cons (dp_ex K e _ h w.1) (dp_exs K r _ g w.2)
end
theorem aw_ok : ∀ z ∈ AW, PyData.strOk z = true := by decide +kernel
theorem txt_ok {z : Str} (h : Txt95 z) : PyData.strOk z = true := by
  unfold PyData.strOk
  rw [Array.all_eq_true_iff_forall_mem]
  intro c hc
  have := okc_lt (h c (by simpa using hc))
  exact decide_eq_true (by omega)
theorem val_lay {v : V} (h : ValOk v) : (vdata v).canLay0 = true := by
  rcases h with rfl | ⟨n, rfl⟩ | ⟨b, rfl⟩ | ⟨z, rfl, h, _⟩
  · simp [vdata, PyData.canLay0]
  · simp [vdata, PyData.canLay0]
  · simp [vdata, PyData.canLay0]
  · simp only [vdata, PyData.canLay0]
    exact txt_ok h
theorem val_dep (v : V) : (vdata v).depth = 0 := by cases v <;> simp [vdata, PyData.depth]
theorem lv_ok : PyData.strOk "value" = true ∧ PyData.strOk "attr" = true ∧ PyData.strOk "dim" = true := by decide +kernel
mutual
theorem lay_ex : ∀ e : Ex, WF e → e.py.canLay0 = true
  | .val k v, w => by
    rw [Ex.py]
    simp only [PyData.canLay0, PyData.canLayAll0, Bool.and_eq_true]
    exact ⟨lv_ok.1, w.2, val_lay w.1, trivial⟩
  | .attr n, w => by
    rw [Ex.py]
    simp only [PyData.canLay0, PyData.canLayAll0, Bool.and_eq_true]
    exact ⟨lv_ok.2.1, w, trivial⟩
  | .dim n, w => by
    rw [Ex.py]
    simp only [PyData.canLay0, PyData.canLayAll0, Bool.and_eq_true]
    exact ⟨lv_ok.2.2, w, trivial⟩
  | .op w0 ps, w => by
    rw [Ex.py]
    simp only [PyData.canLay0, PyData.canLayAll0, Bool.and_eq_true]
    exact ⟨aw_ok _ (ar_in w.1), lay_exs ps w.2⟩
theorem lay_exs : ∀ es : List Ex, WFs es → PyData.canLayAll0 (Ex.pys es) = true
  | [], _ => by
    rw [Ex.pys]
    simp [PyData.canLayAll0]
  | e :: r, w => by
    rw [Ex.pys]
    simp only [PyData.canLayAll0, Bool.and_eq_true]
    exact ⟨lay_ex e w.1, lay_exs r w.2⟩
end
mutual
theorem dep_ex : ∀ e : Ex, e.py.depth ≤ e.dep + 1
  | .val k v => by
    rw [Ex.py, Ex.dep]
    simp only [PyData.depth, PyData.depthAll, val_dep]
    omega
  | .attr n => by
    rw [Ex.py, Ex.dep]
    simp only [PyData.depth, PyData.depthAll]
    omega
  | .dim n => by
    rw [Ex.py, Ex.dep]
    simp only [PyData.depth, PyData.depthAll]
    omega
  | .op w0 ps => by
    rw [Ex.py, Ex.dep]
    simp only [PyData.depth, PyData.depthAll]
    have := dep_exs ps
    omega
theorem dep_exs : ∀ es : List Ex, PyData.depthAll (Ex.pys es) ≤ Ex.deps es + 1
  | [] => by
    rw [Ex.pys, Ex.deps]
    simp [PyData.depthAll]
  | e :: r => by
    rw [Ex.pys, Ex.deps]
    simp only [PyData.depthAll]
    have h1 := dep_ex e
    have h2 := dep_exs r
    omega
end
def PL (es : List Ex) : PyData := .list (Ex.pys es)
theorem PL_shp {es : List Ex} (w : WFs es) (h : Ex.deps es ≤ 50) : SeqAt.shaped (PL es) = true := by
  show (PyData.canLay0 (.list (Ex.pys es)) && decide (PyData.depth (.list (Ex.pys es)) ≤ 64)) = true
  rw [Bool.and_eq_true]
  refine ⟨by simp only [PyData.canLay0]; exact lay_exs es w, decide_eq_true ?_⟩
  simp only [PyData.depth]
  have := dep_exs es
  omega
theorem PL_refl {es : List Ex} (w : WFs es) (h : Ex.deps es ≤ 50) : PyData.eqv (PL es) (PL es) = true := SeqAt.eqv_refl _ (SeqAt.canLay_of_shaped (PL_shp w h))
def S1 : List Str := ["q", "x", ""]
def S2 : List Str := ["a", "w", "z"]
def S4 : List Str := ["int", "flag", "text", "number"]
theorem st_ok : (∀ z ∈ S1, PyData.strOk z = true) ∧ (∀ z ∈ S2, PyData.strOk z = true) ∧ ∀ z ∈ S4, PyData.strOk z = true := by decide +kernel
theorem val_in {xs : List V} {n : Int} (h : ∀ v ∈ xs, ValOk v) (h0 : 0 ≤ n) (h1 : n < xs.length) : ∃ v, ValOk v ∧ atI xs n = some v := by
  obtain ⟨j, rfl⟩ : ∃ j : Nat, n = (j : Int) := ⟨_, (Int.toNat_of_nonneg h0).symm⟩
  have hj : j < xs.length := by omega
  exact ⟨xs[j], h _ (List.getElem_mem hj), atI_nat (List.getElem?_eq_getElem hj)⟩
section
variable {P : Program} {w : World} {K : PySem.W.Frag} {mg : Str → Option Value} {base : Heap}
def spStr (C : Addr) : Sp := fun vs H Q _ => ∃ (d l s : Addr) (ds : List D) (ts : List T), vs = [.ref d, .ref s] ∧ StAt H d l ∧ ShapeAt H C s ds ts ∧ Dr ds ts ∧ ∀ H' r e, Kp d l H H' → ExAt H' r e → WF e → e.dep ≤ 1 → Q r H'
theorem scStr : FnScope ["state", "shape", "choice"] ["state", "shape"] (defScope sStrange) := ⟨rfl, rfl, rfl, by decide +kernel, rfl, by decide +kernel, by decide +kernel⟩
theorem ok_str {f fN fE C : Addr} {fd fdN fdE : FuncData} (F : Fun K "_law_strange" "_law_strange" sStrange f fd) (M : Nm mg) (FN : Fun K "_law_next" "_law_next" sNext fN fdN) (bN : Binds K fdN ["state", "bound"] []) (gN : mg "_law_next" = some (.ref fN))
    (GE : FnOk P w K mg base CX0 9 fE fdE ["state", "shape", "kind", "depth"] (spE C 2)) (kE : PySem.W.keepIn K (.ref fE) = true) (bE : Binds K fdE ["state", "shape", "kind", "depth"] []) (gE : mg "_law_expression" = some (.ref fE)) : FnOk P w K mg base CX0 10 f fd ["state", "shape"] (spStr C) := by
  have GN : FnOk P w K mg base CX0 1 fN fdN ["state", "bound"] spNext := ok_next FN M.int M.len
  refine F.ok scStr (fun vs H Q E h => ?_) (fun cdv A outer s H vs Q E hr h => ?_)
  · obtain ⟨d, l, s, ds, ts, rfl, _⟩ := h
    rfl
  · obtain ⟨d, l, s', ds, ts, rfl, St, hS, dr, q⟩ := h
    have hr1 := hr.mono (j := 1) (by decide)
    refine ⟨_, pss_cons (ps_set (i := 2) scStr.nd rfl (.inl rfl) (pe_call GN hr1 (by rfl) gN FN.kp bN .nil pass0 (pa_cons (pv 0) (pa_cons pe_int pa_nil))))
      (pss_cons (ps_if (pt_cmpR op_eq (pv 2) pe_int (nomark _)) (pss_one (ps_ret (pe_tup (pa_cons pe_str (pa_cons (pe_ix ix_list (pe_lst (pa_cons pe_str (pa_cons pe_str (pa_cons pe_str pa_nil)))) (pe_call GN hr1 (by rfl) gN FN.kp bN .nil pass0 (pa_cons (pv 0) (pa_cons pe_int pa_nil))) (fun _ _ => rfl)) pa_nil))))) pss_nil)
      (pss_cons (ps_if (pt_cmpR op_eq (pv 2) pe_int (nomark _)) (pss_one (ps_ret (pe_tup (pa_cons pe_str (pa_cons (pe_ix ix_list (pe_lst (pa_cons pe_str (pa_cons pe_str (pa_cons pe_str pa_nil)))) (pe_call GN hr1 (by rfl) gN FN.kp bN .nil pass0 (pa_cons (pv 0) (pa_cons pe_int pa_nil))) (fun _ _ => rfl)) pa_nil))))) pss_nil)
      (pss_cons (ps_if (pt_cmpR op_eq (pv 2) pe_int (nomark _)) (pss_one (ps_ret (pe_tup (pa_cons pe_str (pa_cons (pe_ix ix_list (pe_lst (pa_cons pe_str (pa_cons pe_str (pa_cons pe_str (pa_cons pe_str pa_nil))))) (pe_call GN hr1 (by rfl) gN FN.kp bN .nil pass0 (pa_cons (pv 0) (pa_cons pe_int pa_nil))) (fun _ _ => rfl))
          (pa_cons (pe_ix ix_list (pe_lst (pa_cons pe_int (pa_cons pe_bl (pa_cons pe_str (pa_cons (pe_op op_pow pe_int pe_int) pa_nil))))) (pe_call GN hr1 (by rfl) gN FN.kp bN .nil pass0 (pa_cons (pv 0) (pa_cons pe_int pa_nil))) (fun _ _ => rfl)) pa_nil)))))) pss_nil)
      (pss_one (ps_ret (pe_call GE hr (by rfl) gE kE bE .nil pass0 (pa_cons (pv 0) (pa_cons (pv 1) (pa_cons (pe_ix ix_list (pe_lst (pa_cons pe_str (pa_cons pe_str (pa_cons pe_str pa_nil)))) (pe_call GN hr1 (by rfl) gN FN.kp bN .nil pass0 (pa_cons (pv 0) (pa_cons pe_int pa_nil))) (fun _ _ => rfl)) (pa_cons pe_int pa_nil)))))))))), ?_⟩
    refine ⟨_, rfl, d, l, 6, rfl, St, by decide, fun H1 c c0 c1 k1 => ?_⟩
    refine ⟨_, rfl, rfl, _, rfl, ite2 (fun _ => ?_) (fun _ => ?_)⟩
    · refine ⟨(by show 3 ≤ sizeLine; decide), fun o no => ?_⟩
      have k2 := k1.new (o := .lst (S1.map V.str)) no
      refine ⟨_, rfl, d, l, 3, rfl, k2.st, by decide, fun H3 m m0 m1 k3 => ?_⟩
      obtain ⟨z, hz, hat⟩ := str_in (ms := S1) rfl m0 m1
      refine ⟨o, _, _, _, rfl, rfl, .inl (.inl (k3.keep _ _ upd_same (k1.st.nd no).1)), hat, (by show 2 ≤ sizeLine; decide), fun t nt => ?_⟩
      exact q _ _ (.attr z) ((k2.trans k3).new nt) (.attr upd_same) (st_ok.1 z hz) (Nat.zero_le _)
    refine ⟨_, rfl, rfl, _, rfl, ite2 (fun _ => ?_) (fun _ => ?_)⟩
    · refine ⟨(by show 3 ≤ sizeLine; decide), fun o no => ?_⟩
      have k2 := k1.new (o := .lst (S2.map V.str)) no
      refine ⟨_, rfl, d, l, 3, rfl, k2.st, by decide, fun H3 m m0 m1 k3 => ?_⟩
      obtain ⟨z, hz, hat⟩ := str_in (ms := S2) rfl m0 m1
      refine ⟨o, _, _, _, rfl, rfl, .inl (.inl (k3.keep _ _ upd_same (k1.st.nd no).1)), hat, (by show 2 ≤ sizeLine; decide), fun t nt => ?_⟩
      exact q _ _ (.dim z) ((k2.trans k3).new nt) (.dim upd_same) (st_ok.2.1 z hz) (Nat.zero_le _)
    refine ⟨_, rfl, rfl, _, rfl, ite2 (fun _ => ?_) (fun _ => ?_)⟩
    · refine ⟨(by show 4 ≤ sizeLine; decide), fun o no => ?_⟩
      have k2 := k1.new (o := .lst (S4.map V.str)) no
      refine ⟨_, rfl, d, l, 4, rfl, k2.st, by decide, fun H3 m m0 m1 k3 => ?_⟩
      obtain ⟨z, hz, hat⟩ := str_in (ms := S4) rfl m0 m1
      have k23 := k2.trans k3
      refine ⟨o, _, _, _, rfl, rfl, .inl (.inl (k3.keep _ _ upd_same (k1.st.nd no).1)), hat, 10, 30, rfl, rfl, ⟨by decide, by decide, by decide⟩, (by show 4 ≤ sizeLine; decide), fun o2 no2 => ?_⟩
      have k4 := k23.new (o := .lst [.int 5, .bl true, .str "a", .int (10 ^ (30 : Int).toNat)]) no2
      refine ⟨_, rfl, d, l, 4, rfl, k4.st, by decide, fun H5 m2 m20 m21 k5 => ?_⟩
      have vo : ∀ v ∈ ([.int 5, .bl true, .str "a", .int (10 ^ (30 : Int).toNat)] : List V), ValOk v := by
        intro v hv
        rcases List.mem_cons.mp hv with rfl | hv
        · exact .inr (.inl ⟨_, rfl⟩)
        rcases List.mem_cons.mp hv with rfl | hv
        · exact .inr (.inr (.inl ⟨_, rfl⟩))
        rcases List.mem_cons.mp hv with rfl | hv
        · exact .inr (.inr (.inr ⟨_, rfl, by unfold Txt95; decide +kernel, by decide +kernel⟩))
        rcases List.mem_cons.mp hv with rfl | hv
        · exact .inr (.inl ⟨_, rfl⟩)
        · exact absurd hv List.not_mem_nil
      obtain ⟨v, hv, hat2⟩ := val_in vo m20 m21
      refine ⟨o2, _, _, v, rfl, rfl, .inl (.inl (k5.keep _ _ upd_same (k23.st.nd no2).1)), hat2, (by show 3 ≤ sizeLine; decide), fun t nt => ?_⟩
      exact q _ _ (.val z v) ((k4.trans k5).new nt) (.val upd_same) ⟨hv, st_ok.2.2 z hz⟩ (Nat.zero_le _)
    refine ⟨_, rfl, _, rfl, (by show 3 ≤ sizeLine; decide), fun o no => ?_⟩
    have k2 := k1.new (o := .lst (K3.map V.str)) no
    refine ⟨_, rfl, d, l, 3, rfl, k2.st, by decide, fun H3 m m0 m1 k3 => ?_⟩
    obtain ⟨kz, hkz, hat⟩ := str_in (ms := K3) rfl m0 m1
    obtain ⟨qk, rfl⟩ := k3_tab kz hkz
    have k23 := k2.trans k3
    refine ⟨o, _, _, _, rfl, rfl, .inl (.inl (k3.keep _ _ upd_same (k1.st.nd no).1)), hat, d, l, s', qk, 1, ds, ts, rfl, by decide, k23.st, hS.kp St k23, dr, fun H4 r e k4 x g => q _ _ _ (k23.trans k4) x g.wf g.dp⟩
end
end K2

namespace K2
open PySem L2
def rpy : Except Nat Kd → PyData
  | .ok k => .tuple [.str "kind", pk k]
  | .error i => .tuple [.str "wrong", .int (i : Int)]
theorem rpy_dp {K : PySem.W.Frag} {H : Hp} {a : Addr} (x : Except Nat Kd) (h : H a = some (.tup (res x))) : Dp K H (.ref a) (rpy x) := by
  cases x with
  | ok k => exact .tup (SqT.of h) (.cons (.str _) (.cons (.str _) .nil))
  | error i => exact .tup (SqT.of h) (.cons (.str _) (.cons (.int _) .nil))
theorem wr_ok : PyData.strOk "kind" = true ∧ PyData.strOk "wrong" = true := by decide +kernel
theorem rpy_shp (x : Except Nat Kd) : SeqAt.shaped (rpy x) = true := by
  cases x with
  | ok k =>
    show (PyData.canLay0 (.tuple [.str "kind", pk k]) && decide (PyData.depth (.tuple [.str "kind", pk k]) ≤ 64)) = true
    rw [Bool.and_eq_true]
    refine ⟨by simp only [PyData.canLay0, PyData.canLayAll0, Bool.and_eq_true]; exact ⟨wr_ok.1, pk_ok k, trivial⟩, decide_eq_true ?_⟩
    unfold pk
    simp [PyData.depth, PyData.depthAll]
  | error i =>
    show (PyData.canLay0 (.tuple [.str "wrong", .int (i : Int)]) && decide (PyData.depth (.tuple [.str "wrong", .int (i : Int)]) ≤ 64)) = true
    rw [Bool.and_eq_true]
    refine ⟨by simp only [PyData.canLay0, PyData.canLayAll0, Bool.and_eq_true]; exact ⟨wr_ok.2, trivial, trivial⟩, decide_eq_true ?_⟩
    simp [PyData.depth, PyData.depthAll]
theorem rpy_refl (x : Except Nat Kd) : PyData.eqv (rpy x) (rpy x) = true := SeqAt.eqv_refl _ (SeqAt.canLay_of_shaped (rpy_shp x))
theorem cut8 (ns : List Int) : cutV (ns.map V.int) none (some 8) = (ns.take 8).map V.int := cutn V.int ns 8
theorem size_pos (e : Ex) : 1 ≤ e.size := by rw [size_parts]; omega
def spLaw (K : PySem.W.Frag) : Sp := fun vs H Q _ => ∃ (a : Addr) (ns : List Int), vs = [.ref a] ∧ SqL K H a (ns.map V.int) ∧ ns.length ≤ 63 ∧ ∀ H', Q (.bl true) H'
theorem scLaw : FnScope ["script", "state", "shape", "turn", "kind", "expression", "again", "number", "parts"] ["script"] (defScope sLaw) := ⟨rfl, rfl, rfl, by decide +kernel, rfl, by decide +kernel, by decide +kernel⟩
structure Fs (K : PySem.W.Frag) (mg : Str → Option Value) (fR fH fE fT fN fC fP fS fK fQ : Addr) (dR dH dE dT dN dC dP dS dK dQ : FuncData) : Prop where
  gR : mg "_law_draws" = some (.ref fR)
  gH : mg "_law_shape" = some (.ref fH)
  gE : mg "_law_expression" = some (.ref fE)
  gT : mg "_law_told" = some (.ref fT)
  gN : mg "_law_next" = some (.ref fN)
  gC : mg "_law_count" = some (.ref fC)
  gP : mg "_law_replaced" = some (.ref fP)
  gS : mg "_law_strange" = some (.ref fS)
  gK : mg "_law_kind" = some (.ref fK)
  gQ : mg "parts_of" = some (.ref fQ)
  bR : Binds K dR ["cells"] []
  bH : Binds K dH ["state"] []
  bE : Binds K dE ["state", "shape", "kind", "depth"] []
  bT : Binds K dT ["expression", "shape"] []
  bN : Binds K dN ["state", "bound"] []
  bC : Binds K dC ["expression"] []
  bP : Binds K dP ["expression", "number", "new"] []
  bS : Binds K dS ["state", "shape"] []
  bK : Binds K dK ["expression", "shape", "number"] []
  bQ : Binds K dQ ["expression"] []
  kR : PySem.W.keepIn K (.ref fR) = true
  kH : PySem.W.keepIn K (.ref fH) = true
  kE : PySem.W.keepIn K (.ref fE) = true
  kT : PySem.W.keepIn K (.ref fT) = true
  kN : PySem.W.keepIn K (.ref fN) = true
  kC : PySem.W.keepIn K (.ref fC) = true
  kP : PySem.W.keepIn K (.ref fP) = true
  kS : PySem.W.keepIn K (.ref fS) = true
  kK : PySem.W.keepIn K (.ref fK) = true
  kQ : PySem.W.keepIn K (.ref fQ) = true
section
variable {P : Program} {w : World} {K : PySem.W.Frag} {mg : Str → Option Value} {base : Heap}
theorem ok_law {f fR fH fE fT fN fC fP fS fK fQ C : Addr} {fd dR dH dE dT dN dC dP dS dK dQ : FuncData} (F : Fun K "law" "law" sLaw f fd) (N : Nk K mg) (M : Nm mg) (T : Fs K mg fR fH fE fT fN fC fP fS fK fQ dR dH dE dT dN dC dP dS dK dQ)
    (GR : FnOk P w K mg base CX0 2 fR dR ["cells"] (spDraws K)) (GH : FnOk P w K mg base CX0 3 fH dH ["state"] (spShape C)) (GE : FnOk P w K mg base CX0 13 fE dE ["state", "shape", "kind", "depth"] (spE C 4)) (GT : FnOk P w K mg base CX0 15 fT dT ["expression", "shape"] (spTold C 8))
    (GN : FnOk P w K mg base CX0 1 fN dN ["state", "bound"] spNext) (GC : FnOk P w K mg base CX0 9 fC dC ["expression"] (spCount 8)) (GP : FnOk P w K mg base CX0 10 fP dP ["expression", "number", "new"] (spRep 8)) (GS : FnOk P w K mg base CX0 10 fS dS ["state", "shape"] (spStr C))
    (GK : FnOk P w K mg base CX0 10 fK dK ["expression", "shape", "number"] (spLKind C 8)) (GQ : FnOk P w K mg base CX0 1 fQ dQ ["expression"] spParts) : FnOk P w K mg base CX0 16 f fd ["script"] (spLaw K) := by
  refine F.ok scLaw (fun vs H Q E h => ?_) (fun cdv A outer s H vs Q E hr h => ?_)
  · obtain ⟨a, ns, rfl, _⟩ := h
    rfl
  · obtain ⟨a, ns, rfl, hS, hlen, q0⟩ := h
    have hr1 := hr.mono (j := 1) (by decide)
    have hr2 := hr.mono (j := 2) (by decide)
    have hr3 := hr.mono (j := 3) (by decide)
    have hr9 := hr.mono (j := 9) (by decide)
    have hr10 := hr.mono (j := 10) (by decide)
    have hr13 := hr.mono (j := 13) (by decide)
    refine ⟨_, pss_cons (ps_set (i := 1) scLaw.nd rfl (.inl rfl) (pe_call GR hr2 (by rfl) T.gR T.kR T.bR .nil pass0 (pa_cons (pe_op op_cat (pe_slice sl_list (pv 0) po_none (po_some pe_int)) (pe_lst (pa_cons pe_int pa_nil))) pa_nil)))
      (pss_cons (ps_set (i := 2) scLaw.nd rfl (.inl rfl) (pe_call GH hr3 (by rfl) T.gH T.kH T.bH .nil pass0 (pa_cons (pv 1) pa_nil)))
      (pss_cons (ps_for PassesOwn.never rfl (pi_range1 (by rfl) M.range (pa_cons pe_int pa_nil)) (pg_name (i := 3) scLaw.nd rfl (.inl rfl))
        (pss_cons (ps_set (i := 4) scLaw.nd rfl (.inl rfl) (pe_ix ix_list (pe_lst (pa_cons pe_str (pa_cons pe_str (pa_cons pe_str pa_nil)))) (pe_op op_mod (pe_callTy call_int1 (by rfl) M.int (by decide +kernel) (pa_cons (pv 3) pa_nil)) pe_int) (fun _ _ => rfl)))
        (pss_cons (ps_set (i := 5) scLaw.nd rfl (.inl rfl) (pe_call GE hr13 (by rfl) T.gE T.kE T.bE .nil pass0 (pa_cons (pv 1) (pa_cons (pv 2) (pa_cons (pv 4) (pa_cons pe_int pa_nil))))))
        (pss_cons (ps_if (pt_cmpR (op_neD hr.units) (pe_call GT hr (by rfl) T.gT T.kT T.bT .nil pass0 (pa_cons (pv 5) (pa_cons (pv 2) pa_nil))) (pe_tup (pa_cons pe_str (pa_cons (pv 4) pa_nil))) (nomark _)) (pss_one (ps_ret pe_bl)) pss_nil)
        (pss_cons (ps_for PassesOwn.never rfl (pi_range1 (by rfl) M.range (pa_cons (pe_op op_add pe_int (pe_call GN hr1 (by rfl) T.gN T.kN T.bN .nil pass0 (pa_cons (pv 1) (pa_cons pe_int pa_nil)))) pa_nil)) (pg_name (i := 6) scLaw.nd rfl (.inl rfl))
          (pss_cons (ps_set (i := 7) scLaw.nd rfl (.inl rfl) (pe_call GN hr1 (by rfl) T.gN T.kN T.bN .nil pass0 (pa_cons (pv 1) (pa_cons (pe_call GC hr9 (by rfl) T.gC T.kC T.bC .nil pass0 (pa_cons (pv 5) pa_nil)) pa_nil))))
          (pss_one (ps_set (i := 5) scLaw.nd rfl (.inl rfl) (pe_call GP hr10 (by rfl) T.gP T.kP T.bP .nil pass0 (pa_cons (pv 5) (pa_cons (pv 7) (pa_cons (pe_call GS hr10 (by rfl) T.gS T.kS T.bS .nil pass0 (pa_cons (pv 1) (pa_cons (pv 2) pa_nil))) pa_nil))))))))
        (pss_cons (ps_if (pt_cmpR (op_neD hr.units) (pe_call GT hr (by rfl) T.gT T.kT T.bT .nil pass0 (pa_cons (pv 5) (pa_cons (pv 2) pa_nil))) (pe_call GK hr10 (by rfl) T.gK T.kK T.bK .nil pass0 (pa_cons (pv 5) (pa_cons (pv 2) (pa_cons pe_int pa_nil)))) (nomark _)) (pss_one (ps_ret pe_bl)) pss_nil)
        (pss_cons (ps_set (i := 8) scLaw.nd rfl (.inl rfl) (pe_lst pa_nil))
        (Evl.pss_cut (ps_if (pt_cmpR op_notIn_seq (pe_ix ix_tup (pv 5) pe_int (fun _ _ => rfl)) (pe_lst (pa_cons pe_str (pa_cons pe_str (pa_cons pe_str pa_nil)))) (by rfl)) (pss_one (ps_set (i := 8) scLaw.nd rfl (.inl rfl) (pe_callTy call_list_of (by rfl) N.list (by decide +kernel) (pa_cons (pe_slice sl_tup (pv 5) (po_some pe_int) po_none) pa_nil)))) pss_nil)
        (pss_one (ps_if (pt_cmpR (op_neD hr.units) (pe_call GQ hr1 (by rfl) T.gQ T.kQ T.bQ .nil pass0 (pa_cons (pv 5) pa_nil)) (pv 8) (nomark _)) (pss_one (ps_ret pe_bl)) pss_nil))))))))))
      (pss_one (ps_ret pe_bl)))), ?_⟩
    refine ⟨.ref a, rfl, 8, rfl, a, ns.map V.int, rfl, hS, fun p1 np1 => ⟨(by show 1 ≤ sizeLine; decide), fun p2 np2 => ?_⟩⟩
    have n12 : p1 ≠ p2 := ne_of_none upd_same np2
    have h6 : (ns.take 8).length ≤ 8 := by rw [List.length_take]; omega
    refine ⟨p1, p2, _, _, rfl, rfl, (by rw [upd_ne n12, upd_same]), upd_same, ?_, fun p3 np3 => ?_⟩
    · rw [cut8, List.length_map]
      exact Nat.le_of_lt (small1000 (show (ns.take 8).length + 1 ≤ 1000 by omega))
    refine ⟨p3, ns.take 8 ++ [5], rfl, .inl (.inl (by rw [upd_same, cut8, List.map_append]; rfl)), (by rw [List.length_append]; show _ + 1 ≤ 1000; omega), (by rw [List.length_append]; show 0 < _ + 1; omega), fun H1 d l s1 nd st => ?_⟩
    refine ⟨_, rfl, d, l, rfl, st, fun H2 s' ds ts k2 hSh dr => ?_⟩
    have gk := dr.gk
    refine ⟨_, rfl, by decide, by decide, ?_⟩
    refine for_range (lo := 0) (n := (6 : Int).toNat) (fun i σ H3 => ∃ y3 y4 y5 y6 y7 y8, σ = [some (.ref a), some (.ref d), some (.ref s'), y3, y4, y5, y6, y7, y8] ∧ StAt H3 d l ∧ ShapeAt H3 C s' ds ts) ⟨_, _, _, _, _, _, rfl, k2.st, hSh⟩ ?_ ?_
    · rintro i σ H3 hi ⟨y3, y4, y5, y6, y7, y8, rfl, st3, sh3⟩
      refine ⟨(by show 3 ≤ sizeLine; decide), fun o no => ?_⟩
      have k4 : Kp d l H3 _ := (Kp.refl st3).new (o := .lst (K3.map V.str)) no
      obtain ⟨kz, hkz, hat⟩ := str_in (ms := K3) (n := (0 + (i : Int)) % 3) rfl (Int.emod_nonneg _ (by decide)) (Int.emod_lt_of_pos _ (by decide))
      obtain ⟨qk, rfl⟩ := k3_tab kz hkz
      refine ⟨_, rfl, .inl ⟨_, rfl, _, 3, rfl, rfl, (by show (0 : Int) < 3; decide), o, _, _, _, rfl, rfl, .inl (.inl upd_same), hat, ?_⟩⟩
      refine ⟨_, rfl, _, rfl, _, rfl, d, l, s', qk, 3, ds, ts, rfl, by decide, k4.st, sh3.kp st3 k4, dr, fun H5 r e k5 x g => ?_⟩
      have k45 := k4.trans k5
      have sh5 := sh3.kp st3 k45
      refine ⟨_, rfl, _, rfl, r, s', e, ds, ts, rfl, x, g.wf, by have := g.dp; omega, sh5, gk, fun H6 t6 s6 nt6 ht6 => ?_⟩
      refine ⟨_, rfl, (by show 2 ≤ sizeLine; decide), fun t7 nt7 => ?_⟩
      have s7 := s6.trans (same_new (o := .tup [.str "kind", ks qk]) nt7)
      rw [g.ty] at ht6
      refine ⟨rpy (.ok qk), rpy (.ok qk), rpy_dp (.ok qk) (same_new nt7 _ _ ht6), rpy_dp (.ok qk) upd_same, rpy_shp _, rpy_shp _, _, rfl, iteBF (by rw [rpy_refl]; rfl) ?_⟩
      have k7 := k45.same s7
      refine ⟨_, rfl, d, l, 2, rfl, k7.st, by decide, fun H8 m m0 m1 k8 => ⟨1, m, rfl, rfl, _, rfl, by omega, by omega, ?_⟩⟩
      have k78 := k7.trans k8
      refine for_range (lo := 0) (n := (1 + m).toNat) (fun i σ H9 => ∃ y3 y4 y6 y7 y8 r e, σ = [some (.ref a), some (.ref d), some (.ref s'), y3, y4, some r, y6, y7, y8] ∧ StAt H9 d l ∧ ShapeAt H9 C s' ds ts ∧ ExAt H9 r e ∧ WF e ∧ e.dep ≤ 3 + i) ⟨_, _, _, _, _, r, e, rfl, k78.st, sh3.kp st3 k78, (x.same s7).kp k7.st k8, g.wf, by have := g.dp; omega⟩ ?_ ?_
      · rintro i σ H9 hi2 ⟨y3, y4, y6, y7, y8, r, e, rfl, st9, sh9, x9, wf9, dp9⟩
        have hd8 : e.dep < 8 := by omega
        refine ⟨_, rfl, _, rfl, r, e, rfl, x9, wf9, hd8, fun H10 s10 => ?_⟩
        have st10 := st9.same s10
        have hp := size_pos e
        refine ⟨d, l, _, rfl, st10, by omega, fun H11 u u0 u1 k11 => ?_⟩
        obtain ⟨j, rfl⟩ : ∃ j : Nat, u = (j : Int) := ⟨_, (Int.toNat_of_nonneg u0).symm⟩
        have sh11 := (sh9.same s10).kp st10 k11
        have x11 := (x9.same s10).kp st10 k11
        refine ⟨_, rfl, _, rfl, _, rfl, _, rfl, d, l, s', ds, ts, rfl, k11.st, sh11, dr, fun H12 rn en k12 xn wn dn => ?_⟩
        refine ⟨r, rn, j, e, en, rfl, x11.kp k11.st k12, xn, wf9, wn, hd8, by omega, fun H13 r' e' s13 x' w' d' => ?_⟩
        exact ⟨_, _, _, _, _, r', e', rfl, k12.st.same s13, (sh11.kp k11.st k12).same s13, x', w', by omega⟩
      · rintro σ H9 ⟨y3, y4, y6, y7, y8, r, e, rfl, st9, sh9, x9, wf9, dp9⟩
        have hd8 : e.dep < 8 := by omega
        refine ⟨_, rfl, _, rfl, r, s', e, ds, ts, rfl, x9, wf9, hd8, sh9, gk, fun H10 t10 s10 nt10 ht10 => ?_⟩
        refine ⟨_, rfl, _, rfl, r, s', 0, e, ds, ts, rfl, x9.same s10, wf9, hd8, sh9.same s10, gk, fun H11 t11 s11 nt11 ht11 => ?_⟩
        refine ⟨rpy _, rpy _, rpy_dp _ (s11 _ _ ht10), rpy_dp _ ht11, rpy_shp _, rpy_shp _, _, rfl, iteBF (by rw [rpy_refl]; rfl) ⟨Nat.zero_le _, fun n8 nn8 => ?_⟩⟩
        have s12 := (s10.trans s11).trans (same_new (o := .lst []) nn8)
        have x12 := x9.same s12
        obtain ⟨ea, xs, rfl, ha, h1, h2⟩ := x12.tup
        refine ⟨fun σ H13 => ∃ (pl : Addr) (zs : List V), σ = [some (.ref a), some (.ref d), some (.ref s'), y3, y4, some (.ref ea), y6, y7, some (.ref pl)] ∧ Same H9 H13 ∧ H13 pl = some (.lst zs) ∧ ExAll H13 zs e.parts, ?_, ?_⟩
        · refine ⟨_, rfl, ea, _, 0, _, rfl, rfl, SqT.of ha, atI_nat (j := 0) rfl, (by show 3 ≤ sizeLine; decide), fun o2 no2 => ?_⟩
          have e2 := same_new (o := .lst [V.str "value", V.str "attr", V.str "dim"]) no2
          have s13 := s12.trans e2
          refine ⟨o2, _, rfl, .inl (.inl (.inl upd_same)), rfl, flat_strs LV, _, rfl, ?_⟩
          by_cases hw : e.word ∈ LV
          · refine iteBF (by show (!inV _ (LV.map V.str)) = false; rw [inV_str, decide_eq_true hw]; rfl) ⟨n8, [], rfl, s13, e2 _ _ upd_same, ?_⟩
            rw [h2 hw]
            exact .nil
          · refine iteB (by show (!inV _ (LV.map V.str)) = true; rw [inV_str, decide_eq_false hw]; rfl) ?_
            refine ⟨_, rfl, 1, rfl, ea, _, rfl, SqT.of (e2 _ _ ha), cut1_not _ _, fun p np => ?_⟩
            rw [cut1]
            have s14 := s13.trans (same_new (o := .tup xs) np)
            refine ⟨p, _, rfl, .inr (SqT.of upd_same), fun p5 np5 => ?_⟩
            have s15 := s14.trans (same_new (o := .lst xs) np5)
            exact ⟨p5, xs, rfl, s15, upd_same, (((h1 hw).same e2).same (same_new np)).same (same_new np5)⟩
        · rintro σ H13 ⟨pl, zs, rfl, s13, hpl, hz⟩
          have x13 := x9.same s13
          have wp : WFs e.parts := wfs_of fun y hy => wf9.part hy
          have dpp : Ex.deps e.parts ≤ 50 := deps_le fun y hy => by have := dep_part hy; omega
          refine ⟨_, rfl, _, e, rfl, x13, fun H14 p14 ws s14 np14 hp14 hws => ?_⟩
          have s134 := s13.trans s14
          refine ⟨_, rfl, PL e.parts, PL e.parts, .lst (.inl (.inl hp14)) (dp_exs K _ _ hws wp), .lst (.inl (.inl (s14 _ _ hpl))) (dp_exs K _ _ (hz.same s14) wp), PL_shp wp dpp, PL_shp wp dpp, _, rfl, iteBF (by rw [PL_refl wp dpp]; rfl) ?_⟩
          exact ⟨_, _, _, _, _, _, rfl, st9.same s134, sh9.same s134⟩
    · rintro σ H3 ⟨y3, y4, y5, y6, y7, y8, rfl, st3, sh3⟩
      exact q0 _
end
end K2

namespace K2
open PySem L2
theorem all_mk {l : PySem.W.OpenLaw} {w : World} {K : PySem.W.Frag} {h : Heap} {mg : Str → Option Value} {fa : Addr} (X : K.In h) (G : h.Ns mainGlobals mg) (hfa : mg "law" = some (.ref fa))
    {f1 : Addr} {od1 an1 : Option Addr} {sl1 : Array (Option Value)} {oc1 kV1 dc1 pm1 cd1 ct1 : Value}
    (a1 : PySem.W.nsIn K mainGlobals "parts_of" = some (some (.ref f1))) (l1 : K.lookup f1 = some ⟨oc1, od1, .func (PySem.W.fnOf "parts_of" "parts_of" (defArgs sPartsOf) (defBody sPartsOf) (defScope sPartsOf) .none kV1 dc1 pm1 an1 cd1 ct1), sl1⟩) (c1 : PySem.W.codeIn K cd1 "parts_of" = true) (k1 : PySem.W.keepIn K (.ref f1) = true)
    {f2 : Addr} {od2 an2 : Option Addr} {sl2 : Array (Option Value)} {oc2 kV2 dc2 pm2 cd2 ct2 : Value}
    (a2 : PySem.W.nsIn K mainGlobals "kind_of" = some (some (.ref f2))) (l2 : K.lookup f2 = some ⟨oc2, od2, .func (PySem.W.fnOf "kind_of" "kind_of" (defArgs sKindOf) (defBody sKindOf) (defScope sKindOf) .none kV2 dc2 pm2 an2 cd2 ct2), sl2⟩) (c2 : PySem.W.codeIn K cd2 "kind_of" = true) (k2 : PySem.W.keepIn K (.ref f2) = true)
    {f3 : Addr} {od3 an3 : Option Addr} {sl3 : Array (Option Value)} {oc3 kV3 dc3 pm3 cd3 ct3 : Value}
    (a3 : PySem.W.nsIn K mainGlobals "kind_from" = some (some (.ref f3))) (l3 : K.lookup f3 = some ⟨oc3, od3, .func (PySem.W.fnOf "kind_from" "kind_from" (defArgs sKindFrom) (defBody sKindFrom) (defScope sKindFrom) .none kV3 dc3 pm3 an3 cd3 ct3), sl3⟩) (c3 : PySem.W.codeIn K cd3 "kind_from" = true) (k3 : PySem.W.keepIn K (.ref f3) = true)
    {f4 : Addr} {od4 an4 : Option Addr} {sl4 : Array (Option Value)} {oc4 kV4 dc4 pm4 cd4 ct4 : Value}
    (a4 : PySem.W.nsIn K mainGlobals "leaf_kind" = some (some (.ref f4))) (l4 : K.lookup f4 = some ⟨oc4, od4, .func (PySem.W.fnOf "leaf_kind" "leaf_kind" (defArgs sLeafKind) (defBody sLeafKind) (defScope sLeafKind) .none kV4 dc4 pm4 an4 cd4 ct4), sl4⟩) (c4 : PySem.W.codeIn K cd4 "leaf_kind" = true) (k4 : PySem.W.keepIn K (.ref f4) = true)
    {f5 : Addr} {od5 an5 : Option Addr} {sl5 : Array (Option Value)} {oc5 kV5 dc5 pm5 cd5 ct5 : Value}
    (a5 : PySem.W.nsIn K mainGlobals "kind_over" = some (some (.ref f5))) (l5 : K.lookup f5 = some ⟨oc5, od5, .func (PySem.W.fnOf "kind_over" "kind_over" (defArgs sKindOver) (defBody sKindOver) (defScope sKindOver) .none kV5 dc5 pm5 an5 cd5 ct5), sl5⟩) (c5 : PySem.W.codeIn K cd5 "kind_over" = true) (k5 : PySem.W.keepIn K (.ref f5) = true)
    {f6 : Addr} {od6 an6 : Option Addr} {sl6 : Array (Option Value)} {oc6 kV6 dc6 pm6 cd6 ct6 : Value}
    (a6 : PySem.W.nsIn K mainGlobals "is_text" = some (some (.ref f6))) (l6 : K.lookup f6 = some ⟨oc6, od6, .func (PySem.W.fnOf "is_text" "is_text" (defArgs sIsText) (defBody sIsText) (defScope sIsText) .none kV6 dc6 pm6 an6 cd6 ct6), sl6⟩) (c6 : PySem.W.codeIn K cd6 "is_text" = true) (k6 : PySem.W.keepIn K (.ref f6) = true)
    {f7 : Addr} {od7 an7 : Option Addr} {sl7 : Array (Option Value)} {oc7 kV7 dc7 pm7 cd7 ct7 : Value}
    (a7 : PySem.W.nsIn K mainGlobals "is_value" = some (some (.ref f7))) (l7 : K.lookup f7 = some ⟨oc7, od7, .func (PySem.W.fnOf "is_value" "is_value" (defArgs sIsValue) (defBody sIsValue) (defScope sIsValue) .none kV7 dc7 pm7 an7 cd7 ct7), sl7⟩) (c7 : PySem.W.codeIn K cd7 "is_value" = true) (k7 : PySem.W.keepIn K (.ref f7) = true)
    {f8 : Addr} {od8 an8 : Option Addr} {sl8 : Array (Option Value)} {oc8 kV8 dc8 pm8 cd8 ct8 : Value}
    (a8 : PySem.W.nsIn K mainGlobals "dim_index" = some (some (.ref f8))) (l8 : K.lookup f8 = some ⟨oc8, od8, .func (PySem.W.fnOf "dim_index" "dim_index" (defArgs sDimIx) (defBody sDimIx) (defScope sDimIx) .none kV8 dc8 pm8 an8 cd8 ct8), sl8⟩) (c8 : PySem.W.codeIn K cd8 "dim_index" = true) (k8 : PySem.W.keepIn K (.ref f8) = true)
    {f9 : Addr} {od9 an9 : Option Addr} {sl9 : Array (Option Value)} {oc9 kV9 dc9 pm9 cd9 ct9 : Value}
    (a9 : PySem.W.nsIn K mainGlobals "attr_index" = some (some (.ref f9))) (l9 : K.lookup f9 = some ⟨oc9, od9, .func (PySem.W.fnOf "attr_index" "attr_index" (defArgs sAttrIx) (defBody sAttrIx) (defScope sAttrIx) .none kV9 dc9 pm9 an9 cd9 ct9), sl9⟩) (c9 : PySem.W.codeIn K cd9 "attr_index" = true) (k9 : PySem.W.keepIn K (.ref f9) = true)
    {f10 : Addr} {od10 an10 : Option Addr} {sl10 : Array (Option Value)} {oc10 kV10 dc10 pm10 cd10 ct10 : Value}
    (a10 : PySem.W.nsIn K mainGlobals "index_of" = some (some (.ref f10))) (l10 : K.lookup f10 = some ⟨oc10, od10, .func (PySem.W.fnOf "index_of" "index_of" (defArgs sIndex) (defBody sIndex) (defScope sIndex) .none kV10 dc10 pm10 an10 cd10 ct10), sl10⟩) (c10 : PySem.W.codeIn K cd10 "index_of" = true) (k10 : PySem.W.keepIn K (.ref f10) = true)
    {f11 : Addr} {od11 an11 : Option Addr} {sl11 : Array (Option Value)} {oc11 kV11 dc11 pm11 cd11 ct11 : Value}
    (a11 : PySem.W.nsIn K mainGlobals "_law_draw" = some (some (.ref f11))) (l11 : K.lookup f11 = some ⟨oc11, od11, .func (PySem.W.fnOf "_law_draw" "_law_draw" (defArgs sDraw) (defBody sDraw) (defScope sDraw) .none kV11 dc11 pm11 an11 cd11 ct11), sl11⟩) (c11 : PySem.W.codeIn K cd11 "_law_draw" = true) (k11 : PySem.W.keepIn K (.ref f11) = true)
    {f12 : Addr} {od12 an12 : Option Addr} {sl12 : Array (Option Value)} {oc12 kV12 dc12 pm12 cd12 ct12 : Value}
    (a12 : PySem.W.nsIn K mainGlobals "_law_draws" = some (some (.ref f12))) (l12 : K.lookup f12 = some ⟨oc12, od12, .func (PySem.W.fnOf "_law_draws" "_law_draws" (defArgs sDraws) (defBody sDraws) (defScope sDraws) .none kV12 dc12 pm12 an12 cd12 ct12), sl12⟩) (c12 : PySem.W.codeIn K cd12 "_law_draws" = true) (k12 : PySem.W.keepIn K (.ref f12) = true)
    {f13 : Addr} {od13 an13 : Option Addr} {sl13 : Array (Option Value)} {oc13 kV13 dc13 pm13 cd13 ct13 : Value}
    (a13 : PySem.W.nsIn K mainGlobals "_law_next" = some (some (.ref f13))) (l13 : K.lookup f13 = some ⟨oc13, od13, .func (PySem.W.fnOf "_law_next" "_law_next" (defArgs sNext) (defBody sNext) (defScope sNext) .none kV13 dc13 pm13 an13 cd13 ct13), sl13⟩) (c13 : PySem.W.codeIn K cd13 "_law_next" = true) (k13 : PySem.W.keepIn K (.ref f13) = true)
    {f14 : Addr} {od14 an14 : Option Addr} {sl14 : Array (Option Value)} {oc14 kV14 dc14 pm14 cd14 ct14 : Value}
    (a14 : PySem.W.nsIn K mainGlobals "_law_word" = some (some (.ref f14))) (l14 : K.lookup f14 = some ⟨oc14, od14, .func (PySem.W.fnOf "_law_word" "_law_word" (defArgs sWord) (defBody sWord) (defScope sWord) .none kV14 dc14 pm14 an14 cd14 ct14), sl14⟩) (c14 : PySem.W.codeIn K cd14 "_law_word" = true) (k14 : PySem.W.keepIn K (.ref f14) = true)
    {f15 : Addr} {od15 an15 : Option Addr} {sl15 : Array (Option Value)} {oc15 kV15 dc15 pm15 cd15 ct15 : Value}
    (a15 : PySem.W.nsIn K mainGlobals "_law_number" = some (some (.ref f15))) (l15 : K.lookup f15 = some ⟨oc15, od15, .func (PySem.W.fnOf "_law_number" "_law_number" (defArgs sNumber) (defBody sNumber) (defScope sNumber) .none kV15 dc15 pm15 an15 cd15 ct15), sl15⟩) (c15 : PySem.W.codeIn K cd15 "_law_number" = true) (k15 : PySem.W.keepIn K (.ref f15) = true)
    {f16 : Addr} {od16 an16 : Option Addr} {sl16 : Array (Option Value)} {oc16 kV16 dc16 pm16 cd16 ct16 : Value}
    (a16 : PySem.W.nsIn K mainGlobals "_law_thing" = some (some (.ref f16))) (l16 : K.lookup f16 = some ⟨oc16, od16, .func (PySem.W.fnOf "_law_thing" "_law_thing" (defArgs sThing) (defBody sThing) (defScope sThing) .none kV16 dc16 pm16 an16 cd16 ct16), sl16⟩) (c16 : PySem.W.codeIn K cd16 "_law_thing" = true) (k16 : PySem.W.keepIn K (.ref f16) = true)
    {f17 : Addr} {od17 an17 : Option Addr} {sl17 : Array (Option Value)} {oc17 kV17 dc17 pm17 cd17 ct17 : Value}
    (a17 : PySem.W.nsIn K mainGlobals "_law_shape" = some (some (.ref f17))) (l17 : K.lookup f17 = some ⟨oc17, od17, .func (PySem.W.fnOf "_law_shape" "_law_shape" (defArgs sShape) (defBody sShape) (defScope sShape) .none kV17 dc17 pm17 an17 cd17 ct17), sl17⟩) (c17 : PySem.W.codeIn K cd17 "_law_shape" = true) (k17 : PySem.W.keepIn K (.ref f17) = true)
    {f18 : Addr} {od18 an18 : Option Addr} {sl18 : Array (Option Value)} {oc18 kV18 dc18 pm18 cd18 ct18 : Value}
    (a18 : PySem.W.nsIn K mainGlobals "_law_leaf" = some (some (.ref f18))) (l18 : K.lookup f18 = some ⟨oc18, od18, .func (PySem.W.fnOf "_law_leaf" "_law_leaf" (defArgs sLeaf) (defBody sLeaf) (defScope sLeaf) .none kV18 dc18 pm18 an18 cd18 ct18), sl18⟩) (c18 : PySem.W.codeIn K cd18 "_law_leaf" = true) (k18 : PySem.W.keepIn K (.ref f18) = true)
    {f19 : Addr} {od19 an19 : Option Addr} {sl19 : Array (Option Value)} {oc19 kV19 dc19 pm19 cd19 ct19 : Value}
    (a19 : PySem.W.nsIn K mainGlobals "_law_flag" = some (some (.ref f19))) (l19 : K.lookup f19 = some ⟨oc19, od19, .func (PySem.W.fnOf "_law_flag" "_law_flag" (defArgs sFlag) (defBody sFlag) (defScope sFlag) .none kV19 dc19 pm19 an19 cd19 ct19), sl19⟩) (c19 : PySem.W.codeIn K cd19 "_law_flag" = true) (k19 : PySem.W.keepIn K (.ref f19) = true)
    {f20 : Addr} {od20 an20 : Option Addr} {sl20 : Array (Option Value)} {oc20 kV20 dc20 pm20 cd20 ct20 : Value}
    (a20 : PySem.W.nsIn K mainGlobals "_law_expression" = some (some (.ref f20))) (l20 : K.lookup f20 = some ⟨oc20, od20, .func (PySem.W.fnOf "_law_expression" "_law_expression" (defArgs sExpr) (defBody sExpr) (defScope sExpr) .none kV20 dc20 pm20 an20 cd20 ct20), sl20⟩) (c20 : PySem.W.codeIn K cd20 "_law_expression" = true) (k20 : PySem.W.keepIn K (.ref f20) = true)
    {f21 : Addr} {od21 an21 : Option Addr} {sl21 : Array (Option Value)} {oc21 kV21 dc21 pm21 cd21 ct21 : Value}
    (a21 : PySem.W.nsIn K mainGlobals "_law_count" = some (some (.ref f21))) (l21 : K.lookup f21 = some ⟨oc21, od21, .func (PySem.W.fnOf "_law_count" "_law_count" (defArgs sCount) (defBody sCount) (defScope sCount) .none kV21 dc21 pm21 an21 cd21 ct21), sl21⟩) (c21 : PySem.W.codeIn K cd21 "_law_count" = true) (k21 : PySem.W.keepIn K (.ref f21) = true)
    {f22 : Addr} {od22 an22 : Option Addr} {sl22 : Array (Option Value)} {oc22 kV22 dc22 pm22 cd22 ct22 : Value}
    (a22 : PySem.W.nsIn K mainGlobals "_law_strange" = some (some (.ref f22))) (l22 : K.lookup f22 = some ⟨oc22, od22, .func (PySem.W.fnOf "_law_strange" "_law_strange" (defArgs sStrange) (defBody sStrange) (defScope sStrange) .none kV22 dc22 pm22 an22 cd22 ct22), sl22⟩) (c22 : PySem.W.codeIn K cd22 "_law_strange" = true) (k22 : PySem.W.keepIn K (.ref f22) = true)
    {f23 : Addr} {od23 an23 : Option Addr} {sl23 : Array (Option Value)} {oc23 kV23 dc23 pm23 cd23 ct23 : Value}
    (a23 : PySem.W.nsIn K mainGlobals "_law_replaced" = some (some (.ref f23))) (l23 : K.lookup f23 = some ⟨oc23, od23, .func (PySem.W.fnOf "_law_replaced" "_law_replaced" (defArgs sReplaced) (defBody sReplaced) (defScope sReplaced) .none kV23 dc23 pm23 an23 cd23 ct23), sl23⟩) (c23 : PySem.W.codeIn K cd23 "_law_replaced" = true) (k23 : PySem.W.keepIn K (.ref f23) = true)
    {f24 : Addr} {od24 an24 : Option Addr} {sl24 : Array (Option Value)} {oc24 kV24 dc24 pm24 cd24 ct24 : Value}
    (a24 : PySem.W.nsIn K mainGlobals "_law_leaf_kind" = some (some (.ref f24))) (l24 : K.lookup f24 = some ⟨oc24, od24, .func (PySem.W.fnOf "_law_leaf_kind" "_law_leaf_kind" (defArgs sLLeafKind) (defBody sLLeafKind) (defScope sLLeafKind) .none kV24 dc24 pm24 an24 cd24 ct24), sl24⟩) (c24 : PySem.W.codeIn K cd24 "_law_leaf_kind" = true) (k24 : PySem.W.keepIn K (.ref f24) = true)
    {f25 : Addr} {od25 an25 : Option Addr} {sl25 : Array (Option Value)} {oc25 kV25 dc25 pm25 cd25 ct25 : Value}
    (a25 : PySem.W.nsIn K mainGlobals "_law_joint" = some (some (.ref f25))) (l25 : K.lookup f25 = some ⟨oc25, od25, .func (PySem.W.fnOf "_law_joint" "_law_joint" (defArgs sJoint) (defBody sJoint) (defScope sJoint) .none kV25 dc25 pm25 an25 cd25 ct25), sl25⟩) (c25 : PySem.W.codeIn K cd25 "_law_joint" = true) (k25 : PySem.W.keepIn K (.ref f25) = true)
    {f26 : Addr} {od26 an26 : Option Addr} {sl26 : Array (Option Value)} {oc26 kV26 dc26 pm26 cd26 ct26 : Value}
    (a26 : PySem.W.nsIn K mainGlobals "_law_kind" = some (some (.ref f26))) (l26 : K.lookup f26 = some ⟨oc26, od26, .func (PySem.W.fnOf "_law_kind" "_law_kind" (defArgs sLKind) (defBody sLKind) (defScope sLKind) .none kV26 dc26 pm26 an26 cd26 ct26), sl26⟩) (c26 : PySem.W.codeIn K cd26 "_law_kind" = true) (k26 : PySem.W.keepIn K (.ref f26) = true)
    {f27 : Addr} {od27 an27 : Option Addr} {sl27 : Array (Option Value)} {oc27 kV27 dc27 pm27 cd27 ct27 : Value}
    (a27 : PySem.W.nsIn K mainGlobals "_law_told" = some (some (.ref f27))) (l27 : K.lookup f27 = some ⟨oc27, od27, .func (PySem.W.fnOf "_law_told" "_law_told" (defArgs sTold) (defBody sTold) (defScope sTold) .none kV27 dc27 pm27 an27 cd27 ct27), sl27⟩) (c27 : PySem.W.codeIn K cd27 "_law_told" = true) (k27 : PySem.W.keepIn K (.ref f27) = true)
    {f28 : Addr} {od28 an28 : Option Addr} {sl28 : Array (Option Value)} {oc28 kV28 dc28 pm28 cd28 ct28 : Value}
    (a28 : PySem.W.nsIn K mainGlobals "law" = some (some (.ref f28))) (l28 : K.lookup f28 = some ⟨oc28, od28, .func (PySem.W.fnOf "law" "law" (defArgs sLaw) (defBody sLaw) (defScope sLaw) .none kV28 dc28 pm28 an28 cd28 ct28), sl28⟩) (c28 : PySem.W.codeIn K cd28 "law" = true) (k28 : PySem.W.keepIn K (.ref f28) = true)
    (z1 : PySem.W.nsIn K mainGlobals "range" = some none)
    (z2 : PySem.W.nsIn K mainGlobals "int" = some none)
    (z3 : PySem.W.nsIn K mainGlobals "len" = some none)
    (z4 : PySem.W.nsIn K mainGlobals "isinstance" = some none)
    (z5 : PySem.W.nsIn K mainGlobals "bool" = some none)
    (z6 : PySem.W.nsIn K mainGlobals "str" = some none)
    (z7 : PySem.W.nsIn K mainGlobals "min" = some none)
    (z8 : PySem.W.nsIn K mainGlobals "enumerate" = some none)
    (z9 : PySem.W.nsIn K mainGlobals "tuple" = some none)
    (z10 : PySem.W.nsIn K mainGlobals "list" = some none)
    (z11 : PySem.W.nsIn K mainGlobals "sum" = some none)
    (z12 : PySem.W.nsIn K mainGlobals "ValueError" = some none)
    {t1 : Tok} (g1 : PySem.W.nsIn K mainGlobals "CHARACTERS" = some (some (.str CHS t1)))
    {t2 : Tok} (g2 : PySem.W.nsIn K mainGlobals "INT_BOUND" = some (some (.int (10 ^ 30) t2)))
    {t3 : Tok} (g3 : PySem.W.nsIn K mainGlobals "TEXT_BOUND" = some (some (.int 200 t3)))
    {C CM CC S kk kl ko sd fI fG fE : Addr} {tl1 tl2 tl3 to1 to2 to3 to4 to5 to6 : Tok} {nL nO nD : Nat} {ddL ddO : Option Addr} {slL slO : Array (Option Value)} {es : Array DictEntry} {nm q : Str} {Nn : Addr} {bs : List Value} {sn : List Str} {sub : List Value} {ab : Bool} {col : Option Bool} {dd : Option Addr} {m0 m1 m3 m5 : Option Value} {tn tk1 tk2 tk3 : Tok} {nK : Nat} {ddK : Option Addr} {slK : Array (Option Value)} {wa0 wb0 : Addr} {wc0 xc0 : Option Addr} {wt0 xt00 : Tok} {wm0 xm0 : Nat} {ws0 xs0 : Array (Option Value)} {wa1 wb1 : Addr} {wc1 xc1 : Option Addr} {wt1 xt10 : Tok} {wm1 xm1 : Nat} {ws1 xs1 : Array (Option Value)} {wa2 wb2 : Addr} {wc2 xc2 : Option Addr} {wt2 xt20 : Tok} {wm2 xm2 : Nat} {ws2 xs2 : Array (Option Value)} {wa3 wb3 : Addr} {wc3 xc3 : Option Addr} {wt3 xt30 : Tok} {wm3 xm3 : Nat} {ws3 xs3 : Array (Option Value)} {wa4 wb4 : Addr} {wc4 xc4 : Option Addr} {wt4 xt40 xt41 : Tok} {wm4 xm4 : Nat} {ws4 xs4 : Array (Option Value)} {wa5 wb5 : Addr} {wc5 xc5 : Option Addr} {wt5 xt50 xt51 : Tok} {wm5 xm5 : Nat} {ws5 xs5 : Array (Option Value)} {wa6 wb6 : Addr} {wc6 xc6 : Option Addr} {wt6 xt60 xt61 : Tok} {wm6 xm6 : Nat} {ws6 xs6 : Array (Option Value)} {wa7 wb7 : Addr} {wc7 xc7 : Option Addr} {wt7 xt70 xt71 : Tok} {wm7 xm7 : Nat} {ws7 xs7 : Array (Option Value)} {wa8 wb8 : Addr} {wc8 xc8 : Option Addr} {wt8 xt80 xt81 : Tok} {wm8 xm8 : Nat} {ws8 xs8 : Array (Option Value)} {wa9 wb9 : Addr} {wc9 xc9 : Option Addr} {wt9 xt90 xt91 : Tok} {wm9 xm9 : Nat} {ws9 xs9 : Array (Option Value)} {wa10 wb10 : Addr} {wc10 xc10 : Option Addr} {wt10 xt100 xt101 : Tok} {wm10 xm10 : Nat} {ws10 xs10 : Array (Option Value)} {wa11 wb11 : Addr} {wc11 xc11 : Option Addr} {wt11 xt110 xt111 : Tok} {wm11 xm11 : Nat} {ws11 xs11 : Array (Option Value)} {odI anI : Option Addr} {slI : Array (Option Value)} {ocI kVI dcI pmI cdI ctI : Value} {odG anG : Option Addr} {slG : Array (Option Value)} {ocG kVG dcG pmG cdG ctG : Value}
    (eC : PySem.W.nsIn K mainGlobals "InvalidQuery" = some (some (.ref C)))
    (eM : PySem.W.nsIn K mainGlobals "ManysidesError" = some (some (.ref CM)))
    (eX : PySem.W.nsIn K mainGlobals "InvalidWords" = some (some (.ref CC)))
    (xL : K.lookup C = some (excClassObj nm q C Nn bs [.ref CM, .type "ValueError", .type "Exception", .type "BaseException", .type "object"] true sn sub ab col dd m0 m1 (some (.str "InvalidQuery" tn)) m3 m5 "ValueError.__new__"))
    (sa : PySem.W.findIn K (.ref C) "__setattr__" = some (some (.builtin "object.__setattr__")))
    (ga : PySem.W.findIn K (.ref C) "__getattribute__" = some (some (.builtin "BaseException.__getattribute__")))
    (gg : PySem.W.findIn K (.ref C) "__getattr__" = some none)
    (hs : PySem.W.subIn K (.ref C) (.type "BaseException") = some true)
    (hd : PySem.W.hasDictIn K C = true)
    (ha : PySem.W.findIn K (.ref C) "__class__" = some (some (.builtin "object.__class__")))
    (hn : PySem.W.specialIn K (.builtin "object.__class__") "__get__" = some (some (.builtin "getset_descriptor.__get__")))
    (ht : PySem.W.takesIn K (.builtin "object.__class__") = some true)
    (hm : PySem.W.mroIn K C (.type "object") = some true)
    (tyC : PySem.W.typeIn K (.ref C) = some (.type "type"))
    (kC : PySem.W.keepIn K (.ref C) = true)
    (rd : PySem.W.readsIn K C (.type "type") = true)
    (fc : PySem.W.findCls K (.ref C) (.type "type") "__name__" = some (.get (.builtin "getset_descriptor.__get__") (.builtin "type.__name__") (.ref C) (.type "type")))
    (noP : PySem.W.findIn K (.ref C) "place" = some none)
    (noN : PySem.W.findIn K (.ref C) "name" = some none)
    (iC : PySem.W.findIn K (.ref C) "__init__" = some (some (.ref fI)))
    (tI : PySem.W.typeIn K (.ref fI) = some (.type "function"))
    (lI : K.lookup fI = some ⟨ocI, odI, .func (PySem.W.fnOf "__init__" "ManysidesError.__init__" (defArgs sInit) (defBody sInit) (defScope sInit) .none kVI dcI pmI anI cdI ctI), slI⟩)
    (cI : PySem.W.codeIn K cdI "ManysidesError.__init__" = true)
    (kI : PySem.W.keepIn K (.ref fI) = true)
    (sM : PySem.W.subIn K (.ref CM) (.type "BaseException") = some true)
    (dM : PySem.W.hasDictIn K CM = true)
    (tM : PySem.W.typeIn K (.ref CM) = some (.type "type"))
    (sCM : PySem.W.subIn K (.ref C) (.ref CM) = some true)
    (q1 : PySem.W.kitOne K (.ref C) (.ref C) = some true)
    (q2 : PySem.W.kitOne K (.ref C) (.ref CC) = some false)
    (eS : PySem.W.nsIn K mainGlobals "Shape" = some (some (.ref S)))
    (s1 : PySem.W.makesIn K S = true)
    (s2 : PySem.W.findIn K (.ref S) "__init__" = some (some (.ref fG)))
    (s3 : PySem.W.isFn K (.ref fG) = true)
    (s4 : PySem.W.keepIn K (.ref S) = true)
    (s5 : PySem.W.plainGet K S Str.empty = true)
    (s6 : PySem.W.hasDictIn K S = true)
    (s7 : PySem.W.plainOver K S = true)
    (s8 : PySem.W.findIn K (.ref S) "__setattr__" = some (some (.builtin "object.__setattr__")))
    (s9 : PySem.W.findIn K (.ref S) "dims" = some none)
    (s10 : PySem.W.findIn K (.ref S) "attrs" = some none)
    (s11 : PySem.W.findIn K (.ref S) "__eq__" = some (some (.ref fE)))
    (s12 : PySem.W.isFn K (.ref fE) = true)
    (s13 : PySem.W.notFirst K S (.ref S) = true)
    (s14 : PySem.W.notFirst K S (.type "tuple") = true)
    (s17 : PySem.W.kitOne K (.ref S) (.ref S) = some true)
    (s18 : PySem.W.kitOne K (.type "tuple") (.ref S) = some false)
    (s15 : PySem.W.findIn K (.ref S) "__class__" = some (some (.builtin "object.__class__")))
    (s16 : PySem.W.mroIn K S (.type "object") = some true)
    (lG : K.lookup fG = some ⟨ocG, odG, .func (PySem.W.fnOf "__init__" "Shape.__init__" (defArgs sShInit) (defBody sShInit) (defScope sShInit) .none kVG dcG pmG anG cdG ctG), slG⟩)
    (cG : PySem.W.codeIn K cdG "Shape.__init__" = true)
    (kG : PySem.W.keepIn K (.ref fG) = true)
    (eK : PySem.W.nsIn K mainGlobals "KINDS" = some (some (.ref kk)))
    (lK : K.lookup kk = some ⟨.type "tuple", ddK, .seq #[.str "int" tk1, .str "flag" tk2, .str "text" tk3] nK, slK⟩)
    (eL : PySem.W.nsIn K mainGlobals "LEAVES" = some (some (.ref kl)))
    (lL : K.lookup kl = some ⟨.type "tuple", ddL, .seq #[.str "value" tl1, .str "attr" tl2, .str "dim" tl3] nL, slL⟩)
    (eO : PySem.W.nsIn K mainGlobals "COMPARISONS" = some (some (.ref ko)))
    (lO : K.lookup ko = some ⟨.type "tuple", ddO, .seq #[.str "eq" to1, .str "ne" to2, .str "lt" to3, .str "le" to4, .str "gt" to5, .str "ge" to6] nO, slO⟩)
    (eG : PySem.W.nsIn K mainGlobals "SIGNATURES" = some (some (.ref sd)))
    (lD : K.lookup sd = some ⟨.type "dict", none, .dict es nD, #[]⟩)
    (sK : PySem.W.KeysLit w.params es.toList)
    (wn0 : PySem.W.nsIn K sd "neg" = some (some (.ref wa0)))
    (wl0 : K.lookup wa0 = some ⟨.type "tuple", wc0, .seq #[.ref wb0, .str "int" wt0] wm0, ws0⟩)
    (wk0 : K.lookup wb0 = some ⟨.type "tuple", xc0, .seq #[.str "int" xt00] xm0, xs0⟩)
    (wn1 : PySem.W.nsIn K sd "abs" = some (some (.ref wa1)))
    (wl1 : K.lookup wa1 = some ⟨.type "tuple", wc1, .seq #[.ref wb1, .str "int" wt1] wm1, ws1⟩)
    (wk1 : K.lookup wb1 = some ⟨.type "tuple", xc1, .seq #[.str "int" xt10] xm1, xs1⟩)
    (wn2 : PySem.W.nsIn K sd "not" = some (some (.ref wa2)))
    (wl2 : K.lookup wa2 = some ⟨.type "tuple", wc2, .seq #[.ref wb2, .str "flag" wt2] wm2, ws2⟩)
    (wk2 : K.lookup wb2 = some ⟨.type "tuple", xc2, .seq #[.str "flag" xt20] xm2, xs2⟩)
    (wn3 : PySem.W.nsIn K sd "length" = some (some (.ref wa3)))
    (wl3 : K.lookup wa3 = some ⟨.type "tuple", wc3, .seq #[.ref wb3, .str "int" wt3] wm3, ws3⟩)
    (wk3 : K.lookup wb3 = some ⟨.type "tuple", xc3, .seq #[.str "text" xt30] xm3, xs3⟩)
    (wn4 : PySem.W.nsIn K sd "add" = some (some (.ref wa4)))
    (wl4 : K.lookup wa4 = some ⟨.type "tuple", wc4, .seq #[.ref wb4, .str "int" wt4] wm4, ws4⟩)
    (wk4 : K.lookup wb4 = some ⟨.type "tuple", xc4, .seq #[.str "int" xt40, .str "int" xt41] xm4, xs4⟩)
    (wn5 : PySem.W.nsIn K sd "sub" = some (some (.ref wa5)))
    (wl5 : K.lookup wa5 = some ⟨.type "tuple", wc5, .seq #[.ref wb5, .str "int" wt5] wm5, ws5⟩)
    (wk5 : K.lookup wb5 = some ⟨.type "tuple", xc5, .seq #[.str "int" xt50, .str "int" xt51] xm5, xs5⟩)
    (wn6 : PySem.W.nsIn K sd "mul" = some (some (.ref wa6)))
    (wl6 : K.lookup wa6 = some ⟨.type "tuple", wc6, .seq #[.ref wb6, .str "int" wt6] wm6, ws6⟩)
    (wk6 : K.lookup wb6 = some ⟨.type "tuple", xc6, .seq #[.str "int" xt60, .str "int" xt61] xm6, xs6⟩)
    (wn7 : PySem.W.nsIn K sd "div" = some (some (.ref wa7)))
    (wl7 : K.lookup wa7 = some ⟨.type "tuple", wc7, .seq #[.ref wb7, .str "int" wt7] wm7, ws7⟩)
    (wk7 : K.lookup wb7 = some ⟨.type "tuple", xc7, .seq #[.str "int" xt70, .str "int" xt71] xm7, xs7⟩)
    (wn8 : PySem.W.nsIn K sd "mod" = some (some (.ref wa8)))
    (wl8 : K.lookup wa8 = some ⟨.type "tuple", wc8, .seq #[.ref wb8, .str "int" wt8] wm8, ws8⟩)
    (wk8 : K.lookup wb8 = some ⟨.type "tuple", xc8, .seq #[.str "int" xt80, .str "int" xt81] xm8, xs8⟩)
    (wn9 : PySem.W.nsIn K sd "and" = some (some (.ref wa9)))
    (wl9 : K.lookup wa9 = some ⟨.type "tuple", wc9, .seq #[.ref wb9, .str "flag" wt9] wm9, ws9⟩)
    (wk9 : K.lookup wb9 = some ⟨.type "tuple", xc9, .seq #[.str "flag" xt90, .str "flag" xt91] xm9, xs9⟩)
    (wn10 : PySem.W.nsIn K sd "or" = some (some (.ref wa10)))
    (wl10 : K.lookup wa10 = some ⟨.type "tuple", wc10, .seq #[.ref wb10, .str "flag" wt10] wm10, ws10⟩)
    (wk10 : K.lookup wb10 = some ⟨.type "tuple", xc10, .seq #[.str "flag" xt100, .str "flag" xt101] xm10, xs10⟩)
    (wn11 : PySem.W.nsIn K sd "joined" = some (some (.ref wa11)))
    (wl11 : K.lookup wa11 = some ⟨.type "tuple", wc11, .seq #[.ref wb11, .str "text" wt11] wm11, ws11⟩)
    (wk11 : K.lookup wb11 = some ⟨.type "tuple", xc11, .seq #[.str "text" xt110, .str "text" xt111] xm11, xs11⟩)
    : ∃ fd : FuncData, (∀ (s : Shared) (v : Value), BindsTo s fd ⟨[v], []⟩ [("script", v)]) ∧ ∀ base : Heap, K.In base → base.Ns mainGlobals mg → FnOk l.prog w K mg base CX0 16 fa fd ["script"] (spLaw K) := by
  have e := hfa.symm.trans (PySem.W.mg_of X G a28)
  cases e
  have F1 := fun_mk (st := sPartsOf) l1 c1 k1
  have F2 := fun_mk (st := sKindOf) l2 c2 k2
  have F3 := fun_mk (st := sKindFrom) l3 c3 k3
  have F4 := fun_mk (st := sLeafKind) l4 c4 k4
  have F5 := fun_mk (st := sKindOver) l5 c5 k5
  have F6 := fun_mk (st := sIsText) l6 c6 k6
  have F7 := fun_mk (st := sIsValue) l7 c7 k7
  have F8 := fun_mk (st := sDimIx) l8 c8 k8
  have F9 := fun_mk (st := sAttrIx) l9 c9 k9
  have F10 := fun_mk (st := sIndex) l10 c10 k10
  have F11 := fun_mk (st := sDraw) l11 c11 k11
  have F12 := fun_mk (st := sDraws) l12 c12 k12
  have F13 := fun_mk (st := sNext) l13 c13 k13
  have F14 := fun_mk (st := sWord) l14 c14 k14
  have F15 := fun_mk (st := sNumber) l15 c15 k15
  have F16 := fun_mk (st := sThing) l16 c16 k16
  have F17 := fun_mk (st := sShape) l17 c17 k17
  have F18 := fun_mk (st := sLeaf) l18 c18 k18
  have F19 := fun_mk (st := sFlag) l19 c19 k19
  have F20 := fun_mk (st := sExpr) l20 c20 k20
  have F21 := fun_mk (st := sCount) l21 c21 k21
  have F22 := fun_mk (st := sStrange) l22 c22 k22
  have F23 := fun_mk (st := sReplaced) l23 c23 k23
  have F24 := fun_mk (st := sLLeafKind) l24 c24 k24
  have F25 := fun_mk (st := sJoint) l25 c25 k25
  have F26 := fun_mk (st := sLKind) l26 c26 k26
  have F27 := fun_mk (st := sTold) l27 c27 k27
  have F28 := fun_mk (st := sLaw) l28 c28 k28
  have b1 := F1.binds (ps := ["expression"]) fun _ _ _ _ _ _ us hl => match us, hl with | [_], _ => rfl
  have b2 := F2.binds (ps := ["expression", "shape"]) fun _ _ _ _ _ _ us hl => match us, hl with | [_, _], _ => rfl
  have b3 := F3.binds (ps := ["expression", "shape", "number"]) fun _ _ _ _ _ _ us hl => match us, hl with | [_, _, _], _ => rfl
  have b4 := F4.binds (ps := ["expression", "shape"]) fun _ _ _ _ _ _ us hl => match us, hl with | [_, _], _ => rfl
  have b5 := F5.binds (ps := ["word", "kinds"]) fun _ _ _ _ _ _ us hl => match us, hl with | [_, _], _ => rfl
  have b6 := F6.binds (ps := ["text"]) fun _ _ _ _ _ _ us hl => match us, hl with | [_], _ => rfl
  have b7 := F7.binds (ps := ["kind", "value"]) fun _ _ _ _ _ _ us hl => match us, hl with | [_, _], _ => rfl
  have b8 := F8.binds (ps := ["shape", "name"]) fun _ _ _ _ _ _ us hl => match us, hl with | [_, _], _ => rfl
  have b9 := F9.binds (ps := ["shape", "name"]) fun _ _ _ _ _ _ us hl => match us, hl with | [_, _], _ => rfl
  have b10 := F10.binds (ps := ["rows", "name"]) fun _ _ _ _ _ _ us hl => match us, hl with | [_, _], _ => rfl
  have b11 := F11.binds (ps := ["cell", "many", "bound"]) fun _ _ _ _ _ _ us hl => match us, hl with | [_, _, _], _ => rfl
  have b12 := F12.binds (ps := ["cells"]) fun _ _ _ _ _ _ us hl => match us, hl with | [_], _ => rfl
  have b13 := F13.binds (ps := ["state", "bound"]) fun _ _ _ _ _ _ us hl => match us, hl with | [_, _], _ => rfl
  have b14 := F14.binds (ps := ["state"]) fun _ _ _ _ _ _ us hl => match us, hl with | [_], _ => rfl
  have b15 := F15.binds (ps := ["state"]) fun _ _ _ _ _ _ us hl => match us, hl with | [_], _ => rfl
  have b16 := F16.binds (ps := ["state", "kind"]) fun _ _ _ _ _ _ us hl => match us, hl with | [_, _], _ => rfl
  have b17 := F17.binds (ps := ["state"]) fun _ _ _ _ _ _ us hl => match us, hl with | [_], _ => rfl
  have b18 := F18.binds (ps := ["state", "shape", "kind"]) fun _ _ _ _ _ _ us hl => match us, hl with | [_, _, _], _ => rfl
  have b19 := F19.binds (ps := ["state", "shape", "depth"]) fun _ _ _ _ _ _ us hl => match us, hl with | [_, _, _], _ => rfl
  have b20 := F20.binds (ps := ["state", "shape", "kind", "depth"]) fun _ _ _ _ _ _ us hl => match us, hl with | [_, _, _, _], _ => rfl
  have b21 := F21.binds (ps := ["expression"]) fun _ _ _ _ _ _ us hl => match us, hl with | [_], _ => rfl
  have b22 := F22.binds (ps := ["state", "shape"]) fun _ _ _ _ _ _ us hl => match us, hl with | [_, _], _ => rfl
  have b23 := F23.binds (ps := ["expression", "number", "new"]) fun _ _ _ _ _ _ us hl => match us, hl with | [_, _, _], _ => rfl
  have b24 := F24.binds (ps := ["expression", "shape"]) fun _ _ _ _ _ _ us hl => match us, hl with | [_, _], _ => rfl
  have b25 := F25.binds (ps := ["word", "kinds"]) fun _ _ _ _ _ _ us hl => match us, hl with | [_, _], _ => rfl
  have b26 := F26.binds (ps := ["expression", "shape", "number"]) fun _ _ _ _ _ _ us hl => match us, hl with | [_, _, _], _ => rfl
  have b27 := F27.binds (ps := ["expression", "shape"]) fun _ _ _ _ _ _ us hl => match us, hl with | [_, _], _ => rfl
  have M : Nm mg := ⟨PySem.W.mg_none_of X G z1, PySem.W.mg_none_of X G z2, PySem.W.mg_none_of X G z3, PySem.W.mg_none_of X G z4, PySem.W.mg_none_of X G z5, PySem.W.mg_none_of X G z6, PySem.W.mg_none_of X G z7, ⟨_, PySem.W.mg_of X G g1, ⟨_, rfl⟩⟩, ⟨_, PySem.W.mg_of X G g2, ⟨_, rfl⟩⟩, ⟨_, PySem.W.mg_of X G g3, ⟨_, rfl⟩⟩⟩
  have N : Nk K mg := ⟨PySem.W.mg_none_of X G z8, PySem.W.mg_none_of X G z9, PySem.W.mg_none_of X G z10, PySem.W.mg_none_of X G z11, PySem.W.mg_none_of X G z12, ⟨kl, PySem.W.mg_of X G eL, fun _ => .inr ⟨_, _, _, lL, rfl, rfl, (by show 3 ≤ sizeLine; decide), .cons ⟨_, rfl⟩ (.cons ⟨_, rfl⟩ (.cons ⟨_, rfl⟩ (.nil)))⟩⟩, ⟨kk, PySem.W.mg_of X G eK, fun _ => .inr ⟨_, _, _, lK, rfl, rfl, (by show 3 ≤ sizeLine; decide), .cons ⟨_, rfl⟩ (.cons ⟨_, rfl⟩ (.cons ⟨_, rfl⟩ (.nil)))⟩⟩, ⟨ko, PySem.W.mg_of X G eO, fun _ => .inr ⟨_, _, _, lO, rfl, rfl, (by show 6 ≤ sizeLine; decide), .cons ⟨_, rfl⟩ (.cons ⟨_, rfl⟩ (.cons ⟨_, rfl⟩ (.cons ⟨_, rfl⟩ (.cons ⟨_, rfl⟩ (.cons ⟨_, rfl⟩ (.nil))))))⟩⟩⟩
  have SG : Sg K w mg := by
    refine ⟨sd, PySem.W.mg_of X G eG, fun p hp => ?_⟩
    rcases List.mem_cons.mp hp with rfl | hp
    · exact ⟨wa0, wb0, ⟨_, _, _, lD, sK, wn0, rfl⟩, fun _ => .inr ⟨_, _, _, wl0, rfl, rfl, (by show 2 ≤ sizeLine; decide), .cons rfl (.cons ⟨_, rfl⟩ .nil)⟩, fun _ => .inr ⟨_, _, _, wk0, rfl, rfl, (by show 1 ≤ sizeLine; decide), .cons ⟨_, rfl⟩ (.nil)⟩⟩
    rcases List.mem_cons.mp hp with rfl | hp
    · exact ⟨wa1, wb1, ⟨_, _, _, lD, sK, wn1, rfl⟩, fun _ => .inr ⟨_, _, _, wl1, rfl, rfl, (by show 2 ≤ sizeLine; decide), .cons rfl (.cons ⟨_, rfl⟩ .nil)⟩, fun _ => .inr ⟨_, _, _, wk1, rfl, rfl, (by show 1 ≤ sizeLine; decide), .cons ⟨_, rfl⟩ (.nil)⟩⟩
    rcases List.mem_cons.mp hp with rfl | hp
    · exact ⟨wa2, wb2, ⟨_, _, _, lD, sK, wn2, rfl⟩, fun _ => .inr ⟨_, _, _, wl2, rfl, rfl, (by show 2 ≤ sizeLine; decide), .cons rfl (.cons ⟨_, rfl⟩ .nil)⟩, fun _ => .inr ⟨_, _, _, wk2, rfl, rfl, (by show 1 ≤ sizeLine; decide), .cons ⟨_, rfl⟩ (.nil)⟩⟩
    rcases List.mem_cons.mp hp with rfl | hp
    · exact ⟨wa3, wb3, ⟨_, _, _, lD, sK, wn3, rfl⟩, fun _ => .inr ⟨_, _, _, wl3, rfl, rfl, (by show 2 ≤ sizeLine; decide), .cons rfl (.cons ⟨_, rfl⟩ .nil)⟩, fun _ => .inr ⟨_, _, _, wk3, rfl, rfl, (by show 1 ≤ sizeLine; decide), .cons ⟨_, rfl⟩ (.nil)⟩⟩
    rcases List.mem_cons.mp hp with rfl | hp
    · exact ⟨wa4, wb4, ⟨_, _, _, lD, sK, wn4, rfl⟩, fun _ => .inr ⟨_, _, _, wl4, rfl, rfl, (by show 2 ≤ sizeLine; decide), .cons rfl (.cons ⟨_, rfl⟩ .nil)⟩, fun _ => .inr ⟨_, _, _, wk4, rfl, rfl, (by show 2 ≤ sizeLine; decide), .cons ⟨_, rfl⟩ (.cons ⟨_, rfl⟩ (.nil))⟩⟩
    rcases List.mem_cons.mp hp with rfl | hp
    · exact ⟨wa5, wb5, ⟨_, _, _, lD, sK, wn5, rfl⟩, fun _ => .inr ⟨_, _, _, wl5, rfl, rfl, (by show 2 ≤ sizeLine; decide), .cons rfl (.cons ⟨_, rfl⟩ .nil)⟩, fun _ => .inr ⟨_, _, _, wk5, rfl, rfl, (by show 2 ≤ sizeLine; decide), .cons ⟨_, rfl⟩ (.cons ⟨_, rfl⟩ (.nil))⟩⟩
    rcases List.mem_cons.mp hp with rfl | hp
    · exact ⟨wa6, wb6, ⟨_, _, _, lD, sK, wn6, rfl⟩, fun _ => .inr ⟨_, _, _, wl6, rfl, rfl, (by show 2 ≤ sizeLine; decide), .cons rfl (.cons ⟨_, rfl⟩ .nil)⟩, fun _ => .inr ⟨_, _, _, wk6, rfl, rfl, (by show 2 ≤ sizeLine; decide), .cons ⟨_, rfl⟩ (.cons ⟨_, rfl⟩ (.nil))⟩⟩
    rcases List.mem_cons.mp hp with rfl | hp
    · exact ⟨wa7, wb7, ⟨_, _, _, lD, sK, wn7, rfl⟩, fun _ => .inr ⟨_, _, _, wl7, rfl, rfl, (by show 2 ≤ sizeLine; decide), .cons rfl (.cons ⟨_, rfl⟩ .nil)⟩, fun _ => .inr ⟨_, _, _, wk7, rfl, rfl, (by show 2 ≤ sizeLine; decide), .cons ⟨_, rfl⟩ (.cons ⟨_, rfl⟩ (.nil))⟩⟩
    rcases List.mem_cons.mp hp with rfl | hp
    · exact ⟨wa8, wb8, ⟨_, _, _, lD, sK, wn8, rfl⟩, fun _ => .inr ⟨_, _, _, wl8, rfl, rfl, (by show 2 ≤ sizeLine; decide), .cons rfl (.cons ⟨_, rfl⟩ .nil)⟩, fun _ => .inr ⟨_, _, _, wk8, rfl, rfl, (by show 2 ≤ sizeLine; decide), .cons ⟨_, rfl⟩ (.cons ⟨_, rfl⟩ (.nil))⟩⟩
    rcases List.mem_cons.mp hp with rfl | hp
    · exact ⟨wa9, wb9, ⟨_, _, _, lD, sK, wn9, rfl⟩, fun _ => .inr ⟨_, _, _, wl9, rfl, rfl, (by show 2 ≤ sizeLine; decide), .cons rfl (.cons ⟨_, rfl⟩ .nil)⟩, fun _ => .inr ⟨_, _, _, wk9, rfl, rfl, (by show 2 ≤ sizeLine; decide), .cons ⟨_, rfl⟩ (.cons ⟨_, rfl⟩ (.nil))⟩⟩
    rcases List.mem_cons.mp hp with rfl | hp
    · exact ⟨wa10, wb10, ⟨_, _, _, lD, sK, wn10, rfl⟩, fun _ => .inr ⟨_, _, _, wl10, rfl, rfl, (by show 2 ≤ sizeLine; decide), .cons rfl (.cons ⟨_, rfl⟩ .nil)⟩, fun _ => .inr ⟨_, _, _, wk10, rfl, rfl, (by show 2 ≤ sizeLine; decide), .cons ⟨_, rfl⟩ (.cons ⟨_, rfl⟩ (.nil))⟩⟩
    rcases List.mem_cons.mp hp with rfl | hp
    · exact ⟨wa11, wb11, ⟨_, _, _, lD, sK, wn11, rfl⟩, fun _ => .inr ⟨_, _, _, wl11, rfl, rfl, (by show 2 ≤ sizeLine; decide), .cons rfl (.cons ⟨_, rfl⟩ .nil)⟩, fun _ => .inr ⟨_, _, _, wk11, rfl, rfl, (by show 2 ≤ sizeLine; decide), .cons ⟨_, rfl⟩ (.cons ⟨_, rfl⟩ (.nil))⟩⟩
    exact absurd hp List.not_mem_nil
  have FI := fun_mk (st := sInit) lI cI kI
  have bI := FI.binds (ps := ["self", "place"]) fun _ _ _ _ _ _ us hl => match us, hl with | [_, _], _ => rfl
  have FG := fun_mk (st := sShInit) lG cG kG
  have bG := FG.binds (ps := ["self", "dims", "attrs"]) fun _ _ _ _ _ _ us hl => match us, hl with | [_, _, _], _ => rfl
  have ER : ErrC K C fI "InvalidQuery" := ⟨⟨⟨_, _, _, _, _, _, _, _, _, _, _, _, _, _, _, xL, rfl⟩, sa, hs, tyC, kC⟩, ⟨ga, gg, hs, hd, ha, hn, ht, hm⟩, ⟨rd, fc, tyC, _, _, xL, rfl⟩, ⟨ga, gg, hs, hd⟩, noP, noN, iC, tI⟩
  have SH : ShC K S fG fE := ⟨⟨s1, s2, s3, s4⟩, ⟨s5, s6, s7, s8⟩, s9, s10, s11, s12, s13, s14, s15, hn, ht, s16, s17, s18⟩
  have TT : ToldT K mg C CM CC := ⟨PySem.W.mg_of X G eC, PySem.W.mg_of X G eM, PySem.W.mg_of X G eX, PySem.W.exm_ref sM dM tM sCM, q1, q2⟩
  exact ⟨PySem.W.fnOf "law" "law" (defArgs sLaw) (defBody sLaw) (defScope sLaw) .none kV28 dc28 pm28 an28 cd28 ct28, fun s v => .of_eq rfl, fun base _ _ => ok_law (C := S) F28 N M ⟨PySem.W.mg_of X G a12, PySem.W.mg_of X G a17, PySem.W.mg_of X G a20, PySem.W.mg_of X G a27, PySem.W.mg_of X G a13, PySem.W.mg_of X G a21, PySem.W.mg_of X G a23, PySem.W.mg_of X G a22, PySem.W.mg_of X G a26, PySem.W.mg_of X G a1, b12, b17, b20, b27, b13, b21, b23, b22, b26, b1, k12, k17, k20, k27, k13, k21, k23, k22, k26, k1⟩ (ok_draws F12 F11 b11 (PySem.W.mg_of X G a11) M.range M.int) (ok_shape F17 N M F13 b13 (PySem.W.mg_of X G a13) SH (PySem.W.mg_of X G eS) (ok_shInit FG SH) bG) (ok_expr F20 (PySem.W.mg_of X G a20) b20 M F13 b13 (PySem.W.mg_of X G a13) (ok_leaf F18 N M SH F13 b13 (PySem.W.mg_of X G a13) (ok_thing F16 M F13 b13 (PySem.W.mg_of X G a13) F14 b14 (PySem.W.mg_of X G a14) F15 b15 (PySem.W.mg_of X G a15)) k16 b16 (PySem.W.mg_of X G a16)) k18 b18 (PySem.W.mg_of X G a18) F19 b19 (PySem.W.mg_of X G a19) 4) (ok_told F27 M (ok_kindOf F2 (ok_kf F3 (PySem.W.mg_of X G a3) b3 N (ok_parts F1 N) k1 b1 (PySem.W.mg_of X G a1) (ok_leafKind F4 N M SH F9 b9 (PySem.W.mg_of X G a9) F8 b8 (PySem.W.mg_of X G a8) F10 b10 (PySem.W.mg_of X G a10) F7 b7 (PySem.W.mg_of X G a7) F6 b6 (PySem.W.mg_of X G a6)) k4 b4 (PySem.W.mg_of X G a4) (ok_over F5 N SG) k5 b5 (PySem.W.mg_of X G a5) FI bI ER TT.gC 8) k3 b3 (PySem.W.mg_of X G a3)) k2 b2 (PySem.W.mg_of X G a2) ER TT) (ok_next F13 M.int M.len) ((ok_count F21 (PySem.W.mg_of X G a21) b21 N) 8) (ok_rep F23 (PySem.W.mg_of X G a23) b23 N (ok_count F21 (PySem.W.mg_of X G a21) b21 N) k21 b21 (PySem.W.mg_of X G a21) 8) (ok_str F22 M F13 b13 (PySem.W.mg_of X G a13) (ok_expr F20 (PySem.W.mg_of X G a20) b20 M F13 b13 (PySem.W.mg_of X G a13) (ok_leaf F18 N M SH F13 b13 (PySem.W.mg_of X G a13) (ok_thing F16 M F13 b13 (PySem.W.mg_of X G a13) F14 b14 (PySem.W.mg_of X G a14) F15 b15 (PySem.W.mg_of X G a15)) k16 b16 (PySem.W.mg_of X G a16)) k18 b18 (PySem.W.mg_of X G a18) F19 b19 (PySem.W.mg_of X G a19) 2) k20 b20 (PySem.W.mg_of X G a20)) (ok_lkind F26 (PySem.W.mg_of X G a26) b26 (ok_llk F24 N M SH) k24 b24 (PySem.W.mg_of X G a24) (ok_joint F25 M) k25 b25 (PySem.W.mg_of X G a25) (ok_count F21 (PySem.W.mg_of X G a21) b21 N) k21 b21 (PySem.W.mg_of X G a21) 8) (ok_parts F1 N)⟩
end K2
open PySem PySem.W PyProof.Rows
set_option maxRecDepth 100000 in
set_option maxHeartbeats 0 in
theorem PySem.Challenge.cw_manysides_k05_kinds_of_expressions_holds : PySem.Challenge.rw_manysides_k05_kinds_of_expressions.Holds := by
  w_on; o_law; k_head; (case hw => w_witness2)
  k_fill
  refine L2.walk_of (l := PySem.Challenge.rw_manysides_k05_kinds_of_expressions) (n := 63) (k := 16) (x := "script") (CX := fun _ => L2.CX0) (sp := fun w => K2.spLaw _) rfl (by decide) rfl ⟨rfl, by decide, by decide⟩ (fun w h Y => PySem.W.kIn_of Y) ?F (fun _ _ a ns hl _ hS => ⟨a, ns, rfl, hS, hl, fun _ => rfl⟩) (fun _ _ _ _ _ h => h)
  case F =>
    intro w mg fa h KX G hmg
    refine' K2.all_mk KX G hmg ?a1 ?l1 ?c1 ?k1 ?a2 ?l2 ?c2 ?k2 ?a3 ?l3 ?c3 ?k3 ?a4 ?l4 ?c4 ?k4 ?a5 ?l5 ?c5 ?k5 ?a6 ?l6 ?c6 ?k6 ?a7 ?l7 ?c7 ?k7 ?a8 ?l8 ?c8 ?k8 ?a9 ?l9 ?c9 ?k9 ?a10 ?l10 ?c10 ?k10 ?a11 ?l11 ?c11 ?k11 ?a12 ?l12 ?c12 ?k12 ?a13 ?l13 ?c13 ?k13 ?a14 ?l14 ?c14 ?k14 ?a15 ?l15 ?c15 ?k15 ?a16 ?l16 ?c16 ?k16 ?a17 ?l17 ?c17 ?k17 ?a18 ?l18 ?c18 ?k18 ?a19 ?l19 ?c19 ?k19 ?a20 ?l20 ?c20 ?k20 ?a21 ?l21 ?c21 ?k21 ?a22 ?l22 ?c22 ?k22 ?a23 ?l23 ?c23 ?k23 ?a24 ?l24 ?c24 ?k24 ?a25 ?l25 ?c25 ?k25 ?a26 ?l26 ?c26 ?k26 ?a27 ?l27 ?c27 ?k27 ?a28 ?l28 ?c28 ?k28 ?z1 ?z2 ?z3 ?z4 ?z5 ?z6 ?z7 ?z8 ?z9 ?z10 ?z11 ?z12 ?g1 ?g2 ?g3 ?eC ?eM ?eX ?xL ?sa ?ga ?gg ?hs ?hd ?ha ?hn ?ht ?hm ?tyC ?kC ?rd ?fc ?noP ?noN ?iC ?tI ?lI ?cI ?kI ?sM ?dM ?tM ?sCM ?q1 ?q2 ?eS ?s1 ?s2 ?s3 ?s4 ?s5 ?s6 ?s7 ?s8 ?s9 ?s10 ?s11 ?s12 ?s13 ?s14 ?s17 ?s18 ?s15 ?s16 ?lG ?cG ?kG ?eK ?lK ?eL ?lL ?eO ?lO ?eG ?lD ?sK ?wn0 ?wl0 ?wk0 ?wn1 ?wl1 ?wk1 ?wn2 ?wl2 ?wk2 ?wn3 ?wl3 ?wk3 ?wn4 ?wl4 ?wk4 ?wn5 ?wl5 ?wk5 ?wn6 ?wl6 ?wk6 ?wn7 ?wl7 ?wk7 ?wn8 ?wl8 ?wk8 ?wn9 ?wl9 ?wk9 ?wn10 ?wl10 ?wk10 ?wn11 ?wl11 ?wk11
    (case a1 => k_is)
    (case l1 => k_is)
    (case c1 => k_is)
    (case k1 => k_is)
    (case a2 => k_is)
    (case l2 => k_is)
    (case c2 => k_is)
    (case k2 => k_is)
    (case a3 => k_is)
    (case l3 => k_is)
    (case c3 => k_is)
    (case k3 => k_is)
    (case a4 => k_is)
    (case l4 => k_is)
    (case c4 => k_is)
    (case k4 => k_is)
    (case a5 => k_is)
    (case l5 => k_is)
    (case c5 => k_is)
    (case k5 => k_is)
    (case a6 => k_is)
    (case l6 => k_is)
    (case c6 => k_is)
    (case k6 => k_is)
    (case a7 => k_is)
    (case l7 => k_is)
    (case c7 => k_is)
    (case k7 => k_is)
    (case a8 => k_is)
    (case l8 => k_is)
    (case c8 => k_is)
    (case k8 => k_is)
    (case a9 => k_is)
    (case l9 => k_is)
    (case c9 => k_is)
    (case k9 => k_is)
    (case a10 => k_is)
    (case l10 => k_is)
    (case c10 => k_is)
    (case k10 => k_is)
    (case a11 => k_is)
    (case l11 => k_is)
    (case c11 => k_is)
    (case k11 => k_is)
    (case a12 => k_is)
    (case l12 => k_is)
    (case c12 => k_is)
    (case k12 => k_is)
    (case a13 => k_is)
    (case l13 => k_is)
    (case c13 => k_is)
    (case k13 => k_is)
    (case a14 => k_is)
    (case l14 => k_is)
    (case c14 => k_is)
    (case k14 => k_is)
    (case a15 => k_is)
    (case l15 => k_is)
    (case c15 => k_is)
    (case k15 => k_is)
    (case a16 => k_is)
    (case l16 => k_is)
    (case c16 => k_is)
    (case k16 => k_is)
    (case a17 => k_is)
    (case l17 => k_is)
    (case c17 => k_is)
    (case k17 => k_is)
    (case a18 => k_is)
    (case l18 => k_is)
    (case c18 => k_is)
    (case k18 => k_is)
    (case a19 => k_is)
    (case l19 => k_is)
    (case c19 => k_is)
    (case k19 => k_is)
    (case a20 => k_is)
    (case l20 => k_is)
    (case c20 => k_is)
    (case k20 => k_is)
    (case a21 => k_is)
    (case l21 => k_is)
    (case c21 => k_is)
    (case k21 => k_is)
    (case a22 => k_is)
    (case l22 => k_is)
    (case c22 => k_is)
    (case k22 => k_is)
    (case a23 => k_is)
    (case l23 => k_is)
    (case c23 => k_is)
    (case k23 => k_is)
    (case a24 => k_is)
    (case l24 => k_is)
    (case c24 => k_is)
    (case k24 => k_is)
    (case a25 => k_is)
    (case l25 => k_is)
    (case c25 => k_is)
    (case k25 => k_is)
    (case a26 => k_is)
    (case l26 => k_is)
    (case c26 => k_is)
    (case k26 => k_is)
    (case a27 => k_is)
    (case l27 => k_is)
    (case c27 => k_is)
    (case k27 => k_is)
    (case a28 => k_is)
    (case l28 => k_is)
    (case c28 => k_is)
    (case k28 => k_is)
    (case z1 => k_is)
    (case z2 => k_is)
    (case z3 => k_is)
    (case z4 => k_is)
    (case z5 => k_is)
    (case z6 => k_is)
    (case z7 => k_is)
    (case z8 => k_is)
    (case z9 => k_is)
    (case z10 => k_is)
    (case z11 => k_is)
    (case z12 => k_is)
    (case g1 => k_is)
    (case g2 => k_is)
    (case g3 => k_is)
    (case eC => first | k_is | kit_is | rfl)
    (case eM => first | k_is | kit_is | rfl)
    (case eX => first | k_is | kit_is | rfl)
    (case xL => first | k_is | kit_is | rfl)
    (case sa => first | k_is | kit_is | rfl)
    (case ga => first | k_is | kit_is | rfl)
    (case gg => first | k_is | kit_is | rfl)
    (case hs => first | k_is | kit_is | rfl)
    (case hd => first | k_is | kit_is | rfl)
    (case ha => first | k_is | kit_is | rfl)
    (case hn => first | k_is | kit_is | rfl)
    (case ht => first | k_is | kit_is | rfl)
    (case hm => first | k_is | kit_is | rfl)
    (case tyC => first | k_is | kit_is | rfl)
    (case kC => first | k_is | kit_is | rfl)
    (case rd => first | k_is | kit_is | rfl)
    (case fc => first | k_is | kit_is | rfl)
    (case noP => first | k_is | kit_is | rfl)
    (case noN => first | k_is | kit_is | rfl)
    (case iC => first | k_is | kit_is | rfl)
    (case tI => first | k_is | kit_is | rfl)
    (case lI => first | k_is | kit_is | rfl)
    (case cI => first | k_is | kit_is | rfl)
    (case kI => first | k_is | kit_is | rfl)
    (case sM => first | k_is | kit_is | rfl)
    (case dM => first | k_is | kit_is | rfl)
    (case tM => first | k_is | kit_is | rfl)
    (case sCM => first | k_is | kit_is | rfl)
    (case q1 => first | k_is | kit_is | rfl)
    (case q2 => first | k_is | kit_is | rfl)
    (case eS => first | k_is | kit_is | rfl)
    (case s1 => first | k_is | kit_is | rfl)
    (case s2 => first | k_is | kit_is | rfl)
    (case s3 => first | k_is | kit_is | rfl)
    (case s4 => first | k_is | kit_is | rfl)
    (case s5 => first | k_is | kit_is | rfl)
    (case s6 => first | k_is | kit_is | rfl)
    (case s7 => first | k_is | kit_is | rfl)
    (case s8 => first | k_is | kit_is | rfl)
    (case s9 => first | k_is | kit_is | rfl)
    (case s10 => first | k_is | kit_is | rfl)
    (case s11 => first | k_is | kit_is | rfl)
    (case s12 => first | k_is | kit_is | rfl)
    (case s13 => first | k_is | kit_is | rfl)
    (case s14 => first | k_is | kit_is | rfl)
    (case s17 => first | k_is | kit_is | rfl)
    (case s18 => first | k_is | kit_is | rfl)
    (case s15 => first | k_is | kit_is | rfl)
    (case s16 => first | k_is | kit_is | rfl)
    (case lG => first | k_is | kit_is | rfl)
    (case cG => first | k_is | kit_is | rfl)
    (case kG => first | k_is | kit_is | rfl)
    (case eK => first | k_is | kit_is | rfl)
    (case lK => first | k_is | kit_is | rfl)
    (case eL => first | k_is | kit_is | rfl)
    (case lL => first | k_is | kit_is | rfl)
    (case eO => first | k_is | kit_is | rfl)
    (case lO => first | k_is | kit_is | rfl)
    (case eG => first | k_is | kit_is | rfl)
    (case lD => first | k_is | kit_is | rfl)
    (case sK => exact ⟨⟨_, _, rfl, rfl⟩, ⟨_, _, rfl, rfl⟩, ⟨_, _, rfl, rfl⟩, ⟨_, _, rfl, rfl⟩, ⟨_, _, rfl, rfl⟩, ⟨_, _, rfl, rfl⟩, ⟨_, _, rfl, rfl⟩, ⟨_, _, rfl, rfl⟩, ⟨_, _, rfl, rfl⟩, ⟨_, _, rfl, rfl⟩, ⟨_, _, rfl, rfl⟩, ⟨_, _, rfl, rfl⟩, True.intro⟩)
    (case wn0 => first | k_is | kit_is | rfl)
    (case wl0 => first | k_is | kit_is | rfl)
    (case wk0 => first | k_is | kit_is | rfl)
    (case wn1 => first | k_is | kit_is | rfl)
    (case wl1 => first | k_is | kit_is | rfl)
    (case wk1 => first | k_is | kit_is | rfl)
    (case wn2 => first | k_is | kit_is | rfl)
    (case wl2 => first | k_is | kit_is | rfl)
    (case wk2 => first | k_is | kit_is | rfl)
    (case wn3 => first | k_is | kit_is | rfl)
    (case wl3 => first | k_is | kit_is | rfl)
    (case wk3 => first | k_is | kit_is | rfl)
    (case wn4 => first | k_is | kit_is | rfl)
    (case wl4 => first | k_is | kit_is | rfl)
    (case wk4 => first | k_is | kit_is | rfl)
    (case wn5 => first | k_is | kit_is | rfl)
    (case wl5 => first | k_is | kit_is | rfl)
    (case wk5 => first | k_is | kit_is | rfl)
    (case wn6 => first | k_is | kit_is | rfl)
    (case wl6 => first | k_is | kit_is | rfl)
    (case wk6 => first | k_is | kit_is | rfl)
    (case wn7 => first | k_is | kit_is | rfl)
    (case wl7 => first | k_is | kit_is | rfl)
    (case wk7 => first | k_is | kit_is | rfl)
    (case wn8 => first | k_is | kit_is | rfl)
    (case wl8 => first | k_is | kit_is | rfl)
    (case wk8 => first | k_is | kit_is | rfl)
    (case wn9 => first | k_is | kit_is | rfl)
    (case wl9 => first | k_is | kit_is | rfl)
    (case wk9 => first | k_is | kit_is | rfl)
    (case wn10 => first | k_is | kit_is | rfl)
    (case wl10 => first | k_is | kit_is | rfl)
    (case wk10 => first | k_is | kit_is | rfl)
    (case wn11 => first | k_is | kit_is | rfl)
    (case wl11 => first | k_is | kit_is | rfl)
    (case wk11 => first | k_is | kit_is | rfl)
