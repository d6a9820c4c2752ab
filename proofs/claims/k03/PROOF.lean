import PyProof.Rows.All
import Wide.All
import OpenK.AllK
import Wide.FinOn
import HandS.Evl
import HandS.Exc
import HandS.ExcField
import HandS.ExcInit
import HandS.ExcIs
import HandS.ForExc
import HandS.ForMost
import HandS.IsInst
import HandS.Replace
import HandS.SlotsOwn
import HandS.Steps
import HandS.StrMore
import HandS.Style
import HandS.TupAny
import HandS.Walk
import HandS.WordsExc
import KE.GoesEnum
import KE.KExcIs
import KE.KTypeName
import PySem.Challenge.RW_manysides_k03_shapes
set_option Elab.async false
set_option linter.all false
set_option maxRecDepth 100000
set_option maxHeartbeats 4000000
namespace K2
open PySem L2
def top (i : Nat) : Stmt := PySem.Challenge.pw_manysides_k03_shapes.main.body.getD i (.Pass ⟨0, 0, 0, 0⟩)
abbrev sDraw : Stmt := top 22
abbrev sDraws : Stmt := top 23
abbrev sNext : Stmt := top 24
/-! heaps -/
theorem same_new {H : Hp} {p : Addr} {o : HO} (h : H p = none) : Same H (upd H p o) := fun b x e => by
  rw [upd_ne (ne_of_none e h)]
  exact e
theorem same_put {H H1 : Hp} {p : Addr} {o : HO} (s : Same H H1) (h : H p = none) : Same H (upd H1 p o) := fun b x e => by
  rw [upd_ne (ne_of_none e h)]
  exact s b x e
section
variable {P : Program} {w : World} {K : PySem.W.Frag} {mg : Str → Option Value} {base : Heap}
def spDraw : Sp := fun vs H Q _ => ∃ (c m b : Int), vs = [.int c, .int m, .int b] ∧ 0 ≤ m ∧ m ≤ 1000 ∧ 0 < b ∧ b < 1073741824 ∧
  ∀ H' p (ns : List Int), Same H H' → H p = none → ns.length = m.toNat → H' p = some (.lst (ns.map V.int)) → Q (.ref p) H'
theorem scDraw : FnScope ["cell", "many", "bound", "numbers", "k", "seed", "mixed"] ["cell", "many", "bound"] (defScope sDraw) := ⟨rfl, rfl, rfl, by decide +kernel, rfl, by decide +kernel, by decide +kernel⟩
theorem ok_draw {f : Addr} {fd : FuncData} (F : Fun K "_law_draw" "_law_draw" sDraw f fd) (mr : mg "range" = none) (mi : mg "int" = none) : FnOk P w K mg base CX0 1 f fd ["cell", "many", "bound"] spDraw := by
  refine F.ok scDraw (fun vs H Q E h => ?_) (fun cdv A outer s H vs Q E hr h => ?_)
  · obtain ⟨c, m, b, rfl, _⟩ := h
    rfl
  · obtain ⟨c, m, b, rfl, hm0, hm1, hb0, hb1, q⟩ := h
    refine ⟨_, pss_cons (ps_set (i := 3) scDraw.nd rfl (.inl rfl) (pe_lst pa_nil))
      (pss_cons (ps_if (pt_cmpR op_ge (pv 0) (pe_op op_pow pe_int pe_int) (nomark _))
        (pss_cons (ps_for PassesOwn.never rfl (pi_range1 (by rfl) mr (pa_cons (pv 1) pa_nil)) (pg_name (i := 4) scDraw.nd rfl (.inl rfl))
          (pss_cons (ps_expr (pe_bm PySem.F.plainAttrs_list PySem.F.slot_list_append PySem.F.type_list_append mt_append (pv 3) (pa_cons (pe_op op_mod (pe_callTy call_int1 (by rfl) mi (by decide +kernel) (pa_cons (pv 0) pa_nil)) (pv 2)) pa_nil)))
          (pss_one (ps_set (i := 0) scDraw.nd rfl (.inl rfl) (pe_op op_fdiv (pv 0) (pv 2))))))
        (pss_one (ps_ret (pv 3)))) pss_nil)
      (pss_cons (ps_set (i := 5) scDraw.nd rfl (.inl rfl) (pe_op op_mod (pe_callTy call_int1 (by rfl) mi (by decide +kernel) (pa_cons (pv 0) pa_nil)) pe_int))
      (pss_cons (ps_for PassesOwn.never rfl (pi_range1 (by rfl) mr (pa_cons (pv 1) pa_nil)) (pg_name (i := 4) scDraw.nd rfl (.inl rfl))
          (pss_cons (ps_set (i := 5) scDraw.nd rfl (.inl rfl) (pe_op op_mod (pe_callTy call_int1 (by rfl) mi (by decide +kernel) (pa_cons (pe_op op_add (pe_op op_add (pe_op op_mul (pv 5) pe_int) pe_int) (pv 4)) pa_nil)) pe_int))
          (pss_cons (ps_set (i := 6) scDraw.nd rfl (.inl rfl) (pe_op op_mod (pe_callTy call_int1 (by rfl) mi (by decide +kernel) (pa_cons (pe_op op_add (pe_op op_mul (pv 5) pe_int) (pe_op op_mul pe_int (pv 4))) pa_nil)) pe_int))
          (pss_one (ps_expr (pe_bm PySem.F.plainAttrs_list PySem.F.slot_list_append PySem.F.type_list_append mt_append (pv 3) (pa_cons (pe_op op_mod (pe_callTy call_int1 (by rfl) mi (by decide +kernel) (pa_cons (pe_op op_fdiv (pv 6) pe_int) pa_nil)) (pv 2)) pa_nil)))))))
      (pss_one (ps_ret (pv 3)))))), ?_⟩
    refine ⟨Nat.zero_le _, fun o no => ?_⟩
    have s1 : Same H (upd H o (.lst [])) := same_new no
    refine ⟨_, rfl, 10, 18, rfl, rfl, ⟨by decide, by decide, by decide⟩, c, _, rfl, rfl, _, rfl, ite2 (fun e => ?_) (fun e => ?_)⟩
    · -- the great cells
      refine ⟨_, rfl, m, rfl, by omega, by omega, for_range (lo := 0) (n := m.toNat) (fun i σ H3 => ∃ (c' : Int) (y4 : Option V), σ = [some (.int c'), some (.int m), some (.int b), some (.ref o), y4, none, none] ∧ Same H H3 ∧ ∃ ns : List Int, ns.length = i ∧ H3 o = some (.lst (ns.map V.int))) ?_ ?_ ?_⟩
      · exact ⟨c, none, rfl, s1, [], rfl, upd_same⟩
      · rintro i σ H3 hi ⟨c', y4, rfl, sm, ns, hn, ho⟩
        refine ⟨_, rfl, .inl ⟨rfl, _, .inl (.inl ho)⟩, _, rfl, .inl ⟨c', rfl, _, rfl, c', b, rfl, rfl, hb0, o, _, _, rfl, rfl, ho, ?_, ?_⟩⟩
        · rw [List.length_map]
          exact small1000 (by omega)
        · refine ⟨_, rfl, _, rfl, c', b, rfl, rfl, ⟨hb0, hb1⟩, c' / b, _, rfl, same_put sm no, ns ++ [c' % b], ?_, ?_⟩
          · rw [List.length_append, hn]
            rfl
          · rw [upd_same, List.map_append]
            rfl
      · rintro σ H3 ⟨c', y4, rfl, sm, ns, hn, ho⟩
        exact ⟨_, rfl, q H3 o ns sm no hn ho⟩
    · -- the others
      refine ⟨_, rfl, .inl ⟨c, rfl, c, 2147483647, rfl, rfl, (by show (0 : Int) < 2147483647; decide), ?_⟩⟩
      refine ⟨_, rfl, m, rfl, by omega, by omega, for_range (lo := 0) (n := m.toNat) (fun i σ H3 => ∃ (sd : Int) (y4 y6 : Option V), σ = [some (.int c), some (.int m), some (.int b), some (.ref o), y4, some (.int sd), y6] ∧ 0 ≤ sd ∧ sd < 2147483647 ∧ Same H H3 ∧ ∃ ns : List Int, ns.length = i ∧ H3 o = some (.lst (ns.map V.int))) ?_ ?_ ?_⟩
      · exact ⟨_, none, none, rfl, Int.emod_nonneg _ (by decide), Int.emod_lt_of_pos _ (by decide), s1, [], rfl, upd_same⟩
      · rintro i σ H3 hi ⟨sd, y4, y6, rfl, h0, h1, sm, ns, hn, ho⟩
        refine ⟨_, rfl, sd, 48271, rfl, rfl, .inl ⟨by omega, by omega⟩, _, _, rfl, rfl, _, rfl, _, _, rfl, rfl, .inl ⟨_, rfl, _, 2147483647, rfl, rfl, (by show (0 : Int) < 2147483647; decide), ?_⟩⟩
        have g0 := Int.emod_nonneg (sd * 48271 + 12345 + (0 + (i : Int))) (by decide : (2147483647 : Int) ≠ 0)
        have g1 := Int.emod_lt_of_pos (sd * 48271 + 12345 + (0 + (i : Int))) (by decide : (0 : Int) < 2147483647)
        refine ⟨_, rfl, (sd * 48271 + 12345 + (0 + (i : Int))) % 2147483647, 69621, rfl, rfl, .inl ⟨by omega, by omega⟩, _, rfl, 977, _, rfl, rfl, .inl ⟨by decide, by decide⟩, _, _, rfl, rfl, .inl ⟨_, rfl, _, 2147483629, rfl, rfl, (by show (0 : Int) < 2147483629; decide), ?_⟩⟩
        refine ⟨_, rfl, .inl ⟨rfl, _, .inl (.inl ho)⟩, _, rfl, _, 3, rfl, rfl, ⟨by decide, by decide⟩, .inl ⟨_, rfl, _, rfl, _, b, rfl, rfl, hb0, o, _, _, rfl, rfl, ho, ?_, ?_⟩⟩
        · rw [List.length_map]
          exact small1000 (by omega)
        · refine ⟨_, _, _, rfl, g0, g1, same_put sm no, ns ++ [(((sd * 48271 + 12345 + (0 + (i : Int))) % 2147483647) * 69621 + 977 * (0 + (i : Int))) % 2147483629 / 3 % b], ?_, ?_⟩
          · rw [List.length_append, hn]
            rfl
          · rw [upd_same, List.map_append]
            rfl
      · rintro σ H3 ⟨sd, y4, y6, rfl, h0, h1, sm, ns, hn, ho⟩
        exact ⟨_, rfl, q H3 o ns sm no hn ho⟩
end
end K2

namespace K2
open PySem L2
/-! the state: a dict of two keys -/
abbrev kN : Key := Sum.inr "numbers"
abbrev kA : Key := Sum.inr "at"
theorem kNA : ¬ kN = kA := by decide +kernel
theorem kAN : ¬ kA = kN := by decide +kernel
def stK (l : Addr) (z : Int) : List (Key × V) := [(kN, .ref l), (kA, .int z)]
theorem stK_N (l : Addr) (z : Int) : valV (stK l z) kN = some (.ref l) := valV_pos rfl
theorem stK_A (l : Addr) (z : Int) : valV (stK l z) kA = some (.int z) := (valV_neg kNA).trans (valV_pos rfl)
theorem stK_put (l : Addr) (z y : Int) : putK (stK l z) kA (.int y) = stK l y := by
  unfold putK stK
  rw [if_pos (by rw [List.any_cons, List.any_cons, decide_eq_true (show kA = kA from rfl), Bool.true_or, Bool.or_true])]
  rw [List.map_cons, List.map_cons, List.map_nil, if_neg kNA, if_pos rfl]
theorem stK_mk (l : Addr) : mergeK [] [(kN, V.ref l), (kA, V.int 0)] = stK l 0 := by
  show putK (putK [] kN (.ref l)) kA (.int 0) = stK l 0
  rw [putK_new (kvs := []) _ rfl]
  rw [putK_new (kvs := [] ++ [(kN, V.ref l)]) _ (valV_neg (p := (kN, V.ref l)) (r := []) kNA)]
  rfl
structure StAt (H : Hp) (d l : Addr) : Prop where
  ex : ∃ (ns : List Int) (z : Int), H d = some (.dK (stK l z)) ∧ H l = some (.lst (ns.map V.int)) ∧ 0 < ns.length ∧ ns.length ≤ 100000
/-- all but the state is as it was, and the state is one again -/
structure Kp (d l : Addr) (H H' : Hp) : Prop where
  keep : ∀ c o, H c = some o → c ≠ d → H' c = some o
  st : StAt H' d l
theorem Kp.trans {d l : Addr} {H H1 H2 : Hp} (a : Kp d l H H1) (b : Kp d l H1 H2) : Kp d l H H2 := ⟨fun c o e n => b.keep c o (a.keep c o e n) n, b.st⟩
theorem StAt.same {d l : Addr} {H H1 : Hp} (s : StAt H d l) (e : Same H H1) : StAt H1 d l := by
  obtain ⟨ns, z, h1, h2, h3⟩ := s.ex
  exact ⟨ns, z, e _ _ h1, e _ _ h2, h3⟩
theorem Kp.same {d l : Addr} {H H1 H2 : Hp} (a : Kp d l H H1) (e : Same H1 H2) : Kp d l H H2 := ⟨fun c o h n => e _ _ (a.keep c o h n), a.st.same e⟩
theorem Kp.new {d l : Addr} {H H1 : Hp} {p : Addr} {o : HO} (a : Kp d l H H1) (h : H1 p = none) : Kp d l H (upd H1 p o) := a.same (same_new h)
theorem Kp.refl {d l : Addr} {H : Hp} (s : StAt H d l) : Kp d l H H := ⟨fun _ _ h _ => h, s⟩
theorem Kp.pre {d l : Addr} {H H1 H2 : Hp} (e : Same H H1) (a : Kp d l H1 H2) : Kp d l H H2 := ⟨fun c o h n => a.keep c o (e _ _ h) n, a.st⟩
/-- what is free is neither the state nor its list -/
theorem StAt.nd {d l : Addr} {H : Hp} (s : StAt H d l) {p : Addr} (h : H p = none) : p ≠ d ∧ p ≠ l := by
  obtain ⟨ns, z, h1, h2, _⟩ := s.ex
  exact ⟨fun e => (by rw [e, h1] at h; cases h), fun e => (by rw [e, h2] at h; cases h)⟩
/-- a store to what was free at first -/
theorem Kp.put {d l : Addr} {H H1 : Hp} {p : Addr} {o : HO} (a : Kp d l H H1) (h : H p = none) (n : p ≠ d ∧ p ≠ l) : Kp d l H (upd H1 p o) := by
  refine ⟨fun c ob e ne => ?_, ?_⟩
  · rw [upd_ne (ne_of_none e h)]
    exact a.keep c ob e ne
  · obtain ⟨ns, z, h1, h2, h3⟩ := a.st.ex
    exact ⟨ns, z, by rw [upd_ne n.1.symm]; exact h1, by rw [upd_ne n.2.symm]; exact h2, h3⟩
/-- what is free is free at first -/
theorem Kp.free {d l : Addr} {H H1 : Hp} (a : Kp d l H H1) {p : Addr} (h : H1 p = none) : H p = none := by
  cases e : H p with
  | none => rfl
  | some o =>
    have := a.keep p o e (a.st.nd h).1
    rw [h] at this
    cases this
section
variable {P : Program} {w : World} {K : PySem.W.Frag} {mg : Str → Option Value} {base : Heap}
def spDraws (K : PySem.W.Frag) : Sp := fun vs H Q _ => ∃ (a : Addr) (cs : List Int), vs = [.ref a] ∧ SqL K H a (cs.map V.int) ∧ cs.length ≤ 1000 ∧ 0 < cs.length ∧
  ∀ H' p l, Same H H' → H p = none → StAt H' p l → Q (.ref p) H'
theorem scDraws : FnScope ["cells", "numbers", "cell"] ["cells"] (defScope sDraws) := ⟨rfl, rfl, rfl, by decide +kernel, rfl, by decide +kernel, by decide +kernel⟩
theorem ok_draws {f fD : Addr} {fd fdD : FuncData} (F : Fun K "_law_draws" "_law_draws" sDraws f fd) (FD : Fun K "_law_draw" "_law_draw" sDraw fD fdD) (bD : Binds K fdD ["cell", "many", "bound"] []) (gD : mg "_law_draw" = some (.ref fD))
    (mr : mg "range" = none) (mi : mg "int" = none) : FnOk P w K mg base CX0 2 f fd ["cells"] (spDraws K) := by
  have GD : FnOk P w K mg base CX0 1 fD fdD ["cell", "many", "bound"] spDraw := ok_draw FD mr mi
  refine F.ok scDraws (fun vs H Q E h => ?_) (fun cdv A outer s H vs Q E hr h => ?_)
  · obtain ⟨a, cs, rfl, _⟩ := h
    rfl
  · obtain ⟨a, cs, rfl, hS, hl, h0, q⟩ := h
    refine ⟨_, pss_cons (ps_set (i := 1) scDraws.nd rfl (.inl rfl) (pe_lst pa_nil))
      (pss_cons (ps_for PassesOwn.never rfl (pi_list (pv 0)) (pg_name (i := 2) scDraws.nd rfl (.inl rfl))
        (pss_one (ps_set (i := 1) scDraws.nd rfl (.inl rfl) (pe_op op_cat (pv 1) (pe_call GD hr (by rfl) gD FD.kp bD .nil pass0 (pa_cons (pv 2) (pa_cons pe_int (pa_cons (pe_op op_shl pe_int pe_int) pa_nil))))))))
      (pss_one (ps_ret (pe_disp (pps_cons pe_str (pv 1) (pps_cons pe_str pe_int pps_nil)) (by rfl) (by rfl) (fun z => by cases z) (by decide))))), ?_⟩
    refine ⟨Nat.zero_le _, fun o no => ?_⟩
    refine ⟨_, rfl, a, rfl, ⟨_, (same_new no).seq hS⟩, for_list (xs := cs.map V.int) (fun i σ H3 => ∃ (l : Addr) (y2 : Option V), σ = [some (.ref a), some (.ref l), y2] ∧ Same H H3 ∧ H l = none ∧ ∃ ns : List Int, ns.length = 40 * i ∧ H3 l = some (.lst (ns.map V.int))) ?_ ?_ ?_ ?_⟩
    · exact ⟨o, none, rfl, same_new no, no, [], rfl, upd_same⟩
    · rintro i σ H3 hi ⟨l, y2, rfl, sm, _⟩
      exact sm.seq hS
    · rintro i x σ H3 hx ⟨l, y2, rfl, sm, nl, ns, hn, hol⟩
      have hi : i < cs.length := by
        have := (List.getElem?_eq_some_iff.mp hx).1
        rwa [List.length_map] at this
      rw [List.getElem?_map, List.getElem?_eq_getElem hi] at hx
      have ex : x = .int cs[i] := (Option.some.inj hx).symm
      subst ex
      refine ⟨_, rfl, _, rfl, 1, 20, rfl, rfl, ⟨by decide, by decide, by decide⟩, cs[i], 40, 1048576, rfl, by decide, by decide, by decide, by decide, fun H4 p ms s4 np hm hp => ?_⟩
      refine ⟨l, p, _, _, rfl, rfl, s4 _ _ hol, hp, ?_, fun r nr => ?_⟩
      · rw [List.length_map, List.length_map, hn, hm]
        exact Nat.le_of_lt (Nat.lt_of_le_of_lt (show 40 * i + (40 : Int).toNat ≤ 100000 by omega) (by decide))
      · have nr3 : H3 r = none := s4.free nr
        refine ⟨r, _, rfl, same_put (sm.trans s4) (sm.free nr3), sm.free nr3, ns ++ ms, ?_, ?_⟩
        · rw [List.length_append, hn, hm]
          show 40 * i + 40 = 40 * (i + 1)
          omega
        · rw [upd_same, List.map_append]
    · rintro σ H3 ⟨l, y2, rfl, sm, nl, ns, hn, hol⟩
      rw [List.length_map] at hn
      intro d nd
      refine ⟨_, rfl, upd_same, [(kN, .ref l), (kA, .int 0)], rfl, (by show 2 ≤ 15; decide), ?_⟩
      have nld : l ≠ d := ne_of_none hol nd
      refine q _ d l ?_ (sm.free nd) ⟨ns, 0, ?_, ?_, by omega, by omega⟩
      · intro b ob e
        have hb : b ≠ d := ne_of_none (sm _ _ e) nd
        rw [upd_ne hb, upd_ne hb]
        exact sm _ _ e
      · rw [upd_same, stK_mk]
      · rw [upd_ne nld, upd_ne nld]
        exact hol
def spNext : Sp := fun vs H Q _ => ∃ (d l : Addr) (b : Int), vs = [.ref d, .int b] ∧ StAt H d l ∧ 0 < b ∧ ∀ H' n, 0 ≤ n → n < b → Kp d l H H' → Q (.int n) H'
theorem scNext : FnScope ["state", "bound", "number"] ["state", "bound"] (defScope sNext) := ⟨rfl, rfl, rfl, by decide +kernel, rfl, by decide +kernel, by decide +kernel⟩
theorem ok_next {f : Addr} {fd : FuncData} (F : Fun K "_law_next" "_law_next" sNext f fd) (mi : mg "int" = none) (ml : mg "len" = none) : FnOk P w K mg base CX0 1 f fd ["state", "bound"] spNext := by
  refine F.ok scNext (fun vs H Q E h => ?_) (fun cdv A outer s H vs Q E hr h => ?_)
  · obtain ⟨d, l, b, rfl, _⟩ := h
    rfl
  · obtain ⟨d, l, b, rfl, S, hb, q⟩ := h
    have hu := hu_of hr
    obtain ⟨ns, z, h1, h2, h3, h4⟩ := id S.ex
    have nld : l ≠ d := ne_of h2 h1 (by intro z; cases z)
    have gN : DGet H d (.str "numbers") (some (.ref l)) := by
      have := DGet.k (k := kN) h1
      rwa [stK_N] at this
    have gA : DGet H d (.str "at") (some (.int z)) := by
      have := DGet.k (k := kA) h1
      rwa [stK_A] at this
    refine ⟨_, pss_cons (ps_set (i := 2) scNext.nd rfl (.inl rfl) (pe_op op_add (pe_ix ix_list (pe_dget hu (pv 0) pe_str (fun _ _ => rfl))
          (pe_op op_mod (pe_callTy call_int1 (by rfl) mi (by decide +kernel) (pa_cons (pe_dget hu (pv 0) pe_str (fun _ _ => rfl)) pa_nil)) (pe_callB call_len_seq (by rfl) ml PySem.boot_len (pa_cons (pe_dget hu (pv 0) pe_str (fun _ _ => rfl)) pa_nil))) (fun _ _ => rfl))
          (pe_op op_fdiv (pe_callTy call_int1 (by rfl) mi (by decide +kernel) (pa_cons (pe_dget hu (pv 0) pe_str (fun _ _ => rfl)) pa_nil)) (pe_callB call_len_seq (by rfl) ml PySem.boot_len (pa_cons (pe_dget hu (pv 0) pe_str (fun _ _ => rfl)) pa_nil)))))
      (pss_cons (ps_dput hu (pv 0) pe_str (pe_op op_add (pe_dget hu (pv 0) pe_str (fun _ _ => rfl)) pe_int) rfl)
      (pss_one (ps_ret (pe_op op_mod (pe_callTy call_int1 (by rfl) mi (by decide +kernel) (pa_cons (pv 2) pa_nil)) (pv 1))))), ?_⟩
    have hlen : ((ns.map V.int).length : Int) = (ns.length : Int) := by rw [List.length_map]
    have m0 : 0 ≤ z % ((ns.map V.int).length : Int) := Int.emod_nonneg _ (by omega)
    have m1 : z % ((ns.map V.int).length : Int) < ((ns.map V.int).length : Int) := Int.emod_lt_of_pos _ (by omega)
    obtain ⟨j, ej⟩ : ∃ j : Nat, z % ((ns.map V.int).length : Int) = (j : Int) := ⟨_, (Int.toNat_of_nonneg m0).symm⟩
    have hj : j < ns.length := by omega
    have gj : (ns.map V.int)[j]? = some (.int ns[j]) := by
      rw [List.getElem?_map, List.getElem?_eq_getElem hj]
      rfl
    refine ⟨_, rfl, d, _, rfl, gN, _, rfl, d, _, rfl, gA, .inl ⟨z, rfl, _, rfl, d, _, rfl, gN, l, _, rfl, .inl (.inl (.inl h2)), _, _, rfl, rfl, (by show (0 : Int) < ((ns.map V.int).length : Int); omega), ?_⟩⟩
    refine ⟨l, _, _, _, rfl, rfl, .inl (.inl h2), at_of ej gj, ?_⟩
    refine ⟨_, rfl, d, _, rfl, gA, .inl ⟨z, rfl, _, rfl, d, _, rfl, gN, l, _, rfl, .inl (.inl (.inl h2)), _, _, rfl, rfl, ⟨(by show (0 : Int) < ((ns.map V.int).length : Int); omega), (by show ((ns.map V.int).length : Int) < 1073741824; omega)⟩, _, _, rfl, rfl, ?_⟩⟩
    refine ⟨_, rfl, d, _, rfl, gA, z, 1, rfl, rfl, _, rfl, d, _, rfl, DPut.k (k := kA) h1 (by show 2 < sizeLine; decide), ?_⟩
    rw [stK_put]
    refine ⟨_, rfl, .inl ⟨_, rfl, _, rfl, _, b, rfl, rfl, hb, ?_⟩⟩
    refine q _ _ (Int.emod_nonneg _ (by omega)) (Int.emod_lt_of_pos _ hb) ⟨fun c o e n => ?_, ns, z + 1, upd_same, ?_, h3, h4⟩
    · rw [upd_ne n]
      exact e
    · rw [upd_ne nld]
      exact h2
end
end K2

namespace PySem.W
open PySem PySem.Spec PySem.Calls PyProof.Rows Builtin Builtin.ObjectAttr Builtin.Getset_descriptor
section
variable {prog : Program} {w : World} {A : Around} {E : Value → Shared → Prop} {s : Shared} {K : Frag} {x C : Addr} {ox : Obj} {od : Option Obj} {R : Result → Shared → Prop}
/-- e.__class__, as an expression, for an instance of an exception class of the program -/
theorem mx_classE {gt : Option Value} {Q : Value → Shared → Prop} {ex : Bool} (X : K.In s.heap) (I : InstAt s.heap x ox C od) (hga : findIn K (.ref C) "__getattribute__" = some (some (.builtin "BaseException.__getattribute__"))) (hgt : findIn K (.ref C) "__getattr__" = some gt)
    (hsub : subIn K (.ref C) (.type "BaseException") = some true) (hf : findObj K C od "__class__" = some (.bind (.builtin "getset_descriptor.__get__") (.builtin "object.__class__"))) (hm : mroIn K C (.type "object") = some true)
    (h : Q (.ref C) { s with toks := s.toks + 1 }) : wpAny (model prog w) A (getAttr (.ref x) "__class__" ex) Q E s := by
  obtain ⟨hp, g, d, t, os⟩ := s
  have L0 := I.type (M := model prog w)
  have L1 := looks_findIn (M := model prog w) X hga
  have L2 := looks_findIn (M := model prog w) X hgt
  have L3 := looks_find (M := model prog w) X I hf
  have sub : Looks (model prog w) hp (isInstance (.ref x) (.type "BaseException")) true := L0.andThen (looks_subIn X hsub)
  have hx0 : (ex && onTheHeap (Value.builtin "BaseException.__getattribute__")) = false := by cases ex <;> rfl
  have hx2 : (Value.builtin "BaseException.__getattribute__" == Value.builtin "object.__getattribute__") = false := by decide +kernel
  have hx1 : (onTheHeap (Value.ref C) && Value.builtin "BaseException.__getattribute__" == Value.builtin "object.__getattribute__") = false := by rw [hx2]; rfl
  unfold getAttr getAttrBy
  refine wpAny_bind (wpAny_mkText (wpAny_holding (wpAny_bind (L0.at (wpAny_bind (L1.at ?_))))))
  show wpAny _ _ (if (onTheHeap (Value.ref C) && Value.builtin "BaseException.__getattribute__" == Value.builtin "object.__getattribute__") = true then _ else _) _ _ _
  rw [hx1, if_neg Bool.false_ne_true]
  unfold getAttrByItsOwn hookBefore
  refine wpAny_bind ?_
  rw [if_pos (show onTheHeap (Value.ref C) = true from rfl)]
  refine L2.at ?_
  refine wpAny_bind (wpAny_attempt (wpAny_holding ?_))
  unfold callGetattribute
  rw [hx0, if_neg Bool.false_ne_true]
  unfold boundAndCalled
  rw [PySem.F.excAttr_ValueError.ga.bind (.ref x)]
  refine wpAny_bind (wpAny_pure ?_)
  show wpAny _ _ (call (.builtin "BaseException.__getattribute__") [.ref x, .str "__class__" t]) _ _ _
  refine wpAny_call (codeAny_call_builtin PySem.F.excAttr_ValueError.ga.plain PySem.F.entry_bexc_ga ?_)
  refine @PySem.W.check_slot (model prog w) _ _ ⟨hp, g, d, t + 1, os⟩ "BaseException.__getattribute__" "BaseException" "__getattribute__" (.ref x) [.str "__class__" t] [] _ (by decide +kernel) (by decide +kernel) sub (PySem.F.args_bexc_ga (.ref x) (.str "__class__" t)) ?_
  unfold Builtin.«object.__getattribute__»
  refine wpAny_bind (wpAny_of_eq (a := ((Value.ref x : Value), [Value.str "__class__" t])) (by first | rfl | (simp only [slotArgs]; rfl)) ?_)
  refine wpAny_bind (wpAny_pure (wpAny_bind (L0.at (wpAny_bind (L3.at ?_)))))
  refine wpAny_bind (wpAny_holding (wpAny_call (class_get (s := ⟨hp, g, d, t + 1, os⟩) (ox := ox) (od := od) X I hm ?_)))
  refine wpAny_pure ?_
  show wpAny _ _ (handedOut (.ref C)) _ _ _
  rw [handedOut_of (show handedIn (.ref C) = true from rfl)]
  first | exact wpAny_pure h | exact wpAny_pure (wpAny_pure h)
/-- C.__name__ of a class of the program whose name is kept -/
theorem mx_nameC {o : Obj} {nm : Str} {tk : Tok} {tp : Value} (X : K.In s.heap) (ht : typeIn K (.ref C) = some (.type "type")) (hl : K.lookup C = some o) (hs : o.slots[2]? = some (some (.str nm tk))) (h : R (.ok (.ret (.str nm tk))) s) :
    codeAny (model prog w) A (.call (.builtin "getset_descriptor.__get__") ⟨[.builtin "type.__name__", .ref C, tp], []⟩) R s := by
  obtain ⟨hh, g, dr, t, os⟩ := s
  have L0 := looks_typeIn (M := model prog w) X ht
  have L1 : Looks (model prog w) hh (isSubtype (.type "type") (.type "type")) true := Looks.of_pure (by rw [isSubtype_type]; kernel_rfl)
  have ho := X _ _ hl
  refine codeAny_call_builtin KF.slot_gs.plain KF.entry_gs (KF.slot_gs.check _ _ _ _ _ _ _ _ ktyn_type (KF.args_gs _ _ _) ?_)
  unfold Builtin.«getset_descriptor.__get__» descrGet
  rw [dga_obj]
  refine wpAny_bind (wpAny_pure ?_)
  unfold descrGetter descrCheckInstance descrNameAndClass isInstance
  simp only [ktyn_owner]
  repeat lk
  refine ⟨Code.quiet_builtin _ (by decide +kernel), codeAny_builtin ktyn_entry ?_⟩
  unfold Builtin.«type.__name__»
  dsimp only
  unfold keptObject slotAt
  dsimp only
  refine wpAny_bind (wpAny_bind (wpAny_loadPart ho (wpAny_pure ?_)))
  rw [hs]
  first
    | exact wpAny_bind (wpAny_pure h)
    | exact wpAny_pure h
    | exact wpAny_bind (wpAny_pure (wpAny_pure h))
end
end PySem.W
namespace L2
open PySem PySem.Spec PyProof.Rows
/-- what the written part says of an exception class's name -/
structure NameC (K : PySem.W.Frag) (C : Addr) (nm : Str) : Prop where
  rd : PySem.W.readsIn K C (.type "type") = true
  fc : PySem.W.findCls K (.ref C) (.type "type") "__name__" = some (.get (.builtin "getset_descriptor.__get__") (.builtin "type.__name__") (.ref C) (.type "type"))
  ty : PySem.W.typeIn K (.ref C) = some (.type "type")
  lk : ∃ o tk, K.lookup C = some o ∧ o.slots[2]? = some (some (.str nm tk))
/-- e.__class__, e an exception that is being made -/
def tECls (K : PySem.W.Frag) (te : TE) : TE := fun σ H Q => te σ H fun x H1 => ∃ (a C : Addr) (d : Option Addr), x = .ref a ∧ ExcC K C ∧ H1 a = some (exo a C d) ∧ (∀ dx, d = some dx → ∃ fs, H1 dx = some (exd dx fs)) ∧ Q (.ref C) H1
/-- C.__name__ -/
def tCNm (K : PySem.W.Frag) (te : TE) : TE := fun σ H Q => te σ H fun x H1 => ∃ (C : Addr) (nm : Str), x = .ref C ∧ NameC K C nm ∧ Q (.str nm) H1
section
variable {X : Cx} {e : Expr} {te : TE} {pos : Pos}
theorem pe_eclass (he : PE X e te) (hb : attributeBase e "__class__" X.env (eval e X.env) = eval e X.env := by rfl) : PE X (.Attribute e "__class__" pos) (tECls X.K te) := by
  refine ⟨fun pins s σ H Q I h => ?_⟩
  refine attr_of hb (thn (he.run pins s σ H _ I h) fun u s1 ⟨x, H1, I1, rx, a, C, d, ex, T, ea, hd, q⟩ => ?_)
  subst ex
  obtain rfl : u = Value.ref a := rx
  obtain ⟨t1, ho⟩ := exo_at I1.hok ea
  have hcl : (PySem.W.clsIn X.K C).isSome = true := by
    obtain ⟨cd, hc, _⟩ := PySem.W.any_some T.hd
    rw [hc]
    rfl
  have key : ∀ od, PySem.W.InstAt s1.heap a { cls := .ref C, dict := d, data := .fields #[.ref t1, .none, .none, .none, .bool false, .none] } C od → wpAny (model X.prog X.w) X.A (getAttr (.ref a) "__class__" true) (EP X pins σ Q) X.xe s1 := fun od J =>
    PySem.W.mx_classE I1.kIn J T.hg T.hk T.hs (PySem.W.findObj_dataE hcl T.ha T.hn T.ht) T.hm ⟨.ref C, H1, I1.tok _, rfl, q⟩
  cases d with
  | none => exact key none ⟨ho, rfl, rfl, trivial⟩
  | some dx =>
    obtain ⟨fs, ed⟩ := hd dx rfl
    obtain ⟨mA, ⟨oD, _, _, hoD, _⟩, _⟩ := exd_at I1.hok ed
    exact key (some oD) ⟨ho, rfl, rfl, hoD⟩
theorem pe_cname (he : PE X e te) (hb : attributeBase e "__name__" X.env (eval e X.env) = eval e X.env := by rfl) : PE X (.Attribute e "__name__" pos) (tCNm X.K te) := by
  refine ⟨fun pins s σ H Q I h => ?_⟩
  refine attr_of hb (thn (he.run pins s σ H _ I h) fun u s1 ⟨x, H1, I1, rx, C, nm, ex, T, q⟩ => ?_)
  subst ex
  obtain rfl : u = Value.ref C := rx
  obtain ⟨o, tk, hl, hs⟩ := T.lk
  refine PySem.W.cls_bind I1.kIn T.rd T.fc (wpAny_call (PySem.W.mx_nameC (s := { s1 with toks := s1.toks + 1 }) I1.kIn T.ty hl hs ?_))
  exact PySem.W.handed_on rfl ⟨.str nm, H1, I1.tok _, ⟨_, rfl⟩, q⟩
/-- isinstance(e, c), e the exception that the suite holds, which has its dict -/
def rIsE2 (K : PySem.W.Frag) (D a : Addr) (cls : Value) (d : Option Addr) : List V → Hp → VK → Prop := fun xs H Q => ∃ (c : V) (cv : Value) (b : Bool) (dd : Addr) (fs : List (Str × V)), xs = [.ref a, c] ∧ cls = .ref D ∧ d = some dd ∧ H dd = some (.xd fs) ∧ (∀ u, RelV c u → u = cv) ∧ PySem.W.kitOne K (.ref D) cv = some b ∧ Q (.bl b) H
theorem call_isE2 {a D : Addr} {oe : Obj} {cls : Value} {d : Option Addr} {pn : List (Addr × Obj)} (C : ExcC X.K D) (hz : Zc cls d oe) (hf : ∃ vs, oe.data = .fields vs) : CallR (X.suite a ((a, oe) :: pn)) (.builtin "isinstance") (rIsE2 X.K D a cls d) := by
  intro pins s σ H xs us Q I r h
  obtain ⟨c, cv, b, dd, fs, rfl, ec, ed, ea, hcv, e, q⟩ := h
  subst ec
  cases r with
  | cons rx rr =>
    cases rr with
    | cons rt rr =>
      cases rr
      cases rx
      have ec := hcv _ rt
      subst ec
      obtain ⟨hget, _⟩ := I.pin (a, oe) (List.mem_append.mpr (.inl List.mem_cons_self))
      obtain ⟨vs, hv⟩ := hf
      have hx : ObjOk X.prog X.w H s.heap dd (.xd fs) := I.hok dd _ ea
      obtain ⟨mA, ⟨od, _, _, hod, _⟩, _⟩ := hx
      have hcl : (PySem.W.clsIn X.K D).isSome = true := by
        obtain ⟨cd, hc, _⟩ := PySem.W.any_some C.hd
        rw [hc]
        rfl
      have J : PySem.W.InstAt s.heap a oe D (some od) := ⟨hget, hz.1, by unfold PySem.W.notCls; rw [hv] <;> rfl, by rw [hz.2, ed]; exact hod⟩
      exact PySem.W.kia_one (PySem.W.kitx_exc hcl C.hg C.hk C.hs C.ha C.hn C.ht C.hm) I.kIn J e (fun z => nomatch z) fun tk => ⟨.bl b, H, I.kept (t' := tk) fun _ _ z => z, rfl, q⟩
theorem passNo {X : Cx} : Passes (L2.CX X.prog X.w) X (fun _ _ _ => False) := fun _ _ _ _ _ _ _ h => by
  obtain ⟨_, _, _, _, _, _, _, _, _, _, _, _, q⟩ := h
  exact q.elim
end
end L2

namespace K2
open PySem L2
/-! texts of the 95 characters -/
def okc (c : Nat) : Bool := c == 10 || (Nat.ble 32 c && Nat.ble c 126 && !(c == 37))
def Txt95 (z : Str) : Prop := ∀ c ∈ z.cps.toList, okc c = true
abbrev CHS : Str := " !\"#$\n&'()*+,-./0123456789:;<=>?@ABCDEFGHIJKLMNOPQRSTUVWXYZ[\\]^_`abcdefghijklmnopqrstuvwxyz{|}~"
abbrev LATER : Str := "&'()*+,-./0123456789:;<=>?@ABCDEFGHIJKLMNOPQRSTUVWXYZ[\\]^_`abcdefghijklmnopqrstuvwxyz{|}~"
abbrev FIVE : Str := " !\"#$"
theorem okc_lt {c : Nat} (h : okc c = true) : c < 127 := by
  unfold okc at h
  rw [Bool.or_eq_true, Bool.and_eq_true, Bool.and_eq_true, beq_iff_eq, Nat.ble_eq, Nat.ble_eq] at h
  omega
theorem ch_tab : ∀ c, c < 127 → okc c = true → CHS.cps.contains c = true := by decide +kernel
theorem ch_in {c : Nat} (h : okc c = true) : CHS.cps.contains c = true := ch_tab c (okc_lt h) h
theorem takeWhile_all {p : Nat → Bool} : ∀ {l : List Nat}, (∀ c ∈ l, p c = true) → l.takeWhile p = l
  | [], _ => rfl
  | a :: r, h => by
    rw [List.takeWhile_cons, if_pos (h a (List.mem_cons_self ..)), takeWhile_all fun c hc => h c (List.mem_cons_of_mem _ hc)]
theorem strip_ok {z : Str} (h : Txt95 z) : Txt.stripChars z CHS = ("" : Str) := by
  unfold Txt.stripChars
  rw [PyProof.Rows.stripBy_eq]
  have e : stripLo CHS.cps.contains true z = z.length := by
    simp only [stripLo, if_true]
    rw [takeWhile_all fun c hc => ch_in (h c hc)]
    simp [Str.length]
  have l := PyProof.Rows.hi_facts CHS.cps.contains z z.length (Nat.le_refl _)
  have e2 : stripHi CHS.cps.contains true z z.length = z.length := by omega
  rw [e, e2]
  unfold Builtin.Str.strSub
  have e3 : z.cps.extract z.length z.length = #[] := by
    apply Array.eq_empty_of_size_eq_zero
    rw [Array.size_extract]
    have : z.length = z.cps.size := rfl
    omega
  rw [e3]
  decide +kernel
theorem join_mem : ∀ {ys : List Str} {c : Nat}, c ∈ (Str.join ("" : Str) ys).cps.toList → ∃ y ∈ ys, c ∈ y.cps.toList
  | [], c, h => by
    have : c ∈ (Str.empty).cps.toList := h
    simp [Str.empty] at this
  | [x], c, h => ⟨x, List.mem_cons_self .., h⟩
  | x :: y :: r, c, h => by
    have h : c ∈ ((x.cps ++ ("" : Str).cps) ++ (Str.join ("" : Str) (y :: r)).cps).toList := h
    have e0 : ("" : Str).cps = #[] := by decide +kernel
    rw [e0, Array.append_empty, Array.toList_append, List.mem_append] at h
    rcases h with h | h
    · exact ⟨x, List.mem_cons_self .., h⟩
    · obtain ⟨z, hz, hc⟩ := join_mem h
      exact ⟨z, List.mem_cons_of_mem _ hz, hc⟩
theorem join_ok {ys : List Str} (h : ∀ y ∈ ys, Txt95 y) : Txt95 (Txt.join ("" : Str) ys) := fun c hc => by
  have hc : c ∈ (Builtin.Str.glued ("" : Str) ys).cps.toList := hc
  rw [StrLaws.glued_eq_join] at hc
  obtain ⟨y, hy, k⟩ := join_mem hc
  exact h y hy c k
theorem join_len (ys : List Str) : (Txt.join ("" : Str) ys).length ≤ (ys.map (·.length)).sum := by
  have h := StrLaws.join_length_le ("" : Str) ys
  rw [← StrLaws.glued_eq_join] at h
  have e0 : ("" : Str).length = 0 := by decide +kernel
  rw [e0, Nat.mul_zero] at h
  exact h
theorem reps_mem : ∀ {n : Nat} {a b : Array Nat} {c : Nat}, c ∈ ((List.replicate n a).foldl (· ++ ·) b).toList → c ∈ b.toList ∨ c ∈ a.toList
  | 0, a, b, c, h => .inl h
  | n + 1, a, b, c, h => by
    rw [List.replicate_succ, List.foldl_cons] at h
    rcases reps_mem h with h | h
    · rw [Array.toList_append, List.mem_append] at h
      exact h
    · exact .inr h
theorem reps_size : ∀ (n : Nat) (a b : Array Nat), ((List.replicate n a).foldl (· ++ ·) b).size = b.size + n * a.size
  | 0, a, b => by simp
  | n + 1, a, b => by
    rw [List.replicate_succ, List.foldl_cons, reps_size n a (b ++ a), Array.size_append, Nat.succ_mul]
    omega
theorem mul_ok {z : Str} {n : Int} (h : Txt95 z) : Txt95 (Txt.mul z n) := fun c hc => by
  unfold Txt.mul at hc
  split at hc
  · simp [Str.empty] at hc
  · split at hc
    · exact h c hc
    · rcases reps_mem hc with k | k
      · simp at k
      · exact h c k
theorem mul_len {z : Str} {n : Int} : (Txt.mul z n).length ≤ n.toNat * z.length := by
  unfold Txt.mul
  split
  · show (0 : Nat) ≤ _
    omega
  · split
    · have : 1 ≤ n.toNat := by omega
      calc z.length = 1 * z.length := (Nat.one_mul _).symm
        _ ≤ n.toNat * z.length := Nat.mul_le_mul_right _ this
    · show ((List.replicate n.toNat z.cps).foldl (· ++ ·) #[]).size ≤ _
      rw [reps_size]
      show 0 + n.toNat * z.cps.size ≤ n.toNat * z.cps.size
      omega
theorem mul_may {z : Str} {n : Int} (h0 : 0 ≤ n) (h1 : n ≤ 1000) (hz : z.length ≤ 1000) : MulOk z n := by
  refine ⟨?_, fun h2 h3 => ?_, fun h2 h3 => ?_⟩
  · rw [decide_eq_false (by omega), decide_eq_false (by omega)]
    rfl
  · have hn : (0 : Int) < n := by omega
    have h4 : (z.length : Int) * n ≤ 1000 * 1000 := Int.mul_le_mul (by omega) h1 h0 (by decide)
    have h5 : (z.length : Int) ≤ (2 ^ 63 - 1) / n := (Int.le_ediv_iff_mul_le hn).mpr (by omega)
    omega
  · unfold Builtin.Str.tooLong
    have : z.length * n.toNat ≤ 1000 * 1000 := Nat.mul_le_mul hz (by omega)
    have e : sizeLine = 16777216 := by decide
    rw [e]
    apply decide_eq_false
    omega
theorem cat_ok {x y : Str} (hx : Txt95 x) (hy : Txt95 y) : Txt95 (x ++ y) := fun c hc => by
  have hc : c ∈ (x.cps ++ y.cps).toList := hc
  rw [Array.toList_append, List.mem_append] at hc
  rcases hc with h | h
  · exact hx c h
  · exact hy c h
/-! the order of lists of codes -/
theorem lex_at : ∀ {a b : List Nat} {k x y : Nat}, a.take k = b.take k → a[k]? = some x → b[k]? = some y → x ≠ y → (a < b ↔ x < y)
  | [], _, _, _, _, _, h, _, _ => by simp at h
  | _ :: _, [], _, _, _, _, _, h, _ => by simp at h
  | p :: a, q :: b, 0, x, y, _, h1, h2, ne => by
    have e1 : p = x := by simpa using h1
    have e2 : q = y := by simpa using h2
    subst e1 e2
    rw [List.cons_lt_cons_iff]
    constructor
    · rintro (h | ⟨h, _⟩)
      · exact h
      · exact absurd h ne
    · exact .inl
  | p :: a, q :: b, k + 1, x, y, e, h1, h2, ne => by
    rw [List.take_succ_cons, List.take_succ_cons] at e
    injection e with e1 e2
    subst e1
    have ih := lex_at e2 (by simpa using h1) (by simpa using h2) ne
    rw [List.cons_lt_cons_iff, ih]
    constructor
    · rintro (h | ⟨_, h⟩)
      · exact absurd h (Nat.lt_irrefl _)
      · exact h
    · exact fun h => .inr ⟨rfl, h⟩
theorem lex_end : ∀ {a b : List Nat}, a.take (min a.length b.length) = b.take (min a.length b.length) → (a < b ↔ a.length < b.length)
  | [], [], _ => by simp
  | [], q :: b, _ => by simp
  | p :: a, [], _ => by simp
  | p :: a, q :: b, e => by
    rw [List.length_cons, List.length_cons, Nat.succ_min_succ, List.take_succ_cons, List.take_succ_cons] at e
    injection e with e1 e2
    subst e1
    have ih := lex_end e2
    rw [List.cons_lt_cons_iff, ih, List.length_cons, List.length_cons]
    constructor
    · rintro (h | ⟨_, h⟩)
      · exact absurd h (Nat.lt_irrefl _)
      · omega
    · exact fun h => .inr ⟨rfl, by omega⟩
/-! the places of signs -/
theorem five_tab : ∀ c, c < 127 → Nat.ble 32 c = true → Nat.ble c 36 = true → Builtin.Str.occurrences FIVE ⟨#[c]⟩ 0 FIVE.length 1 = [c - 32] := by decide +kernel
theorem later_tab : ∀ c, c < 127 → Nat.ble 38 c = true → Builtin.Str.occurrences LATER ⟨#[c]⟩ 0 LATER.length 1 = [c - 38] := by decide +kernel
theorem five_mem : ∀ c, c < 127 → okc c = true → ¬ c = 10 → (c ∈ FIVE.cps.toList ↔ c < 37) := by decide +kernel
section
variable {X : Cx}
theorem op_mul_str : OpR X (binaryOp .Mult) (fun x y H Q => ∃ z n, x = .str z ∧ y = .int n ∧ MulOk z n ∧ Q (.str (Txt.mul z n)) H) := by
  intro pins s σ H x y v u Q I rx ry h
  obtain ⟨i, j, rfl, rfl, hz, q⟩ := h
  obtain ⟨t, rfl⟩ := rx
  obtain ⟨t', rfl⟩ := ry
  exact SB.mul hz (fun t' tk => ⟨.str (Txt.mul i j), H, I.tok _, ⟨_, rfl⟩, q⟩)
theorem op_lt_bl : OpR X (compareOp .Lt) (fun x y H Q => ∃ i j, x = .bl i ∧ y = .bl j ∧ Q (.bl (decide (PyProof.Rows.b2i i < PyProof.Rows.b2i j))) H) := by
  intro pins s σ H x y v u Q I rx ry h
  obtain ⟨i, j, rfl, rfl, q⟩ := h
  cases (show v = Value.bool i from rx)
  cases (show u = Value.bool j from ry)
  exact PyProof.Rows.lt_bool ⟨.bl _, H, I, rfl, q⟩
end
end K2

/-! enumerate over a tuple -/
namespace K2
open PySem PySem.Spec PyProof.Rows L2
section
variable {prog : Program} {w : World} {A : Around} {E : Value → Shared → Prop} {s : Shared}
theorem enew1 {v : Value} {o : Obj} {Hh : Heap → Prop} (B : Begins v o Hh) : Meets (Builtin.«enumerate.__new__» ⟨[.type "enumerate", v], []⟩) (fun _ R s0 => Hh s0.heap ∧
    R (.ok (.ret (.ref (s0.heap.push o).objs.size))) { s0 with heap := (s0.heap.push o).push ⟨.type "enumerate", none, .fields #[.none, .bool false, .ref s0.heap.objs.size, rawInt 0, .none, .none], #[]⟩ }) := .of_wp fun pr w0 A0 R s0 z => by
  obtain ⟨z1, z2⟩ := z
  obtain ⟨hp, g, dd, tk, os⟩ := s0
  have sb := sub_enumerate
  have it1 : ∀ {A' : Around} {E' : Value → Shared → Prop} {Q' : Value → Shared → Prop}, Q' (.ref hp.objs.size) ⟨hp.push o, g, dd, tk, os⟩ → wpAny (model pr w0) A' (pyIter v) Q' E' ⟨hp, g, dd, tk, os⟩ := fun z3 => B.iter pr w0 _ _ ⟨hp, g, dd, tk, os⟩ _ z1 z3
  wp_walk using it1
  refine wpAny_stack_any fun _ => ?_
  refine wpAny_pure ?_
  split
  · rename_i c _ _ _ _ _
    cases (c == Value.type "enumerate") <;> (wp_walk using it1; exact ⟨_, rfl, z2⟩)
  · wp_walk using it1
    exact ⟨_, rfl, z2⟩
theorem ecall1 {v : Value} {o : Obj} {Hh : Heap → Prop} {Q : Value → Shared → Prop} (B : Begins v o Hh) (z1 : Hh s.heap)
    (z : ∀ h2, IsEnum h2 (s.heap.objs.size + 1) s.heap.objs.size 0 .none → h2.get? s.heap.objs.size = some o → (∀ b u, s.heap.get? b = some u → h2.get? b = some u) → Q (.ref (s.heap.objs.size + 1)) { s with heap := h2 }) :
    wpAny (model prog w) A (call (.type "enumerate") [v]) Q E s := by
  have sz : (s.heap.push o).objs.size = s.heap.objs.size + 1 := Heap.size_push ..
  refine callType_new F.called_enumerate (by decide) (F.typeCall_enumerate_1 _) (F.newCall_enumerate_1 _) (fun ob => F.args_object_init_2 ob _) F.entry_enumerate_new (enew1 B) ⟨z1, ?_⟩
  show _ ∧ _
  rw [sz]
  have en : IsEnum ((s.heap.push o).push ⟨.type "enumerate", none, .fields #[.none, .bool false, .ref s.heap.objs.size, rawInt 0, .none, .none], #[]⟩) (s.heap.objs.size + 1) s.heap.objs.size 0 .none := by
    have y := Heap.get?_push_size (s.heap.push o) (o := ⟨.type "enumerate", none, .fields #[.none, .bool false, .ref s.heap.objs.size, rawInt 0, .none, .none], #[]⟩) rfl
    rw [sz] at y
    exact y
  exact ⟨⟨_, en, rfl⟩, z _ en (Heap.get?_push_of_some _ (Heap.get?_push_size _ B.free)) fun b u y => Heap.get?_push_of_some _ (Heap.get?_push_of_some _ y)⟩
end
/-- the tuple at a, each item in a new pair with its number -/
def IteT (K : PySem.W.Frag) (a : Addr) (xs : List V) : It :=
  ⟨fun i H => SqT K H a xs ∧ i < xs.length, fun i H v H' => ∃ T x, v = .ref T ∧ H T = none ∧ H' = upd H T (.tup [.int (i : Nat), x]) ∧ xs[i]? = some x, fun i H => SqT K H a xs ∧ xs.length = i⟩
theorem tu_enumT {P : Program} {w : World} {K : PySem.W.Frag} {elts : List Expr} {kk : Nat} {tpos : Pos} (a e it : Addr) (xs : List V) :
    Turn P w K (.Tuple elts kk tpos) (IteT K a xs) [e, it] e (fun i h => (∃ old, IsEnum h e it ((i : Nat) : Int) old) ∧ h.IsTupleIter it a i ∧ e ≠ it) := by
  have apart : ∀ {h : Heap} {i : Nat} {old : Value} {its : Array Value}, IsEnum h e it (i : Int) old → h.IsTupleIter it a i → h.IsTuple a its → e ≠ a ∧ a ≠ it := by
    rintro h i old its q1 ⟨o, q2, q3, _⟩ ⟨o', q4, q5, _⟩
    refine ⟨fun z => ?_, fun z => ?_⟩
    · rw [← z, q1] at q4
      have y := Option.some.inj q4
      rw [← y] at q5
      exact absurd (Value.type.inj q5) (by decide)
    · rw [z, q2] at q4
      have y := Option.some.inj q4
      rw [← y, q3] at q5
      exact absurd (Value.type.inj q5) (by decide)
  refine ⟨by simp, ?_, ?_, ?_, ?_, ?_⟩
  · rintro i h ⟨⟨old, q1⟩, ⟨o, q2, q3, q4⟩, _⟩ b hb
    rcases List.mem_cons.mp hb with rfl | hb
    · exact ⟨_, q1, fun v z => nomatch z⟩
    · rw [List.mem_singleton.mp hb]
      exact ⟨o, q2, fun v z => by rw [q4] at z; cases z⟩
  · rintro i h h' ⟨⟨old, q1⟩, q2, q3⟩ k
    exact ⟨⟨old, k e (by simp) _ q1⟩, q2.at fun o q => k it (by simp) o q, q3⟩
  · intro X hP hw hK hc i pins s σ H E I hf st hg
    subst hP hw hK
    obtain ⟨⟨old, q1⟩, q2, ne⟩ := st
    obtain ⟨hq, hi⟩ := hg
    obtain ⟨its, rv, p, _⟩ := I.tuple hq
    have pt : s.heap.IsTuple a its.toArray := p
    obtain ⟨na, nt⟩ := apart q1 q2 pt
    have hi2 : i < its.toArray.size := by rw [List.size_toArray, ← rv.length]; exact hi
    obtain ⟨u, hu, ru⟩ := rv.get (List.getElem?_eq_getElem hi)
    have l1 : e < s.heap.objs.size := Heap.lt_size q1
    have l2 : it < s.heap.objs.size := by obtain ⟨_, q, _⟩ := q2; exact Heap.lt_size q
    refine wpAny_pyNext_enum_itemD (Draws.tuple (prog := X.prog) (w := X.w) (A := X.A.in1) (I.ok.hd hc) it a nt its.toArray) q1 ⟨q2, pt⟩ hi2 ne (by simp [ne, na]) fun x h2 tk hPx ho hst hT hsz hk => ?_
    have ex : x = u := by
      have y : its.toArray[i]? = some x := hPx
      rw [List.getElem?_toArray, hu] at y
      exact (Option.some.inj y).symm
    subst ex
    refine ⟨_, rfl, wpAny_letOwnedTupleGo_enum (s := { s with heap := h2, toks := tk + 1 }) ho fun h3 he3 sb => ?_⟩
    have hT3 : h3.get? s.heap.objs.size = some { cls := .type "tuple", data := .seq #[.int i tk, x] } := (sb.2 _ (Nat.ne_of_gt l1)).trans hT
    have sm3 : ∀ b ob, b ∉ [e, it] → s.heap.get? b = some ob → h3.get? b = some ob := fun b ob hb q => by
      have n1 : b ≠ e := fun z => hb (by simp [z])
      have n2 : b ≠ it := fun z => hb (by simp [z])
      exact (sb.2 b n1).trans (hk b ob n1 n2 q)
    have nw : ObjOk X.prog X.w (upd H s.heap.objs.size (.tup [.int (i : Nat), xs[i]])) h3 s.heap.objs.size (.tup [.int (i : Nat), xs[i]]) :=
      ⟨by show 2 ≤ sizeLine; decide, [.int i tk, x], .cons ⟨_, rfl⟩ (.cons ru .nil), _, hT3, rfl, _, rfl⟩
    have I3 := I.turnedNew (t' := tk + 1) (ch := [e, it]) sm3 hf (Nat.le_refl _) nw
    refine ⟨.ref s.heap.objs.size, _, I3, rfl, ⟨_, xs[i], rfl, I.hok.fresh (Nat.le_refl _), rfl, List.getElem?_eq_getElem hi⟩, ⟨⟨x, ?_⟩, hst.1.at fun o q => (sb.2 it ne.symm).trans q, ne⟩, fun b hb => ?_⟩
    · have y : ((i + 1 : Nat) : Int) = (i : Int) + 1 := by omega
      rw [y]
      exact he3
    · have lb : b < s.heap.objs.size := by
        rcases List.mem_cons.mp hb with rfl | hb
        · exact l1
        · rw [List.mem_singleton.mp hb]
          exact l2
      rw [upd_ne (Nat.ne_of_lt lb)]
      exact (hf b hb).1
  · intro X hP hw hK hc i pins s σ H E I hf st hg
    subst hP hw hK
    obtain ⟨⟨old, q1⟩, q2, ne⟩ := st
    obtain ⟨hq, hi⟩ := hg
    obtain ⟨its, rv, p, _⟩ := I.tuple hq
    have pt : s.heap.IsTuple a its.toArray := p
    obtain ⟨na, nt⟩ := apart q1 q2 pt
    obtain ⟨f0, f1, f2, f3, f4, f5⟩ := hf it (by simp)
    have hi2 : i = its.toArray.size := by rw [List.size_toArray, ← rv.length]; exact hi.symm
    subst hi2
    exact wpAny_pyNext_enum_endD (Draws.tuple (prog := X.prog) (w := X.w) (A := X.A.in1) (I.ok.hd hc) it a nt its.toArray) q1 ⟨q2, pt⟩ fun h2 eb => ⟨rfl, I.turned (t' := s.toks) (fun b o hb q => eb b o hb q) f0 f1 f3 f4 f5⟩
  · exact fun A i s Q E st h => let ⟨⟨_, q⟩, _⟩ := st; wpAny_pyIter_enum q h
def iEnumT (K : PySem.W.Frag) (ta : TA) : TI := fun σ H R => ta σ H fun vs H1 => ∃ a xs, vs = [.ref a] ∧ SqT K H1 a xs ∧ R (IteT K a xs) H1
theorem pi_enumT {X : Cx} {e : Expr} {ta : TA} {p pos tpos : Pos} {elts : List Expr} {kk : Nat} (hg : Gl X "enumerate") (hm : X.mg "enumerate" = none) (ha : PA X [e] ta) (hs : starEach [e] X.env = [(false, eval e X.env)] := by rfl) :
    PI X (.Tuple elts kk tpos) (.Call (.Name "enumerate" p) [e] [] pos) (iEnumT X.K ta) := by
  refine ⟨fun pins s σ H R I h => Call_ (ld_blt I hg hm boot_enumerate (PyProof.Rows.callWith_type1 (thn (ha.run pos pins s σ H _ I h) fun us s1 ⟨vs, H1, I1, r1, a, xs, ex, hq, q⟩ => ?_) hs rfl))⟩
  subst ex
  obtain ⟨its, rv, p', _⟩ := I1.tuple hq
  cases r1 with
  | cons r rr =>
    cases rr
    cases r
    refine ecall1 (begins_tuple a its.toArray) p' fun h2 he ht hk => wpAny_pyIter_enum he ?_
    refine ⟨s1.heap.objs.size + 1, [s1.heap.objs.size + 1, s1.heap.objs.size], _, _, H1, rfl, I1.kept (t' := s1.toks) hk, tu_enumT a (s1.heap.objs.size + 1) s1.heap.objs.size xs, ⟨⟨.none, he⟩, ⟨_, ht, rfl, rfl⟩, Nat.succ_ne_self _⟩, fun b hb => ?_, q⟩
    have lb : s1.heap.objs.size ≤ b := by
      rcases List.mem_cons.mp hb with rfl | hb
      · exact Nat.le_succ _
      · rw [List.mem_singleton.mp hb]
        exact Nat.le_refl _
    exact I1.fpOk lb (I1.hok.fresh lb)
theorem walk_enumT {K : PySem.W.Frag} {a : Addr} {xs : List V} : Walk (IteT K a xs) xs.length (fun H => SqT K H a xs) (YPair (fun i => some (.int (i : Nat))) (fun i => xs[i]?)) :=
  ⟨fun i _ hi q => ⟨q, hi⟩, fun _ q => ⟨q, rfl⟩, fun i H v H' _ q ⟨T, x, h1, h2, h3, h4⟩ => ⟨T, .int (i : Nat), x, h1, h2, h3, rfl, h4⟩⟩
end K2

namespace K2
open PySem PySem.Spec PyProof.Rows L2
/-- three comparisons in a row -/
def tChain3 (r1 r2 r3 : R2) (ta tb tc td : TE) : TE := fun σ H Q => ta σ H fun x H1 => tb σ H1 fun y H2 => r1 x y H2 fun z H3 => ∃ k, z = .bl k ∧
  (if k = true then tc σ H3 fun y2 H4 => r2 y y2 H4 fun z2 H5 => ∃ k2, z2 = .bl k2 ∧ (if k2 = true then td σ H5 fun y3 H6 => r3 y2 y3 H6 Q else Q (.bl false) H5) else Q (.bl false) H3)
section
variable {X : Cx} {a b c d : Expr} {ta tb tc td : TE} {pos : Pos}
theorem pe_chain3 {o1 o2 o3 : CmpOp} {r1 r2 r3 : R2} (h1 : OpR X (compareOp o1) r1) (h2 : OpR X (compareOp o2) r2) (h3 : OpR X (compareOp o3) r3) (ha : PE X a ta) (hb : PE X b tb) (hc : PE X c tc) (hd : PE X d td)
    (hm : lastMarks [o1, o2, o3] [b, c, d] = false := by with_unfolding_all rfl) : PE X (.Compare a [o1, o2, o3] [b, c, d] pos) (tChain3 r1 r2 r3 ta tb tc td) := by
  refine ⟨fun pins s σ H Q I h => Compare_chain (thn (ha.run pins s σ H _ I h) fun u1 s1 ⟨x1, H1, I1, q1, g1⟩ => chain_link (thn (hb.run pins s1 σ H1 _ I1 g1) fun u2 s2 ⟨x2, H2, I2, q2, g2⟩ =>
    thn (h1 pins s2 σ H2 x1 x2 u1 u2 _ I2 q1 q2 g2) fun u3 s3 ⟨x3, H3, I3, q3, k, e, g3⟩ => ?_)) hm⟩
  subst e
  cases q3
  refine wpAny_truthy_bool ?_
  cases k with
  | false => exact ite_ff ⟨.bl false, H3, I3, rfl, g3⟩
  | true =>
    refine ite_tt (chain_link (thn (hc.run pins s3 σ H3 _ I3 g3) fun u4 s4 ⟨x4, H4, I4, q4, g4⟩ => thn (h2 pins s4 σ H4 x2 x4 u2 u4 _ I4 q2 q4 g4) fun u5 s5 ⟨x5, H5, I5, q5, k2, e2, g5⟩ => ?_))
    subst e2
    cases q5
    refine wpAny_truthy_bool ?_
    cases k2 with
    | false => exact ite_ff ⟨.bl false, H5, I5, rfl, g5⟩
    | true => exact ite_tt (chain_last (thn (hd.run pins s5 σ H5 _ I5 g5) fun u6 s6 ⟨x6, H6, I6, q6, g6⟩ => h3 pins s6 σ H6 x4 x6 u4 u6 Q I6 q4 q6 g6))
end
/-- what stands at the right of an own == -/
inductive Oth (K : PySem.W.Frag) (H : Hp) (b : Addr) : Value → Prop where
  | ins {C dx : Addr} {fs : List (Str × V)} (e : H b = some (.ins C dx fs)) : Oth K H b (.ref C)
  | tup {xs : List V} (e : SqT K H b xs) : Oth K H b (.type "tuple")
def rOwnEq (K : PySem.W.Frag) (C : Addr) (sp : Sp) (E : XK) : R2 := fun x y H Q => ∃ (a dx : Addr) (fs : List (Str × V)) (b : Addr) (tb : Value), x = .ref a ∧ y = .ref b ∧ H a = some (.ins C dx fs) ∧ Oth K H b tb ∧ PySem.W.notFirst K C tb = true ∧ sp [x, y] H Q E
section
variable {X : Cx} {n : Nat} {C g : Addr} {sp : Sp} {CX : CXT} {E : XK} {fd : FuncData} {ps : List Str}
theorem op_owneq (hs : PySem.W.findIn X.K (.ref C) "__eq__" = some (some (.ref g))) (hf : PySem.W.isFn X.K (.ref g) = true) (F : FnOk X.prog X.w X.K X.mg X.base CX n g fd ps sp) (hb : Binds X.K fd ps [])
    (hr : Room n X.A) (hx : Passes CX X E) : OpR X (compareOp .Eq) (rOwnEq X.K C sp E) := by
  intro pins s σ H x y v u Q I rx ry h
  obtain ⟨a, dx, fs, b, tb, rfl, rfl, ha, ho, hn, q⟩ := h
  obtain rfl : v = Value.ref a := rx
  obtain rfl : u = Value.ref b := ry
  obtain ⟨_, J, _⟩ := ins_get I.hok ha
  obtain ⟨_, J, _⟩ := J.look
  obtain ⟨_, hF⟩ := I.fr
  have lk : PySem.W.Looks (model X.prog X.w) s.heap (typeOf (.ref b)) tb := by
    cases ho with
    | ins e =>
      obtain ⟨_, J2, _⟩ := ins_get I.hok e
      obtain ⟨_, J2, _⟩ := J2.look
      exact J2.type
    | tup e =>
      obtain ⟨_, _, ⟨o, e1, e2, _⟩, _⟩ := I.tuple e
      exact e2 ▸ (PySem.W.Looks.ld e1).andThen .now
  refine PySem.W.cmp_K (op := .Eq) (tb := tb) hr.units0 hF I.ok.mod.kin J lk hn hs hf ?_
  have F2 : FnR X.prog X.w X.K X.mg X.base CX n g sp := (FnOk.raw F hb .nil).imp fun vs H Q E h => by
    rw [List.append_nil]
    exact h
  refine wpAny_mono (wpAny_call (run_fnR (us := [.ref a, .ref b]) (vs := [.ref a, .ref b]) F2 hr hx I (.cons rfl (.cons rfl .nil)) q)) (fun w s' z => ?_) fun _ _ x => x
  obtain ⟨z', H', I', rz, qz⟩ := z
  exact SlX.cmpback rz ⟨z', H', I', rz, qz⟩
end
end K2

namespace K2
open PySem L2
/-! ### names -/
def LET : Str := "abcdefghijklmnopqrstuvwxyzABCDEFGHIJKLMNOPQRSTUVWXYZ_"
def DIG : Str := "0123456789"
def NCH : Str := "ABCDEFGHIJKLMNOPQRSTUVWXYZabcdefghijklmnopqrstuvwxyz0123456789_"
def A30 : Str := Txt.mul "a" 30
def A31 : Str := Txt.mul "a" 31
def DN : List Str := ["x", "y", "z", "u", "v", "w", "x1", "_q"]
def LN : List Str := ["x", "y", "a0", "", "1x", "a b", A30, A31, "_", "Z9", "a.b", "a1"]
def AN : List Str := (List.range 18).map fun k : Nat => ("a" : Str) ++ toString (k : Int)
def NS : List Str := DN ++ AN ++ LN ++ [("q" : Str)]
/-- the first sign -/
def hd0 (z : Str) : Nat := z.cps.toList.getD 0 0
/-- a simple name, as it is told by the program -/
def simp (z : Str) : Bool := decide (1 ≤ (z.length : Int)) && decide ((z.length : Int) ≤ 30) && (decide (Txt.stripChars z NCH = ("" : Str)) && !decide (hd0 z ∈ DIG.cps.toList))
/-- .. and by the law -/
def lsim (z : Str) : Bool := !(decide ((z.length : Int) < 1) || (decide (30 < (z.length : Int)) || !decide (hd0 z ∈ LET.cps.toList))) && z.cps.toList.all fun c => decide (c ∈ (LET ++ DIG).cps.toList)
theorem simp_tab : ∀ z ∈ NS, lsim z = simp z := by decide +kernel
theorem name_len : ∀ z ∈ NS, z.length ≤ 31 := by decide +kernel
theorem name_ok : ∀ z ∈ NS, PyData.strOk z = true := by decide +kernel
theorem an_tab : ∀ k, k < 18 → ("a" : Str) ++ toString ((k : Nat) : Int) ∈ NS := by decide +kernel
theorem dn_tab : ∀ z ∈ DN, z ∈ NS := by decide +kernel
theorem ln_tab : ∀ z ∈ LN, z ∈ NS := by decide +kernel
def KS : List Str := ["int", "flag", "text"]
def KX : List Str := ["int", "flag", "text", "number", "", "flags", "text"]
theorem q_ns : ("q" : Str) ∈ NS := by decide +kernel
theorem kind_ok : ∀ z ∈ KX, PyData.strOk z = true := by decide +kernel
end K2

namespace K2
open PySem L2
/-! ### rows -/
structure D where
  n : Str
  l : Int
  h : Int
  s : Int
structure T where
  n : Str
  k : Str
def D.v (d : D) : List V := [.str d.n, .int d.l, .int d.h, .int d.s]
def T.v (t : T) : List V := [.str t.n, .str t.k]
def D.p (d : D) : PyData := .tuple [.str d.n, .int d.l, .int d.h, .int d.s]
def T.p (t : T) : PyData := .tuple [.str t.n, .str t.k]
def okD (d : D) : Bool := simp d.n && (decide (-1000000 ≤ d.l) && decide (d.l ≤ d.h) && decide (d.h ≤ 1000000)) && (decide (1 ≤ d.s) && decide (d.s ≤ 1000000))
def okT (t : T) : Bool := simp t.n && decide (t.k ∈ KS)
def GoodD (ds : List D) : Prop := ds.length ≤ 1000 ∧ ∀ d ∈ ds, d.n ∈ NS
def GoodT (ts : List T) : Prop := ts.length ≤ 1000 ∧ ∀ t ∈ ts, t.n ∈ NS ∧ t.k ∈ KX
def Rows (H : Hp) (xs : List V) (rs : List (List V)) : Prop := xs.length = rs.length ∧ ∀ (i : Nat) (r : List V), rs[i]? = some r → ∃ a, xs[i]? = some (V.ref a) ∧ H a = some (.tup r)
theorem Rows.same {H H1 : Hp} {xs : List V} {rs : List (List V)} (h : Rows H xs rs) (e : Same H H1) : Rows H1 xs rs := ⟨h.1, fun i r hr => let ⟨a, h1, h2⟩ := h.2 i r hr; ⟨a, h1, e _ _ h2⟩⟩
theorem Rows.keep {H H1 : Hp} {xs : List V} {rs : List (List V)} (h : Rows H xs rs) (e : ∀ a r, H a = some (.tup r) → H1 a = some (.tup r)) : Rows H1 xs rs := ⟨h.1, fun i r hr => let ⟨a, h1, h2⟩ := h.2 i r hr; ⟨a, h1, e _ _ h2⟩⟩
theorem Rows.nil {H : Hp} : Rows H [] [] := ⟨rfl, fun i r h => by simp at h⟩
theorem Rows.push {H : Hp} {xs : List V} {rs : List (List V)} {a : Addr} {r : List V} (h : Rows H xs rs) (e : H a = some (.tup r)) : Rows H (xs ++ [V.ref a]) (rs ++ [r]) := by
  refine ⟨by rw [List.length_append, List.length_append, h.1]; rfl, fun i q hq => ?_⟩
  rcases Nat.lt_trichotomy i rs.length with hi | hi | hi
  · rw [List.getElem?_append_left hi] at hq
    obtain ⟨b, h1, h2⟩ := h.2 i q hq
    exact ⟨b, by rw [List.getElem?_append_left (by rw [h.1]; exact hi)]; exact h1, h2⟩
  · subst hi
    rw [List.getElem?_append_right (Nat.le_refl _), Nat.sub_self] at hq
    have : r = q := Option.some.inj hq
    subst this
    exact ⟨a, by rw [List.getElem?_append_right (Nat.le_of_eq h.1), h.1, Nat.sub_self]; rfl, e⟩
  · rw [List.getElem?_eq_none (by rw [List.length_append, List.length_singleton]; omega)] at hq
    cases hq
theorem Rows.cons {H : Hp} {xs : List V} {rs : List (List V)} {a : Addr} {r : List V} (h : Rows H xs rs) (e : H a = some (.tup r)) : Rows H (V.ref a :: xs) (r :: rs) := by
  refine ⟨by rw [List.length_cons, List.length_cons, h.1], fun i q hq => ?_⟩
  cases i with
  | zero =>
    have : r = q := Option.some.inj hq
    subst this
    exact ⟨a, rfl, e⟩
  | succ i =>
    obtain ⟨b, h1, h2⟩ := h.2 i q hq
    exact ⟨b, h1, h2⟩
theorem Rows.set {H : Hp} {xs : List V} {rs : List (List V)} {a : Addr} {r : List V} (h : Rows H xs rs) (j : Nat) (e : H a = some (.tup r)) : Rows H (xs.set j (V.ref a)) (rs.set j r) := by
  refine ⟨by rw [List.length_set, List.length_set, h.1], fun i q hq => ?_⟩
  rw [List.getElem?_set] at hq
  by_cases hij : j = i
  · subst hij
    rw [if_pos rfl] at hq
    by_cases hj : j < rs.length
    · rw [if_pos hj] at hq
      have : r = q := Option.some.inj hq
      subst this
      exact ⟨a, by rw [List.getElem?_set, if_pos rfl, if_pos (by rw [h.1]; exact hj)], e⟩
    · rw [if_neg hj] at hq
      cases hq
  · rw [if_neg hij] at hq
    obtain ⟨b, h1, h2⟩ := h.2 i q hq
    exact ⟨b, by rw [List.getElem?_set, if_neg hij]; exact h1, h2⟩
theorem dpD (K : PySem.W.Frag) {H : Hp} : ∀ {xs : List V} {ds : List D}, Rows H xs (ds.map D.v) → DpAll K H xs (ds.map D.p)
  | [], [], _ => .nil
  | [], d :: r, h => by cases h.1
  | x :: xs, [], h => by cases h.1
  | x :: xs, d :: r, h => by
    obtain ⟨a, h1, h2⟩ := h.2 0 d.v rfl
    obtain rfl : x = .ref a := Option.some.inj h1
    refine .cons (.tup (SqT.of h2) (.cons (.str _) (.cons (.int _) (.cons (.int _) (.cons (.int _) .nil))))) (dpD K ⟨Nat.succ.inj h.1, fun i q hq => ?_⟩)
    exact h.2 (i + 1) q hq
theorem dpT (K : PySem.W.Frag) {H : Hp} : ∀ {xs : List V} {ds : List T}, Rows H xs (ds.map T.v) → DpAll K H xs (ds.map T.p)
  | [], [], _ => .nil
  | [], d :: r, h => by cases h.1
  | x :: xs, [], h => by cases h.1
  | x :: xs, d :: r, h => by
    obtain ⟨a, h1, h2⟩ := h.2 0 d.v rfl
    obtain rfl : x = .ref a := Option.some.inj h1
    refine .cons (.tup (SqT.of h2) (.cons (.str _) (.cons (.str _) .nil))) (dpT K ⟨Nat.succ.inj h.1, fun i q hq => ?_⟩)
    exact h.2 (i + 1) q hq
theorem depth1 {α : Type} (f : α → PyData) (hf : ∀ x, (f x).depth ≤ 1) : ∀ l : List α, PyData.depthAll (l.map f) ≤ 1
  | [] => by simp [PyData.depthAll]
  | n :: r => by
    have h1 := depth1 f hf r
    have h2 := hf n
    simp only [List.map_cons, PyData.depthAll]
    omega
theorem lay1 {α : Type} (f : α → PyData) : ∀ l : List α, (∀ x ∈ l, (f x).canLay0 = true) → PyData.canLayAll0 (l.map f) = true
  | [], _ => by simp [PyData.canLayAll0]
  | n :: r, h => by
    have h1 := lay1 f r fun x hx => h x (List.mem_cons_of_mem _ hx)
    have h2 := h n (List.mem_cons_self ..)
    simp only [List.map_cons, PyData.canLayAll0, Bool.and_eq_true]
    exact ⟨h2, h1⟩
theorem shp {α : Type} (f : α → PyData) (hf : ∀ x, (f x).depth ≤ 1) (l : List α) (h : ∀ x ∈ l, (f x).canLay0 = true) : SeqAt.shaped (.tuple (l.map f)) = true := by
  have h1 := depth1 f hf l
  have h2 : PyData.depth (.tuple (l.map f)) ≤ 64 := by
    simp only [PyData.depth]
    omega
  show (PyData.canLay0 (.tuple (l.map f)) && decide (PyData.depth (.tuple (l.map f)) ≤ 64)) = true
  rw [Bool.and_eq_true]
  exact ⟨by simp only [PyData.canLay0]; exact lay1 f l h, decide_eq_true h2⟩
theorem D.dep (d : D) : d.p.depth ≤ 1 := by simp [D.p, PyData.depth, PyData.depthAll]
theorem T.dep (d : T) : d.p.depth ≤ 1 := by simp [T.p, PyData.depth, PyData.depthAll]
theorem D.lay {d : D} (h : d.n ∈ NS) : d.p.canLay0 = true := by simp [D.p, PyData.canLay0, PyData.canLayAll0, name_ok _ h]
theorem T.lay {d : T} (h : d.n ∈ NS) (h2 : d.k ∈ KX) : d.p.canLay0 = true := by simp [T.p, PyData.canLay0, PyData.canLayAll0, name_ok _ h, kind_ok _ h2]
def DP (ds : List D) : PyData := .tuple (ds.map D.p)
def TP (ts : List T) : PyData := .tuple (ts.map T.p)
theorem DP.shp {ds : List D} (h : GoodD ds) : SeqAt.shaped (DP ds) = true := K2.shp D.p D.dep ds fun x hx => D.lay (h.2 x hx)
theorem TP.shp {ds : List T} (h : GoodT ds) : SeqAt.shaped (TP ds) = true := K2.shp T.p T.dep ds fun x hx => T.lay (h.2 x hx).1 (h.2 x hx).2
theorem DP.refl {ds : List D} (h : GoodD ds) : PyData.eqv (DP ds) (DP ds) = true := SeqAt.eqv_refl _ (SeqAt.canLay_of_shaped (DP.shp h))
theorem TP.refl {ds : List T} (h : GoodT ds) : PyData.eqv (TP ds) (TP ds) = true := SeqAt.eqv_refl _ (SeqAt.canLay_of_shaped (TP.shp h))
theorem eqvAll_len : ∀ {xs ys : List PyData}, PyData.eqvAll xs ys = true → xs.length = ys.length
  | [], [], _ => rfl
  | [], _ :: _, h => by simp [PyData.eqvAll] at h
  | _ :: _, [], h => by simp [PyData.eqvAll] at h
  | x :: xs, y :: ys, h => by
    rw [PyData.eqvAll, Bool.and_eq_true] at h
    rw [List.length_cons, List.length_cons, eqvAll_len h.2]
theorem DP.ne {ds es : List D} (h : ds.length ≠ es.length) : PyData.eqv (DP ds) (DP es) = false := by
  rw [Bool.eq_false_iff]
  intro e
  have e2 : PyData.eqvAll (ds.map D.p) (es.map D.p) = true := by
    unfold DP at e
    rw [PyData.eqv] at e
    exact e
  have := eqvAll_len e2
  rw [List.length_map, List.length_map] at this
  exact h this
theorem TP.ne {ds es : List T} (h : ds.length ≠ es.length) : PyData.eqv (TP ds) (TP es) = false := by
  rw [Bool.eq_false_iff]
  intro e
  have e2 : PyData.eqvAll (ds.map T.p) (es.map T.p) = true := by
    unfold TP at e
    rw [PyData.eqv] at e
    exact e
  have := eqvAll_len e2
  rw [List.length_map, List.length_map] at this
  exact h this
/-! ### what is due -/
def items (ds : List D) (ts : List T) : List (Str × Bool) := ds.map (fun d => (d.n, okD d)) ++ ts.map fun t => (t.n, okT t)
def nms (its : List (Str × Bool)) (i : Nat) : List Str := (its.take i).map (·.1)
def gd (its : List (Str × Bool)) (i : Nat) : Prop := ∃ n b, its[i]? = some (n, b) ∧ b = true ∧ n ∉ nms its i
def Cnt (ds : List D) (ts : List T) : Prop := (1 ≤ ds.length ∧ ds.length ≤ 6) ∧ 1 ≤ ts.length ∧ ts.length ≤ 16
def IsRes (ds : List D) (ts : List T) : Option Nat → Prop
  | none => Cnt ds ts ∧ ∀ j < (items ds ts).length, gd (items ds ts) j
  | some i => (¬Cnt ds ts ∧ i = 0) ∨ (Cnt ds ts ∧ i < (items ds ts).length ∧ (∀ j < i, gd (items ds ts) j) ∧ ¬gd (items ds ts) i)
def optV : Option Nat → V
  | none => .non
  | some i => .int (i : Int)
theorem res_one {ds : List D} {ts : List T} : ∀ {r q : Option Nat}, IsRes ds ts r → IsRes ds ts q → r = q
  | none, none, _, _ => rfl
  | none, some j, h, g => by
    rcases g with g | g
    · exact absurd h.1 g.1
    · exact absurd (h.2 j g.2.1) g.2.2.2
  | some j, none, g, h => by
    rcases g with g | g
    · exact absurd h.1 g.1
    · exact absurd (h.2 j g.2.1) g.2.2.2
  | some i, some j, h, g => by
    rcases h with h | h
    · rcases g with g | g
      · rw [h.2, g.2]
      · exact absurd g.1 h.1
    · rcases g with g | g
      · exact absurd h.1 g.1
      · rcases Nat.lt_trichotomy i j with e | e | e
        · exact absurd (g.2.2.1 i e) h.2.2.2
        · rw [e]
        · exact absurd (h.2.2.1 j e) g.2.2.2
theorem items_len (ds : List D) (ts : List T) : (items ds ts).length = ds.length + ts.length := by
  unfold items
  rw [List.length_append, List.length_map, List.length_map]
theorem items_d {ds : List D} {ts : List T} {i : Nat} (h : i < ds.length) : (items ds ts)[i]? = some (ds[i].n, okD ds[i]) := by
  unfold items
  rw [List.getElem?_append_left (by rw [List.length_map]; exact h), List.getElem?_map, List.getElem?_eq_getElem h]
  rfl
theorem items_t {ds : List D} {ts : List T} {i : Nat} (h : i < ts.length) : (items ds ts)[ds.length + i]? = some (ts[i].n, okT ts[i]) := by
  unfold items
  rw [List.getElem?_append_right (by rw [List.length_map]; omega), List.length_map, Nat.add_sub_cancel_left, List.getElem?_map, List.getElem?_eq_getElem h]
  rfl
theorem nms_succ {its : List (Str × Bool)} {i : Nat} {n : Str} {b : Bool} (h : its[i]? = some (n, b)) : nms its (i + 1) = nms its i ++ [n] := by
  unfold nms
  rw [List.take_add_one, h, List.map_append]
  rfl
theorem nms_len {its : List (Str × Bool)} {i : Nat} (h : i ≤ its.length) : (nms its i).length = i := by
  unfold nms
  rw [List.length_map, List.length_take]
  omega
theorem nms_0 {its : List (Str × Bool)} : nms its 0 = [] := rfl
theorem gd_iff {its : List (Str × Bool)} {i : Nat} {n : Str} {b : Bool} (h : its[i]? = some (n, b)) : gd its i ↔ (b = true ∧ n ∉ nms its i) := by
  constructor
  · rintro ⟨m, c, e, h1, h2⟩
    rw [h] at e
    cases e
    exact ⟨h1, h2⟩
  · rintro ⟨h1, h2⟩
    exact ⟨n, b, h, h1, h2⟩
theorem inV_str (n : Str) : ∀ ns : List Str, inV (.str n) (ns.map V.str) = decide (n ∈ ns)
  | [] => rfl
  | m :: r => by
    have ih := inV_str n r
    unfold inV at ih ⊢
    rw [List.map_cons, List.any_cons, ih]
    by_cases e : m = n
    · subst e
      rw [decide_eq_true (List.mem_cons_self ..)]
      have : eqV (.str m) (.str m) = true := by simp [eqV]
      rw [this]
      rfl
    · have h1 : eqV (.str m) (.str n) = false := by simp [eqV, e]
      rw [h1, Bool.false_or]
      by_cases h : n ∈ r
      · rw [decide_eq_true h, decide_eq_true (List.mem_cons_of_mem _ h)]
      · rw [decide_eq_false h, decide_eq_false]
        intro z
        rcases List.mem_cons.mp z with z | z
        · exact e z.symm
        · exact h z
theorem flat_strs (ns : List Str) : (ns.map V.str).all flatV = true := by
  rw [List.all_eq_true]
  intro x hx
  obtain ⟨z, _, rfl⟩ := List.mem_map.mp hx
  rfl
/-- the first row of a name -/
def IsIdx (ns : List Str) (n : Str) : Option Nat → Prop
  | none => n ∉ ns
  | some i => ns[i]? = some n ∧ ∀ j < i, ns[j]? ≠ some n
theorem idx_one {ns : List Str} {n : Str} : ∀ {r q : Option Nat}, IsIdx ns n r → IsIdx ns n q → r = q
  | none, none, _, _ => rfl
  | none, some j, h, g => absurd (List.mem_of_getElem? g.1) h
  | some j, none, g, h => absurd (List.mem_of_getElem? g.1) h
  | some i, some j, h, g => by
    rcases Nat.lt_trichotomy i j with e | e | e
    · exact absurd h.1 (g.2 i e)
    · rw [e]
    · exact absurd g.1 (h.2 j e)
end K2

namespace K2
open PySem L2
abbrev sInit : Stmt := inClass (top 1) 0
abbrev sShInit : Stmt := inClass (top 13) 0
abbrev sShEq : Stmt := inClass (top 13) 1
abbrev sCheck : Stmt := top 14
abbrev sIsDim : Stmt := top 15
abbrev sIsAttr : Stmt := top 16
abbrev sSimple : Stmt := top 17
abbrev sDimIx : Stmt := top 18
abbrev sAttrIx : Stmt := top 19
abbrev sIndex : Stmt := top 20
abbrev sLSimple : Stmt := top 25
abbrev sLDims : Stmt := top 26
abbrev sLAttrs : Stmt := top 27
abbrev sLName : Stmt := top 28
abbrev sLSpoilt : Stmt := top 29
abbrev sLDue : Stmt := top 30
abbrev sLTold : Stmt := top 31
abbrev sLIndex : Stmt := top 32
abbrev sLaw : Stmt := top 33
theorem iteB {b : Bool} {A B : Prop} (e : b = true) (h : A) : if b = true then A else B := by
  rw [if_pos e]
  exact h
theorem iteBF {b : Bool} {A B : Prop} (e : b = false) (h : B) : if b = true then A else B := by
  subst e
  exact iteF h
structure Nm (K : PySem.W.Frag) (mg : Str → Option Value) : Prop where
  range : mg "range" = none
  int : mg "int" = none
  len : mg "len" = none
  isinstance : mg "isinstance" = none
  bool : mg "bool" = none
  tuple : mg "tuple" = none
  str : mg "str" = none
  min : mg "min" = none
  enumerate : mg "enumerate" = none
  ve : mg "ValueError" = none
  nch : ∃ u, mg "NAME_CHARACTERS" = some u ∧ RelV (.str NCH) u
  dig : ∃ u, mg "DIGITS" = some u ∧ RelV (.str DIG) u
  longest : ∃ u, mg "LONGEST_NAME" = some u ∧ RelV (.int 30) u
  md : ∃ u, mg "MOST_DIMS" = some u ∧ RelV (.int 6) u
  ma : ∃ u, mg "MOST_ATTRS" = some u ∧ RelV (.int 16) u
  fur : ∃ u, mg "FURTHEST" = some u ∧ RelV (.int 1000000) u
  step : ∃ u, mg "LONGEST_STEP" = some u ∧ RelV (.int 1000000) u
  kinds : ∃ kk, mg "KINDS" = some (.ref kk) ∧ ∀ H : Hp, SqT K H kk (KS.map V.str)
structure ErrC (K : PySem.W.Frag) (C fI : Addr) (nm : Str) : Prop where
  oc : OexC K C
  ec : ExcC K C
  nc : NameC K C nm
  xf : XfC K C
  noP : PySem.W.findIn K (.ref C) "place" = some none
  noN : PySem.W.findIn K (.ref C) "name" = some none
  iC : PySem.W.findIn K (.ref C) "__init__" = some (some (.ref fI))
  tI : PySem.W.typeIn K (.ref fI) = some (.type "function")
structure ShC (K : PySem.W.Frag) (C fI fE : Addr) : Prop where
  mm : Mk K C fI
  cl : Cls K C
  nD : NoAttr K C "dims"
  nA : NoAttr K C "attrs"
  eq : PySem.W.findIn K (.ref C) "__eq__" = some (some (.ref fE))
  ef : PySem.W.isFn K (.ref fE) = true
  n1 : PySem.W.notFirst K C (.ref C) = true
  n2 : PySem.W.notFirst K C (.type "tuple") = true
  ha : PySem.W.findIn K (.ref C) "__class__" = some (some (.builtin "object.__class__"))
  hn : PySem.W.specialIn K (.builtin "object.__class__") "__get__" = some (some (.builtin "getset_descriptor.__get__"))
  htk : PySem.W.takesIn K (.builtin "object.__class__") = some true
  hm : PySem.W.mroIn K C (.type "object") = some true
  k1 : PySem.W.kitOne K (.ref C) (.ref C) = some true
  k2 : PySem.W.kitOne K (.type "tuple") (.ref C) = some false
def ShapeAt (H : Hp) (C a : Addr) (ds : List D) (ts : List T) : Prop := ∃ (dx td ta : Addr) (xs ys : List V), H a = some (.ins C dx [("dims", .ref td), ("attrs", .ref ta)]) ∧ H td = some (.tup xs) ∧ Rows H xs (ds.map D.v) ∧ H ta = some (.tup ys) ∧ Rows H ys (ts.map T.v)
theorem ShapeAt.same {H H1 : Hp} {C a : Addr} {ds : List D} {ts : List T} (h : ShapeAt H C a ds ts) (e : Same H H1) : ShapeAt H1 C a ds ts := by
  obtain ⟨dx, td, ta, xs, ys, h1, h2, h3, h4, h5⟩ := h
  exact ⟨dx, td, ta, xs, ys, e _ _ h1, e _ _ h2, h3.same e, e _ _ h4, h5.same e⟩
section
variable {P : Program} {w : World} {K : PySem.W.Frag} {mg : Str → Option Value} {base : Heap}
def spInit (K : PySem.W.Frag) (fI : Addr) : Sp := fun vs H Q _ => ∃ (a C : Addr) (nm : Str) (v : V), vs = [.ref a, v] ∧ ErrC K C fI nm ∧ H a = some (exo a C none) ∧
  ∀ dx, H dx = none → dx ≠ a → Q .non (upd (upd (upd H dx (exd dx [("place", v)])) a (exo a C (some dx))) dx (exd dx [("name", .str nm), ("place", v)]))
theorem scInit : FnScope ["self", "place"] ["self", "place"] (defScope sInit) := ⟨rfl, rfl, rfl, by decide +kernel, rfl, by decide +kernel, by decide +kernel⟩
theorem ok_init {f : Addr} {fd : FuncData} (F : Fun K "__init__" "ManysidesError.__init__" sInit f fd) : FnOk P w K mg base CX0 1 f fd ["self", "place"] (spInit K f) := by
  refine F.ok scInit (fun vs H Q E h => ?_) (fun cdv A outer s H vs Q E hr h => ?_)
  · obtain ⟨a, C, nm, v, rfl, _⟩ := h
    rfl
  · obtain ⟨a, C, nm, v, rfl, T, ha, q⟩ := h
    refine ⟨_, pss_cons (ps_ost (pv 0) (pv 1)) (pss_one (ps_ost (pv 0) (pe_cname (pe_eclass (pv 0))))), ?_⟩
    refine ⟨_, rfl, _, rfl, a, C, rfl, T.oc, T.noP, .inl ⟨ha, fun dx ndx nda => ?_⟩⟩
    have e1 : (upd (upd H dx (exd dx [("place", v)])) a (exo a C (some dx))) dx = some (exd dx [("place", v)]) := by rw [upd_ne nda, upd_same]
    refine ⟨_, rfl, a, C, some dx, rfl, T.ec, upd_same, fun d e => ?_, C, nm, rfl, T.nc, _, rfl, a, C, rfl, T.oc, T.noN, .inr ⟨dx, _, upd_same, e1, (by show 1 ≤ 900; decide), q dx ndx nda⟩⟩
    cases e
    exact ⟨_, e1⟩
/-! ### a shape -/
def spShInit (K : PySem.W.Frag) (C fI fE : Addr) : Sp := fun vs H Q _ => ∃ (x dx : Addr) (u v : V), vs = [.ref x, u, v] ∧ H x = some (.ins C dx []) ∧ Q .non (upd (upd H x (.ins C dx [("dims", u)])) x (.ins C dx [("dims", u), ("attrs", v)]))
theorem scShInit : FnScope ["self", "dims", "attrs"] ["self", "dims", "attrs"] (defScope sShInit) := ⟨rfl, rfl, rfl, by decide +kernel, rfl, by decide +kernel, by decide +kernel⟩
theorem ok_shInit {f C fE : Addr} {fd : FuncData} (F : Fun K "__init__" "Shape.__init__" sShInit f fd) (S : ShC K C f fE) : FnOk P w K mg base CX0 1 f fd ["self", "dims", "attrs"] (spShInit K C f fE) := by
  refine F.ok scShInit (fun vs H Q E h => ?_) (fun cdv A outer s H vs Q E hr h => ?_)
  · obtain ⟨x, dx, u, v, rfl, _⟩ := h
    rfl
  · obtain ⟨x, dx, u, v, rfl, hx, q⟩ := h
    refine ⟨_, pss_cons (ps_fld (pv 0) (pv 1) rfl) (pss_one (ps_fld (pv 0) (pv 2) rfl)), ?_⟩
    refine ⟨_, rfl, _, rfl, x, C, dx, [], rfl, hx, S.cl, S.nD, (by decide), ?_⟩
    exact ⟨_, rfl, _, rfl, x, C, dx, [("dims", u)], rfl, upd_same, S.cl, S.nA, (by show 1 < 1000; decide), q⟩
def spShEq (C : Addr) : Sp := fun vs H Q _ => ∃ (a b : Addr) (ds : List D) (ts : List T), vs = [.ref a, .ref b] ∧ ShapeAt H C a ds ts ∧ GoodD ds ∧ GoodT ts ∧
  ((∃ es us, ShapeAt H C b es us ∧ GoodD es ∧ GoodT us ∧ Q (.bl (PyData.eqv (DP ds) (DP es) && PyData.eqv (TP ts) (TP us))) H) ∨ ∃ xs, H b = some (.tup xs) ∧ Q (.bl false) H)
theorem scShEq : FnScope ["self", "other"] ["self", "other"] (defScope sShEq) := ⟨rfl, rfl, rfl, by decide +kernel, rfl, by decide +kernel, by decide +kernel⟩
theorem ok_shEq {f C fI : Addr} {fd : FuncData} (F : Fun K "__eq__" "Shape.__eq__" sShEq f fd) (N : Nm K mg) (S : ShC K C fI f) (gC : mg "Shape" = some (.ref C)) : FnOk P w K mg base CX0 1 f fd ["self", "other"] (spShEq C) := by
  refine F.ok scShEq (fun vs H Q E h => ?_) (fun cdv A outer s H vs Q E hr h => ?_)
  · obtain ⟨a, b, ds, ts, rfl, _⟩ := h
    rfl
  · obtain ⟨a, b, ds, ts, rfl, ⟨dx, td, ta, xs, ys, h1, h2, h3, h4, h5⟩, gd, gt, q⟩ := h
    have hu := hu_of hr
    refine ⟨_, pss_one (ps_ret (pe_and (pe_callB call_isi (by rfl) N.isinstance (by decide +kernel) (pa_cons (pv 1) (pa_cons (pe_glob (v := .ref C) (by rfl) gC rfl) pa_nil)))
      (pe_and (pe_cmpR (op_eqD hr.units) (pe_fld (pv 0) rfl) (pe_fld (pv 1) rfl) (nomark _)) (pe_one (pe_cmpR (op_eqD hr.units) (pe_fld (pv 0) rfl) (pe_fld (pv 1) rfl) (nomark _)))))), ?_⟩
    rcases q with ⟨es, us, ⟨dx', td', ta', xs', ys', h1', h2', h3', h4', h5'⟩, gd', gt', q⟩ | ⟨zs, hz, q⟩
    · refine ⟨_, rfl, _, .ref C, .ref C, .ref C, true, rfl, .own C, .base (.ins h1' S.cl S.ha S.hn S.htk S.hm), S.k1, true, rfl, iteT ?_⟩
      refine ⟨_, rfl, a, C, dx, _, .ref td, rfl, h1, S.cl, S.nD, rfl, _, rfl, b, C, dx', _, .ref td', rfl, h1', S.cl, S.nD, rfl, DP ds, DP es, .tup (SqT.of h2) (dpD K h3), .tup (SqT.of h2') (dpD K h3'), DP.shp gd, DP.shp gd', _, rfl, ?_⟩
      cases e : PyData.eqv (DP ds) (DP es)
      · rw [e] at q
        exact iteF q
      · rw [e, Bool.true_and] at q
        exact iteT ⟨_, rfl, a, C, dx, _, .ref ta, rfl, h1, S.cl, S.nA, rfl, _, rfl, b, C, dx', _, .ref ta', rfl, h1', S.cl, S.nA, rfl, TP ts, TP us, .tup (SqT.of h4) (dpT K h5), .tup (SqT.of h4') (dpT K h5'), TP.shp gt, TP.shp gt', q⟩
    · exact ⟨_, rfl, _, .ref C, .type "tuple", .ref C, false, rfl, .own C, .base (.tup hz), S.k2, false, rfl, iteF q⟩
end
end K2

namespace K2
open PySem L2
section
variable {P : Program} {w : World} {K : PySem.W.Frag} {mg : Str → Option Value} {base : Heap}
theorem hd_at {z : Str} (h : 1 ≤ (z.length : Int)) : atI z.cps.toList 0 = some (hd0 z) := by
  have hl : 0 < z.cps.toList.length := by
    have e : z.cps.toList.length = z.length := by simp [Str.length]
    omega
  have : z.cps.toList[0]? = some (hd0 z) := by
    unfold hd0
    rw [List.getD_eq_getElem?_getD, List.getElem?_eq_getElem hl]
    rfl
  exact atI_nat (j := 0) this
def spSimple : Sp := fun vs H Q _ => ∃ z : Str, vs = [.str z] ∧ z ∈ NS ∧ Q (.bl (simp z)) H
theorem scSimple : FnScope ["text"] ["text"] (defScope sSimple) := ⟨rfl, rfl, rfl, by decide +kernel, rfl, by decide +kernel, by decide +kernel⟩
theorem ok_simple {f : Addr} {fd : FuncData} (F : Fun K "is_simple_name" "is_simple_name" sSimple f fd) (N : Nm K mg) : FnOk P w K mg base CX0 1 f fd ["text"] spSimple := by
  refine F.ok scSimple (fun vs H Q E h => ?_) (fun cdv A outer s H vs Q E hr h => ?_)
  · obtain ⟨z, rfl, _⟩ := h
    rfl
  · obtain ⟨z, rfl, hz, q⟩ := h
    have hl := name_len z hz
    have hz2 : z.length ≤ sizeLine := Nat.le_trans hl (by decide)
    obtain ⟨u1, m1, r1⟩ := N.nch
    obtain ⟨u2, m2, r2⟩ := N.dig
    obtain ⟨u3, m3, r3⟩ := N.longest
    refine ⟨_, pss_cons (ps_if (pt_not (pt_chain op_le op_le pe_int (pe_callB call_len_str (by rfl) N.len PySem.boot_len (pa_cons (pv 0) pa_nil)) (pe_glob (by rfl) m3 r3))) (pss_one (ps_ret pe_bl)) pss_nil)
      (pss_one (ps_ret (pe_and (pe_cmpR op_eq (pe_m1 PySem.F.slot_str_strip PySem.F.type_str_strip mt_stripChars (pv 0) (pe_glob (by rfl) m1 r1)) pe_str (nomark _))
        (pe_one (pe_cmpR op_notInS (pe_ix ix_str (pv 0) pe_int (fun _ _ => rfl)) (pe_glob (by rfl) m2 r2) (by rfl)))))), ?_⟩
    refine ⟨_, rfl, z, rfl, hz2, 1, (z.length : Int), rfl, rfl, _, rfl, ?_⟩
    unfold simp at q
    by_cases h1 : (1 : Int) ≤ (z.length : Int)
    · refine iteB (decide_eq_true h1) ⟨(z.length : Int), 30, rfl, rfl, _, rfl, ?_⟩
      rw [decide_eq_true h1, Bool.true_and] at q
      by_cases h2 : (z.length : Int) ≤ 30
      · rw [decide_eq_true h2, Bool.true_and] at q
        refine iteBF (by rw [decide_eq_true h2]; rfl) ?_
        refine ⟨_, rfl, ⟨z, rfl⟩, z, NCH, rfl, rfl, hz2, rfl, _, rfl, ?_⟩
        have e0 : decide (V.str (Txt.stripChars z NCH) = V.str ("" : Str)) = decide (Txt.stripChars z NCH = ("" : Str)) := by
          by_cases e : Txt.stripChars z NCH = ("" : Str)
          · rw [decide_eq_true e, e, decide_eq_true rfl]
          · rw [decide_eq_false e, decide_eq_false fun h => e (V.str.inj h)]
        rw [e0]
        by_cases h3 : Txt.stripChars z NCH = ("" : Str)
        · rw [decide_eq_true h3, Bool.true_and] at q
          exact iteB (decide_eq_true h3) ⟨_, rfl, z, 0, hd0 z, rfl, rfl, hz2, hd_at h1, hd0 z, DIG, rfl, rfl, q⟩
        · rw [decide_eq_false h3, Bool.false_and] at q
          exact iteBF (decide_eq_false h3) q
      · rw [decide_eq_false h2, Bool.false_and] at q
        exact iteB (by rw [decide_eq_false h2]; rfl) q
    · rw [decide_eq_false h1, Bool.false_and, Bool.false_and] at q
      exact iteBF (decide_eq_false h1) ⟨false, rfl, iteT q⟩
def spIsDim (K : PySem.W.Frag) : Sp := fun vs H Q _ => ∃ (a : Addr) (d : D), vs = [.ref a] ∧ H a = some (.tup d.v) ∧ d.n ∈ NS ∧ Q (.bl (okD d)) H
theorem scIsDim : FnScope ["dim", "name", "low", "high", "step"] ["dim"] (defScope sIsDim) := ⟨rfl, rfl, rfl, by decide +kernel, rfl, by decide +kernel, by decide +kernel⟩
theorem ok_isDim {f fS : Addr} {fd fdS : FuncData} (F : Fun K "is_dim" "is_dim" sIsDim f fd) (N : Nm K mg) (FS : Fun K "is_simple_name" "is_simple_name" sSimple fS fdS) (bS : Binds K fdS ["text"] []) (gS : mg "is_simple_name" = some (.ref fS)) :
    FnOk P w K mg base CX0 2 f fd ["dim"] (spIsDim K) := by
  have GS : FnOk P w K mg base CX0 1 fS fdS ["text"] spSimple := ok_simple FS N
  refine F.ok scIsDim (fun vs H Q E h => ?_) (fun cdv A outer s H vs Q E hr h => ?_)
  · obtain ⟨a, d, rfl, _⟩ := h
    rfl
  · obtain ⟨a, d, rfl, ha, hn, q⟩ := h
    obtain ⟨u1, m1, r1⟩ := N.fur
    obtain ⟨u2, m2, r2⟩ := N.step
    refine ⟨_, pss_cons (ps_asg (pv 0) (pg_tup (by rfl) (pgs_cons (pg_name (i := 1) scIsDim.nd rfl (.inl rfl)) (pgs_cons (pg_name (i := 2) scIsDim.nd rfl (.inl rfl)) (pgs_cons (pg_name (i := 3) scIsDim.nd rfl (.inl rfl)) (pgs_cons (pg_name (i := 4) scIsDim.nd rfl (.inl rfl)) pgs_nil))))))
      (pss_one (ps_ret (pe_and (pe_call GS hr (by rfl) gS FS.kp bS .nil pass0 (pa_cons (pv 1) pa_nil))
        (pe_and (pe_chain3 op_le op_le op_le (pe_un un_neg (pe_glob (by rfl) m1 r1)) (pv 2) (pv 3) (pe_glob (by rfl) m1 r1))
          (pe_one (pe_chain op_le op_le pe_int (pv 4) (pe_glob (by rfl) m2 r2))))))), ?_⟩
    refine ⟨_, rfl, a, d.v, rfl, SqT.of ha, rfl, _, _, rfl, _, _, rfl, _, _, rfl, _, _, rfl, rfl, ?_⟩
    refine ⟨_, rfl, d.n, rfl, hn, _, rfl, ?_⟩
    unfold okD at q
    cases hs : simp d.n
    · rw [hs, Bool.false_and, Bool.false_and] at q
      exact iteF q
    rw [hs, Bool.true_and] at q
    refine iteT ⟨1000000, rfl, _, rfl, -1000000, d.l, rfl, rfl, _, rfl, ?_⟩
    cases h1 : decide (-1000000 ≤ d.l)
    · rw [h1, Bool.false_and, Bool.false_and, Bool.false_and] at q
      exact iteF ⟨_, rfl, iteF q⟩
    rw [h1, Bool.true_and] at q
    refine iteT ⟨_, rfl, d.l, d.h, rfl, rfl, _, rfl, ?_⟩
    cases h2 : decide (d.l ≤ d.h)
    · rw [h2, Bool.false_and, Bool.false_and] at q
      exact iteF ⟨_, rfl, iteF q⟩
    rw [h2, Bool.true_and] at q
    refine iteT ⟨d.h, 1000000, rfl, rfl, _, rfl, ?_⟩
    cases h3 : decide (d.h ≤ 1000000)
    · rw [h3, Bool.false_and] at q
      exact iteF q
    rw [h3, Bool.true_and] at q
    refine iteT ⟨_, rfl, 1, d.s, rfl, rfl, _, rfl, ?_⟩
    cases h4 : decide (1 ≤ d.s)
    · rw [h4, Bool.false_and] at q
      exact iteF q
    rw [h4, Bool.true_and] at q
    exact iteT ⟨d.s, 1000000, rfl, rfl, q⟩
def spIsAttr (K : PySem.W.Frag) : Sp := fun vs H Q _ => ∃ (a : Addr) (d : T), vs = [.ref a] ∧ H a = some (.tup d.v) ∧ d.n ∈ NS ∧ Q (.bl (okT d)) H
theorem scIsAttr : FnScope ["attr", "name", "kind"] ["attr"] (defScope sIsAttr) := ⟨rfl, rfl, rfl, by decide +kernel, rfl, by decide +kernel, by decide +kernel⟩
theorem ok_isAttr {f fS : Addr} {fd fdS : FuncData} (F : Fun K "is_attr" "is_attr" sIsAttr f fd) (N : Nm K mg) (FS : Fun K "is_simple_name" "is_simple_name" sSimple fS fdS) (bS : Binds K fdS ["text"] []) (gS : mg "is_simple_name" = some (.ref fS)) :
    FnOk P w K mg base CX0 2 f fd ["attr"] (spIsAttr K) := by
  have GS : FnOk P w K mg base CX0 1 fS fdS ["text"] spSimple := ok_simple FS N
  refine F.ok scIsAttr (fun vs H Q E h => ?_) (fun cdv A outer s H vs Q E hr h => ?_)
  · obtain ⟨a, d, rfl, _⟩ := h
    rfl
  · obtain ⟨a, d, rfl, ha, hn, q⟩ := h
    obtain ⟨kk, m1, r1⟩ := N.kinds
    refine ⟨_, pss_cons (ps_asg (pv 0) (pg_tup (by rfl) (pgs_cons (pg_name (i := 1) scIsAttr.nd rfl (.inl rfl)) (pgs_cons (pg_name (i := 2) scIsAttr.nd rfl (.inl rfl)) pgs_nil))))
      (pss_one (ps_ret (pe_and (pe_call GS hr (by rfl) gS FS.kp bS .nil pass0 (pa_cons (pv 1) pa_nil))
        (pe_one (pe_cmpR op_in_seq (pv 2) (pe_glob (v := .ref kk) (by rfl) m1 rfl) (by rfl)))))), ?_⟩
    refine ⟨_, rfl, a, d.v, rfl, SqT.of ha, rfl, _, _, rfl, _, _, rfl, rfl, ?_⟩
    refine ⟨_, rfl, d.n, rfl, hn, _, rfl, ?_⟩
    unfold okT at q
    cases hs : simp d.n
    · rw [hs, Bool.false_and] at q
      exact iteF q
    rw [hs, Bool.true_and] at q
    refine iteT ⟨_, rfl, kk, _, rfl, .inr (r1 H), rfl, flat_strs KS, ?_⟩
    show Q (.bl (inV (.str d.k) (KS.map V.str))) H
    rw [inV_str]
    exact q
def Heads (rs : List (List V)) (ns : List Str) : Prop := rs.length = ns.length ∧ ∀ (i : Nat) (r : List V), rs[i]? = some r → ∃ m t, ns[i]? = some m ∧ r = .str m :: t
theorem headsD (ds : List D) : Heads (ds.map D.v) (ds.map (·.n)) := by
  refine ⟨by rw [List.length_map, List.length_map], fun i r h => ?_⟩
  rw [List.getElem?_map] at h ⊢
  cases e : ds[i]? with
  | none =>
    rw [e] at h
    cases h
  | some d =>
    rw [e] at h
    have : d.v = r := Option.some.inj h
    subst this
    exact ⟨d.n, _, rfl, rfl⟩
theorem headsT (ds : List T) : Heads (ds.map T.v) (ds.map (·.n)) := by
  refine ⟨by rw [List.length_map, List.length_map], fun i r h => ?_⟩
  rw [List.getElem?_map] at h ⊢
  cases e : ds[i]? with
  | none =>
    rw [e] at h
    cases h
  | some d =>
    rw [e] at h
    have : d.v = r := Option.some.inj h
    subst this
    exact ⟨d.n, _, rfl, rfl⟩
def spIndex : Sp := fun vs H Q _ => ∃ (a : Addr) (n : Str) (xs : List V) (rs : List (List V)) (ns : List Str), vs = [.ref a, .str n] ∧ H a = some (.tup xs) ∧ Rows H xs rs ∧ Heads rs ns ∧ ∀ r, IsIdx ns n r → ∀ H', Same H H' → Q (optV r) H'
theorem scIndex : FnScope ["rows", "name", "index", "row"] ["rows", "name"] (defScope sIndex) := ⟨rfl, rfl, rfl, by decide +kernel, rfl, by decide +kernel, by decide +kernel⟩
theorem str_eq (a b : Str) : decide (V.str a = V.str b) = decide (a = b) := by
  by_cases e : a = b
  · subst e
    rw [decide_eq_true rfl, decide_eq_true rfl]
  · rw [decide_eq_false e, decide_eq_false fun h => e (V.str.inj h)]
theorem row_at {H : Hp} {xs : List V} {rs : List (List V)} {ns : List Str} {i : Nat} (hR : Rows H xs rs) (hN : Heads rs ns) (hi : i < xs.length) : ∃ b m t, xs[i]? = some (V.ref b) ∧ H b = some (.tup (.str m :: t)) ∧ ns[i]? = some m := by
  have h1 : i < rs.length := by rw [← hR.1]; exact hi
  obtain ⟨b, e1, e2⟩ := hR.2 i _ (List.getElem?_eq_getElem h1)
  obtain ⟨m, t, e3, e4⟩ := hN.2 i _ (List.getElem?_eq_getElem h1)
  rw [e4] at e2
  exact ⟨b, m, t, e1, e2, e3⟩
theorem ok_index {f : Addr} {fd : FuncData} (F : Fun K "index_of" "index_of" sIndex f fd) (N : Nm K mg) : FnOk P w K mg base CX0 1 f fd ["rows", "name"] spIndex := by
  refine F.ok scIndex (fun vs H Q E h => ?_) (fun cdv A outer s H vs Q E hr h => ?_)
  · obtain ⟨a, n, xs, rs, ns, rfl, _⟩ := h
    rfl
  · obtain ⟨a, n, xs, rs, ns, rfl, ha, hR, hN, q⟩ := h
    refine ⟨_, pss_cons (ps_for PassesOwn.never rfl (pi_enumT (by rfl) N.enumerate (pa_cons (pv 0) pa_nil)) (pg_tup (by rfl) (pgs_cons (pg_name (i := 2) scIndex.nd rfl (.inl rfl)) (pgs_cons (pg_name (i := 3) scIndex.nd rfl (.inl rfl)) pgs_nil)))
        (pss_one (ps_if (pt_cmpR op_eq (pe_ix ix_tup (pv 3) pe_int (fun _ _ => rfl)) (pv 1) (nomark _)) (pss_one (ps_ret (pv 2))) pss_nil)))
      (pss_one (ps_ret pe_non)), ?_⟩
    refine ⟨_, rfl, a, xs, rfl, SqT.of ha, ?_⟩
    refine for_it (walk_enumT (xs := xs)) (fun i σ H3 => ∃ y2 y3, σ = [some (.ref a), some (.str n), y2, y3] ∧ Same H H3 ∧ ∀ j < i, ns[j]? ≠ some n) ⟨_, _, rfl, Same.refl _, fun j h => absurd h (Nat.not_lt_zero _)⟩ (fun i σ H3 hi => ?_) ?_ ?_
    · rintro ⟨y2, y3, rfl, sm, _⟩
      exact SqT.of (sm _ _ ha)
    · rintro i x σ H3 H' hi ⟨y2, y3, rfl, sm, hno⟩ hY
      obtain ⟨b, m, t, e1, e2, e3⟩ := row_at hR hN hi
      obtain ⟨Tp, x1, x2, rfl, nT, rfl, f1, f2⟩ := hY
      obtain rfl : x1 = .int (i : Int) := (Option.some.inj f1).symm
      obtain rfl : x2 = .ref b := Option.some.inj (f2.symm.trans e1)
      have sm' := sm.trans (same_new (o := .tup [V.int (i : Int), V.ref b]) nT)
      refine ⟨Tp, _, rfl, .inl (.inl upd_same), rfl, _, _, rfl, _, _, rfl, rfl, ?_⟩
      refine ⟨_, rfl, b, _, 0, .str m, rfl, rfl, SqT.of (sm' _ _ e2), atI_nat (j := 0) rfl, _, rfl, rfl, _, rfl, ?_⟩
      rw [str_eq]
      by_cases e : m = n
      · subst e
        exact iteB (decide_eq_true rfl) ⟨_, rfl, q (some i) ⟨e3, hno⟩ _ sm'⟩
      · refine iteBF (decide_eq_false e) ⟨_, _, rfl, sm', fun j hj => ?_⟩
        rcases Nat.lt_succ_iff_lt_or_eq.mp hj with h | h
        · exact hno j h
        · subst h
          rw [e3]
          exact fun z => e (Option.some.inj z)
    · rintro σ H3 ⟨y2, y3, rfl, sm, hno⟩
      refine q none (fun hm => ?_) _ sm
      obtain ⟨j, hj⟩ := List.mem_iff_getElem?.mp hm
      have : j < ns.length := (List.getElem?_eq_some_iff.mp hj).1
      exact hno j (by rw [hR.1, hN.1]; exact this) hj
def spDimIx (C : Addr) : Sp := fun vs H Q _ => ∃ (a : Addr) (n : Str) (ds : List D) (ts : List T), vs = [.ref a, .str n] ∧ ShapeAt H C a ds ts ∧ ∀ r, IsIdx (ds.map (·.n)) n r → ∀ H', Same H H' → Q (optV r) H'
theorem scDimIx : FnScope ["shape", "name"] ["shape", "name"] (defScope sDimIx) := ⟨rfl, rfl, rfl, by decide +kernel, rfl, by decide +kernel, by decide +kernel⟩
theorem ok_dimIx {f fI C f1 f2 : Addr} {fd fdI : FuncData} (F : Fun K "dim_index" "dim_index" sDimIx f fd) (N : Nm K mg) (S : ShC K C f1 f2) (FI : Fun K "index_of" "index_of" sIndex fI fdI) (bI : Binds K fdI ["rows", "name"] []) (gI : mg "index_of" = some (.ref fI)) :
    FnOk P w K mg base CX0 2 f fd ["shape", "name"] (spDimIx C) := by
  have GI : FnOk P w K mg base CX0 1 fI fdI ["rows", "name"] spIndex := ok_index FI N
  refine F.ok scDimIx (fun vs H Q E h => ?_) (fun cdv A outer s H vs Q E hr h => ?_)
  · obtain ⟨a, n, ds, ts, rfl, _⟩ := h
    rfl
  · obtain ⟨a, n, ds, ts, rfl, ⟨dx, td, ta, xs, ys, h1, h2, h3, h4, h5⟩, q⟩ := h
    refine ⟨_, pss_one (ps_ret (pe_call GI hr (by rfl) gI FI.kp bI .nil pass0 (pa_cons (pe_fld (pv 0) rfl) (pa_cons (pv 1) pa_nil)))), ?_⟩
    exact ⟨_, rfl, a, C, dx, _, .ref td, rfl, h1, S.cl, S.nD, rfl, _, rfl, td, n, xs, _, _, rfl, h2, h3, headsD ds, q⟩
def spAttrIx (C : Addr) : Sp := fun vs H Q _ => ∃ (a : Addr) (n : Str) (ds : List D) (ts : List T), vs = [.ref a, .str n] ∧ ShapeAt H C a ds ts ∧ ∀ r, IsIdx (ts.map (·.n)) n r → ∀ H', Same H H' → Q (optV r) H'
theorem scAttrIx : FnScope ["shape", "name"] ["shape", "name"] (defScope sAttrIx) := ⟨rfl, rfl, rfl, by decide +kernel, rfl, by decide +kernel, by decide +kernel⟩
theorem ok_attrIx {f fI C f1 f2 : Addr} {fd fdI : FuncData} (F : Fun K "attr_index" "attr_index" sAttrIx f fd) (N : Nm K mg) (S : ShC K C f1 f2) (FI : Fun K "index_of" "index_of" sIndex fI fdI) (bI : Binds K fdI ["rows", "name"] []) (gI : mg "index_of" = some (.ref fI)) :
    FnOk P w K mg base CX0 2 f fd ["shape", "name"] (spAttrIx C) := by
  have GI : FnOk P w K mg base CX0 1 fI fdI ["rows", "name"] spIndex := ok_index FI N
  refine F.ok scAttrIx (fun vs H Q E h => ?_) (fun cdv A outer s H vs Q E hr h => ?_)
  · obtain ⟨a, n, ds, ts, rfl, _⟩ := h
    rfl
  · obtain ⟨a, n, ds, ts, rfl, ⟨dx, td, ta, xs, ys, h1, h2, h3, h4, h5⟩, q⟩ := h
    refine ⟨_, pss_one (ps_ret (pe_call GI hr (by rfl) gI FI.kp bI .nil pass0 (pa_cons (pe_fld (pv 0) rfl) (pa_cons (pv 1) pa_nil)))), ?_⟩
    exact ⟨_, rfl, a, C, dx, _, .ref ta, rfl, h1, S.cl, S.nA, rfl, _, rfl, ta, n, ys, _, _, rfl, h4, h5, headsT ts, q⟩
end
end K2

namespace K2
open PySem L2
section
variable {P : Program} {w : World} {K : PySem.W.Frag} {mg : Str → Option Value} {base : Heap}
theorem same_err {H H3 : Hp} {e dx : Addr} {o1 o2 o3 o4 o5 : HO} (sm : Same H H3) (ne : H3 e = none) (nx : H3 dx = none) : Same H (upd (del (upd (upd (upd (upd H3 e o1) dx o2) e o3) dx o4) e) dx o5) := fun b o hb => by
  have y := sm b o hb
  have n1 : b ≠ e := ne_of_none y ne
  have n2 : b ≠ dx := ne_of_none y nx
  rw [upd_ne n2, del_ne n1, upd_ne n2, upd_ne n1, upd_ne n2, upd_ne n1]
  exact y
def errD (i : Nat) : HO := .xd [("name", .str "InvalidShape"), ("place", .int (i : Int))]
def spCheck (K : PySem.W.Frag) (C CE : Addr) : Sp := fun vs H Q E => ∃ (a : Addr) (ds : List D) (ts : List T), vs = [.ref a] ∧ ShapeAt H C a ds ts ∧ GoodD ds ∧ GoodT ts ∧
  (IsRes ds ts none → ∀ H', Same H H' → Q .non H') ∧
  (∀ i : Nat, IsRes ds ts (some i) → ∀ H' d, Same H H' → H d = none → H' d = some (errD i) → E (.ref CE) (some d) H')
theorem scCheck : FnScope ["shape", "names", "index", "dim", "attr"] ["shape"] (defScope sCheck) := ⟨rfl, rfl, rfl, by decide +kernel, rfl, by decide +kernel, by decide +kernel⟩
theorem ok_check {f fS fD fA fI C f1 f2 CE : Addr} {fd fdS fdD fdA fdI : FuncData} (F : Fun K "check_shape" "check_shape" sCheck f fd) (N : Nm K mg) (S : ShC K C f1 f2)
    (FS : Fun K "is_simple_name" "is_simple_name" sSimple fS fdS) (bS : Binds K fdS ["text"] []) (gS : mg "is_simple_name" = some (.ref fS))
    (FD : Fun K "is_dim" "is_dim" sIsDim fD fdD) (bD : Binds K fdD ["dim"] []) (gD : mg "is_dim" = some (.ref fD))
    (FA : Fun K "is_attr" "is_attr" sIsAttr fA fdA) (bA : Binds K fdA ["attr"] []) (gA : mg "is_attr" = some (.ref fA))
    (FI : Fun K "__init__" "ManysidesError.__init__" sInit fI fdI) (bI : Binds K fdI ["self", "place"] []) (E0 : ErrC K CE fI "InvalidShape") (gE : mg "InvalidShape" = some (.ref CE)) :
    FnOk P w K mg base (L2.CX P w) 3 f fd ["shape"] (spCheck K C CE) := by
  have GD : FnOk P w K mg base CX0 2 fD fdD ["dim"] (spIsDim K) := ok_isDim FD N FS bS gS
  have GA : FnOk P w K mg base CX0 2 fA fdA ["attr"] (spIsAttr K) := ok_isAttr FA N FS bS gS
  have GI : FnOk P w K mg base CX0 1 fI fdI ["self", "place"] (spInit K fI) := ok_init FI
  refine F.okX scCheck (fun vs H Q E h => ?_) (fun cdv A outer s H vs Q E hr h => ?_)
  · obtain ⟨a, ds, ts, rfl, _⟩ := h
    rfl
  · obtain ⟨a, ds, ts, rfl, ⟨dx, td, ta, xs, ys, h1, h2, h3, h4, h5⟩, gds, gts, q, qe⟩ := h
    have hr2 := hr.mono (j := 2) (by decide)
    obtain ⟨u1, m1, r1⟩ := N.md
    obtain ⟨u2, m2, r2⟩ := N.ma
    refine ⟨_, pss_cons (ps_if (PW.pt (pw_or (pt_not (pt_chain op_le op_le pe_int (pe_callB call_len_seq (by rfl) N.len PySem.boot_len (pa_cons (pe_fld (pv 0) rfl) pa_nil)) (pe_glob (by rfl) m1 r1)))
          (pw_or1 (pt_not (pt_chain op_le op_le pe_int (pe_callB call_len_seq (by rfl) N.len PySem.boot_len (pa_cons (pe_fld (pv 0) rfl) pa_nil)) (pe_glob (by rfl) m2 r2))))))
          (pss_one (ps_raise rfl (takes_of rfl rfl rfl rfl) (pmk_oex E0.oc E0.iC E0.tI GI hr2 bI .nil pass0 (by rfl) gE (pa_cons pe_int pa_nil)))) pss_nil)
      (pss_cons (ps_set (i := 1) scCheck.nd rfl (.inl rfl) (pe_lst pa_nil))
      (pss_cons (ps_for (passes_of rfl) rfl (pi_enumT (by rfl) N.enumerate (pa_cons (pe_fld (pv 0) rfl) pa_nil)) (pg_tup (by rfl) (pgs_cons (pg_name (i := 2) scCheck.nd rfl (.inl rfl)) (pgs_cons (pg_name (i := 3) scCheck.nd rfl (.inl rfl)) pgs_nil)))
        (pss_cons (ps_if (PW.pt (pw_or (pt_not (pt_val (pe_call GD hr2 (by rfl) gD FD.kp bD .nil pass0 (pa_cons (pv 3) pa_nil)))) (pw_or1 (pt_cmpR op_in_seq (pe_ix ix_tup (pv 3) pe_int (fun _ _ => rfl)) (pv 1) (by rfl)))))
            (pss_one (ps_raise rfl (takes_of rfl rfl rfl rfl) (pmk_oex E0.oc E0.iC E0.tI GI hr2 bI .nil pass0 (by rfl) gE (pa_cons (pv 2) pa_nil)))) pss_nil)
          (pss_one (ps_expr (pe_bm PySem.F.plainAttrs_list PySem.F.slot_list_append PySem.F.type_list_append mt_append (pv 1) (pa_cons (pe_ix ix_tup (pv 3) pe_int (fun _ _ => rfl)) pa_nil))))))
      (pss_one (ps_for (passes_of rfl) rfl (pi_enumT (by rfl) N.enumerate (pa_cons (pe_fld (pv 0) rfl) pa_nil)) (pg_tup (by rfl) (pgs_cons (pg_name (i := 2) scCheck.nd rfl (.inl rfl)) (pgs_cons (pg_name (i := 4) scCheck.nd rfl (.inl rfl)) pgs_nil)))
        (pss_cons (ps_if (PW.pt (pw_or (pt_not (pt_val (pe_call GA hr2 (by rfl) gA FA.kp bA .nil pass0 (pa_cons (pv 4) pa_nil)))) (pw_or1 (pt_cmpR op_in_seq (pe_ix ix_tup (pv 4) pe_int (fun _ _ => rfl)) (pv 1) (by rfl)))))
            (pss_one (ps_raise rfl (takes_of rfl rfl rfl rfl) (pmk_oex E0.oc E0.iC E0.tI GI hr2 bI .nil pass0 (by rfl) gE (pa_cons (pe_op op_add (pe_callB call_len_seq (by rfl) N.len PySem.boot_len (pa_cons (pe_fld (pv 0) rfl) pa_nil)) (pv 2)) pa_nil)))) pss_nil)
          (pss_one (ps_expr (pe_bm PySem.F.plainAttrs_list PySem.F.slot_list_append PySem.F.type_list_append mt_append (pv 1) (pa_cons (pe_ix ix_tup (pv 4) pe_int (fun _ _ => rfl)) pa_nil))))))))), ?_⟩
    have lx : xs.length = ds.length := by rw [h3.1, List.length_map]
    have ly : ys.length = ts.length := by rw [h5.1, List.length_map]
    have lD : (items ds ts).length = xs.length + ys.length := by rw [items_len, lx, ly]
    refine ⟨_, rfl, a, C, dx, _, .ref td, rfl, h1, S.cl, S.nD, rfl, td, xs, rfl, .inr (SqT.of h2), 1, (xs.length : Int), rfl, rfl, _, rfl, ?_⟩
    by_cases c1 : (1 : Int) ≤ (xs.length : Int)
    case neg =>
      refine iteBF (decide_eq_false c1) ⟨false, rfl, iteT ?_⟩
      have hz : IsRes ds ts (some 0) := .inl ⟨fun z => c1 (by have := z.1.1; omega), rfl⟩
      refine ⟨(by show 1 ≤ 1000; decide), fun e ne => ⟨e, CE, "InvalidShape", _, rfl, E0, upd_same, fun dx ndx nde => ⟨rfl, dx, [("name", .str "InvalidShape"), ("place", .int ((0 : Nat) : Int))], ?_, upd_same, ?_, ?_⟩⟩⟩
      · rw [upd_ne nde.symm, upd_same]
      · rw [upd_ne nde] at ndx
        exact ndx
      · rw [upd_ne nde] at ndx
        exact qe 0 hz _ dx (same_err (Same.refl _) ne ndx) ndx upd_same
    refine iteB (decide_eq_true c1) ⟨(xs.length : Int), 6, rfl, rfl, _, rfl, ?_⟩
    by_cases c2 : (xs.length : Int) ≤ 6
    case neg =>
      refine iteB (by rw [decide_eq_false c2]; rfl) ?_
      have hz : IsRes ds ts (some 0) := .inl ⟨fun z => c2 (by have := z.1.2; omega), rfl⟩
      refine ⟨(by show 1 ≤ 1000; decide), fun e ne => ⟨e, CE, "InvalidShape", _, rfl, E0, upd_same, fun dx ndx nde => ⟨rfl, dx, [("name", .str "InvalidShape"), ("place", .int ((0 : Nat) : Int))], ?_, upd_same, ?_, ?_⟩⟩⟩
      · rw [upd_ne nde.symm, upd_same]
      · rw [upd_ne nde] at ndx
        exact ndx
      · rw [upd_ne nde] at ndx
        exact qe 0 hz _ dx (same_err (Same.refl _) ne ndx) ndx upd_same
    refine iteBF (by rw [decide_eq_true c2]; rfl) ?_
    refine ⟨_, rfl, a, C, dx, _, .ref ta, rfl, h1, S.cl, S.nA, rfl, ta, ys, rfl, .inr (SqT.of h4), 1, (ys.length : Int), rfl, rfl, _, rfl, ?_⟩
    by_cases c3 : (1 : Int) ≤ (ys.length : Int)
    case neg =>
      refine iteBF (decide_eq_false c3) ⟨false, rfl, iteT ?_⟩
      have hz : IsRes ds ts (some 0) := .inl ⟨fun z => c3 (by have := z.2.1; omega), rfl⟩
      refine ⟨(by show 1 ≤ 1000; decide), fun e ne => ⟨e, CE, "InvalidShape", _, rfl, E0, upd_same, fun dx ndx nde => ⟨rfl, dx, [("name", .str "InvalidShape"), ("place", .int ((0 : Nat) : Int))], ?_, upd_same, ?_, ?_⟩⟩⟩
      · rw [upd_ne nde.symm, upd_same]
      · rw [upd_ne nde] at ndx
        exact ndx
      · rw [upd_ne nde] at ndx
        exact qe 0 hz _ dx (same_err (Same.refl _) ne ndx) ndx upd_same
    refine iteB (decide_eq_true c3) ⟨(ys.length : Int), 16, rfl, rfl, _, rfl, ?_⟩
    by_cases c4 : (ys.length : Int) ≤ 16
    case neg =>
      refine iteB (by rw [decide_eq_false c4]; rfl) ?_
      have hz : IsRes ds ts (some 0) := .inl ⟨fun z => c4 (by have := z.2.2; omega), rfl⟩
      refine ⟨(by show 1 ≤ 1000; decide), fun e ne => ⟨e, CE, "InvalidShape", _, rfl, E0, upd_same, fun dx ndx nde => ⟨rfl, dx, [("name", .str "InvalidShape"), ("place", .int ((0 : Nat) : Int))], ?_, upd_same, ?_, ?_⟩⟩⟩
      · rw [upd_ne nde.symm, upd_same]
      · rw [upd_ne nde] at ndx
        exact ndx
      · rw [upd_ne nde] at ndx
        exact qe 0 hz _ dx (same_err (Same.refl _) ne ndx) ndx upd_same
    refine iteBF (by rw [decide_eq_true c4]; rfl) ?_
    have cnt : Cnt ds ts := ⟨⟨by omega, by omega⟩, by omega, by omega⟩
    refine ⟨Nat.zero_le _, fun nl nn => ?_⟩
    refine ⟨_, rfl, a, C, dx, _, .ref td, rfl, same_new nn _ _ h1, S.cl, S.nD, rfl, td, xs, rfl, SqT.of (same_new nn _ _ h2), ?_⟩
    refine for_it (walk_enumT (xs := xs)) (fun i σ H3 => ∃ y2 y3, σ = [some (.ref a), some (.ref nl), y2, y3, none] ∧ Same H H3 ∧ H3 nl = some (.lst ((nms (items ds ts) i).map V.str)) ∧ ∀ j < i, gd (items ds ts) j)
      ⟨_, _, rfl, same_new nn, upd_same, fun j h => absurd h (Nat.not_lt_zero _)⟩ (fun i σ H3 hi => ?_) ?_ ?_
    · rintro ⟨y2, y3, rfl, sm, _⟩
      exact SqT.of (sm _ _ h2)
    · rintro i x σ H3 H' hi ⟨y2, y3, rfl, sm, hnl, hgd⟩ hY
      have hi2 : i < ds.length := by omega
      obtain ⟨b, e1, e2⟩ := h3.2 i ds[i].v (by rw [List.getElem?_map, List.getElem?_eq_getElem hi2]; rfl)
      have ein := items_d (ts := ts) hi2
      have hns : ds[i].n ∈ NS := gds.2 _ (List.getElem_mem hi2)
      obtain ⟨Tp, x1, x2, rfl, nT, rfl, g1, g2⟩ := hY
      obtain rfl : x1 = .int (i : Int) := (Option.some.inj g1).symm
      obtain rfl : x2 = .ref b := Option.some.inj (g2.symm.trans e1)
      have s3 := same_new (o := .tup [V.int (i : Int), V.ref b]) nT
      have sm' := sm.trans s3
      have hnl' := s3 _ _ hnl
      refine ⟨Tp, _, rfl, .inl (.inl upd_same), rfl, _, _, rfl, _, _, rfl, rfl, ?_⟩
      refine ⟨_, rfl, b, ds[i], rfl, sm' _ _ e2, hns, okD ds[i], rfl, ?_⟩
      have rs : ¬gd (items ds ts) i → IsRes ds ts (some i) := fun z => .inr ⟨cnt, by omega, hgd, z⟩
      by_cases ho : okD ds[i] = true
      case neg =>
        refine iteB (by rw [Bool.eq_false_iff.mpr ho]; rfl) ?_
        refine ⟨_, rfl, (by show 1 ≤ 1000; decide), fun e ne => ⟨e, CE, "InvalidShape", _, rfl, E0, upd_same, fun dx ndx nde => ⟨rfl, dx, [("name", .str "InvalidShape"), ("place", .int (i : Int))], ?_, upd_same, ?_, ?_⟩⟩⟩
        · rw [upd_ne nde.symm, upd_same]
        · rw [upd_ne nde] at ndx
          exact ndx
        · rw [upd_ne nde] at ndx
          exact qe i (rs fun z => ho ((gd_iff ein).mp z).1) _ dx (same_err sm' ne ndx) (sm'.free ndx) upd_same
      refine iteBF (by rw [ho]; rfl) ?_
      refine ⟨_, rfl, b, _, 0, .str ds[i].n, rfl, rfl, SqT.of (sm' _ _ e2), atI_nat (j := 0) rfl, _, rfl, nl, _, rfl, .inl (.inl (.inl hnl')), rfl, flat_strs _, _, rfl, ?_⟩
      by_cases hm : ds[i].n ∈ nms (items ds ts) i
      · refine iteB ((inV_str _ _).trans (decide_eq_true hm)) ?_
        refine ⟨_, rfl, (by show 1 ≤ 1000; decide), fun e ne => ⟨e, CE, "InvalidShape", _, rfl, E0, upd_same, fun dx ndx nde => ⟨rfl, dx, [("name", .str "InvalidShape"), ("place", .int (i : Int))], ?_, upd_same, ?_, ?_⟩⟩⟩
        · rw [upd_ne nde.symm, upd_same]
        · rw [upd_ne nde] at ndx
          exact ndx
        · rw [upd_ne nde] at ndx
          exact qe i (rs fun z => ((gd_iff ein).mp z).2 hm) _ dx (same_err sm' ne ndx) (sm'.free ndx) upd_same
      refine iteBF ((inV_str _ _).trans (decide_eq_false hm)) ?_
      refine ⟨_, rfl, .inl ⟨rfl, _, .inl (.inl hnl')⟩, _, rfl, b, _, 0, .str ds[i].n, rfl, rfl, SqT.of (sm' _ _ e2), atI_nat (j := 0) rfl, nl, _, _, rfl, rfl, hnl', ?_, ?_⟩
      · rw [List.length_map, nms_len (by omega)]
        exact small1000 (by omega)
      · refine ⟨_, _, rfl, same_put sm' nn, ?_, fun j hj => ?_⟩
        · rw [upd_same, nms_succ ein, List.map_append]
          rfl
        · rcases Nat.lt_succ_iff_lt_or_eq.mp hj with z | z
          · exact hgd j z
          · subst z
            exact (gd_iff ein).mpr ⟨ho, hm⟩
    · rintro σ H3 ⟨y2, y3, rfl, sm, hnl, hgd⟩
      rw [lx] at hnl hgd
      refine ⟨_, rfl, a, C, dx, _, .ref ta, rfl, sm _ _ h1, S.cl, S.nA, rfl, ta, ys, rfl, SqT.of (sm _ _ h4), ?_⟩
      refine for_it (walk_enumT (xs := ys)) (fun i σ H4 => ∃ y2 y3 y4, σ = [some (.ref a), some (.ref nl), y2, y3, y4] ∧ Same H H4 ∧ H4 nl = some (.lst ((nms (items ds ts) (ds.length + i)).map V.str)) ∧ ∀ j < ds.length + i, gd (items ds ts) j)
        ⟨_, _, _, rfl, sm, hnl, hgd⟩ (fun i σ H3 hi => ?_) ?_ ?_
      · rintro ⟨y2, y3, y4, rfl, sm, _⟩
        exact SqT.of (sm _ _ h4)
      · rintro i x σ H3 H' hi ⟨y2, y3, y4, rfl, sm, hnl, hgd⟩ hY
        have hi2 : i < ts.length := by omega
        obtain ⟨b, e1, e2⟩ := h5.2 i ts[i].v (by rw [List.getElem?_map, List.getElem?_eq_getElem hi2]; rfl)
        have ein := items_t (ds := ds) hi2
        have hns : ts[i].n ∈ NS := (gts.2 _ (List.getElem_mem hi2)).1
        obtain ⟨Tp, x1, x2, rfl, nT, rfl, g1, g2⟩ := hY
        obtain rfl : x1 = .int (i : Int) := (Option.some.inj g1).symm
        obtain rfl : x2 = .ref b := Option.some.inj (g2.symm.trans e1)
        have s3 := same_new (o := .tup [V.int (i : Int), V.ref b]) nT
        have sm' := sm.trans s3
        have hnl' := s3 _ _ hnl
        refine ⟨Tp, _, rfl, .inl (.inl upd_same), rfl, _, _, rfl, _, _, rfl, rfl, ?_⟩
        refine ⟨_, rfl, b, ts[i], rfl, sm' _ _ e2, hns, okT ts[i], rfl, ?_⟩
        have rs : ¬gd (items ds ts) (ds.length + i) → IsRes ds ts (some (ds.length + i)) := fun z => .inr ⟨cnt, by omega, hgd, z⟩
        have ei : (xs.length : Int) + (i : Int) = ((ds.length + i : Nat) : Int) := by omega
        by_cases ho : okT ts[i] = true
        case neg =>
          refine iteB (by rw [Bool.eq_false_iff.mpr ho]; rfl) ?_
          refine ⟨_, rfl, a, C, dx, _, .ref td, rfl, sm' _ _ h1, S.cl, S.nD, rfl, td, xs, rfl, .inr (SqT.of (sm' _ _ h2)), _, rfl, _, _, rfl, rfl, (by show 1 ≤ 1000; decide), fun e ne => ⟨e, CE, "InvalidShape", _, rfl, E0, upd_same, fun dx ndx nde => ⟨rfl, dx, [("name", .str "InvalidShape"), ("place", .int ((xs.length : Int) + (i : Int)))], ?_, upd_same, ?_, ?_⟩⟩⟩
          · rw [upd_ne nde.symm, upd_same]
          · rw [upd_ne nde] at ndx
            exact ndx
          · rw [upd_ne nde] at ndx
            exact qe _ (rs fun z => ho ((gd_iff ein).mp z).1) _ dx (same_err sm' ne ndx) (sm'.free ndx) (by rw [upd_same]; unfold errD; rw [← ei])
        refine iteBF (by rw [ho]; rfl) ?_
        refine ⟨_, rfl, b, _, 0, .str ts[i].n, rfl, rfl, SqT.of (sm' _ _ e2), atI_nat (j := 0) rfl, _, rfl, nl, _, rfl, .inl (.inl (.inl hnl')), rfl, flat_strs _, _, rfl, ?_⟩
        by_cases hm : ts[i].n ∈ nms (items ds ts) (ds.length + i)
        · refine iteB ((inV_str _ _).trans (decide_eq_true hm)) ?_
          refine ⟨_, rfl, a, C, dx, _, .ref td, rfl, sm' _ _ h1, S.cl, S.nD, rfl, td, xs, rfl, .inr (SqT.of (sm' _ _ h2)), _, rfl, _, _, rfl, rfl, (by show 1 ≤ 1000; decide), fun e ne => ⟨e, CE, "InvalidShape", _, rfl, E0, upd_same, fun dx ndx nde => ⟨rfl, dx, [("name", .str "InvalidShape"), ("place", .int ((xs.length : Int) + (i : Int)))], ?_, upd_same, ?_, ?_⟩⟩⟩
          · rw [upd_ne nde.symm, upd_same]
          · rw [upd_ne nde] at ndx
            exact ndx
          · rw [upd_ne nde] at ndx
            exact qe _ (rs fun z => ((gd_iff ein).mp z).2 hm) _ dx (same_err sm' ne ndx) (sm'.free ndx) (by rw [upd_same]; unfold errD; rw [← ei])
        refine iteBF ((inV_str _ _).trans (decide_eq_false hm)) ?_
        refine ⟨_, rfl, .inl ⟨rfl, _, .inl (.inl hnl')⟩, _, rfl, b, _, 0, .str ts[i].n, rfl, rfl, SqT.of (sm' _ _ e2), atI_nat (j := 0) rfl, nl, _, _, rfl, rfl, hnl', ?_, ?_⟩
        · rw [List.length_map, nms_len (by omega)]
          exact small1000 (by omega)
        · refine ⟨_, _, _, rfl, same_put sm' nn, ?_, fun j hj => ?_⟩
          · rw [upd_same, ← Nat.add_assoc, nms_succ ein, List.map_append]
            rfl
          · rcases Nat.lt_succ_iff_lt_or_eq.mp (show j < (ds.length + i) + 1 by omega) with z | z
            · exact hgd j z
            · subst z
              exact (gd_iff ein).mpr ⟨ho, hm⟩
      · rintro σ H4 ⟨y2, y3, y4, rfl, sm, hnl, hgd⟩
        rw [ly] at hgd
        exact q ⟨cnt, fun j hj => hgd j (by rw [items_len] at hj; exact hj)⟩ _ sm
/-! ### _law_told -/
structure ToldT (K : PySem.W.Frag) (mg : Str → Option Value) (C CM CC : Addr) : Prop where
  gC : mg "InvalidShape" = some (.ref C)
  gM : mg "ManysidesError" = some (.ref CM)
  gX : mg "InvalidCell" = some (.ref CC)
  ex : PySem.W.exmOne K (.ref C) (.ref CM) = some true
  k1 : PySem.W.kitOne K (.ref C) (.ref C) = some true
  k2 : PySem.W.kitOne K (.ref C) (.ref CC) = some false
  k3 : PySem.W.kitOne K (.ref C) (.type "ValueError") = some true
def spTold (C : Addr) : Sp := fun vs H Q _ => ∃ (a : Addr) (ds : List D) (ts : List T), vs = [.ref a] ∧ ShapeAt H C a ds ts ∧ GoodD ds ∧ GoodT ts ∧ ∀ r, IsRes ds ts r → ∀ H', Same H H' → Q (optV r) H'
theorem scTold : FnScope ["shape", "error"] ["shape"] (defScope sLTold) := ⟨rfl, rfl, rfl, by decide +kernel, rfl, by decide +kernel, by decide +kernel⟩
theorem ok_told {f fK C CE CM CC fI : Addr} {fd fdK : FuncData} (F : Fun K "_law_told" "_law_told" sLTold f fd) (N : Nm K mg) (kK : PySem.W.keepIn K (.ref fK) = true) (bK : Binds K fdK ["shape"] []) (gK : mg "check_shape" = some (.ref fK))
    (GK : FnOk P w K mg base (L2.CX P w) 3 fK fdK ["shape"] (spCheck K C CE)) (E : ErrC K CE fI "InvalidShape") (T : ToldT K mg CE CM CC) : FnOk P w K mg base CX0 4 f fd ["shape"] (spTold C) := by
  refine F.ok scTold (fun vs H Q E h => ?_) (fun cdv A outer s H vs Q Ex hr h => ?_)
  · obtain ⟨a, ds, ts, rfl, _⟩ := h
    rfl
  · obtain ⟨a, ds, ts, rfl, hS, gds, gts, q⟩ := h
    refine ⟨_, pss_one (ps_try_as (i := 1) (Wout := fun _ _ _ _ => False) rfl rfl scTold.nd rfl rfl ⟨rfl, by decide, Or.inl T.gM⟩ takes0
      (fun W pn xe tk _ => pss_one (ps_ret (pe_callS GK hr (by rfl) gK kK bK (fun σ => passAt tk σ) (pa_cons (pv 0) pa_nil))))
      (fun a oe cls d pn hz hf => pss_cons (ps_if (PW.pt (pw_or (pt_not (pt_val (pe_callB (call_isE2 E.ec hz hf) (by rfl) N.isinstance (by decide +kernel) (pa_cons (pv 1) (pa_cons (pe_glob (v := .ref CE) (by rfl) T.gC rfl) pa_nil)))))
          (pw_or (pt_val (pe_callB (call_isE2 E.ec hz hf) (by rfl) N.isinstance (by decide +kernel) (pa_cons (pv 1) (pa_cons (pe_glob (v := .ref CC) (by rfl) T.gX rfl) pa_nil))))
            (pw_or1 (pt_not (pt_val (pe_callB (call_isE2 E.ec hz hf) (by rfl) N.isinstance (by decide +kernel) (pa_cons (pv 1) (pa_cons (pe_bltn (v := .ty "ValueError") (by rfl) N.ve (by decide +kernel) rfl) pa_nil)))))))))
          (pss_one (ps_ret (pe_un un_neg pe_int))) pss_nil)
        (pss_cons (ps_if (pt_cmpR op_ne (pe_xf E.xf E.noN hz hf (pv 1)) pe_str (nomark _)) (pss_one (ps_ret (pe_un un_neg pe_int))) pss_nil)
        (pss_one (ps_ret (pe_xf E.xf E.noP hz hf (pv 1))))))), ?_⟩
    refine ⟨_, rfl, a, ds, ts, rfl, hS, gds, gts, fun h H' sm => q none h H' sm, fun i hb H' d sm nd hd => ?_⟩
    refine ⟨true, T.ex, fun _ e0 ne => ?_, fun z => Bool.noConfusion z⟩
    have ref1 : ∀ (D : Addr) (u : Value), RelV (.ref D) u → u = .ref D := fun D u h => h
    refine ⟨_, rfl, _, .ref CE, true, d, _, rfl, rfl, rfl, hd, ref1 CE, T.k1, true, rfl, iteF ?_⟩
    refine ⟨_, rfl, _, .ref CC, false, d, _, rfl, rfl, rfl, hd, ref1 CC, T.k2, false, rfl, iteF ?_⟩
    refine ⟨_, rfl, _, .type "ValueError", true, d, _, rfl, rfl, rfl, hd, (fun u h => h), T.k3, true, rfl, iteF ?_⟩
    refine ⟨_, rfl, rfl, rfl, d, _, .str "InvalidShape", rfl, hd, (by rw [lookup_put, if_pos rfl]), rfl, _, rfl, iteBF (by rw [decide_eq_true rfl]; rfl) ?_⟩
    refine ⟨_, rfl, rfl, rfl, d, _, .int (i : Int), rfl, hd, (by rw [lookup_put, if_neg (by decide +kernel), lookup_put, if_pos rfl]), ?_⟩
    exact q (some i) hb _ sm
end
end K2

namespace K2
open PySem L2
section
variable {P : Program} {w : World} {K : PySem.W.Frag} {mg : Str → Option Value} {base : Heap}
def spLSimple : Sp := fun vs H Q _ => ∃ z : Str, vs = [.str z] ∧ z ∈ NS ∧ Q (.bl (simp z)) H
theorem scLSimple : FnScope ["text", "letters", "sign"] ["text"] (defScope sLSimple) := ⟨rfl, rfl, rfl, by decide +kernel, rfl, by decide +kernel, by decide +kernel⟩
theorem ok_lsimple {f : Addr} {fd : FuncData} (F : Fun K "_law_simple" "_law_simple" sLSimple f fd) (N : Nm K mg) : FnOk P w K mg base CX0 1 f fd ["text"] spLSimple := by
  refine F.ok scLSimple (fun vs H Q E h => ?_) (fun cdv A outer s H vs Q E hr h => ?_)
  · obtain ⟨z, rfl, _⟩ := h
    rfl
  · obtain ⟨z, rfl, hz, q⟩ := h
    have hl := name_len z hz
    have hz2 : z.length ≤ sizeLine := Nat.le_trans hl (by decide)
    rw [← simp_tab z hz] at q
    unfold lsim at q
    refine ⟨_, pss_cons (ps_set (i := 1) scLSimple.nd rfl (.inl rfl) pe_str)
      (pss_cons (ps_if (PW.pt (pw_or (pt_cmpR op_lt (pe_callB call_len_str (by rfl) N.len PySem.boot_len (pa_cons (pv 0) pa_nil)) pe_int (nomark _))
          (pw_or (pt_cmpR op_gt (pe_callB call_len_str (by rfl) N.len PySem.boot_len (pa_cons (pv 0) pa_nil)) pe_int (nomark _))
            (pw_or1 (pt_cmpR op_notInS (pe_ix ix_str (pv 0) pe_int (fun _ _ => rfl)) (pv 1) (by rfl)))))) (pss_one (ps_ret pe_bl)) pss_nil)
      (pss_cons (ps_for PassesOwn.never rfl (pi_str (pv 0)) (pg_name (i := 2) scLSimple.nd rfl (.inl rfl))
        (pss_one (ps_if (pt_cmpR op_notInS (pv 2) (pe_op op_add_str (pv 1) pe_str) (by rfl)) (pss_one (ps_ret pe_bl)) pss_nil)))
      (pss_one (ps_ret pe_bl)))), ?_⟩
    refine ⟨_, rfl, z, rfl, hz2, (z.length : Int), 1, rfl, rfl, _, rfl, ?_⟩
    cases c1 : decide ((z.length : Int) < 1)
    case true =>
      rw [c1] at q
      exact iteT (iteT q)
    rw [c1, Bool.false_or] at q
    refine iteF ⟨_, rfl, z, rfl, hz2, (z.length : Int), 30, rfl, rfl, _, rfl, ?_⟩
    cases c2 : decide (30 < (z.length : Int))
    case true =>
      rw [c2] at q
      exact iteT (iteT q)
    rw [c2, Bool.false_or] at q
    have c1' := of_decide_eq_false c1
    refine iteF ⟨_, rfl, z, 0, hd0 z, rfl, rfl, hz2, hd_at (by omega), _, rfl, hd0 z, LET, rfl, rfl, _, rfl, ?_⟩
    cases c3 : decide (hd0 z ∈ LET.cps.toList)
    case false =>
      rw [c3] at q
      exact iteT q
    rw [c3] at q
    refine iteF ⟨_, rfl, z, rfl, ?_⟩
    have q2 : Q (.bl (z.cps.toList.all fun c => decide (c ∈ (LET ++ DIG).cps.toList))) H := q
    refine for_it walk_str (fun i σ H3 => ∃ y2, σ = [some (.str z), some (.str LET), y2] ∧ H3 = H ∧ ∀ j < i, ∀ c, z.cps[j]? = some c → c ∈ (LET ++ DIG).cps.toList) ⟨_, rfl, rfl, fun j h => absurd h (Nat.not_lt_zero _)⟩ (fun _ _ _ _ _ => True.intro) ?_ ?_
    · rintro i x σ H3 H' hi ⟨y2, rfl, rfl, hall⟩ ⟨rfl, c, hc, rfl⟩
      refine ⟨_, rfl, _, rfl, LET, DIG, rfl, rfl, (by decide +kernel), c, LET ++ DIG, rfl, rfl, _, rfl, ?_⟩
      by_cases e : c ∈ (LET ++ DIG).cps.toList
      · refine iteBF (by rw [decide_eq_true e]; rfl) ⟨_, rfl, rfl, fun j hj c' hc' => ?_⟩
        rcases Nat.lt_succ_iff_lt_or_eq.mp hj with h | h
        · exact hall j h c' hc'
        · subst h
          rw [hc] at hc'
          rw [← Option.some.inj hc']
          exact e
      · refine iteB (by rw [decide_eq_false e]; rfl) ?_
        have e2 : (z.cps.toList.all fun c => decide (c ∈ (LET ++ DIG).cps.toList)) = false := by
          rw [Bool.eq_false_iff]
          intro h
          rw [List.all_eq_true] at h
          have hm : c ∈ z.cps.toList := by
            have : z.cps.toList[i]? = some c := by simpa using hc
            exact List.mem_of_getElem? this
          exact e (of_decide_eq_true (h c hm))
        rw [e2] at q2
        exact q2
    · rintro σ H3 ⟨y2, rfl, rfl, hall⟩
      have e2 : (z.cps.toList.all fun c => decide (c ∈ (LET ++ DIG).cps.toList)) = true := by
        rw [List.all_eq_true]
        intro c hc
        obtain ⟨j, hj⟩ := List.mem_iff_getElem?.mp hc
        have hj2 : z.cps[j]? = some c := by simpa using hj
        have : j < z.cps.size := (Array.getElem?_eq_some_iff.mp hj2).1
        exact decide_eq_true (hall j this c hj2)
      rw [e2] at q2
      exact q2
def spLName : Sp := fun vs H Q _ => ∃ (d l : Addr), vs = [.ref d] ∧ StAt H d l ∧ ∀ H' z, z ∈ LN → Kp d l H H' → Q (.str z) H'
theorem scLName : FnScope ["state"] ["state"] (defScope sLName) := ⟨rfl, rfl, rfl, by decide +kernel, rfl, by decide +kernel, by decide +kernel⟩
theorem ok_lname {f fN : Addr} {fd fdN : FuncData} (F : Fun K "_law_name" "_law_name" sLName f fd) (N : Nm K mg) (FN : Fun K "_law_next" "_law_next" sNext fN fdN) (bN : Binds K fdN ["state", "bound"] []) (gN : mg "_law_next" = some (.ref fN)) :
    FnOk P w K mg base CX0 2 f fd ["state"] spLName := by
  have GN : FnOk P w K mg base CX0 1 fN fdN ["state", "bound"] spNext := ok_next FN N.int N.len
  refine F.ok scLName (fun vs H Q E h => ?_) (fun cdv A outer s H vs Q E hr h => ?_)
  · obtain ⟨d, l, rfl, _⟩ := h
    rfl
  · obtain ⟨d, l, rfl, S, q⟩ := h
    refine ⟨_, pss_one (ps_ret (pe_ix ix_list (pe_lst (pa_cons pe_str (pa_cons pe_str (pa_cons pe_str (pa_cons pe_str (pa_cons pe_str (pa_cons pe_str (pa_cons (pe_op op_mul_str pe_str pe_int) (pa_cons (pe_op op_mul_str pe_str pe_int)
      (pa_cons pe_str (pa_cons pe_str (pa_cons pe_str (pa_cons pe_str pa_nil))))))))))))) (pe_call GN hr (by rfl) gN FN.kp bN .nil pass0 (pa_cons (pv 0) (pa_cons pe_int pa_nil))) (fun _ _ => rfl))), ?_⟩
    refine ⟨"a", 30, rfl, rfl, mul_may (by decide) (by decide) (by decide +kernel), "a", 31, rfl, rfl, mul_may (by decide) (by decide) (by decide +kernel), (by show 12 ≤ sizeLine; decide), fun o no => ?_⟩
    refine ⟨_, rfl, d, l, 12, rfl, S.same (same_new no), by decide, fun H' n n0 n1 kp => ?_⟩
    have ho : H' o = some (.lst (LN.map V.str)) := kp.keep _ _ upd_same (S.nd no).1
    obtain ⟨j, ej⟩ : ∃ j : Nat, n = (j : Int) := ⟨_, (Int.toNat_of_nonneg n0).symm⟩
    have hj : j < LN.length := by
      have : LN.length = 12 := rfl
      omega
    refine ⟨o, _, _, _, rfl, rfl, .inl (.inl ho), at_of ej (by rw [List.getElem?_map, List.getElem?_eq_getElem hj]; rfl), ?_⟩
    exact q _ _ (List.getElem_mem hj) (Kp.pre (same_new no) kp)
def spLIndex (K : PySem.W.Frag) : Sp := fun vs H Q _ => ∃ (a : Addr) (n : Str) (xs : List V) (rs : List (List V)) (ns : List Str), vs = [.ref a, .str n] ∧ SqL K H a xs ∧ xs.length ≤ 1000 ∧ Rows H xs rs ∧ Heads rs ns ∧ ∀ r, IsIdx ns n r → Q (optV r) H
theorem scLIndex : FnScope ["rows", "name", "k"] ["rows", "name"] (defScope sLIndex) := ⟨rfl, rfl, rfl, by decide +kernel, rfl, by decide +kernel, by decide +kernel⟩
theorem ok_lindex {f : Addr} {fd : FuncData} (F : Fun K "_law_index" "_law_index" sLIndex f fd) (N : Nm K mg) : FnOk P w K mg base CX0 1 f fd ["rows", "name"] (spLIndex K) := by
  refine F.ok scLIndex (fun vs H Q E h => ?_) (fun cdv A outer s H vs Q E hr h => ?_)
  · obtain ⟨a, n, xs, rs, ns, rfl, _⟩ := h
    rfl
  · obtain ⟨a, n, xs, rs, ns, rfl, ha, hl, hR, hN, q⟩ := h
    refine ⟨_, pss_cons (ps_for PassesOwn.never rfl (pi_range1 (by rfl) N.range (pa_cons (pe_callB call_len_seq (by rfl) N.len PySem.boot_len (pa_cons (pv 0) pa_nil)) pa_nil)) (pg_name (i := 2) scLIndex.nd rfl (.inl rfl))
        (pss_one (ps_if (pt_cmpR op_eq (pe_ix ix_tup (pe_ix ix_list (pv 0) (pv 2) (fun _ _ => rfl)) pe_int (fun _ _ => rfl)) (pv 1) (nomark _)) (pss_one (ps_ret (pv 2))) pss_nil)))
      (pss_one (ps_ret pe_non)), ?_⟩
    refine ⟨_, rfl, a, xs, rfl, .inl ha, _, rfl, by omega, by omega, ?_⟩
    refine for_range (lo := 0) (n := ((xs.length : Int)).toNat) (fun i σ H3 => ∃ y2, σ = [some (.ref a), some (.str n), y2] ∧ H3 = H ∧ ∀ j < i, ns[j]? ≠ some n) ⟨_, rfl, rfl, fun j h => absurd h (Nat.not_lt_zero _)⟩ ?_ ?_
    · rintro i σ H3 hi ⟨y2, rfl, rfl, hno⟩
      have hi2 : i < xs.length := by omega
      obtain ⟨b, m, t, e1, e2, e3⟩ := row_at hR hN hi2
      refine ⟨_, rfl, _, rfl, a, xs, _, .ref b, rfl, rfl, ha, at_of (Int.zero_add _) e1, b, _, 0, .str m, rfl, rfl, SqT.of e2, atI_nat (j := 0) rfl, _, rfl, rfl, _, rfl, ?_⟩
      rw [str_eq]
      by_cases e : m = n
      · subst e
        refine iteB (decide_eq_true rfl) ⟨_, rfl, ?_⟩
        have := q (some i) ⟨e3, hno⟩
        rw [Int.zero_add]
        exact this
      · refine iteBF (decide_eq_false e) ⟨_, rfl, rfl, fun j hj => ?_⟩
        rcases Nat.lt_succ_iff_lt_or_eq.mp hj with h | h
        · exact hno j h
        · subst h
          rw [e3]
          exact fun z => e (Option.some.inj z)
    · rintro σ H3 ⟨y2, rfl, rfl, hno⟩
      refine q none (fun hm => ?_)
      obtain ⟨j, hj⟩ := List.mem_iff_getElem?.mp hm
      have h1 : j < ns.length := (List.getElem?_eq_some_iff.mp hj).1
      exact hno j (by rw [← hN.1, ← hR.1] at h1; omega) hj
end
end K2

namespace K2
open PySem L2
theorem okD_iff (d : D) : okD d = true ↔ simp d.n = true ∧ -1000000 ≤ d.l ∧ d.l ≤ d.h ∧ d.h ≤ 1000000 ∧ 1 ≤ d.s ∧ d.s ≤ 1000000 := by
  unfold okD
  rw [Bool.and_eq_true, Bool.and_eq_true, Bool.and_eq_true, Bool.and_eq_true, Bool.and_eq_true, decide_eq_true_eq, decide_eq_true_eq, decide_eq_true_eq, decide_eq_true_eq, decide_eq_true_eq]
  constructor
  · rintro ⟨⟨a, ⟨b, c⟩, e⟩, f, g⟩
    exact ⟨a, b, c, e, f, g⟩
  · rintro ⟨a, b, c, e, f, g⟩
    exact ⟨⟨a, ⟨b, c⟩, e⟩, f, g⟩
theorem okT_iff (t : T) : okT t = true ↔ simp t.n = true ∧ t.k ∈ KS := by
  unfold okT
  rw [Bool.and_eq_true, decide_eq_true_eq]
section
variable {P : Program} {w : World} {K : PySem.W.Frag} {mg : Str → Option Value} {base : Heap}
def spDue (K : PySem.W.Frag) : Sp := fun vs H Q _ => ∃ (a b : Addr) (ds : List D) (ts : List T) (xs ys : List V), vs = [.ref a, .ref b] ∧ SqL K H a xs ∧ SqL K H b ys ∧ Rows H xs (ds.map D.v) ∧ Rows H ys (ts.map T.v) ∧ GoodD ds ∧ GoodT ts ∧
  ∀ r, IsRes ds ts r → ∀ H', Same H H' → Q (optV r) H'
theorem scDue : FnScope ["dims", "attrs", "names", "name", "low", "high", "step", "kind"] ["dims", "attrs"] (defScope sLDue) := ⟨rfl, rfl, rfl, by decide +kernel, rfl, by decide +kernel, by decide +kernel⟩
theorem ok_due {f fS : Addr} {fd fdS : FuncData} (F : Fun K "_law_due" "_law_due" sLDue f fd) (N : Nm K mg) (FS : Fun K "_law_simple" "_law_simple" sLSimple fS fdS) (bS : Binds K fdS ["text"] []) (gS : mg "_law_simple" = some (.ref fS)) :
    FnOk P w K mg base CX0 2 f fd ["dims", "attrs"] (spDue K) := by
  have GS : FnOk P w K mg base CX0 1 fS fdS ["text"] spLSimple := ok_lsimple FS N
  refine F.ok scDue (fun vs H Q E h => ?_) (fun cdv A outer s H vs Q E hr h => ?_)
  · obtain ⟨a, b, ds, ts, xs, ys, rfl, _⟩ := h
    rfl
  · obtain ⟨a, b, ds, ts, xs, ys, rfl, h2, h4, h3, h5, gds, gts, q⟩ := h
    refine ⟨_, pss_cons (ps_if (PW.pt (pw_or (pt_cmpR op_lt (pe_callB call_len_seq (by rfl) N.len PySem.boot_len (pa_cons (pv 0) pa_nil)) pe_int (nomark _))
          (pw_or (pt_cmpR op_gt (pe_callB call_len_seq (by rfl) N.len PySem.boot_len (pa_cons (pv 0) pa_nil)) pe_int (nomark _))
          (pw_or (pt_cmpR op_lt (pe_callB call_len_seq (by rfl) N.len PySem.boot_len (pa_cons (pv 1) pa_nil)) pe_int (nomark _))
          (pw_or1 (pt_cmpR op_gt (pe_callB call_len_seq (by rfl) N.len PySem.boot_len (pa_cons (pv 1) pa_nil)) pe_int (nomark _))))))) (pss_one (ps_ret pe_int)) pss_nil)
      (pss_cons (ps_set (i := 2) scDue.nd rfl (.inl rfl) (pe_lst pa_nil))
      (pss_cons (ps_for PassesOwn.never rfl (pi_list (pv 0)) (pg_tup (by rfl) (pgs_cons (pg_name (i := 3) scDue.nd rfl (.inl rfl)) (pgs_cons (pg_name (i := 4) scDue.nd rfl (.inl rfl)) (pgs_cons (pg_name (i := 5) scDue.nd rfl (.inl rfl)) (pgs_cons (pg_name (i := 6) scDue.nd rfl (.inl rfl)) pgs_nil)))))
        (pss_cons (ps_if (PW.pt (pw_or (pt_not (pt_val (pe_call GS hr (by rfl) gS FS.kp bS .nil pass0 (pa_cons (pv 3) pa_nil))))
            (pw_or (pt_cmpR op_in_seq (pv 3) (pv 2) (by rfl))
            (pw_or (pt_cmpR op_lt (pv 4) (pe_un un_neg pe_int) (nomark _))
            (pw_or (pt_cmpR op_gt (pv 5) pe_int (nomark _))
            (pw_or (pt_cmpR op_gt (pv 4) (pv 5) (nomark _))
            (pw_or (pt_cmpR op_lt (pv 6) pe_int (nomark _))
            (pw_or1 (pt_cmpR op_gt (pv 6) pe_int (nomark _)))))))))) (pss_one (ps_ret (pe_callB call_len_seq (by rfl) N.len PySem.boot_len (pa_cons (pv 2) pa_nil)))) pss_nil)
          (pss_one (ps_expr (pe_bm PySem.F.plainAttrs_list PySem.F.slot_list_append PySem.F.type_list_append mt_append (pv 2) (pa_cons (pv 3) pa_nil))))))
      (pss_cons (ps_for PassesOwn.never rfl (pi_list (pv 1)) (pg_tup (by rfl) (pgs_cons (pg_name (i := 3) scDue.nd rfl (.inl rfl)) (pgs_cons (pg_name (i := 7) scDue.nd rfl (.inl rfl)) pgs_nil)))
        (pss_cons (ps_if (PW.pt (pw_or (pt_not (pt_val (pe_call GS hr (by rfl) gS FS.kp bS .nil pass0 (pa_cons (pv 3) pa_nil))))
            (pw_or (pt_cmpR op_in_seq (pv 3) (pv 2) (by rfl))
            (pw_or1 (pt_cmpR op_notIn_seq (pv 7) (pe_lst (pa_cons pe_str (pa_cons pe_str (pa_cons pe_str pa_nil)))) (by rfl)))))) (pss_one (ps_ret (pe_callB call_len_seq (by rfl) N.len PySem.boot_len (pa_cons (pv 2) pa_nil)))) pss_nil)
          (pss_one (ps_expr (pe_bm PySem.F.plainAttrs_list PySem.F.slot_list_append PySem.F.type_list_append mt_append (pv 2) (pa_cons (pv 3) pa_nil))))))
      (pss_one (ps_ret pe_non))))), ?_⟩
    have lx : xs.length = ds.length := by rw [h3.1, List.length_map]
    have ly : ys.length = ts.length := by rw [h5.1, List.length_map]
    have q0 : ¬Cnt ds ts → Q (.int 0) H := fun z => q (some 0) (.inl ⟨z, rfl⟩) H (Same.refl _)
    refine ⟨_, rfl, a, xs, rfl, .inl h2, (xs.length : Int), 1, rfl, rfl, _, rfl, ?_⟩
    by_cases c1 : (xs.length : Int) < 1
    · exact iteB (decide_eq_true c1) (q0 fun z => by have := z.1.1; omega)
    refine iteBF (decide_eq_false c1) ⟨_, rfl, a, xs, rfl, .inl h2, (xs.length : Int), 6, rfl, rfl, _, rfl, ?_⟩
    by_cases c2 : 6 < (xs.length : Int)
    · exact iteB (decide_eq_true c2) (q0 fun z => by have := z.1.2; omega)
    refine iteBF (decide_eq_false c2) ⟨_, rfl, b, ys, rfl, .inl h4, (ys.length : Int), 1, rfl, rfl, _, rfl, ?_⟩
    by_cases c3 : (ys.length : Int) < 1
    · exact iteB (decide_eq_true c3) (q0 fun z => by have := z.2.1; omega)
    refine iteBF (decide_eq_false c3) ⟨_, rfl, b, ys, rfl, .inl h4, (ys.length : Int), 16, rfl, rfl, _, rfl, ?_⟩
    by_cases c4 : 16 < (ys.length : Int)
    · exact iteB (decide_eq_true c4) (q0 fun z => by have := z.2.2; omega)
    refine iteBF (decide_eq_false c4) ?_
    have cnt : Cnt ds ts := ⟨⟨by omega, by omega⟩, by omega, by omega⟩
    refine ⟨Nat.zero_le _, fun nl nn => ?_⟩
    refine ⟨_, rfl, a, rfl, ⟨_, (same_new nn).seq h2⟩, for_list (xs := xs) (fun i σ H3 => ∃ y3 y4 y5 y6, σ = [some (.ref a), some (.ref b), some (.ref nl), y3, y4, y5, y6, none] ∧ Same H H3 ∧ H3 nl = some (.lst ((nms (items ds ts) i).map V.str)) ∧ ∀ j < i, gd (items ds ts) j) ?_ ?_ ?_ ?_⟩
    · exact ⟨_, _, _, _, rfl, same_new nn, upd_same, fun j h => absurd h (Nat.not_lt_zero _)⟩
    · rintro i σ H3 hi ⟨y3, y4, y5, y6, rfl, sm, _⟩
      exact sm.seq h2
    · rintro i x σ H3 hx ⟨y3, y4, y5, y6, rfl, sm, hnl, hgd⟩
      have hi : i < xs.length := (List.getElem?_eq_some_iff.mp hx).1
      have hi2 : i < ds.length := by omega
      obtain ⟨c, e1, e2⟩ := h3.2 i ds[i].v (by rw [List.getElem?_map, List.getElem?_eq_getElem hi2]; rfl)
      obtain rfl : x = .ref c := Option.some.inj (hx.symm.trans e1)
      have ein := items_d (ts := ts) hi2
      have hns : ds[i].n ∈ NS := gds.2 _ (List.getElem_mem hi2)
      have ll : (((nms (items ds ts) i).map V.str).length : Int) = (i : Int) := by rw [List.length_map, nms_len (by rw [items_len]; omega)]
      have RT : ¬gd (items ds ts) i → Q (.int (((nms (items ds ts) i).map V.str).length : Int)) H3 := fun z => by
        rw [ll]
        exact q (some i) (.inr ⟨cnt, by rw [items_len]; omega, hgd, z⟩) _ sm
      have gi := gd_iff ein
      have oi := okD_iff ds[i]
      have snl : SqL K H3 nl _ := .inl (.inl hnl)
      refine ⟨c, _, rfl, SqT.of (sm _ _ e2), rfl, _, _, rfl, _, _, rfl, _, _, rfl, _, _, rfl, rfl, ?_⟩
      refine ⟨_, rfl, ds[i].n, rfl, hns, _, rfl, ?_⟩
      by_cases t1 : simp ds[i].n = true
      case neg => exact iteB (by rw [Bool.eq_false_iff.mpr t1]; rfl) ⟨_, rfl, nl, _, rfl, .inl snl, RT fun z => t1 (oi.mp (gi.mp z).1).1⟩
      refine iteBF (by rw [t1]; rfl) ⟨_, rfl, _, rfl, nl, _, rfl, .inl snl, rfl, flat_strs _, _, rfl, ?_⟩
      by_cases t2 : ds[i].n ∈ nms (items ds ts) i
      · exact iteB ((inV_str _ _).trans (decide_eq_true t2)) ⟨_, rfl, nl, _, rfl, .inl snl, RT fun z => (gi.mp z).2 t2⟩
      refine iteBF ((inV_str _ _).trans (decide_eq_false t2)) ⟨_, rfl, 1000000, rfl, ds[i].l, -1000000, rfl, rfl, _, rfl, ?_⟩
      by_cases t3 : ds[i].l < -1000000
      · exact iteB (decide_eq_true t3) ⟨_, rfl, nl, _, rfl, .inl snl, RT fun z => by have := (oi.mp (gi.mp z).1).2.1; omega⟩
      refine iteBF (decide_eq_false t3) ⟨_, rfl, ds[i].h, 1000000, rfl, rfl, _, rfl, ?_⟩
      by_cases t4 : 1000000 < ds[i].h
      · exact iteB (decide_eq_true t4) ⟨_, rfl, nl, _, rfl, .inl snl, RT fun z => by have := (oi.mp (gi.mp z).1).2.2.2.1; omega⟩
      refine iteBF (decide_eq_false t4) ⟨_, rfl, _, rfl, ds[i].l, ds[i].h, rfl, rfl, _, rfl, ?_⟩
      by_cases t5 : ds[i].h < ds[i].l
      · exact iteB (decide_eq_true t5) ⟨_, rfl, nl, _, rfl, .inl snl, RT fun z => by have := (oi.mp (gi.mp z).1).2.2.1; omega⟩
      refine iteBF (decide_eq_false t5) ⟨_, rfl, ds[i].s, 1, rfl, rfl, _, rfl, ?_⟩
      by_cases t6 : ds[i].s < 1
      · exact iteB (decide_eq_true t6) ⟨_, rfl, nl, _, rfl, .inl snl, RT fun z => by have := (oi.mp (gi.mp z).1).2.2.2.2.1; omega⟩
      refine iteBF (decide_eq_false t6) ⟨_, rfl, ds[i].s, 1000000, rfl, rfl, _, rfl, ?_⟩
      by_cases t7 : 1000000 < ds[i].s
      · exact iteB (decide_eq_true t7) ⟨_, rfl, nl, _, rfl, .inl snl, RT fun z => by have := (oi.mp (gi.mp z).1).2.2.2.2.2; omega⟩
      refine iteBF (decide_eq_false t7) ⟨_, rfl, .inl ⟨rfl, _, snl⟩, _, rfl, nl, _, _, rfl, rfl, hnl, ?_, ?_⟩
      · rw [List.length_map, nms_len (by rw [items_len]; omega)]
        exact small1000 (by omega)
      · refine ⟨_, _, _, _, rfl, same_put sm nn, ?_, fun j hj => ?_⟩
        · rw [upd_same, nms_succ ein, List.map_append]
          rfl
        · rcases Nat.lt_succ_iff_lt_or_eq.mp hj with z | z
          · exact hgd j z
          · subst z
            exact gi.mpr ⟨oi.mpr ⟨t1, by omega, by omega, by omega, by omega, by omega⟩, t2⟩
    · rintro σ H3 ⟨y3, y4, y5, y6, rfl, sm, hnl, hgd⟩
      rw [lx] at hnl hgd
      refine ⟨_, rfl, b, rfl, ⟨_, sm.seq h4⟩, for_list (xs := ys) (fun i σ H4 => ∃ y3 y4 y5 y6 y7, σ = [some (.ref a), some (.ref b), some (.ref nl), y3, y4, y5, y6, y7] ∧ Same H H4 ∧ H4 nl = some (.lst ((nms (items ds ts) (ds.length + i)).map V.str)) ∧ ∀ j < ds.length + i, gd (items ds ts) j) ?_ ?_ ?_ ?_⟩
      · exact ⟨_, _, _, _, _, rfl, sm, hnl, hgd⟩
      · rintro i σ H3 hi ⟨y3, y4, y5, y6, y7, rfl, sm, _⟩
        exact sm.seq h4
      · rintro i x σ H3 hx ⟨y3, y4, y5, y6, y7, rfl, sm, hnl, hgd⟩
        have hi : i < ys.length := (List.getElem?_eq_some_iff.mp hx).1
        have hi2 : i < ts.length := by omega
        obtain ⟨c, e1, e2⟩ := h5.2 i ts[i].v (by rw [List.getElem?_map, List.getElem?_eq_getElem hi2]; rfl)
        obtain rfl : x = .ref c := Option.some.inj (hx.symm.trans e1)
        have ein := items_t (ds := ds) hi2
        have hns : ts[i].n ∈ NS := (gts.2 _ (List.getElem_mem hi2)).1
        have ll : (((nms (items ds ts) (ds.length + i)).map V.str).length : Int) = ((ds.length + i : Nat) : Int) := by rw [List.length_map, nms_len (by rw [items_len]; omega)]
        have RT : ∀ H4, Same H H4 → ¬gd (items ds ts) (ds.length + i) → Q (.int (((nms (items ds ts) (ds.length + i)).map V.str).length : Int)) H4 := fun H4 s4 z => by
          rw [ll]
          exact q (some (ds.length + i)) (.inr ⟨cnt, by rw [items_len]; omega, hgd, z⟩) _ s4
        have gi := gd_iff ein
        have oi := okT_iff ts[i]
        have snl : SqL K H3 nl _ := .inl (.inl hnl)
        refine ⟨c, _, rfl, SqT.of (sm _ _ e2), rfl, _, _, rfl, _, _, rfl, rfl, ?_⟩
        refine ⟨_, rfl, ts[i].n, rfl, hns, _, rfl, ?_⟩
        by_cases t1 : simp ts[i].n = true
        case neg => exact iteB (by rw [Bool.eq_false_iff.mpr t1]; rfl) ⟨_, rfl, nl, _, rfl, .inl snl, RT _ sm fun z => t1 (oi.mp (gi.mp z).1).1⟩
        refine iteBF (by rw [t1]; rfl) ⟨_, rfl, _, rfl, nl, _, rfl, .inl snl, rfl, flat_strs _, _, rfl, ?_⟩
        by_cases t2 : ts[i].n ∈ nms (items ds ts) (ds.length + i)
        · exact iteB ((inV_str _ _).trans (decide_eq_true t2)) ⟨_, rfl, nl, _, rfl, .inl snl, RT _ sm fun z => (gi.mp z).2 t2⟩
        refine iteBF ((inV_str _ _).trans (decide_eq_false t2)) ⟨_, rfl, (by show 3 ≤ sizeLine; decide), fun o no => ?_⟩
        have s4 := sm.trans (same_new (o := .lst [V.str "int", V.str "flag", V.str "text"]) no)
        have hnl4 : (upd H3 o (.lst [V.str "int", V.str "flag", V.str "text"])) nl = _ := same_new no _ _ hnl
        have snl4 : SqL K (upd H3 o (.lst [V.str "int", V.str "flag", V.str "text"])) nl _ := .inl (.inl hnl4)
        refine ⟨o, _, rfl, .inl (.inl (.inl upd_same)), rfl, flat_strs KS, _, rfl, ?_⟩
        by_cases t3 : ts[i].k ∈ KS
        case neg => exact iteB (by show (!inV _ (KS.map V.str)) = true; rw [inV_str, decide_eq_false t3]; rfl) ⟨_, rfl, nl, _, rfl, .inl snl4, RT _ s4 fun z => t3 (oi.mp (gi.mp z).1).2⟩
        refine iteBF (by show (!inV _ (KS.map V.str)) = false; rw [inV_str, decide_eq_true t3]; rfl) ⟨_, rfl, .inl ⟨rfl, _, snl4⟩, _, rfl, nl, _, _, rfl, rfl, hnl4, ?_, ?_⟩
        · rw [List.length_map, nms_len (by rw [items_len]; omega)]
          exact small1000 (by omega)
        · refine ⟨_, _, _, _, _, rfl, same_put s4 nn, ?_, fun j hj => ?_⟩
          · rw [upd_same, ← Nat.add_assoc, nms_succ ein, List.map_append]
            rfl
          · rcases Nat.lt_succ_iff_lt_or_eq.mp (show j < (ds.length + i) + 1 by omega) with z | z
            · exact hgd j z
            · subst z
              exact gi.mpr ⟨oi.mpr ⟨t1, t3⟩, t2⟩
      · rintro σ H4 ⟨y3, y4, y5, y6, y7, rfl, sm, hnl, hgd⟩
        rw [ly] at hgd
        exact q none ⟨cnt, fun j hj => hgd j (by rw [items_len] at hj; exact hj)⟩ _ sm
end
end K2

namespace K2
open PySem L2
theorem int_in {ms : List Int} {xs : List V} {n : Int} (e : xs = ms.map V.int) (h0 : 0 ≤ n) (h1 : n < ms.length) : ∃ m ∈ ms, atI xs n = some (.int m) := by
  obtain ⟨j, rfl⟩ : ∃ j : Nat, n = (j : Int) := ⟨_, (Int.toNat_of_nonneg h0).symm⟩
  have hj : j < ms.length := by omega
  refine ⟨ms[j], List.getElem_mem hj, atI_nat ?_⟩
  rw [e, List.getElem?_map, List.getElem?_eq_getElem hj]
  rfl
theorem str_in {ms : List Str} {xs : List V} {n : Int} (e : xs = ms.map V.str) (h0 : 0 ≤ n) (h1 : n < ms.length) : ∃ m ∈ ms, atI xs n = some (.str m) := by
  obtain ⟨j, rfl⟩ : ∃ j : Nat, n = (j : Int) := ⟨_, (Int.toNat_of_nonneg h0).symm⟩
  have hj : j < ms.length := by omega
  refine ⟨ms[j], List.getElem_mem hj, atI_nat ?_⟩
  rw [e, List.getElem?_map, List.getElem?_eq_getElem hj]
  rfl
/-- rows stay: no tuple is the state -/
theorem Rows.kp {d l : Addr} {H H1 : Hp} {xs : List V} {rs : List (List V)} (h : Rows H xs rs) (S : StAt H d l) (k : Kp d l H H1) : Rows H1 xs rs := by
  obtain ⟨ns, z, h1, _⟩ := S.ex
  refine h.keep fun a r e => k.keep _ _ e fun z => ?_
  rw [z, h1] at e
  cases e
structure Acc (d l p : Addr) (xs : List V) (rs : List (List V)) (H H1 : Hp) : Prop where
  k : Kp d l H H1
  p : H1 p = some (.lst xs)
  r : Rows H1 xs rs
section
variable {d l p : Addr} {xs : List V} {rs : List (List V)} {H H1 H2 : Hp}
theorem Acc.kp (a : Acc d l p xs rs H H1) (k : Kp d l H1 H2) : Acc d l p xs rs H H2 := by
  obtain ⟨ns, z, h1, _⟩ := a.k.st.ex
  refine ⟨a.k.trans k, k.keep _ _ a.p fun z => ?_, a.r.kp a.k.st k⟩
  have := a.p
  rw [z, h1] at this
  cases this
theorem Acc.new {o : Addr} {ob : HO} (a : Acc d l p xs rs H H1) (h : H1 o = none) : Acc d l p xs rs H (upd H1 o ob) :=
  ⟨a.k.new h, same_new h _ _ a.p, a.r.same (same_new h)⟩
theorem Acc.push {o : Addr} {r : List V} (a : Acc d l p xs rs H H1) (n : H p = none) (nd : p ≠ d ∧ p ≠ l) (e : H1 o = some (.tup r)) : Acc d l p (xs ++ [.ref o]) (rs ++ [r]) H (upd H1 p (.lst (xs ++ [.ref o]))) := by
  refine ⟨a.k.put n nd, upd_same, (a.r.push e).keep fun b q hb => ?_⟩
  rw [upd_ne]
  · exact hb
  · intro z
    have := a.p
    rw [← z, hb] at this
    cases this
end
section
variable {P : Program} {w : World} {K : PySem.W.Frag} {mg : Str → Option Value} {base : Heap}
def spLDims : Sp := fun vs H Q _ => ∃ (d l : Addr), vs = [.ref d] ∧ StAt H d l ∧ ∀ H' p xs (ds : List D), H p = none → Acc d l p xs (ds.map D.v) H H' → ds.length ≤ 8 → (∀ x ∈ ds, x.n ∈ NS) → Q (.ref p) H'
theorem scLDims : FnScope ["state", "dims", "many", "k", "low", "high"] ["state"] (defScope sLDims) := ⟨rfl, rfl, rfl, by decide +kernel, rfl, by decide +kernel, by decide +kernel⟩
theorem many_tab : ∀ m ∈ ([1, 2, 3, 6, 0, 7, 8, 1] : List Int), 0 ≤ m ∧ m ≤ 8 := by decide +kernel
theorem ok_ldims {f fN : Addr} {fd fdN : FuncData} (F : Fun K "_law_dims" "_law_dims" sLDims f fd) (N : Nm K mg) (FN : Fun K "_law_next" "_law_next" sNext fN fdN) (bN : Binds K fdN ["state", "bound"] []) (gN : mg "_law_next" = some (.ref fN)) :
    FnOk P w K mg base CX0 2 f fd ["state"] spLDims := by
  have GN : FnOk P w K mg base CX0 1 fN fdN ["state", "bound"] spNext := ok_next FN N.int N.len
  refine F.ok scLDims (fun vs H Q E h => ?_) (fun cdv A outer s H vs Q E hr h => ?_)
  · obtain ⟨d, l, rfl, _⟩ := h
    rfl
  · obtain ⟨d, l, rfl, S, q⟩ := h
    refine ⟨_, pss_cons (ps_set (i := 1) scLDims.nd rfl (.inl rfl) (pe_lst pa_nil))
      (pss_cons (ps_set (i := 2) scLDims.nd rfl (.inl rfl) (pe_ix ix_list (pe_lst (pa_cons pe_int (pa_cons pe_int (pa_cons pe_int (pa_cons pe_int (pa_cons pe_int (pa_cons pe_int (pa_cons pe_int (pa_cons pe_int pa_nil)))))))))
          (pe_call GN hr (by rfl) gN FN.kp bN .nil pass0 (pa_cons (pv 0) (pa_cons pe_int pa_nil))) (fun _ _ => rfl)))
      (pss_cons (ps_for PassesOwn.never rfl (pi_range1 (by rfl) N.range (pa_cons (pv 2) pa_nil)) (pg_name (i := 3) scLDims.nd rfl (.inl rfl))
        (pss_cons (ps_set (i := 4) scLDims.nd rfl (.inl rfl) (pe_ix ix_list (pe_lst (pa_cons pe_int (pa_cons (pe_un un_neg pe_int) (pa_cons pe_int (pa_cons (pe_un un_neg pe_int) (pa_cons pe_int pa_nil))))))
            (pe_call GN hr (by rfl) gN FN.kp bN .nil pass0 (pa_cons (pv 0) (pa_cons pe_int pa_nil))) (fun _ _ => rfl)))
        (pss_cons (ps_set (i := 5) scLDims.nd rfl (.inl rfl) (pe_callB (call_min2 rfl) (by rfl) N.min (by decide +kernel) (pa_cons pe_int (pa_cons (pe_op op_add (pv 4) (pe_ix ix_list (pe_lst (pa_cons pe_int (pa_cons pe_int (pa_cons pe_int (pa_cons pe_int pa_nil)))))
            (pe_call GN hr (by rfl) gN FN.kp bN .nil pass0 (pa_cons (pv 0) (pa_cons pe_int pa_nil))) (fun _ _ => rfl))) pa_nil))))
        (pss_one (ps_expr (pe_bm PySem.F.plainAttrs_list PySem.F.slot_list_append PySem.F.type_list_append mt_append (pv 1) (pa_cons (pe_tup
          (pa_cons (pe_ix ix_list (pe_lst (pa_cons pe_str (pa_cons pe_str (pa_cons pe_str (pa_cons pe_str (pa_cons pe_str (pa_cons pe_str (pa_cons pe_str (pa_cons pe_str pa_nil))))))))) (pv 3) (fun _ _ => rfl))
          (pa_cons (pv 4) (pa_cons (pv 5) (pa_cons (pe_ix ix_list (pe_lst (pa_cons pe_int (pa_cons pe_int (pa_cons pe_int (pa_cons pe_int pa_nil)))))
            (pe_call GN hr (by rfl) gN FN.kp bN .nil pass0 (pa_cons (pv 0) (pa_cons pe_int pa_nil))) (fun _ _ => rfl)) pa_nil))))) pa_nil)))))))
      (pss_one (ps_ret (pv 1))))), ?_⟩
    refine ⟨Nat.zero_le _, fun p np => ?_⟩
    have npd := S.nd np
    have a0 : Acc d l p [] [] H (upd H p (.lst [])) := ⟨Kp.pre (same_new np) (Kp.refl (S.same (same_new np))), upd_same, Rows.nil⟩
    refine ⟨(by show 8 ≤ sizeLine; decide), fun o no => ?_⟩
    have a1 := a0.new (ob := .lst [.int 1, .int 2, .int 3, .int 6, .int 0, .int 7, .int 8, .int 1]) no
    refine ⟨_, rfl, d, l, 8, rfl, a1.k.st, by decide, fun H2 n n0 n1 k2 => ?_⟩
    obtain ⟨m, hm, hat⟩ := int_in (ms := [1, 2, 3, 6, 0, 7, 8, 1]) rfl n0 n1
    refine ⟨o, _, _, _, rfl, rfl, .inl (.inl (k2.keep _ _ upd_same (a0.k.st.nd no).1)), hat, ?_⟩
    have a2 := a1.kp k2
    obtain ⟨m0, m8⟩ := many_tab m hm
    refine ⟨_, rfl, _, rfl, by omega, by omega, ?_⟩
    refine for_range (lo := 0) (n := m.toNat) (fun i σ H3 => ∃ y3 y4 y5 xs ds, σ = [some (.ref d), some (.ref p), some (.int m), y3, y4, y5] ∧ Acc d l p xs (ds.map D.v) H H3 ∧ ds.length = i ∧ ∀ x ∈ ds, x.n ∈ NS) ⟨_, _, _, [], [], rfl, a2, rfl, fun x h => (List.not_mem_nil h).elim⟩ ?_ ?_
    · rintro i σ H3 hi ⟨y3, y4, y5, xs, ds, rfl, a3, hds, hns⟩
      rw [Int.zero_add]
      refine ⟨5, rfl, 1000000, rfl, (by show 5 ≤ sizeLine; decide), fun o1 no1 => ?_⟩
      have b1 := a3.new (ob := .lst [.int 0, .int (-5), .int 3, .int (-1000000), .int 1000000]) no1
      refine ⟨_, rfl, d, l, 5, rfl, b1.k.st, by decide, fun H4 n n0 n1 k4 => ?_⟩
      obtain ⟨low, _, hat⟩ := int_in (ms := [0, -5, 3, -1000000, 1000000]) rfl n0 n1
      refine ⟨o1, _, _, _, rfl, rfl, .inl (.inl (k4.keep _ _ upd_same (a3.k.st.nd no1).1)), hat, ?_⟩
      have a4 := b1.kp k4
      refine ⟨_, rfl, (by show 4 ≤ sizeLine; decide), fun o2 no2 => ?_⟩
      have b2 := a4.new (ob := .lst [.int 0, .int 4, .int 9, .int 1000]) no2
      refine ⟨_, rfl, d, l, 4, rfl, b2.k.st, by decide, fun H5 n n0 n1 k5 => ?_⟩
      obtain ⟨inc, _, hat⟩ := int_in (ms := [0, 4, 9, 1000]) rfl n0 n1
      refine ⟨o2, _, _, _, rfl, rfl, .inl (.inl (k5.keep _ _ upd_same (a4.k.st.nd no2).1)), hat, low, inc, rfl, rfl, _, _, rfl, ?_⟩
      have a5 := b2.kp k5
      refine ⟨_, rfl, .inl ⟨rfl, _, .inl (.inl a5.p)⟩, ?_⟩
      refine ⟨(by show 8 ≤ sizeLine; decide), fun o3 no3 => ?_⟩
      have b3 := a5.new (ob := .lst (DN.map V.str)) no3
      have hdn : i < DN.length := by
        have : DN.length = 8 := rfl
        omega
      refine ⟨_, rfl, o3, _, _, .str DN[i], rfl, rfl, .inl (.inl upd_same), atI_nat (by show (DN.map V.str)[i]? = _; rw [List.getElem?_map, List.getElem?_eq_getElem hdn]; rfl), _, rfl, _, rfl, ?_⟩
      refine ⟨(by show 4 ≤ sizeLine; decide), fun o4 no4 => ?_⟩
      have b4 := b3.new (ob := .lst [.int 1, .int 3, .int 1000000, .int 7]) no4
      refine ⟨_, rfl, d, l, 4, rfl, b4.k.st, by decide, fun H6 n n0 n1 k6 => ?_⟩
      obtain ⟨st, _, hat⟩ := int_in (ms := [1, 3, 1000000, 7]) rfl n0 n1
      refine ⟨o4, _, _, _, rfl, rfl, .inl (.inl (k6.keep _ _ upd_same (b3.k.st.nd no4).1)), hat, ?_⟩
      have a6 := b4.kp k6
      refine ⟨(by show 4 ≤ sizeLine; decide), fun t nt => ?_⟩
      have a7 := a6.new (ob := .tup [.str DN[i], .int low, .int (if low + inc < 1000000 then low + inc else 1000000), .int st]) nt
      refine ⟨p, _, _, rfl, rfl, a7.p, ?_, ?_⟩
      · have := a7.r.1
        rw [List.length_map] at this
        exact small1000 (by omega)
      · refine ⟨_, _, _, xs ++ [.ref t], ds ++ [⟨DN[i], low, (if low + inc < 1000000 then low + inc else 1000000), st⟩], rfl, ?_, ?_, ?_⟩
        · rw [List.map_append]
          exact a7.push np npd upd_same
        · rw [List.length_append, hds]
          rfl
        · intro x hx
          rcases List.mem_append.mp hx with h | h
          · exact hns x h
          · rw [List.mem_singleton.mp h]
            exact dn_tab _ (List.getElem_mem hdn)
    · rintro σ H3 ⟨y3, y4, y5, xs, ds, rfl, a3, hds, hns⟩
      exact ⟨_, rfl, q _ _ _ _ np a3 (by omega) hns⟩
def spLAttrs : Sp := fun vs H Q _ => ∃ (d l : Addr), vs = [.ref d] ∧ StAt H d l ∧ ∀ H' p xs (ts : List T), H p = none → Acc d l p xs (ts.map T.v) H H' → ts.length ≤ 18 → (∀ x ∈ ts, x.n ∈ NS ∧ x.k ∈ KX) → Q (.ref p) H'
theorem scLAttrs : FnScope ["state", "attrs", "k"] ["state"] (defScope sLAttrs) := ⟨rfl, rfl, rfl, by decide +kernel, rfl, by decide +kernel, by decide +kernel⟩
theorem most_tab : ∀ m ∈ ([1, 2, 4, 16, 17, 18, 0, 3, 5] : List Int), 0 ≤ m ∧ m ≤ 18 := by decide +kernel
theorem ak_tab : ∀ k, k < 18 → ((k : Nat) : Int).natAbs.log2 < 1920 ∧ ("a" : Str).length + (toString ((k : Nat) : Int) : Str).length ≤ sizeLine := by decide +kernel
theorem ks_kx : ∀ z ∈ KS, z ∈ KX := by decide +kernel
theorem ok_lattrs {f fN : Addr} {fd fdN : FuncData} (F : Fun K "_law_attrs" "_law_attrs" sLAttrs f fd) (N : Nm K mg) (FN : Fun K "_law_next" "_law_next" sNext fN fdN) (bN : Binds K fdN ["state", "bound"] []) (gN : mg "_law_next" = some (.ref fN)) :
    FnOk P w K mg base CX0 2 f fd ["state"] spLAttrs := by
  have GN : FnOk P w K mg base CX0 1 fN fdN ["state", "bound"] spNext := ok_next FN N.int N.len
  refine F.ok scLAttrs (fun vs H Q E h => ?_) (fun cdv A outer s H vs Q E hr h => ?_)
  · obtain ⟨d, l, rfl, _⟩ := h
    rfl
  · obtain ⟨d, l, rfl, S, q⟩ := h
    refine ⟨_, pss_cons (ps_set (i := 1) scLAttrs.nd rfl (.inl rfl) (pe_lst pa_nil))
      (pss_cons (ps_for PassesOwn.never rfl (pi_range1 (by rfl) N.range (pa_cons (pe_ix ix_list (pe_lst (pa_cons pe_int (pa_cons pe_int (pa_cons pe_int (pa_cons pe_int (pa_cons pe_int (pa_cons pe_int (pa_cons pe_int (pa_cons pe_int (pa_cons pe_int pa_nil))))))))))
          (pe_call GN hr (by rfl) gN FN.kp bN .nil pass0 (pa_cons (pv 0) (pa_cons pe_int pa_nil))) (fun _ _ => rfl)) pa_nil)) (pg_name (i := 2) scLAttrs.nd rfl (.inl rfl))
        (pss_one (ps_expr (pe_bm PySem.F.plainAttrs_list PySem.F.slot_list_append PySem.F.type_list_append mt_append (pv 1) (pa_cons (pe_tup
          (pa_cons (pe_op op_add_str pe_str (pe_callTy call_str_int (by rfl) N.str (by decide +kernel) (pa_cons (pv 2) pa_nil)))
          (pa_cons (pe_ix ix_list (pe_lst (pa_cons pe_str (pa_cons pe_str (pa_cons pe_str pa_nil))))
            (pe_call GN hr (by rfl) gN FN.kp bN .nil pass0 (pa_cons (pv 0) (pa_cons pe_int pa_nil))) (fun _ _ => rfl)) pa_nil))) pa_nil)))))
      (pss_one (ps_ret (pv 1)))), ?_⟩
    refine ⟨Nat.zero_le _, fun p np => ?_⟩
    have npd := S.nd np
    have a0 : Acc d l p [] [] H (upd H p (.lst [])) := ⟨Kp.pre (same_new np) (Kp.refl (S.same (same_new np))), upd_same, Rows.nil⟩
    refine ⟨(by show 9 ≤ sizeLine; decide), fun o no => ?_⟩
    have a1 := a0.new (ob := .lst [.int 1, .int 2, .int 4, .int 16, .int 17, .int 18, .int 0, .int 3, .int 5]) no
    refine ⟨_, rfl, d, l, 9, rfl, a1.k.st, by decide, fun H2 n n0 n1 k2 => ?_⟩
    obtain ⟨m, hm, hat⟩ := int_in (ms := [1, 2, 4, 16, 17, 18, 0, 3, 5]) rfl n0 n1
    refine ⟨o, _, _, _, rfl, rfl, .inl (.inl (k2.keep _ _ upd_same (a0.k.st.nd no).1)), hat, ?_⟩
    have a2 := a1.kp k2
    obtain ⟨m0, m8⟩ := most_tab m hm
    refine ⟨_, rfl, by omega, by omega, ?_⟩
    refine for_range (lo := 0) (n := m.toNat) (fun i σ H3 => ∃ y2 xs ts, σ = [some (.ref d), some (.ref p), y2] ∧ Acc d l p xs (ts.map T.v) H H3 ∧ ts.length = i ∧ ∀ x ∈ ts, x.n ∈ NS ∧ x.k ∈ KX) ⟨_, [], [], rfl, a2, rfl, fun x h => (List.not_mem_nil h).elim⟩ ?_ ?_
    · rintro i σ H3 hi ⟨y2, xs, ds, rfl, a3, hds, hns⟩
      rw [Int.zero_add]
      have hi18 : i < 18 := by omega
      obtain ⟨hk1, hk2⟩ := ak_tab i hi18
      refine ⟨_, rfl, .inl ⟨rfl, _, .inl (.inl a3.p)⟩, ?_⟩
      refine ⟨_, rfl, (i : Int), rfl, hk1, "a", _, rfl, rfl, hk2, ?_⟩
      refine ⟨(by show 3 ≤ sizeLine; decide), fun o4 no4 => ?_⟩
      have b4 := a3.new (ob := .lst (KS.map V.str)) no4
      refine ⟨_, rfl, d, l, 3, rfl, b4.k.st, by decide, fun H6 n n0 n1 k6 => ?_⟩
      obtain ⟨kd, hkd, hat⟩ := str_in (ms := KS) rfl n0 n1
      refine ⟨o4, _, _, _, rfl, rfl, .inl (.inl (k6.keep _ _ upd_same (a3.k.st.nd no4).1)), hat, ?_⟩
      have a6 := b4.kp k6
      refine ⟨(by show 2 ≤ sizeLine; decide), fun t nt => ?_⟩
      have a7 := a6.new (ob := .tup [.str (("a" : Str) ++ toString (i : Int)), .str kd]) nt
      refine ⟨p, _, _, rfl, rfl, a7.p, ?_, ?_⟩
      · have := a7.r.1
        rw [List.length_map] at this
        exact small1000 (by omega)
      · refine ⟨_, xs ++ [.ref t], ds ++ [⟨("a" : Str) ++ toString (i : Int), kd⟩], rfl, ?_, ?_, ?_⟩
        · rw [List.map_append]
          exact a7.push np npd upd_same
        · rw [List.length_append, hds]
          rfl
        · intro x hx
          rcases List.mem_append.mp hx with h | h
          · exact hns x h
          · rw [List.mem_singleton.mp h]
            exact ⟨an_tab i hi18, ks_kx _ hkd⟩
    · rintro σ H3 ⟨y2, xs, ds, rfl, a3, hds, hns⟩
      exact ⟨_, rfl, q _ _ _ _ np a3 (by omega) hns⟩
end
end K2

namespace K2
open PySem L2
structure Bth (d l p q : Addr) (xs : List V) (ds : List D) (ys : List V) (ts : List T) (H H1 : Hp) : Prop where
  keep : ∀ c o, H c = some o → c ≠ d → c ≠ p → c ≠ q → H1 c = some o
  st : StAt H1 d l
  lp : H1 p = some (.lst xs)
  rp : Rows H1 xs (ds.map D.v)
  lq : H1 q = some (.lst ys)
  rq : Rows H1 ys (ts.map T.v)
  np : p ≠ l
  nq : q ≠ l
  pq : p ≠ q
  gd : GoodD ds
  gt : GoodT ts
  ld : ds.length ≤ 20
  lt : ts.length ≤ 20
theorem Bth.nd {d l p q : Addr} {xs : List V} {ds : List D} {ys : List V} {ts : List T} {H H1 : Hp} (a : Bth d l p q xs ds ys ts H H1) : p ≠ d ∧ q ≠ d := by
  obtain ⟨ns, z, h1, _⟩ := a.st.ex
  refine ⟨fun z => ?_, fun z => ?_⟩
  · have := a.lp
    rw [z, h1] at this
    cases this
  · have := a.lq
    rw [z, h1] at this
    cases this
section
variable {d l p q : Addr} {xs : List V} {ds : List D} {ys : List V} {ts : List T} {H H1 H2 : Hp}
theorem Bth.kp (a : Bth d l p q xs ds ys ts H H1) (k : Kp d l H1 H2) : Bth d l p q xs ds ys ts H H2 :=
  ⟨fun c o e n1 n2 n3 => k.keep _ _ (a.keep c o e n1 n2 n3) n1, k.st, k.keep _ _ a.lp a.nd.1, a.rp.kp a.st k, k.keep _ _ a.lq a.nd.2, a.rq.kp a.st k, a.np, a.nq, a.pq, a.gd, a.gt, a.ld, a.lt⟩
theorem Bth.new {o : Addr} {ob : HO} (a : Bth d l p q xs ds ys ts H H1) (h : H1 o = none) : Bth d l p q xs ds ys ts H (upd H1 o ob) := a.kp (Kp.new (Kp.refl a.st) h)
theorem Rows.put {o : Addr} {as : List V} {zs : List V} {rs : List (List V)} (h : Rows H1 as rs) (e : H1 o = some (.lst zs)) {ob : HO} : Rows (upd H1 o ob) as rs := h.keep fun b r hb => by
  rw [upd_ne]
  · exact hb
  · intro z
    rw [z, e] at hb
    cases hb
theorem Bth.setp {t : Addr} {j : Nat} {x : D} (a : Bth d l p q xs ds ys ts H H1) (e : H1 t = some (.tup x.v)) (hx : x.n ∈ NS) : Bth d l p q (xs.set j (.ref t)) (ds.set j x) ys ts H (upd H1 p (.lst (xs.set j (.ref t)))) := by
  refine ⟨fun c o hc n1 n2 n3 => by rw [upd_ne n2]; exact a.keep c o hc n1 n2 n3, ?_, upd_same, ?_, by rw [upd_ne a.pq.symm]; exact a.lq, a.rq.put a.lp, a.np, a.nq, a.pq, ⟨by rw [List.length_set]; exact a.gd.1, fun y hy => ?_⟩, a.gt, by rw [List.length_set]; exact a.ld, a.lt⟩
  · obtain ⟨ns, z, h1, h2, h3⟩ := a.st.ex
    exact ⟨ns, z, by rw [upd_ne a.nd.1.symm]; exact h1, by rw [upd_ne a.np.symm]; exact h2, h3⟩
  · rw [List.map_set]
    exact (a.rp.set j e).put a.lp
  · rcases List.mem_or_eq_of_mem_set hy with h | h
    · exact a.gd.2 y h
    · rw [h]
      exact hx
theorem Bth.setq {t : Addr} {j : Nat} {x : T} (a : Bth d l p q xs ds ys ts H H1) (e : H1 t = some (.tup x.v)) (hx : x.n ∈ NS ∧ x.k ∈ KX) : Bth d l p q xs ds (ys.set j (.ref t)) (ts.set j x) H (upd H1 q (.lst (ys.set j (.ref t)))) := by
  refine ⟨fun c o hc n1 n2 n3 => by rw [upd_ne n3]; exact a.keep c o hc n1 n2 n3, ?_, by rw [upd_ne a.pq]; exact a.lp, a.rp.put a.lq, upd_same, ?_, a.np, a.nq, a.pq, a.gd, ⟨by rw [List.length_set]; exact a.gt.1, fun y hy => ?_⟩, a.ld, by rw [List.length_set]; exact a.lt⟩
  · obtain ⟨ns, z, h1, h2, h3⟩ := a.st.ex
    exact ⟨ns, z, by rw [upd_ne a.nd.2.symm]; exact h1, by rw [upd_ne a.nq.symm]; exact h2, h3⟩
  · rw [List.map_set]
    exact (a.rq.set j e).put a.lq
  · rcases List.mem_or_eq_of_mem_set hy with h | h
    · exact a.gt.2 y h
    · rw [h]
      exact hx
end
theorem ixN_nat {n j : Nat} (h : j < n) : ixN n (j : Int) = some j := by
  unfold ixN
  rw [if_pos (by omega), if_pos (by omega)]
  rfl
theorem kx4 : ∀ z ∈ ([("text" : Str), "number", "", "flags"] : List Str), z ∈ KX := by decide +kernel
section
variable {P : Program} {w : World} {K : PySem.W.Frag} {mg : Str → Option Value} {base : Heap}
def spSpoilt : Sp := fun vs H Q _ => ∃ (d l p q : Addr) (xs : List V) (ds : List D) (ys : List V) (ts : List T), vs = [.ref d, .ref p, .ref q] ∧ Bth d l p q xs ds ys ts H H ∧ ∀ H' xs' ds' ys' ts', Bth d l p q xs' ds' ys' ts' H H' → Q .non H'
theorem scSpoilt : FnScope ["state", "dims", "attrs", "choice", "at", "name", "low", "high", "step", "kind"] ["state", "dims", "attrs"] (defScope sLSpoilt) := ⟨rfl, rfl, rfl, by decide +kernel, rfl, by decide +kernel, by decide +kernel⟩
theorem ok_spoilt {f fN fM : Addr} {fd fdN fdM : FuncData} (F : Fun K "_law_spoilt" "_law_spoilt" sLSpoilt f fd) (N : Nm K mg) (FN : Fun K "_law_next" "_law_next" sNext fN fdN) (bN : Binds K fdN ["state", "bound"] []) (gN : mg "_law_next" = some (.ref fN))
    (FM : Fun K "_law_name" "_law_name" sLName fM fdM) (bM : Binds K fdM ["state"] []) (gM : mg "_law_name" = some (.ref fM)) : FnOk P w K mg base CX0 3 f fd ["state", "dims", "attrs"] spSpoilt := by
  have GN : FnOk P w K mg base CX0 1 fN fdN ["state", "bound"] spNext := ok_next FN N.int N.len
  have GM : FnOk P w K mg base CX0 2 fM fdM ["state"] spLName := ok_lname FM N FN bN gN
  refine F.ok scSpoilt (fun vs H Q E h => ?_) (fun cdv A outer s H vs Q E hr h => ?_)
  · obtain ⟨d, l, p, q, xs, ds, ys, ts, rfl, _⟩ := h
    rfl
  · obtain ⟨d, l, p, q, xs, ds, ys, ts, rfl, B, k⟩ := h
    have hr1 := hr.mono (j := 1) (by decide)
    refine ⟨_, pss_cons (ps_set (i := 3) scSpoilt.nd rfl (.inl rfl) (pe_call GN hr1 (by rfl) gN FN.kp bN .nil pass0 (pa_cons (pv 0) (pa_cons pe_int pa_nil))))
      (Evl.pss_cut (ps_if (PW.pt (pw_and (pt_cmpR op_lt (pv 3) pe_int (nomark _)) (pw_and1 (pt_cmpR op_gt (pe_callB call_len_seq (by rfl) N.len PySem.boot_len (pa_cons (pv 1) pa_nil)) pe_int (nomark _)))))
          (pss_cons (ps_set (i := 4) scSpoilt.nd rfl (.inl rfl) (pe_call GN hr1 (by rfl) gN FN.kp bN .nil pass0 (pa_cons (pv 0) (pa_cons (pe_callB call_len_seq (by rfl) N.len PySem.boot_len (pa_cons (pv 1) pa_nil)) pa_nil))))
          (pss_cons (ps_asg (pe_ix ix_list (pv 1) (pv 4) (fun _ _ => rfl)) (pg_tup (by rfl) (pgs_cons (pg_name (i := 5) scSpoilt.nd rfl (.inl rfl)) (pgs_cons (pg_name (i := 6) scSpoilt.nd rfl (.inl rfl)) (pgs_cons (pg_name (i := 7) scSpoilt.nd rfl (.inl rfl)) (pgs_cons (pg_name (i := 8) scSpoilt.nd rfl (.inl rfl)) pgs_nil))))))
          (Evl.pss_cut (ps_if (pt_cmpR op_eq (pv 3) pe_int (nomark _)) (pss_one (ps_set (i := 5) scSpoilt.nd rfl (.inl rfl) (pe_call GM hr (by rfl) gM FM.kp bM .nil pass0 (pa_cons (pv 0) pa_nil)))) pss_nil)
          (Evl.pss_cut (ps_if (pt_cmpR op_eq (pv 3) pe_int (nomark _)) (pss_one (ps_set (i := 6) scSpoilt.nd rfl (.inl rfl) (pe_ix ix_list (pe_lst (pa_cons (pe_op op_add (pv 6) pe_int) (pa_cons (pe_un un_neg pe_int) (pa_cons (pv 7) (pa_cons (pe_op op_add (pv 7) pe_int) pa_nil)))))
              (pe_call GN hr1 (by rfl) gN FN.kp bN .nil pass0 (pa_cons (pv 0) (pa_cons pe_int pa_nil))) (fun _ _ => rfl)))) pss_nil)
          (Evl.pss_cut (ps_if (pt_cmpR op_eq (pv 3) pe_int (nomark _)) (pss_one (ps_set (i := 7) scSpoilt.nd rfl (.inl rfl) (pe_ix ix_list (pe_lst (pa_cons pe_int (pa_cons (pv 7) (pa_cons (pe_op op_sub (pv 6) pe_int) pa_nil))))
              (pe_call GN hr1 (by rfl) gN FN.kp bN .nil pass0 (pa_cons (pv 0) (pa_cons pe_int pa_nil))) (fun _ _ => rfl)))) pss_nil)
          (Evl.pss_cut (ps_if (pt_cmpR op_eq (pv 3) pe_int (nomark _)) (pss_one (ps_set (i := 8) scSpoilt.nd rfl (.inl rfl) (pe_ix ix_list (pe_lst (pa_cons pe_int (pa_cons pe_int (pa_cons (pe_un un_neg pe_int) (pa_cons pe_int pa_nil)))))
              (pe_call GN hr1 (by rfl) gN FN.kp bN .nil pass0 (pa_cons (pv 0) (pa_cons pe_int pa_nil))) (fun _ _ => rfl)))) pss_nil)
          (pss_one (ps_asg (pe_tup (pa_cons (pv 5) (pa_cons (pv 6) (pa_cons (pv 7) (pa_cons (pv 8) pa_nil))))) (pg_sub (pv 1) (pv 4) set_list))))))))) pss_nil)
      (pss_one (ps_if (PW.pt (pw_and (pt_cmpR op_ge (pv 3) pe_int (nomark _)) (pw_and1 (pt_cmpR op_gt (pe_callB call_len_seq (by rfl) N.len PySem.boot_len (pa_cons (pv 2) pa_nil)) pe_int (nomark _)))))
          (pss_cons (ps_set (i := 4) scSpoilt.nd rfl (.inl rfl) (pe_call GN hr1 (by rfl) gN FN.kp bN .nil pass0 (pa_cons (pv 0) (pa_cons (pe_callB call_len_seq (by rfl) N.len PySem.boot_len (pa_cons (pv 2) pa_nil)) pa_nil))))
          (pss_cons (ps_asg (pe_ix ix_list (pv 2) (pv 4) (fun _ _ => rfl)) (pg_tup (by rfl) (pgs_cons (pg_name (i := 5) scSpoilt.nd rfl (.inl rfl)) (pgs_cons (pg_name (i := 9) scSpoilt.nd rfl (.inl rfl)) pgs_nil))))
          (Evl.pss_cut (ps_if (pt_cmpR op_eq (pv 3) pe_int (nomark _)) (pss_one (ps_set (i := 5) scSpoilt.nd rfl (.inl rfl) (pe_call GM hr (by rfl) gM FM.kp bM .nil pass0 (pa_cons (pv 0) pa_nil))))
              (pss_one (ps_set (i := 9) scSpoilt.nd rfl (.inl rfl) (pe_ix ix_list (pe_lst (pa_cons pe_str (pa_cons pe_str (pa_cons pe_str (pa_cons pe_str pa_nil)))))
              (pe_call GN hr1 (by rfl) gN FN.kp bN .nil pass0 (pa_cons (pv 0) (pa_cons pe_int pa_nil))) (fun _ _ => rfl)))))
          (pss_one (ps_asg (pe_tup (pa_cons (pv 5) (pa_cons (pv 9) pa_nil))) (pg_sub (pv 2) (pv 4) set_list)))))) pss_nil))), ?_⟩
    refine ⟨_, rfl, d, l, 6, rfl, B.st, by decide, fun H1 n n0 n6 k1 => ?_⟩
    have B1 := B.kp k1
    refine ⟨fun σ H3 => ∃ y4 y5 y6 y7 y8 y9 xs' ds', σ = [some (.ref d), some (.ref p), some (.ref q), some (.int n), y4, y5, y6, y7, y8, y9] ∧ Bth d l p q xs' ds' ys ts H H3, ?_, ?_⟩
    · refine ⟨_, rfl, n, 4, rfl, rfl, _, rfl, ?_⟩
      by_cases c1 : n < 4
      case neg => exact iteBF (decide_eq_false c1) (iteF ⟨_, _, _, _, _, _, _, _, rfl, B1⟩)
      refine iteB (decide_eq_true c1) ⟨_, rfl, p, _, rfl, .inl (.inl (.inl B1.lp)), (xs.length : Int), 0, rfl, rfl, _, rfl, ?_⟩
      by_cases c2 : 0 < (xs.length : Int)
      case neg => exact iteBF (decide_eq_false c2) ⟨_, _, _, _, _, _, _, _, rfl, B1⟩
      refine iteB (decide_eq_true c2) ?_
      refine ⟨_, rfl, _, rfl, p, _, rfl, .inl (.inl (.inl B1.lp)), d, l, (xs.length : Int), rfl, B1.st, c2, fun H2 m m0 m1 k2 => ?_⟩
      have B2 := B1.kp k2
      obtain ⟨j, rfl⟩ : ∃ j : Nat, m = (j : Int) := ⟨_, (Int.toNat_of_nonneg m0).symm⟩
      have hj : j < xs.length := by omega
      have hj2 : j < ds.length := by
        have := B2.rp.1
        rw [List.length_map] at this
        omega
      obtain ⟨c, e1, e2⟩ := B2.rp.2 j ds[j].v (by rw [List.getElem?_map, List.getElem?_eq_getElem hj2]; rfl)
      refine ⟨_, rfl, _, rfl, p, _, _, .ref c, rfl, rfl, .inl (.inl B2.lp), atI_nat e1, c, _, rfl, SqT.of e2, rfl, _, _, rfl, _, _, rfl, _, _, rfl, _, _, rfl, rfl, ?_⟩
      let M1 : St → Hp → Prop := fun σ H3 => ∃ nm lo hi st, σ = [some (.ref d), some (.ref p), some (.ref q), some (.int n), some (.int (j : Int)), some (.str nm), some (.int lo), some (.int hi), some (.int st), none] ∧ nm ∈ NS ∧ Bth d l p q xs ds ys ts H H3
      refine ⟨M1, ?_, ?_⟩
      · refine ⟨_, rfl, rfl, _, rfl, ite2 (fun _ => ?_) (fun _ => ?_)⟩
        · exact ⟨_, rfl, d, l, rfl, B2.st, fun H4 z hz k4 => ⟨_, _, _, _, rfl, ln_tab _ hz, B2.kp k4⟩⟩
        · exact ⟨_, _, _, _, rfl, B.gd.2 _ (List.getElem_mem hj2), B2⟩
      rintro σ H3 ⟨nm, lo, hi, st, rfl, hn, B3⟩
      refine ⟨M1, ?_, ?_⟩
      · refine ⟨_, rfl, rfl, _, rfl, ite2 (fun _ => ?_) (fun _ => ?_)⟩
        · refine ⟨_, rfl, lo, 2000, rfl, rfl, 1000001, rfl, _, rfl, _, rfl, hi, 1, rfl, rfl, (by show 4 ≤ sizeLine; decide), fun o no => ?_⟩
          have B4 := B3.new (ob := .lst [.int (lo + 2000), .int (-1000001), .int hi, .int (hi + 1)]) no
          refine ⟨_, rfl, d, l, 4, rfl, B4.st, by decide, fun H4 z z0 z1 k4 => ?_⟩
          obtain ⟨v, _, hat⟩ := int_in (ms := [lo + 2000, -1000001, hi, hi + 1]) rfl z0 z1
          exact ⟨o, _, _, _, rfl, rfl, .inl (.inl (k4.keep _ _ upd_same (B3.st.nd no).1)), hat, _, _, _, _, rfl, hn, B4.kp k4⟩
        · exact ⟨_, _, _, _, rfl, hn, B3⟩
      rintro σ H3 ⟨nm, lo, hi, st, rfl, hn, B3⟩
      refine ⟨M1, ?_, ?_⟩
      · refine ⟨_, rfl, rfl, _, rfl, ite2 (fun _ => ?_) (fun _ => ?_)⟩
        · refine ⟨_, rfl, _, rfl, lo, 1, rfl, rfl, (by show 3 ≤ sizeLine; decide), fun o no => ?_⟩
          have B4 := B3.new (ob := .lst [.int 1000001, .int hi, .int (lo - 1)]) no
          refine ⟨_, rfl, d, l, 3, rfl, B4.st, by decide, fun H4 z z0 z1 k4 => ?_⟩
          obtain ⟨v, _, hat⟩ := int_in (ms := [1000001, hi, lo - 1]) rfl z0 z1
          exact ⟨o, _, _, _, rfl, rfl, .inl (.inl (k4.keep _ _ upd_same (B3.st.nd no).1)), hat, _, _, _, _, rfl, hn, B4.kp k4⟩
        · exact ⟨_, _, _, _, rfl, hn, B3⟩
      rintro σ H3 ⟨nm, lo, hi, st, rfl, hn, B3⟩
      refine ⟨M1, ?_, ?_⟩
      · refine ⟨_, rfl, rfl, _, rfl, ite2 (fun _ => ?_) (fun _ => ?_)⟩
        · refine ⟨1, rfl, (by show 4 ≤ sizeLine; decide), fun o no => ?_⟩
          have B4 := B3.new (ob := .lst [.int 0, .int 1000001, .int (-1), .int 1000000]) no
          refine ⟨_, rfl, d, l, 4, rfl, B4.st, by decide, fun H4 z z0 z1 k4 => ?_⟩
          obtain ⟨v, _, hat⟩ := int_in (ms := [0, 1000001, -1, 1000000]) rfl z0 z1
          exact ⟨o, _, _, _, rfl, rfl, .inl (.inl (k4.keep _ _ upd_same (B3.st.nd no).1)), hat, _, _, _, _, rfl, hn, B4.kp k4⟩
        · exact ⟨_, _, _, _, rfl, hn, B3⟩
      rintro σ H3 ⟨nm, lo, hi, st, rfl, hn, B3⟩
      refine ⟨_, rfl, _, rfl, _, rfl, _, rfl, (by show 4 ≤ sizeLine; decide), fun t nt => ?_⟩
      have B4 := B3.new (ob := .tup [.str nm, .int lo, .int hi, .int st]) nt
      refine ⟨_, rfl, _, rfl, p, _, _, j, rfl, rfl, B4.lp, ixN_nat hj, ?_⟩
      exact ⟨_, _, _, _, _, _, _, _, rfl, B4.setp (x := ⟨nm, lo, hi, st⟩) upd_same hn⟩
    · rintro σ H3 ⟨y4, y5, y6, y7, y8, y9, xs', ds', rfl, B1⟩
      refine ⟨_, rfl, n, 4, rfl, rfl, _, rfl, ?_⟩
      by_cases c1 : 4 ≤ n
      case neg => exact iteBF (decide_eq_false c1) (iteF (k _ _ _ _ _ B1))
      refine iteB (decide_eq_true c1) ⟨_, rfl, q, _, rfl, .inl (.inl (.inl B1.lq)), (ys.length : Int), 0, rfl, rfl, _, rfl, ?_⟩
      by_cases c2 : 0 < (ys.length : Int)
      case neg => exact iteBF (decide_eq_false c2) (k _ _ _ _ _ B1)
      refine iteB (decide_eq_true c2) ?_
      refine ⟨_, rfl, _, rfl, q, _, rfl, .inl (.inl (.inl B1.lq)), d, l, (ys.length : Int), rfl, B1.st, c2, fun H2 m m0 m1 k2 => ?_⟩
      have B2 := B1.kp k2
      obtain ⟨j, rfl⟩ : ∃ j : Nat, m = (j : Int) := ⟨_, (Int.toNat_of_nonneg m0).symm⟩
      have hj : j < ys.length := by omega
      have hj2 : j < ts.length := by
        have := B2.rq.1
        rw [List.length_map] at this
        omega
      obtain ⟨c, e1, e2⟩ := B2.rq.2 j ts[j].v (by rw [List.getElem?_map, List.getElem?_eq_getElem hj2]; rfl)
      refine ⟨_, rfl, _, rfl, q, _, _, .ref c, rfl, rfl, .inl (.inl B2.lq), atI_nat e1, c, _, rfl, SqT.of e2, rfl, _, _, rfl, _, _, rfl, rfl, ?_⟩
      have hT := B.gt.2 _ (List.getElem_mem hj2)
      refine ⟨fun σ H3 => ∃ nm kd, σ = [some (.ref d), some (.ref p), some (.ref q), some (.int n), some (.int (j : Int)), some (.str nm), y6, y7, y8, some (.str kd)] ∧ (nm ∈ NS ∧ kd ∈ KX) ∧ Bth d l p q xs' ds' ys ts H H3, ?_, ?_⟩
      · refine ⟨_, rfl, rfl, _, rfl, ite2 (fun _ => ?_) (fun _ => ?_)⟩
        · exact ⟨_, rfl, d, l, rfl, B2.st, fun H4 z hz k4 => ⟨_, _, rfl, ⟨ln_tab _ hz, hT.2⟩, B2.kp k4⟩⟩
        · refine ⟨(by show 4 ≤ sizeLine; decide), fun o no => ?_⟩
          have B4 := B2.new (ob := .lst [.str "text", .str "number", .str "", .str "flags"]) no
          refine ⟨_, rfl, d, l, 4, rfl, B4.st, by decide, fun H4 z z0 z1 k4 => ?_⟩
          obtain ⟨v, hv, hat⟩ := str_in (ms := ["text", "number", "", "flags"]) rfl z0 z1
          exact ⟨o, _, _, _, rfl, rfl, .inl (.inl (k4.keep _ _ upd_same (B2.st.nd no).1)), hat, _, _, rfl, ⟨hT.1, kx4 _ hv⟩, B4.kp k4⟩
      rintro σ H3 ⟨nm, kd, rfl, hn, B3⟩
      refine ⟨_, rfl, _, rfl, (by show 2 ≤ sizeLine; decide), fun t nt => ?_⟩
      have B4 := B3.new (ob := .tup [.str nm, .str kd]) nt
      refine ⟨_, rfl, _, rfl, q, _, _, j, rfl, rfl, B4.lq, ixN_nat hj, ?_⟩
      exact k _ _ _ _ _ (B4.setq (x := ⟨nm, kd⟩) upd_same hn)
end
end K2

namespace K2
open PySem L2
theorem cut6 (ns : List Int) : cutV (ns.map V.int) none (some 6) = (ns.take 6).map V.int := by
  unfold cutV
  rw [HT.sIx_none, show HT.sIx (ns.map V.int).length (ns.map V.int).length (some 6) = min 6 (ns.map V.int).length from HT.sIx_nat _ _ 6, List.drop_zero, Nat.sub_zero, List.map_take]
  rw [Nat.min_def]
  split
  · rfl
  · rw [List.take_length, List.take_of_length_le (by omega)]
theorem Bth.re {d l p q : Addr} {xs : List V} {ds : List D} {ys : List V} {ts : List T} {H H1 : Hp} (a : Bth d l p q xs ds ys ts H H1) : Bth d l p q xs ds ys ts H1 H1 :=
  ⟨fun _ _ e _ _ _ => e, a.st, a.lp, a.rp, a.lq, a.rq, a.np, a.nq, a.pq, a.gd, a.gt, a.ld, a.lt⟩
theorem Kp.at {d l a : Addr} {H H1 : Hp} {o : HO} (k : Kp d l H H1) (S : StAt H d l) (e : H a = some o) (ho : ∀ kv, o ≠ .dK kv) : H1 a = some o := by
  obtain ⟨ns, z, h1, _⟩ := S.ex
  refine k.keep _ _ e fun y => ?_
  rw [y, h1] at e
  exact ho _ (Option.some.inj e).symm
theorem ShapeAt.kp {d l : Addr} {H H1 : Hp} {C a : Addr} {ds : List D} {ts : List T} (h : ShapeAt H C a ds ts) (S : StAt H d l) (k : Kp d l H H1) : ShapeAt H1 C a ds ts := by
  obtain ⟨dx, td, ta, xs, ys, h1, h2, h3, h4, h5⟩ := h
  exact ⟨dx, td, ta, xs, ys, k.at S h1 (fun _ z => nomatch z), k.at S h2 (fun _ z => nomatch z), h3.kp S k, k.at S h4 (fun _ z => nomatch z), h5.kp S k⟩
structure Al (d l p q x C : Addr) (xs : List V) (ds : List D) (ys : List V) (ts : List T) (H : Hp) : Prop where
  st : StAt H d l
  lp : H p = some (.lst xs)
  rp : Rows H xs (ds.map D.v)
  lq : H q = some (.lst ys)
  rq : Rows H ys (ts.map T.v)
  sh : ShapeAt H C x ds ts
section
variable {d l p q x C : Addr} {xs : List V} {ds : List D} {ys : List V} {ts : List T} {H H1 : Hp}
theorem Al.kp (a : Al d l p q x C xs ds ys ts H) (k : Kp d l H H1) : Al d l p q x C xs ds ys ts H1 :=
  ⟨k.st, k.at a.st a.lp (fun _ z => nomatch z), a.rp.kp a.st k, k.at a.st a.lq (fun _ z => nomatch z), a.rq.kp a.st k, a.sh.kp a.st k⟩
theorem Al.same (a : Al d l p q x C xs ds ys ts H) (e : Same H H1) : Al d l p q x C xs ds ys ts H1 := a.kp ((Kp.refl a.st).same e)
theorem same_mk {x dx : Addr} {o1 o2 o3 o4 : HO} (nx : H x = none) (ndx : H dx = none) : Same H (upd (upd (upd (upd H dx o1) x o2) x o3) x o4) := same_put (same_put (same_put (same_new ndx) nx) nx) nx
theorem shape_mk {x dx td ta : Addr} (nx : H x = none) (ndx : H dx = none) (h2 : H td = some (.tup xs)) (h3 : Rows H xs (ds.map D.v)) (h4 : H ta = some (.tup ys)) (h5 : Rows H ys (ts.map T.v)) :
    ShapeAt (upd (upd (upd (upd H dx (.own x)) x (.ins C dx [])) x (.ins C dx [("dims", .ref td)])) x (.ins C dx [("dims", .ref td), ("attrs", .ref ta)])) C x ds ts := by
  have s := same_mk (o1 := .own x) (o2 := .ins C dx []) (o3 := .ins C dx [("dims", .ref td)]) (o4 := .ins C dx [("dims", .ref td), ("attrs", .ref ta)]) nx ndx
  exact ⟨dx, td, ta, xs, ys, upd_same, s _ _ h2, h3.same s, s _ _ h4, h5.same s⟩
end
section
variable {K : PySem.W.Frag} {d l p q x C fI fE : Addr} {xs : List V} {ds : List D} {ys : List V} {ts : List T}
/-- another shape is made, and the first one held against it -/
theorem mk_eq (S : ShC K C fI fE) {H : Hp} {t1 tt : Addr} {ws zs : List V} {es : List D} {us : List T} {Q : VK} {E1 E2 : XK} (A : Al d l p q x C xs ds ys ts H) (gd : GoodD ds) (gt : GoodT ts) (h1 : H t1 = some (.tup ws)) (r1 : Rows H ws (es.map D.v)) (g1 : GoodD es)
    (h2 : H tt = some (.tup zs)) (r2 : Rows H zs (us.map T.v)) (g2 : GoodT us) (k : ∀ H9, Same H H9 → Al d l p q x C xs ds ys ts H9 → Q (.bl (PyData.eqv (DP ds) (DP es) && PyData.eqv (TP ts) (TP us))) H9) :
    ∀ x2 dx2, H x2 = none → H dx2 = none → dx2 ≠ x2 → spShInit K C fI fE (.ref x2 :: ([V.ref t1, .ref tt] ++ [])) (upd (upd H dx2 (.own x2)) x2 (.ins C dx2 [])) (fun v H2 => v = .non ∧ rOwnEq K C (spShEq C) E1 (.ref x) (.ref x2) H2 Q) E2 := by
  intro x2 dx2 nx ndx nex
  refine ⟨x2, dx2, .ref t1, .ref tt, rfl, upd_same, rfl, ?_⟩
  have s := same_mk (H := H) (o1 := .own x2) (o2 := .ins C dx2 []) (o3 := .ins C dx2 [("dims", .ref t1)]) (o4 := .ins C dx2 [("dims", .ref t1), ("attrs", .ref tt)]) nx ndx
  have A2 := A.same s
  have sh2 := shape_mk (C := C) nx ndx h1 r1 h2 r2
  obtain ⟨dx, td, ta, xs', ys', e1, _⟩ := id A2.sh
  exact ⟨x, dx, _, x2, .ref C, rfl, rfl, e1, .ins upd_same, S.n1, x, x2, ds, ts, rfl, A2.sh, gd, gt, .inl ⟨es, us, sh2, g1, g2, k _ s A2⟩⟩
end
def spLaw (K : PySem.W.Frag) : Sp := fun vs H Q _ => ∃ (a : Addr) (ns : List Int), vs = [.ref a] ∧ SqL K H a (ns.map V.int) ∧ ns.length ≤ 63 ∧ ∀ H', Q (.bl true) H'
theorem scLaw : FnScope ["script", "state", "turn", "dims", "attrs", "again", "shape", "name", "told"] ["script"] (defScope sLaw) := ⟨rfl, rfl, rfl, by decide +kernel, rfl, by decide +kernel, by decide +kernel⟩
structure Fs (K : PySem.W.Frag) (mg : Str → Option Value) (fR fD fA fN fS fT fU fM fI fL fJ fP fQ C : Addr) (dR dD dA dN dS dT dU dM dI dL dJ dP dQ : FuncData) : Prop where
  gR : mg "_law_draws" = some (.ref fR)
  gD : mg "_law_dims" = some (.ref fD)
  gA : mg "_law_attrs" = some (.ref fA)
  gN : mg "_law_next" = some (.ref fN)
  gS : mg "_law_spoilt" = some (.ref fS)
  gT : mg "_law_told" = some (.ref fT)
  gU : mg "_law_due" = some (.ref fU)
  gM : mg "_law_name" = some (.ref fM)
  gI : mg "dim_index" = some (.ref fI)
  gL : mg "_law_index" = some (.ref fL)
  gJ : mg "attr_index" = some (.ref fJ)
  gP : mg "is_simple_name" = some (.ref fP)
  gQ : mg "_law_simple" = some (.ref fQ)
  gC : mg "Shape" = some (.ref C)
  bR : Binds K dR ["cells"] []
  bD : Binds K dD ["state"] []
  bA : Binds K dA ["state"] []
  bN : Binds K dN ["state", "bound"] []
  bS : Binds K dS ["state", "dims", "attrs"] []
  bT : Binds K dT ["shape"] []
  bU : Binds K dU ["dims", "attrs"] []
  bM : Binds K dM ["state"] []
  bI : Binds K dI ["shape", "name"] []
  bL : Binds K dL ["rows", "name"] []
  bJ : Binds K dJ ["shape", "name"] []
  bP : Binds K dP ["text"] []
  bQ : Binds K dQ ["text"] []
  kR : PySem.W.keepIn K (.ref fR) = true
  kD : PySem.W.keepIn K (.ref fD) = true
  kA : PySem.W.keepIn K (.ref fA) = true
  kN : PySem.W.keepIn K (.ref fN) = true
  kS : PySem.W.keepIn K (.ref fS) = true
  kT : PySem.W.keepIn K (.ref fT) = true
  kU : PySem.W.keepIn K (.ref fU) = true
  kM : PySem.W.keepIn K (.ref fM) = true
  kI : PySem.W.keepIn K (.ref fI) = true
  kL : PySem.W.keepIn K (.ref fL) = true
  kJ : PySem.W.keepIn K (.ref fJ) = true
  kP : PySem.W.keepIn K (.ref fP) = true
  kQ : PySem.W.keepIn K (.ref fQ) = true
section
variable {P : Program} {w : World} {K : PySem.W.Frag} {mg : Str → Option Value} {base : Heap}
theorem ok_law {f fR fD fA fN fS fT fU fM fI fL fJ fP fQ C gI gE : Addr} {fd dR dD dA dN dS dT dU dM dI dL dJ dP dQ dGI dGE : FuncData} (F : Fun K "law" "law" sLaw f fd) (N : Nm K mg) (S : ShC K C gI gE) (T : Fs K mg fR fD fA fN fS fT fU fM fI fL fJ fP fQ C dR dD dA dN dS dT dU dM dI dL dJ dP dQ)
    (GR : FnOk P w K mg base CX0 2 fR dR ["cells"] (spDraws K)) (GD : FnOk P w K mg base CX0 2 fD dD ["state"] spLDims) (GA : FnOk P w K mg base CX0 2 fA dA ["state"] spLAttrs) (GN : FnOk P w K mg base CX0 1 fN dN ["state", "bound"] spNext)
    (GS : FnOk P w K mg base CX0 3 fS dS ["state", "dims", "attrs"] spSpoilt) (GT : FnOk P w K mg base CX0 4 fT dT ["shape"] (spTold C)) (GU : FnOk P w K mg base CX0 2 fU dU ["dims", "attrs"] (spDue K)) (GM : FnOk P w K mg base CX0 2 fM dM ["state"] spLName)
    (GDI : FnOk P w K mg base CX0 2 fI dI ["shape", "name"] (spDimIx C)) (GL : FnOk P w K mg base CX0 1 fL dL ["rows", "name"] (spLIndex K)) (GJ : FnOk P w K mg base CX0 2 fJ dJ ["shape", "name"] (spAttrIx C)) (GP : FnOk P w K mg base CX0 1 fP dP ["text"] spSimple)
    (GQ : FnOk P w K mg base CX0 1 fQ dQ ["text"] spLSimple) (GI : FnOk P w K mg base CX0 1 gI dGI ["self", "dims", "attrs"] (spShInit K C gI gE)) (bGI : Binds K dGI ["self", "dims", "attrs"] [])
    (GE : FnOk P w K mg base CX0 1 gE dGE ["self", "other"] (spShEq C)) (bGE : Binds K dGE ["self", "other"] []) : FnOk P w K mg base CX0 5 f fd ["script"] (spLaw K) := by
  refine F.ok scLaw (fun vs H Q E h => ?_) (fun cdv A outer s H vs Q E hr h => ?_)
  · obtain ⟨a, ns, rfl, _⟩ := h
    rfl
  · obtain ⟨a, ns, rfl, hS, hlen, q0⟩ := h
    have hr1 := hr.mono (j := 1) (by decide)
    have hr2 := hr.mono (j := 2) (by decide)
    have hr3 := hr.mono (j := 3) (by decide)
    refine ⟨_, pss_cons (ps_set (i := 1) scLaw.nd rfl (.inl rfl) (pe_call GR hr2 (by rfl) T.gR T.kR T.bR .nil pass0 (pa_cons (pe_op op_cat (pe_slice sl_list (pv 0) po_none (po_some pe_int)) (pe_lst (pa_cons pe_int pa_nil))) pa_nil)))
      (pss_cons (ps_for PassesOwn.never rfl (pi_range1 (by rfl) N.range (pa_cons pe_int pa_nil)) (pg_name (i := 2) scLaw.nd rfl (.inl rfl))
        (pss_cons (ps_set (i := 3) scLaw.nd rfl (.inl rfl) (pe_call GD hr2 (by rfl) T.gD T.kD T.bD .nil pass0 (pa_cons (pv 1) pa_nil)))
        (pss_cons (ps_set (i := 4) scLaw.nd rfl (.inl rfl) (pe_call GA hr2 (by rfl) T.gA T.kA T.bA .nil pass0 (pa_cons (pv 1) pa_nil)))
        (pss_cons (ps_for PassesOwn.never rfl (pi_range1 (by rfl) N.range (pa_cons (pe_call GN hr1 (by rfl) T.gN T.kN T.bN .nil pass0 (pa_cons (pv 1) (pa_cons pe_int pa_nil))) pa_nil)) (pg_name (i := 5) scLaw.nd rfl (.inl rfl))
          (pss_one (ps_expr (pe_call GS hr3 (by rfl) T.gS T.kS T.bS .nil pass0 (pa_cons (pv 1) (pa_cons (pv 3) (pa_cons (pv 4) pa_nil)))))))
        (pss_cons (ps_set (i := 6) scLaw.nd rfl (.inl rfl) (pe_make S.mm GI hr2 (by rfl) T.gC bGI .nil pass0 (pa_cons (pe_callTy call_tuple_of (by rfl) N.tuple (by decide +kernel) (pa_cons (pv 3) pa_nil)) (pa_cons (pe_callTy call_tuple_of (by rfl) N.tuple (by decide +kernel) (pa_cons (pv 4) pa_nil)) pa_nil))))
        (pss_cons (ps_if (PW.pt (pw_or (pt_cmpR op_ne (pe_call GT hr (by rfl) T.gT T.kT T.bT .nil pass0 (pa_cons (pv 6) pa_nil)) (pe_call GU hr2 (by rfl) T.gU T.kU T.bU .nil pass0 (pa_cons (pv 3) (pa_cons (pv 4) pa_nil))) (nomark _))
            (pw_or (pt_cmpR (op_neD hr.units) (pe_fld (pv 6) rfl) (pe_callTy call_tuple_of (by rfl) N.tuple (by decide +kernel) (pa_cons (pv 3) pa_nil)) (nomark _))
            (pw_or1 (pt_cmpR (op_neD hr.units) (pe_fld (pv 6) rfl) (pe_callTy call_tuple_of (by rfl) N.tuple (by decide +kernel) (pa_cons (pv 4) pa_nil)) (nomark _)))))) (pss_one (ps_ret pe_bl)) pss_nil)
        (pss_cons (ps_set (i := 7) scLaw.nd rfl (.inl rfl) (pe_call GM hr2 (by rfl) T.gM T.kM T.bM .nil pass0 (pa_cons (pv 1) pa_nil)))
        (pss_cons (ps_if (PW.pt (pw_or (pt_cmpR op_ne (pe_call GDI hr2 (by rfl) T.gI T.kI T.bI .nil pass0 (pa_cons (pv 6) (pa_cons (pv 7) pa_nil))) (pe_call GL hr1 (by rfl) T.gL T.kL T.bL .nil pass0 (pa_cons (pv 3) (pa_cons (pv 7) pa_nil))) (nomark _))
            (pw_or1 (pt_cmpR op_ne (pe_call GJ hr2 (by rfl) T.gJ T.kJ T.bJ .nil pass0 (pa_cons (pv 6) (pa_cons (pv 7) pa_nil))) (pe_call GL hr1 (by rfl) T.gL T.kL T.bL .nil pass0 (pa_cons (pv 4) (pa_cons (pv 7) pa_nil))) (nomark _))))) (pss_one (ps_ret pe_bl)) pss_nil)
        (pss_cons (ps_set (i := 8) scLaw.nd rfl (.inl rfl) (pe_call GP hr1 (by rfl) T.gP T.kP T.bP .nil pass0 (pa_cons (pv 7) pa_nil)))
        (pss_cons (ps_if (PW.pt (pw_or (pt_not (pt_val (pe_callB call_isi (by rfl) N.isinstance (by decide +kernel) (pa_cons (pv 8) (pa_cons (pe_bltn (v := .ty "bool") (by rfl) N.bool (by decide +kernel) rfl) pa_nil)))))
              (pw_or1 (pt_cmpR op_ne (pv 8) (pe_call GQ hr1 (by rfl) T.gQ T.kQ T.bQ .nil pass0 (pa_cons (pv 7) pa_nil)) (nomark _))))) (pss_one (ps_ret pe_bl)) pss_nil)
        (pss_cons (ps_if (PW.pt (pw_or (pt_not (pt_cmpR (op_owneq S.eq S.ef GE bGE hr1 pass0) (pv 6) (pe_make S.mm GI hr2 (by rfl) T.gC bGI .nil pass0 (pa_cons (pe_callTy call_tuple_of (by rfl) N.tuple (by decide +kernel) (pa_cons (pv 3) pa_nil)) (pa_cons (pe_callTy call_tuple_of (by rfl) N.tuple (by decide +kernel) (pa_cons (pv 4) pa_nil)) pa_nil))) (nomark _)))
              (pw_or1 (pt_cmpR (op_owneq S.eq S.ef GE bGE hr1 pass0) (pv 6) (pe_tup (pa_cons (pe_callTy call_tuple_of (by rfl) N.tuple (by decide +kernel) (pa_cons (pv 3) pa_nil)) (pa_cons (pe_callTy call_tuple_of (by rfl) N.tuple (by decide +kernel) (pa_cons (pv 4) pa_nil)) pa_nil))) (nomark _))))) (pss_one (ps_ret pe_bl)) pss_nil)
        (pss_one (ps_if (PW.pt (pw_or (pt_cmpR (op_owneq S.eq S.ef GE bGE hr1 pass0) (pv 6) (pe_make S.mm GI hr2 (by rfl) T.gC bGI .nil pass0 (pa_cons (pe_callTy call_tuple_of (by rfl) N.tuple (by decide +kernel) (pa_cons (pv 3) pa_nil)) (pa_cons (pe_op op_catA (pe_callTy call_tuple_of (by rfl) N.tuple (by decide +kernel) (pa_cons (pv 4) pa_nil)) (pe_tup (pa_cons (pe_tup (pa_cons pe_str (pa_cons pe_str pa_nil))) pa_nil))) pa_nil))) (nomark _))
              (pw_or1 (pt_cmpR (op_owneq S.eq S.ef GE bGE hr1 pass0) (pv 6) (pe_make S.mm GI hr2 (by rfl) T.gC bGI .nil pass0 (pa_cons (pe_op op_catA (pe_tup (pa_cons (pe_tup (pa_cons pe_str (pa_cons pe_int (pa_cons pe_int (pa_cons pe_int pa_nil))))) pa_nil)) (pe_callTy call_tuple_of (by rfl) N.tuple (by decide +kernel) (pa_cons (pv 3) pa_nil))) (pa_cons (pe_callTy call_tuple_of (by rfl) N.tuple (by decide +kernel) (pa_cons (pv 4) pa_nil)) pa_nil))) (nomark _))))) (pss_one (ps_ret pe_bl)) pss_nil)))))))))))))
      (pss_one (ps_ret pe_bl))), ?_⟩
    -- the state
    refine ⟨.ref a, rfl, 6, rfl, a, ns.map V.int, rfl, hS, fun p1 np1 => ⟨(by show 1 ≤ sizeLine; decide), fun p2 np2 => ?_⟩⟩
    have n12 : p1 ≠ p2 := ne_of_none upd_same np2
    have h6 : (ns.take 6).length ≤ 6 := by rw [List.length_take]; omega
    refine ⟨p1, p2, _, _, rfl, rfl, (by rw [upd_ne n12, upd_same]), upd_same, ?_, fun p3 np3 => ?_⟩
    · rw [cut6, List.length_map]
      exact Nat.le_of_lt (small1000 (show (ns.take 6).length + 1 ≤ 1000 by omega))
    refine ⟨p3, ns.take 6 ++ [3], rfl, .inl (.inl (by rw [upd_same, cut6, List.map_append]; rfl)), (by rw [List.length_append]; show _ + 1 ≤ 1000; omega), (by rw [List.length_append]; show 0 < _ + 1; omega), fun H1 d l s1 nd st => ?_⟩
    refine ⟨_, rfl, by decide, by decide, ?_⟩
    refine for_range (lo := 0) (n := (4 : Int).toNat) (fun i σ H3 => ∃ y2 y3 y4 y5 y6 y7 y8, σ = [some (.ref a), some (.ref d), y2, y3, y4, y5, y6, y7, y8] ∧ StAt H3 d l) ⟨_, _, _, _, _, _, _, rfl, st⟩ ?_ ?_
    · rintro i σ H3 hi ⟨y2, y3, y4, y5, y6, y7, y8, rfl, st⟩
      refine ⟨_, rfl, d, l, rfl, st, fun H4 p xs0 ds0 np a4 hds hns => ?_⟩
      refine ⟨_, rfl, d, l, rfl, a4.k.st, fun H5 q ys0 ts0 nq a5 hts hnt => ?_⟩
      have pd : p ≠ d := (st.nd np).1
      have B0 : Bth d l p q xs0 ds0 ys0 ts0 H5 H5 := ⟨fun _ _ e _ _ _ => e, a5.k.st, a5.k.keep _ _ a4.p pd, a4.r.kp a4.k.st a5.k, a5.p, a5.r, (st.nd np).2, (a4.k.st.nd nq).2, ne_of_none a4.p nq, ⟨by omega, hns⟩, ⟨by omega, hnt⟩, by omega, by omega⟩
      refine ⟨_, rfl, d, l, 3, rfl, B0.st, by decide, fun H6 m m0 m1 k6 => ⟨_, rfl, by omega, by omega, ?_⟩⟩
      refine for_range (lo := 0) (n := m.toNat) (fun i σ H7 => ∃ y2 y5 y6 y7 y8 xs ds ys ts, σ = [some (.ref a), some (.ref d), y2, some (.ref p), some (.ref q), y5, y6, y7, y8] ∧ Bth d l p q xs ds ys ts H7 H7) ⟨_, _, _, _, _, _, _, _, _, rfl, (B0.kp k6).re⟩ ?_ ?_
      · rintro i σ H7 hi ⟨y2, y5, y6, y7, y8, xs, ds, ys, ts, rfl, B⟩
        exact ⟨_, rfl, _, rfl, _, rfl, d, l, p, q, xs, ds, ys, ts, rfl, B, fun H8 xs' ds' ys' ts' B' => ⟨_, _, _, _, _, _, _, _, _, rfl, B'.re⟩⟩
      rintro σ H7 ⟨y2, y5, y6, y7, y8, xs, ds, ys, ts, rfl, B⟩
      -- the shape
      have gds := B.gd
      have gts := B.gt
      refine ⟨_, rfl, p, xs, rfl, .inl ⟨.inl (.inl B.lp), fun td ntd => ?_⟩⟩
      have B1 := (B.new (ob := .tup xs) ntd).re
      refine ⟨_, rfl, q, ys, rfl, .inl ⟨.inl (.inl B1.lq), fun ta nta => ?_⟩⟩
      have B2 := (B1.new (ob := .tup ys) nta).re
      intro x dx nx ndx nex
      refine ⟨x, dx, .ref td, .ref ta, rfl, upd_same, rfl, ?_⟩
      have s8 := same_mk (o1 := .own x) (o2 := .ins C dx []) (o3 := .ins C dx [("dims", .ref td)]) (o4 := .ins C dx [("dims", .ref td), ("attrs", .ref ta)]) nx ndx
      have sh0 := shape_mk (C := C) nx ndx (same_new nta _ _ upd_same) B2.rp upd_same B2.rq
      have A0 : Al d l p q x C xs ds ys ts _ := ⟨B2.st.same s8, s8 _ _ B2.lp, B2.rp.same s8, s8 _ _ B2.lq, B2.rq.same s8, sh0⟩
      -- told and due
      refine ⟨_, rfl, x, ds, ts, rfl, A0.sh, gds, gts, fun r hr1' H8 e8 => ?_⟩
      have A1 := A0.same e8
      refine ⟨_, rfl, _, rfl, p, q, ds, ts, xs, ys, rfl, .inl (.inl A1.lp), .inl (.inl A1.lq), A1.rp, A1.rq, gds, gts, fun r2 hr2' H9 e9 => ?_⟩
      have A2 := A1.same e9
      obtain rfl := res_one hr1' hr2'
      refine ⟨by cases r <;> rfl, _, rfl, iteBF (by rw [decide_eq_true rfl]; rfl) ?_⟩
      obtain ⟨dx2, td2, ta2, zs, us, f1, f2, f3, f4, f5⟩ := id A2.sh
      refine ⟨_, rfl, x, C, dx2, _, .ref td2, rfl, f1, S.cl, S.nD, rfl, _, rfl, p, xs, rfl, .inl ⟨.inl (.inl A2.lp), fun t3 n3 => ?_⟩⟩
      have e10 := same_new (o := .tup xs) n3
      refine ⟨DP ds, DP ds, .tup (SqT.of (e10 _ _ f2)) (dpD K (f3.same e10)), .tup (SqT.of upd_same) (dpD K (A2.rp.same e10)), DP.shp gds, DP.shp gds, _, rfl, iteBF (by rw [DP.refl gds]; rfl) ?_⟩
      have A3 := A2.same e10
      refine ⟨_, rfl, x, C, dx2, _, .ref ta2, rfl, e10 _ _ f1, S.cl, S.nA, rfl, _, rfl, q, ys, rfl, .inl ⟨.inl (.inl A3.lq), fun t4 n4 => ?_⟩⟩
      have e11 := same_new (o := .tup ys) n4
      have e12 := e10.trans e11
      refine ⟨TP ts, TP ts, .tup (SqT.of (e12 _ _ f4)) (dpT K (f5.same e12)), .tup (SqT.of upd_same) (dpT K (A3.rq.same e11)), TP.shp gts, TP.shp gts, _, rfl, iteBF (by rw [TP.refl gts]; rfl) ?_⟩
      have A4 := A3.same e11
      -- a name
      refine ⟨_, rfl, d, l, rfl, A4.st, fun H12 z hz k12 => ?_⟩
      have A5 := A4.kp k12
      have hzn := ln_tab z hz
      have lx : xs.length ≤ 1000 := by
        have := A5.rp.1
        rw [List.length_map] at this
        have := gds.1
        omega
      have ly : ys.length ≤ 1000 := by
        have := A5.rq.1
        rw [List.length_map] at this
        have := gts.1
        omega
      refine ⟨_, rfl, _, rfl, x, z, ds, ts, rfl, A5.sh, fun r5 hr5 H13 e13 => ?_⟩
      have A6 := A5.same e13
      refine ⟨_, rfl, _, rfl, p, z, xs, _, _, rfl, .inl (.inl A6.lp), lx, A6.rp, headsD ds, fun r6 hr6 => ?_⟩
      obtain rfl := idx_one hr5 hr6
      refine ⟨by cases r5 <;> rfl, _, rfl, iteBF (by rw [decide_eq_true rfl]; rfl) ?_⟩
      refine ⟨_, rfl, _, rfl, x, z, ds, ts, rfl, A6.sh, fun r7 hr7 H14 e14 => ?_⟩
      have A7 := A6.same e14
      refine ⟨_, rfl, _, rfl, q, z, ys, _, _, rfl, .inl (.inl A7.lq), ly, A7.rq, headsT ts, fun r8 hr8 => ?_⟩
      obtain rfl := idx_one hr7 hr8
      refine ⟨by cases r7 <;> rfl, _, rfl, iteBF (by rw [decide_eq_true rfl]; rfl) ?_⟩
      -- a simple name
      refine ⟨_, rfl, z, rfl, hzn, ?_⟩
      refine ⟨_, rfl, _, .ty "bool", .type "bool", .type "bool", true, rfl, .ty _, .base (.bl _), kit_ty (by decide +kernel), true, rfl, iteF ?_⟩
      refine ⟨_, rfl, _, rfl, z, rfl, hzn, rfl, _, rfl, iteBF (by rw [decide_eq_true rfl]; rfl) ?_⟩
      -- the same one again
      refine ⟨_, rfl, _, rfl, p, xs, rfl, .inl ⟨.inl (.inl A7.lp), fun t5 n5 => ?_⟩⟩
      have A8 := A7.same (same_new (o := .tup xs) n5)
      refine ⟨_, rfl, q, ys, rfl, .inl ⟨.inl (.inl A8.lq), fun t6 n6 => ?_⟩⟩
      have A9 := A8.same (same_new (o := .tup ys) n6)
      refine mk_eq S A9 gds gts (same_new n6 _ _ upd_same) A9.rp gds upd_same A9.rq gts fun H15 _ A10 => ⟨_, rfl, iteBF (by rw [DP.refl gds, TP.refl gts]; rfl) ?_⟩
      -- a tuple
      refine ⟨_, rfl, _, rfl, p, xs, rfl, .inl ⟨.inl (.inl A10.lp), fun t7 n7 => ?_⟩⟩
      have A11 := A10.same (same_new (o := .tup xs) n7)
      refine ⟨_, rfl, q, ys, rfl, .inl ⟨.inl (.inl A11.lq), fun t8 n8 => ?_⟩⟩
      have A12 := A11.same (same_new (o := .tup ys) n8)
      refine ⟨(by show 2 ≤ sizeLine; decide), fun t9 n9 => ?_⟩
      have A13 := A12.same (same_new (o := .tup [.ref t7, .ref t8]) n9)
      obtain ⟨dx3, _, _, _, _, g1, _⟩ := id A13.sh
      refine ⟨x, dx3, _, t9, .type "tuple", rfl, rfl, g1, .tup (SqT.of upd_same), S.n2, x, t9, ds, ts, rfl, A13.sh, gds, gts, .inr ⟨_, upd_same, _, rfl, iteF ?_⟩⟩
      -- one attribute more
      have gts2 : GoodT (ts ++ [⟨"q", "int"⟩]) := by
        refine ⟨by rw [List.length_append]; have := B.lt; show _ + 1 ≤ 1000; omega, fun y hy => ?_⟩
        rcases List.mem_append.mp hy with h | h
        · exact gts.2 y h
        · rw [List.mem_singleton.mp h]
          exact ⟨q_ns, by decide +kernel⟩
      have gds2 : GoodD (⟨"q", 0, 1, 1⟩ :: ds) := by
        refine ⟨by rw [List.length_cons]; have := B.ld; omega, fun y hy => ?_⟩
        rcases List.mem_cons.mp hy with h | h
        · rw [h]
          exact q_ns
        · exact gds.2 y h
      have tne : PyData.eqv (TP ts) (TP (ts ++ [⟨"q", "int"⟩])) = false := TP.ne (by rw [List.length_append]; show _ ≠ _ + 1; omega)
      have dne : PyData.eqv (DP ds) (DP (⟨"q", 0, 1, 1⟩ :: ds)) = false := DP.ne (by rw [List.length_cons]; omega)
      refine ⟨_, rfl, _, rfl, p, xs, rfl, .inl ⟨.inl (.inl A13.lp), fun t10 n10 => ?_⟩⟩
      have A14 := A13.same (same_new (o := .tup xs) n10)
      refine ⟨_, rfl, q, ys, rfl, .inl ⟨.inl (.inl A14.lq), fun t11 n11 => ?_⟩⟩
      have A15 := A14.same (same_new (o := .tup ys) n11)
      have w11 := same_new (o := .tup ys) n11 t10 _ upd_same
      refine ⟨(by show 2 ≤ sizeLine; decide), fun t12 n12' => ?_⟩
      have e12' := same_new (o := .tup [.str "q", .str "int"]) n12'
      have A16 := A15.same e12'
      have w12 := e12' _ _ w11
      refine ⟨(by show 1 ≤ sizeLine; decide), fun t13 n13 => ?_⟩
      have e13' := same_new (o := .tup [.ref t12]) n13
      have A17 := A16.same e13'
      have w13 := e13' _ _ w12
      have v13 := e13' t12 (.tup [.str "q", .str "int"]) upd_same
      have x13 := e13' _ _ (e12' t11 (.tup ys) upd_same)
      have r13 := A17.rq.push v13
      rw [show ts.map K2.T.v ++ [[V.str "q", V.str "int"]] = (ts ++ [(⟨"q", "int"⟩ : K2.T)]).map K2.T.v from by rw [List.map_append]; rfl] at r13
      refine ⟨t11, t13, ys, [.ref t12], rfl, rfl, SqT.of x13, SqT.of upd_same, (by show _ + 1 ≤ _; exact Nat.le_trans (show ys.length + 1 ≤ 1001 by omega) (by decide)), fun h => ?_, fun _ h => absurd h (by simp), fun _ _ t14 n14 => ?_⟩
      · refine mk_eq S A17 gds gts w13 A17.rp gds (by rw [show ys ++ [V.ref t12] = [V.ref t12] from by rw [h]; rfl]; exact upd_same) r13 gts2 fun H16 _ A18 => ⟨_, rfl, iteBF (by rw [tne, Bool.and_false]) ?_⟩
        refine ⟨_, rfl, (by show 4 ≤ sizeLine; decide), fun t15 n15 => ?_⟩
        have e15 := same_new (o := .tup [.str "q", .int 0, .int 1, .int 1]) n15
        have B15 := A18.same e15
        refine ⟨(by show 1 ≤ sizeLine; decide), fun t16 n16 => ?_⟩
        have e16 := same_new (o := .tup [.ref t15]) n16
        have B16 := B15.same e16
        refine ⟨_, rfl, p, xs, rfl, .inl ⟨.inl (.inl B16.lp), fun t17 n17 => ?_⟩⟩
        have e17 := same_new (o := .tup xs) n17
        have B17 := B16.same e17
        have v17 := e17 _ _ (e16 t15 (.tup [.str "q", .int 0, .int 1, .int 1]) upd_same)
        have w17 := e17 t16 (.tup [.ref t15]) upd_same
        have r17 := B17.rp.cons v17
        refine ⟨t16, t17, [.ref t15], xs, rfl, rfl, SqT.of w17, SqT.of upd_same, (by show 1 + _ ≤ _; exact Nat.le_trans (show 1 + xs.length ≤ 1001 by omega) (by decide)), fun h => absurd h (by simp), fun _ hx => ?_, fun _ hx t18 n18 => ?_⟩
        · have w17' := w17.trans (congrArg (fun z => some (HO.tup z)) (show ([V.ref t15] : List V) = V.ref t15 :: xs from by rw [hx]))
          refine ⟨_, rfl, q, ys, rfl, .inl ⟨.inl (.inl B17.lq), fun t19 n19 => ?_⟩⟩
          have e19 := same_new (o := .tup ys) n19
          have A19 := B17.same e19
          exact mk_eq S A19 gds gts (e19 _ _ w17') (r17.same e19) gds2 upd_same A19.rq gts (es := ⟨"q", 0, 1, 1⟩ :: ds) fun H20 _ A20 => ⟨_, rfl, iteBF (by rw [dne, Bool.false_and]) ⟨_, _, _, _, _, _, _, rfl, A20.st⟩⟩
        · have e18 := same_new (o := .tup ([.ref t15] ++ xs)) n18
          have B18 := B17.same e18
          refine ⟨_, rfl, q, ys, rfl, .inl ⟨.inl (.inl B18.lq), fun t19 n19 => ?_⟩⟩
          have e19 := same_new (o := .tup ys) n19
          have A19 := B18.same e19
          exact mk_eq S A19 gds gts (e19 _ _ (upd_same (o := .tup ([.ref t15] ++ xs)))) ((r17.same e18).same e19) gds2 upd_same A19.rq gts (es := ⟨"q", 0, 1, 1⟩ :: ds) fun H20 _ A20 => ⟨_, rfl, iteBF (by rw [dne, Bool.false_and]) ⟨_, _, _, _, _, _, _, rfl, A20.st⟩⟩
      · have e14 := same_new (o := .tup (ys ++ [.ref t12])) n14
        have A18' := A17.same e14
        refine mk_eq S A18' gds gts (e14 _ _ w13) A18'.rp gds upd_same (r13.same e14) gts2 fun H16 _ A18 => ⟨_, rfl, iteBF (by rw [tne, Bool.and_false]) ?_⟩
        refine ⟨_, rfl, (by show 4 ≤ sizeLine; decide), fun t15 n15 => ?_⟩
        have e15 := same_new (o := .tup [.str "q", .int 0, .int 1, .int 1]) n15
        have B15 := A18.same e15
        refine ⟨(by show 1 ≤ sizeLine; decide), fun t16 n16 => ?_⟩
        have e16 := same_new (o := .tup [.ref t15]) n16
        have B16 := B15.same e16
        refine ⟨_, rfl, p, xs, rfl, .inl ⟨.inl (.inl B16.lp), fun t17 n17 => ?_⟩⟩
        have e17 := same_new (o := .tup xs) n17
        have B17 := B16.same e17
        have v17 := e17 _ _ (e16 t15 (.tup [.str "q", .int 0, .int 1, .int 1]) upd_same)
        have w17 := e17 t16 (.tup [.ref t15]) upd_same
        have r17 := B17.rp.cons v17
        refine ⟨t16, t17, [.ref t15], xs, rfl, rfl, SqT.of w17, SqT.of upd_same, (by show 1 + _ ≤ _; exact Nat.le_trans (show 1 + xs.length ≤ 1001 by omega) (by decide)), fun h => absurd h (by simp), fun _ hx => ?_, fun _ hx t18 n18 => ?_⟩
        · have w17' := w17.trans (congrArg (fun z => some (HO.tup z)) (show ([V.ref t15] : List V) = V.ref t15 :: xs from by rw [hx]))
          refine ⟨_, rfl, q, ys, rfl, .inl ⟨.inl (.inl B17.lq), fun t19 n19 => ?_⟩⟩
          have e19 := same_new (o := .tup ys) n19
          have A19 := B17.same e19
          exact mk_eq S A19 gds gts (e19 _ _ w17') (r17.same e19) gds2 upd_same A19.rq gts (es := ⟨"q", 0, 1, 1⟩ :: ds) fun H20 _ A20 => ⟨_, rfl, iteBF (by rw [dne, Bool.false_and]) ⟨_, _, _, _, _, _, _, rfl, A20.st⟩⟩
        · have e18 := same_new (o := .tup ([.ref t15] ++ xs)) n18
          have B18 := B17.same e18
          refine ⟨_, rfl, q, ys, rfl, .inl ⟨.inl (.inl B18.lq), fun t19 n19 => ?_⟩⟩
          have e19 := same_new (o := .tup ys) n19
          have A19 := B18.same e19
          exact mk_eq S A19 gds gts (e19 _ _ (upd_same (o := .tup ([.ref t15] ++ xs)))) ((r17.same e18).same e19) gds2 upd_same A19.rq gts (es := ⟨"q", 0, 1, 1⟩ :: ds) fun H20 _ A20 => ⟨_, rfl, iteBF (by rw [dne, Bool.false_and]) ⟨_, _, _, _, _, _, _, rfl, A20.st⟩⟩
    · rintro σ H3 ⟨y2, y3, y4, y5, y6, y7, y8, rfl, st⟩
      exact q0 _
end
end K2

namespace K2
open PySem L2
theorem all_mk {l : PySem.W.OpenLaw} {w : World} {K : PySem.W.Frag} {h : Heap} {mg : Str → Option Value} {fa : Addr} (X : K.In h) (G : h.Ns mainGlobals mg) (hfa : mg "law" = some (.ref fa))
    {f1 : Addr} {od1 an1 : Option Addr} {sl1 : Array (Option Value)} {oc1 kV1 dc1 pm1 cd1 ct1 : Value}
    (a1 : PySem.W.nsIn K mainGlobals "check_shape" = some (some (.ref f1))) (l1 : K.lookup f1 = some ⟨oc1, od1, .func (PySem.W.fnOf "check_shape" "check_shape" (defArgs sCheck) (defBody sCheck) (defScope sCheck) .none kV1 dc1 pm1 an1 cd1 ct1), sl1⟩) (c1 : PySem.W.codeIn K cd1 "check_shape" = true) (k1 : PySem.W.keepIn K (.ref f1) = true)
    {f2 : Addr} {od2 an2 : Option Addr} {sl2 : Array (Option Value)} {oc2 kV2 dc2 pm2 cd2 ct2 : Value}
    (a2 : PySem.W.nsIn K mainGlobals "is_dim" = some (some (.ref f2))) (l2 : K.lookup f2 = some ⟨oc2, od2, .func (PySem.W.fnOf "is_dim" "is_dim" (defArgs sIsDim) (defBody sIsDim) (defScope sIsDim) .none kV2 dc2 pm2 an2 cd2 ct2), sl2⟩) (c2 : PySem.W.codeIn K cd2 "is_dim" = true) (k2 : PySem.W.keepIn K (.ref f2) = true)
    {f3 : Addr} {od3 an3 : Option Addr} {sl3 : Array (Option Value)} {oc3 kV3 dc3 pm3 cd3 ct3 : Value}
    (a3 : PySem.W.nsIn K mainGlobals "is_attr" = some (some (.ref f3))) (l3 : K.lookup f3 = some ⟨oc3, od3, .func (PySem.W.fnOf "is_attr" "is_attr" (defArgs sIsAttr) (defBody sIsAttr) (defScope sIsAttr) .none kV3 dc3 pm3 an3 cd3 ct3), sl3⟩) (c3 : PySem.W.codeIn K cd3 "is_attr" = true) (k3 : PySem.W.keepIn K (.ref f3) = true)
    {f4 : Addr} {od4 an4 : Option Addr} {sl4 : Array (Option Value)} {oc4 kV4 dc4 pm4 cd4 ct4 : Value}
    (a4 : PySem.W.nsIn K mainGlobals "is_simple_name" = some (some (.ref f4))) (l4 : K.lookup f4 = some ⟨oc4, od4, .func (PySem.W.fnOf "is_simple_name" "is_simple_name" (defArgs sSimple) (defBody sSimple) (defScope sSimple) .none kV4 dc4 pm4 an4 cd4 ct4), sl4⟩) (c4 : PySem.W.codeIn K cd4 "is_simple_name" = true) (k4 : PySem.W.keepIn K (.ref f4) = true)
    {f5 : Addr} {od5 an5 : Option Addr} {sl5 : Array (Option Value)} {oc5 kV5 dc5 pm5 cd5 ct5 : Value}
    (a5 : PySem.W.nsIn K mainGlobals "dim_index" = some (some (.ref f5))) (l5 : K.lookup f5 = some ⟨oc5, od5, .func (PySem.W.fnOf "dim_index" "dim_index" (defArgs sDimIx) (defBody sDimIx) (defScope sDimIx) .none kV5 dc5 pm5 an5 cd5 ct5), sl5⟩) (c5 : PySem.W.codeIn K cd5 "dim_index" = true) (k5 : PySem.W.keepIn K (.ref f5) = true)
    {f6 : Addr} {od6 an6 : Option Addr} {sl6 : Array (Option Value)} {oc6 kV6 dc6 pm6 cd6 ct6 : Value}
    (a6 : PySem.W.nsIn K mainGlobals "attr_index" = some (some (.ref f6))) (l6 : K.lookup f6 = some ⟨oc6, od6, .func (PySem.W.fnOf "attr_index" "attr_index" (defArgs sAttrIx) (defBody sAttrIx) (defScope sAttrIx) .none kV6 dc6 pm6 an6 cd6 ct6), sl6⟩) (c6 : PySem.W.codeIn K cd6 "attr_index" = true) (k6 : PySem.W.keepIn K (.ref f6) = true)
    {f7 : Addr} {od7 an7 : Option Addr} {sl7 : Array (Option Value)} {oc7 kV7 dc7 pm7 cd7 ct7 : Value}
    (a7 : PySem.W.nsIn K mainGlobals "index_of" = some (some (.ref f7))) (l7 : K.lookup f7 = some ⟨oc7, od7, .func (PySem.W.fnOf "index_of" "index_of" (defArgs sIndex) (defBody sIndex) (defScope sIndex) .none kV7 dc7 pm7 an7 cd7 ct7), sl7⟩) (c7 : PySem.W.codeIn K cd7 "index_of" = true) (k7 : PySem.W.keepIn K (.ref f7) = true)
    {f8 : Addr} {od8 an8 : Option Addr} {sl8 : Array (Option Value)} {oc8 kV8 dc8 pm8 cd8 ct8 : Value}
    (a8 : PySem.W.nsIn K mainGlobals "_law_draw" = some (some (.ref f8))) (l8 : K.lookup f8 = some ⟨oc8, od8, .func (PySem.W.fnOf "_law_draw" "_law_draw" (defArgs sDraw) (defBody sDraw) (defScope sDraw) .none kV8 dc8 pm8 an8 cd8 ct8), sl8⟩) (c8 : PySem.W.codeIn K cd8 "_law_draw" = true) (k8 : PySem.W.keepIn K (.ref f8) = true)
    {f9 : Addr} {od9 an9 : Option Addr} {sl9 : Array (Option Value)} {oc9 kV9 dc9 pm9 cd9 ct9 : Value}
    (a9 : PySem.W.nsIn K mainGlobals "_law_draws" = some (some (.ref f9))) (l9 : K.lookup f9 = some ⟨oc9, od9, .func (PySem.W.fnOf "_law_draws" "_law_draws" (defArgs sDraws) (defBody sDraws) (defScope sDraws) .none kV9 dc9 pm9 an9 cd9 ct9), sl9⟩) (c9 : PySem.W.codeIn K cd9 "_law_draws" = true) (k9 : PySem.W.keepIn K (.ref f9) = true)
    {f10 : Addr} {od10 an10 : Option Addr} {sl10 : Array (Option Value)} {oc10 kV10 dc10 pm10 cd10 ct10 : Value}
    (a10 : PySem.W.nsIn K mainGlobals "_law_next" = some (some (.ref f10))) (l10 : K.lookup f10 = some ⟨oc10, od10, .func (PySem.W.fnOf "_law_next" "_law_next" (defArgs sNext) (defBody sNext) (defScope sNext) .none kV10 dc10 pm10 an10 cd10 ct10), sl10⟩) (c10 : PySem.W.codeIn K cd10 "_law_next" = true) (k10 : PySem.W.keepIn K (.ref f10) = true)
    {f11 : Addr} {od11 an11 : Option Addr} {sl11 : Array (Option Value)} {oc11 kV11 dc11 pm11 cd11 ct11 : Value}
    (a11 : PySem.W.nsIn K mainGlobals "_law_simple" = some (some (.ref f11))) (l11 : K.lookup f11 = some ⟨oc11, od11, .func (PySem.W.fnOf "_law_simple" "_law_simple" (defArgs sLSimple) (defBody sLSimple) (defScope sLSimple) .none kV11 dc11 pm11 an11 cd11 ct11), sl11⟩) (c11 : PySem.W.codeIn K cd11 "_law_simple" = true) (k11 : PySem.W.keepIn K (.ref f11) = true)
    {f12 : Addr} {od12 an12 : Option Addr} {sl12 : Array (Option Value)} {oc12 kV12 dc12 pm12 cd12 ct12 : Value}
    (a12 : PySem.W.nsIn K mainGlobals "_law_dims" = some (some (.ref f12))) (l12 : K.lookup f12 = some ⟨oc12, od12, .func (PySem.W.fnOf "_law_dims" "_law_dims" (defArgs sLDims) (defBody sLDims) (defScope sLDims) .none kV12 dc12 pm12 an12 cd12 ct12), sl12⟩) (c12 : PySem.W.codeIn K cd12 "_law_dims" = true) (k12 : PySem.W.keepIn K (.ref f12) = true)
    {f13 : Addr} {od13 an13 : Option Addr} {sl13 : Array (Option Value)} {oc13 kV13 dc13 pm13 cd13 ct13 : Value}
    (a13 : PySem.W.nsIn K mainGlobals "_law_attrs" = some (some (.ref f13))) (l13 : K.lookup f13 = some ⟨oc13, od13, .func (PySem.W.fnOf "_law_attrs" "_law_attrs" (defArgs sLAttrs) (defBody sLAttrs) (defScope sLAttrs) .none kV13 dc13 pm13 an13 cd13 ct13), sl13⟩) (c13 : PySem.W.codeIn K cd13 "_law_attrs" = true) (k13 : PySem.W.keepIn K (.ref f13) = true)
    {f14 : Addr} {od14 an14 : Option Addr} {sl14 : Array (Option Value)} {oc14 kV14 dc14 pm14 cd14 ct14 : Value}
    (a14 : PySem.W.nsIn K mainGlobals "_law_name" = some (some (.ref f14))) (l14 : K.lookup f14 = some ⟨oc14, od14, .func (PySem.W.fnOf "_law_name" "_law_name" (defArgs sLName) (defBody sLName) (defScope sLName) .none kV14 dc14 pm14 an14 cd14 ct14), sl14⟩) (c14 : PySem.W.codeIn K cd14 "_law_name" = true) (k14 : PySem.W.keepIn K (.ref f14) = true)
    {f15 : Addr} {od15 an15 : Option Addr} {sl15 : Array (Option Value)} {oc15 kV15 dc15 pm15 cd15 ct15 : Value}
    (a15 : PySem.W.nsIn K mainGlobals "_law_spoilt" = some (some (.ref f15))) (l15 : K.lookup f15 = some ⟨oc15, od15, .func (PySem.W.fnOf "_law_spoilt" "_law_spoilt" (defArgs sLSpoilt) (defBody sLSpoilt) (defScope sLSpoilt) .none kV15 dc15 pm15 an15 cd15 ct15), sl15⟩) (c15 : PySem.W.codeIn K cd15 "_law_spoilt" = true) (k15 : PySem.W.keepIn K (.ref f15) = true)
    {f16 : Addr} {od16 an16 : Option Addr} {sl16 : Array (Option Value)} {oc16 kV16 dc16 pm16 cd16 ct16 : Value}
    (a16 : PySem.W.nsIn K mainGlobals "_law_due" = some (some (.ref f16))) (l16 : K.lookup f16 = some ⟨oc16, od16, .func (PySem.W.fnOf "_law_due" "_law_due" (defArgs sLDue) (defBody sLDue) (defScope sLDue) .none kV16 dc16 pm16 an16 cd16 ct16), sl16⟩) (c16 : PySem.W.codeIn K cd16 "_law_due" = true) (k16 : PySem.W.keepIn K (.ref f16) = true)
    {f17 : Addr} {od17 an17 : Option Addr} {sl17 : Array (Option Value)} {oc17 kV17 dc17 pm17 cd17 ct17 : Value}
    (a17 : PySem.W.nsIn K mainGlobals "_law_told" = some (some (.ref f17))) (l17 : K.lookup f17 = some ⟨oc17, od17, .func (PySem.W.fnOf "_law_told" "_law_told" (defArgs sLTold) (defBody sLTold) (defScope sLTold) .none kV17 dc17 pm17 an17 cd17 ct17), sl17⟩) (c17 : PySem.W.codeIn K cd17 "_law_told" = true) (k17 : PySem.W.keepIn K (.ref f17) = true)
    {f18 : Addr} {od18 an18 : Option Addr} {sl18 : Array (Option Value)} {oc18 kV18 dc18 pm18 cd18 ct18 : Value}
    (a18 : PySem.W.nsIn K mainGlobals "_law_index" = some (some (.ref f18))) (l18 : K.lookup f18 = some ⟨oc18, od18, .func (PySem.W.fnOf "_law_index" "_law_index" (defArgs sLIndex) (defBody sLIndex) (defScope sLIndex) .none kV18 dc18 pm18 an18 cd18 ct18), sl18⟩) (c18 : PySem.W.codeIn K cd18 "_law_index" = true) (k18 : PySem.W.keepIn K (.ref f18) = true)
    {f19 : Addr} {od19 an19 : Option Addr} {sl19 : Array (Option Value)} {oc19 kV19 dc19 pm19 cd19 ct19 : Value}
    (a19 : PySem.W.nsIn K mainGlobals "law" = some (some (.ref f19))) (l19 : K.lookup f19 = some ⟨oc19, od19, .func (PySem.W.fnOf "law" "law" (defArgs sLaw) (defBody sLaw) (defScope sLaw) .none kV19 dc19 pm19 an19 cd19 ct19), sl19⟩) (c19 : PySem.W.codeIn K cd19 "law" = true) (k19 : PySem.W.keepIn K (.ref f19) = true)
    (z1 : PySem.W.nsIn K mainGlobals "range" = some none)
    (z2 : PySem.W.nsIn K mainGlobals "int" = some none)
    (z3 : PySem.W.nsIn K mainGlobals "len" = some none)
    (z4 : PySem.W.nsIn K mainGlobals "isinstance" = some none)
    (z5 : PySem.W.nsIn K mainGlobals "bool" = some none)
    (z6 : PySem.W.nsIn K mainGlobals "tuple" = some none)
    (z7 : PySem.W.nsIn K mainGlobals "str" = some none)
    (z8 : PySem.W.nsIn K mainGlobals "min" = some none)
    (z9 : PySem.W.nsIn K mainGlobals "enumerate" = some none)
    (z10 : PySem.W.nsIn K mainGlobals "ValueError" = some none)
    {t1 : Tok} (g1 : PySem.W.nsIn K mainGlobals "NAME_CHARACTERS" = some (some (.str NCH t1)))
    {t2 : Tok} (g2 : PySem.W.nsIn K mainGlobals "DIGITS" = some (some (.str DIG t2)))
    {t3 : Tok} (g3 : PySem.W.nsIn K mainGlobals "LONGEST_NAME" = some (some (.int 30 t3)))
    {t4 : Tok} (g4 : PySem.W.nsIn K mainGlobals "MOST_DIMS" = some (some (.int 6 t4)))
    {t5 : Tok} (g5 : PySem.W.nsIn K mainGlobals "MOST_ATTRS" = some (some (.int 16 t5)))
    {t6 : Tok} (g6 : PySem.W.nsIn K mainGlobals "FURTHEST" = some (some (.int 1000000 t6)))
    {t7 : Tok} (g7 : PySem.W.nsIn K mainGlobals "LONGEST_STEP" = some (some (.int 1000000 t7)))
    {C CM CC S kk fI fG fE : Addr} {nm q : Str} {Nn : Addr} {bs : List Value} {sn : List Str} {sub : List Value} {ab : Bool} {col : Option Bool} {dd : Option Addr} {m0 m1 m3 m5 : Option Value} {tn tk1 tk2 tk3 : Tok} {nK : Nat} {ddK : Option Addr} {slK : Array (Option Value)} {odI anI : Option Addr} {slI : Array (Option Value)} {ocI kVI dcI pmI cdI ctI : Value} {odG anG : Option Addr} {slG : Array (Option Value)} {ocG kVG dcG pmG cdG ctG : Value} {odE anE : Option Addr} {slE : Array (Option Value)} {ocE kVE dcE pmE cdE ctE : Value}
    (eC : PySem.W.nsIn K mainGlobals "InvalidShape" = some (some (.ref C)))
    (eM : PySem.W.nsIn K mainGlobals "ManysidesError" = some (some (.ref CM)))
    (eX : PySem.W.nsIn K mainGlobals "InvalidCell" = some (some (.ref CC)))
    (xL : K.lookup C = some (excClassObj nm q C Nn bs [.ref CM, .type "ValueError", .type "Exception", .type "BaseException", .type "object"] true sn sub ab col dd m0 m1 (some (.str "InvalidShape" tn)) m3 m5 "ValueError.__new__"))
    (sa : PySem.W.findIn K (.ref C) "__setattr__" = some (some (.builtin "object.__setattr__")))
    (ga : PySem.W.findIn K (.ref C) "__getattribute__" = some (some (.builtin "BaseException.__getattribute__")))
    (gg : PySem.W.findIn K (.ref C) "__getattr__" = some none)
    (hs : PySem.W.subIn K (.ref C) (.type "BaseException") = some true)
    (hd : PySem.W.hasDictIn K C = true)
    (ha : PySem.W.findIn K (.ref C) "__class__" = some (some (.builtin "object.__class__")))
    (hn : PySem.W.specialIn K (.builtin "object.__class__") "__get__" = some (some (.builtin "getset_descriptor.__get__")))
    (ht : PySem.W.takesIn K (.builtin "object.__class__") = some true)
    (hm : PySem.W.mroIn K C (.type "object") = some true)
    (tyC : PySem.W.typeIn K (.ref C) = some (.type "type"))
    (kC : PySem.W.keepIn K (.ref C) = true)
    (rd : PySem.W.readsIn K C (.type "type") = true)
    (fc : PySem.W.findCls K (.ref C) (.type "type") "__name__" = some (.get (.builtin "getset_descriptor.__get__") (.builtin "type.__name__") (.ref C) (.type "type")))
    (noP : PySem.W.findIn K (.ref C) "place" = some none)
    (noN : PySem.W.findIn K (.ref C) "name" = some none)
    (iC : PySem.W.findIn K (.ref C) "__init__" = some (some (.ref fI)))
    (tI : PySem.W.typeIn K (.ref fI) = some (.type "function"))
    (lI : K.lookup fI = some ⟨ocI, odI, .func (PySem.W.fnOf "__init__" "ManysidesError.__init__" (defArgs sInit) (defBody sInit) (defScope sInit) .none kVI dcI pmI anI cdI ctI), slI⟩)
    (cI : PySem.W.codeIn K cdI "ManysidesError.__init__" = true)
    (kI : PySem.W.keepIn K (.ref fI) = true)
    (sM : PySem.W.subIn K (.ref CM) (.type "BaseException") = some true)
    (dM : PySem.W.hasDictIn K CM = true)
    (tM : PySem.W.typeIn K (.ref CM) = some (.type "type"))
    (sCM : PySem.W.subIn K (.ref C) (.ref CM) = some true)
    (q1 : PySem.W.kitOne K (.ref C) (.ref C) = some true)
    (q2 : PySem.W.kitOne K (.ref C) (.ref CC) = some false)
    (q3 : PySem.W.kitOne K (.ref C) (.type "ValueError") = some true)
    (eS : PySem.W.nsIn K mainGlobals "Shape" = some (some (.ref S)))
    (s1 : PySem.W.makesIn K S = true)
    (s2 : PySem.W.findIn K (.ref S) "__init__" = some (some (.ref fG)))
    (s3 : PySem.W.isFn K (.ref fG) = true)
    (s4 : PySem.W.keepIn K (.ref S) = true)
    (s5 : PySem.W.plainGet K S Str.empty = true)
    (s6 : PySem.W.hasDictIn K S = true)
    (s7 : PySem.W.plainOver K S = true)
    (s8 : PySem.W.findIn K (.ref S) "__setattr__" = some (some (.builtin "object.__setattr__")))
    (s9 : PySem.W.findIn K (.ref S) "dims" = some none)
    (s10 : PySem.W.findIn K (.ref S) "attrs" = some none)
    (s11 : PySem.W.findIn K (.ref S) "__eq__" = some (some (.ref fE)))
    (s12 : PySem.W.isFn K (.ref fE) = true)
    (s13 : PySem.W.notFirst K S (.ref S) = true)
    (s14 : PySem.W.notFirst K S (.type "tuple") = true)
    (s15 : PySem.W.findIn K (.ref S) "__class__" = some (some (.builtin "object.__class__")))
    (s16 : PySem.W.mroIn K S (.type "object") = some true)
    (s17 : PySem.W.kitOne K (.ref S) (.ref S) = some true)
    (s18 : PySem.W.kitOne K (.type "tuple") (.ref S) = some false)
    (lG : K.lookup fG = some ⟨ocG, odG, .func (PySem.W.fnOf "__init__" "Shape.__init__" (defArgs sShInit) (defBody sShInit) (defScope sShInit) .none kVG dcG pmG anG cdG ctG), slG⟩)
    (cG : PySem.W.codeIn K cdG "Shape.__init__" = true)
    (kG : PySem.W.keepIn K (.ref fG) = true)
    (lE : K.lookup fE = some ⟨ocE, odE, .func (PySem.W.fnOf "__eq__" "Shape.__eq__" (defArgs sShEq) (defBody sShEq) (defScope sShEq) .none kVE dcE pmE anE cdE ctE), slE⟩)
    (cE : PySem.W.codeIn K cdE "Shape.__eq__" = true)
    (kE : PySem.W.keepIn K (.ref fE) = true)
    (eK : PySem.W.nsIn K mainGlobals "KINDS" = some (some (.ref kk)))
    (lK : K.lookup kk = some ⟨.type "tuple", ddK, .seq #[.str "int" tk1, .str "flag" tk2, .str "text" tk3] nK, slK⟩)
    : ∃ fd : FuncData, (∀ (s : Shared) (v : Value), BindsTo s fd ⟨[v], []⟩ [("script", v)]) ∧ ∀ base : Heap, K.In base → base.Ns mainGlobals mg → FnOk l.prog w K mg base CX0 5 fa fd ["script"] (spLaw K) := by
  have e := hfa.symm.trans (PySem.W.mg_of X G a19)
  cases e
  have F1 := fun_mk (st := sCheck) l1 c1 k1
  have F2 := fun_mk (st := sIsDim) l2 c2 k2
  have F3 := fun_mk (st := sIsAttr) l3 c3 k3
  have F4 := fun_mk (st := sSimple) l4 c4 k4
  have F5 := fun_mk (st := sDimIx) l5 c5 k5
  have F6 := fun_mk (st := sAttrIx) l6 c6 k6
  have F7 := fun_mk (st := sIndex) l7 c7 k7
  have F8 := fun_mk (st := sDraw) l8 c8 k8
  have F9 := fun_mk (st := sDraws) l9 c9 k9
  have F10 := fun_mk (st := sNext) l10 c10 k10
  have F11 := fun_mk (st := sLSimple) l11 c11 k11
  have F12 := fun_mk (st := sLDims) l12 c12 k12
  have F13 := fun_mk (st := sLAttrs) l13 c13 k13
  have F14 := fun_mk (st := sLName) l14 c14 k14
  have F15 := fun_mk (st := sLSpoilt) l15 c15 k15
  have F16 := fun_mk (st := sLDue) l16 c16 k16
  have F17 := fun_mk (st := sLTold) l17 c17 k17
  have F18 := fun_mk (st := sLIndex) l18 c18 k18
  have F19 := fun_mk (st := sLaw) l19 c19 k19
  have b1 := F1.binds (ps := ["shape"]) fun _ _ _ _ _ _ us hl => match us, hl with | [_], _ => rfl
  have b2 := F2.binds (ps := ["dim"]) fun _ _ _ _ _ _ us hl => match us, hl with | [_], _ => rfl
  have b3 := F3.binds (ps := ["attr"]) fun _ _ _ _ _ _ us hl => match us, hl with | [_], _ => rfl
  have b4 := F4.binds (ps := ["text"]) fun _ _ _ _ _ _ us hl => match us, hl with | [_], _ => rfl
  have b5 := F5.binds (ps := ["shape", "name"]) fun _ _ _ _ _ _ us hl => match us, hl with | [_, _], _ => rfl
  have b6 := F6.binds (ps := ["shape", "name"]) fun _ _ _ _ _ _ us hl => match us, hl with | [_, _], _ => rfl
  have b7 := F7.binds (ps := ["rows", "name"]) fun _ _ _ _ _ _ us hl => match us, hl with | [_, _], _ => rfl
  have b8 := F8.binds (ps := ["cell", "many", "bound"]) fun _ _ _ _ _ _ us hl => match us, hl with | [_, _, _], _ => rfl
  have b9 := F9.binds (ps := ["cells"]) fun _ _ _ _ _ _ us hl => match us, hl with | [_], _ => rfl
  have b10 := F10.binds (ps := ["state", "bound"]) fun _ _ _ _ _ _ us hl => match us, hl with | [_, _], _ => rfl
  have b11 := F11.binds (ps := ["text"]) fun _ _ _ _ _ _ us hl => match us, hl with | [_], _ => rfl
  have b12 := F12.binds (ps := ["state"]) fun _ _ _ _ _ _ us hl => match us, hl with | [_], _ => rfl
  have b13 := F13.binds (ps := ["state"]) fun _ _ _ _ _ _ us hl => match us, hl with | [_], _ => rfl
  have b14 := F14.binds (ps := ["state"]) fun _ _ _ _ _ _ us hl => match us, hl with | [_], _ => rfl
  have b15 := F15.binds (ps := ["state", "dims", "attrs"]) fun _ _ _ _ _ _ us hl => match us, hl with | [_, _, _], _ => rfl
  have b16 := F16.binds (ps := ["dims", "attrs"]) fun _ _ _ _ _ _ us hl => match us, hl with | [_, _], _ => rfl
  have b17 := F17.binds (ps := ["shape"]) fun _ _ _ _ _ _ us hl => match us, hl with | [_], _ => rfl
  have b18 := F18.binds (ps := ["rows", "name"]) fun _ _ _ _ _ _ us hl => match us, hl with | [_, _], _ => rfl
  have N : Nm K mg := ⟨PySem.W.mg_none_of X G z1, PySem.W.mg_none_of X G z2, PySem.W.mg_none_of X G z3, PySem.W.mg_none_of X G z4, PySem.W.mg_none_of X G z5, PySem.W.mg_none_of X G z6, PySem.W.mg_none_of X G z7, PySem.W.mg_none_of X G z8, PySem.W.mg_none_of X G z9, PySem.W.mg_none_of X G z10, ⟨_, PySem.W.mg_of X G g1, ⟨_, rfl⟩⟩, ⟨_, PySem.W.mg_of X G g2, ⟨_, rfl⟩⟩, ⟨_, PySem.W.mg_of X G g3, ⟨_, rfl⟩⟩, ⟨_, PySem.W.mg_of X G g4, ⟨_, rfl⟩⟩, ⟨_, PySem.W.mg_of X G g5, ⟨_, rfl⟩⟩, ⟨_, PySem.W.mg_of X G g6, ⟨_, rfl⟩⟩, ⟨_, PySem.W.mg_of X G g7, ⟨_, rfl⟩⟩, ⟨kk, PySem.W.mg_of X G eK, fun _ => .inr ⟨_, _, _, lK, rfl, rfl, (by show 3 ≤ sizeLine; decide), .cons ⟨_, rfl⟩ (.cons ⟨_, rfl⟩ (.cons ⟨_, rfl⟩ .nil))⟩⟩⟩
  have FI := fun_mk (st := sInit) lI cI kI
  have bI := FI.binds (ps := ["self", "place"]) fun _ _ _ _ _ _ us hl => match us, hl with | [_, _], _ => rfl
  have FG := fun_mk (st := sShInit) lG cG kG
  have bG := FG.binds (ps := ["self", "dims", "attrs"]) fun _ _ _ _ _ _ us hl => match us, hl with | [_, _, _], _ => rfl
  have FE := fun_mk (st := sShEq) lE cE kE
  have bE := FE.binds (ps := ["self", "other"]) fun _ _ _ _ _ _ us hl => match us, hl with | [_, _], _ => rfl
  have ER : ErrC K C fI "InvalidShape" := ⟨⟨⟨_, _, _, _, _, _, _, _, _, _, _, _, _, _, _, xL, rfl⟩, sa, hs, tyC, kC⟩, ⟨ga, gg, hs, hd, ha, hn, ht, hm⟩, ⟨rd, fc, tyC, _, _, xL, rfl⟩, ⟨ga, gg, hs, hd⟩, noP, noN, iC, tI⟩
  have SH : ShC K S fG fE := ⟨⟨s1, s2, s3, s4⟩, ⟨s5, s6, s7, s8⟩, s9, s10, s11, s12, s13, s14, s15, hn, ht, s16, s17, s18⟩
  have TT : ToldT K mg C CM CC := ⟨PySem.W.mg_of X G eC, PySem.W.mg_of X G eM, PySem.W.mg_of X G eX, PySem.W.exm_ref sM dM tM sCM, q1, q2, q3⟩
  exact ⟨PySem.W.fnOf "law" "law" (defArgs sLaw) (defBody sLaw) (defScope sLaw) .none kV19 dc19 pm19 an19 cd19 ct19, fun s v => .of_eq rfl, fun base _ _ => ok_law F19 N SH ⟨PySem.W.mg_of X G a9, PySem.W.mg_of X G a12, PySem.W.mg_of X G a13, PySem.W.mg_of X G a10, PySem.W.mg_of X G a15, PySem.W.mg_of X G a17, PySem.W.mg_of X G a16, PySem.W.mg_of X G a14, PySem.W.mg_of X G a5, PySem.W.mg_of X G a18, PySem.W.mg_of X G a6, PySem.W.mg_of X G a4, PySem.W.mg_of X G a11, PySem.W.mg_of X G eS, b9, b12, b13, b10, b15, b17, b16, b14, b5, b18, b6, b4, b11, k9, k12, k13, k10, k15, k17, k16, k14, k5, k18, k6, k4, k11⟩ (ok_draws F9 F8 b8 (PySem.W.mg_of X G a8) N.range N.int) (ok_ldims F12 N F10 b10 (PySem.W.mg_of X G a10)) (ok_lattrs F13 N F10 b10 (PySem.W.mg_of X G a10)) (ok_next F10 N.int N.len) (ok_spoilt F15 N F10 b10 (PySem.W.mg_of X G a10) F14 b14 (PySem.W.mg_of X G a14)) (ok_told F17 N k1 b1 (PySem.W.mg_of X G a1) (ok_check F1 N SH F4 b4 (PySem.W.mg_of X G a4) F2 b2 (PySem.W.mg_of X G a2) F3 b3 (PySem.W.mg_of X G a3) FI bI ER TT.gC) ER TT) (ok_due F16 N F11 b11 (PySem.W.mg_of X G a11)) (ok_lname F14 N F10 b10 (PySem.W.mg_of X G a10)) (ok_dimIx F5 N SH F7 b7 (PySem.W.mg_of X G a7)) (ok_lindex F18 N) (ok_attrIx F6 N SH F7 b7 (PySem.W.mg_of X G a7)) (ok_simple F4 N) (ok_lsimple F11 N) (ok_shInit FG SH) bG (ok_shEq FE N SH (PySem.W.mg_of X G eS)) bE⟩
end K2
open PySem PySem.W PyProof.Rows
set_option maxRecDepth 100000 in
set_option maxHeartbeats 0 in
theorem PySem.Challenge.cw_manysides_k03_shapes_holds : PySem.Challenge.rw_manysides_k03_shapes.Holds := by
  w_on; o_law; k_head; (case hw => w_witness2)
  k_fill
  refine L2.walk_of (l := PySem.Challenge.rw_manysides_k03_shapes) (n := 63) (k := 5) (x := "script") (CX := fun _ => L2.CX0) (sp := fun w => K2.spLaw _) rfl (by decide) rfl ⟨rfl, by decide, by decide⟩ (fun w h Y => PySem.W.kIn_of Y) ?F (fun _ _ a ns hl _ hS => ⟨a, ns, rfl, hS, hl, fun _ => rfl⟩) (fun _ _ _ _ _ h => h)
  case F =>
    intro w mg fa h KX G hmg
    refine' K2.all_mk KX G hmg ?a1 ?l1 ?c1 ?k1 ?a2 ?l2 ?c2 ?k2 ?a3 ?l3 ?c3 ?k3 ?a4 ?l4 ?c4 ?k4 ?a5 ?l5 ?c5 ?k5 ?a6 ?l6 ?c6 ?k6 ?a7 ?l7 ?c7 ?k7 ?a8 ?l8 ?c8 ?k8 ?a9 ?l9 ?c9 ?k9 ?a10 ?l10 ?c10 ?k10 ?a11 ?l11 ?c11 ?k11 ?a12 ?l12 ?c12 ?k12 ?a13 ?l13 ?c13 ?k13 ?a14 ?l14 ?c14 ?k14 ?a15 ?l15 ?c15 ?k15 ?a16 ?l16 ?c16 ?k16 ?a17 ?l17 ?c17 ?k17 ?a18 ?l18 ?c18 ?k18 ?a19 ?l19 ?c19 ?k19 ?z1 ?z2 ?z3 ?z4 ?z5 ?z6 ?z7 ?z8 ?z9 ?z10 ?g1 ?g2 ?g3 ?g4 ?g5 ?g6 ?g7 ?eC ?eM ?eX ?xL ?sa ?ga ?gg ?hs ?hd ?ha ?hn ?ht ?hm ?tyC ?kC ?rd ?fc ?noP ?noN ?iC ?tI ?lI ?cI ?kI ?sM ?dM ?tM ?sCM ?q1 ?q2 ?q3 ?eS ?s1 ?s2 ?s3 ?s4 ?s5 ?s6 ?s7 ?s8 ?s9 ?s10 ?s11 ?s12 ?s13 ?s14 ?s15 ?s16 ?s17 ?s18 ?lG ?cG ?kG ?lE ?cE ?kE ?eK ?lK
    (case a1 => k_is)
    (case l1 => k_is)
    (case c1 => k_is)
    (case k1 => k_is)
    (case a2 => k_is)
    (case l2 => k_is)
    (case c2 => k_is)
    (case k2 => k_is)
    (case a3 => k_is)
    (case l3 => k_is)
    (case c3 => k_is)
    (case k3 => k_is)
    (case a4 => k_is)
    (case l4 => k_is)
    (case c4 => k_is)
    (case k4 => k_is)
    (case a5 => k_is)
    (case l5 => k_is)
    (case c5 => k_is)
    (case k5 => k_is)
    (case a6 => k_is)
    (case l6 => k_is)
    (case c6 => k_is)
    (case k6 => k_is)
    (case a7 => k_is)
    (case l7 => k_is)
    (case c7 => k_is)
    (case k7 => k_is)
    (case a8 => k_is)
    (case l8 => k_is)
    (case c8 => k_is)
    (case k8 => k_is)
    (case a9 => k_is)
    (case l9 => k_is)
    (case c9 => k_is)
    (case k9 => k_is)
    (case a10 => k_is)
    (case l10 => k_is)
    (case c10 => k_is)
    (case k10 => k_is)
    (case a11 => k_is)
    (case l11 => k_is)
    (case c11 => k_is)
    (case k11 => k_is)
    (case a12 => k_is)
    (case l12 => k_is)
    (case c12 => k_is)
    (case k12 => k_is)
    (case a13 => k_is)
    (case l13 => k_is)
    (case c13 => k_is)
    (case k13 => k_is)
    (case a14 => k_is)
    (case l14 => k_is)
    (case c14 => k_is)
    (case k14 => k_is)
    (case a15 => k_is)
    (case l15 => k_is)
    (case c15 => k_is)
    (case k15 => k_is)
    (case a16 => k_is)
    (case l16 => k_is)
    (case c16 => k_is)
    (case k16 => k_is)
    (case a17 => k_is)
    (case l17 => k_is)
    (case c17 => k_is)
    (case k17 => k_is)
    (case a18 => k_is)
    (case l18 => k_is)
    (case c18 => k_is)
    (case k18 => k_is)
    (case a19 => k_is)
    (case l19 => k_is)
    (case c19 => k_is)
    (case k19 => k_is)
    (case z1 => k_is)
    (case z2 => k_is)
    (case z3 => k_is)
    (case z4 => k_is)
    (case z5 => k_is)
    (case z6 => k_is)
    (case z7 => k_is)
    (case z8 => k_is)
    (case z9 => k_is)
    (case z10 => k_is)
    (case g1 => k_is)
    (case g2 => k_is)
    (case g3 => k_is)
    (case g4 => k_is)
    (case g5 => k_is)
    (case g6 => k_is)
    (case g7 => k_is)
    (case eC => first | k_is | kit_is | rfl)
    (case eM => first | k_is | kit_is | rfl)
    (case eX => first | k_is | kit_is | rfl)
    (case xL => first | k_is | kit_is | rfl)
    (case sa => first | k_is | kit_is | rfl)
    (case ga => first | k_is | kit_is | rfl)
    (case gg => first | k_is | kit_is | rfl)
    (case hs => first | k_is | kit_is | rfl)
    (case hd => first | k_is | kit_is | rfl)
    (case ha => first | k_is | kit_is | rfl)
    (case hn => first | k_is | kit_is | rfl)
    (case ht => first | k_is | kit_is | rfl)
    (case hm => first | k_is | kit_is | rfl)
    (case tyC => first | k_is | kit_is | rfl)
    (case kC => first | k_is | kit_is | rfl)
    (case rd => first | k_is | kit_is | rfl)
    (case fc => first | k_is | kit_is | rfl)
    (case noP => first | k_is | kit_is | rfl)
    (case noN => first | k_is | kit_is | rfl)
    (case iC => first | k_is | kit_is | rfl)
    (case tI => first | k_is | kit_is | rfl)
    (case lI => first | k_is | kit_is | rfl)
    (case cI => first | k_is | kit_is | rfl)
    (case kI => first | k_is | kit_is | rfl)
    (case sM => first | k_is | kit_is | rfl)
    (case dM => first | k_is | kit_is | rfl)
    (case tM => first | k_is | kit_is | rfl)
    (case sCM => first | k_is | kit_is | rfl)
    (case q1 => first | k_is | kit_is | rfl)
    (case q2 => first | k_is | kit_is | rfl)
    (case q3 => first | k_is | kit_is | rfl)
    (case eS => first | k_is | kit_is | rfl)
    (case s1 => first | k_is | kit_is | rfl)
    (case s2 => first | k_is | kit_is | rfl)
    (case s3 => first | k_is | kit_is | rfl)
    (case s4 => first | k_is | kit_is | rfl)
    (case s5 => first | k_is | kit_is | rfl)
    (case s6 => first | k_is | kit_is | rfl)
    (case s7 => first | k_is | kit_is | rfl)
    (case s8 => first | k_is | kit_is | rfl)
    (case s9 => first | k_is | kit_is | rfl)
    (case s10 => first | k_is | kit_is | rfl)
    (case s11 => first | k_is | kit_is | rfl)
    (case s12 => first | k_is | kit_is | rfl)
    (case s13 => first | k_is | kit_is | rfl)
    (case s14 => first | k_is | kit_is | rfl)
    (case s15 => first | k_is | kit_is | rfl)
    (case s16 => first | k_is | kit_is | rfl)
    (case s17 => first | k_is | kit_is | rfl)
    (case s18 => first | k_is | kit_is | rfl)
    (case lG => first | k_is | kit_is | rfl)
    (case cG => first | k_is | kit_is | rfl)
    (case kG => first | k_is | kit_is | rfl)
    (case lE => first | k_is | kit_is | rfl)
    (case cE => first | k_is | kit_is | rfl)
    (case kE => first | k_is | kit_is | rfl)
    (case eK => first | k_is | kit_is | rfl)
    (case lK => first | k_is | kit_is | rfl)
