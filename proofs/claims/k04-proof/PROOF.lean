import PyProof.Rows.All
import Wide.All
import OpenK.AllK
import Wide.FinOn
import HandS.ForMost
import HandS.IsInst
import HandS.AnyAll
import HandS.EndTab
import HandS.EndBits
import HandS.Wide
import HandS.Conv
import HandS.Strs
import PyProof.ListStr
import PyProof.Rows.SetFrom
import KE.DataCmp
import KE.KMinKey
import KE.KLam
import HandS.Lambda
import HandS.More
import HandS.RevTup
import HandS.Rev
import HandS.Zip
import KE.GoesMore
import KE.GoesZip
import KE.GoesEnum
import KE.KDictKeyed
import HandS.Walk
import PySem.Challenge.RW_shifttape_k04_whole_no_shorter_at_all
set_option Elab.async false
set_option linter.all false
set_option maxRecDepth 100000
namespace Kt
open PySem PySem.Spec PyProof.Rows L2
/-- one sign as a text -/
def sg (c : Nat) : Str := ⟨#[c]⟩
theorem sg_inj {a b : Nat} (h : sg a = sg b) : a = b := by
  have h1 : (#[a] : Array Nat) = #[b] := congrArg Str.cps h
  simpa using h1
def signs (z : Str) : List Str := z.cps.toList.map sg
/-- the distinct ones, as they come -/
def uqs (l : List Nat) (c : Nat) : List Nat := if c ∈ l then l else l ++ [c]
def uq (l : List Nat) : List Nat := l.foldl uqs []
theorem uq_snoc (l : List Nat) (c : Nat) : uq (l ++ [c]) = uqs (uq l) c := by
  unfold uq; rw [List.foldl_append]; rfl
theorem uq_le (l : List Nat) : (uq l).length ≤ l.length := by
  suffices h : ∀ (r : List Nat) (a : List Nat), (r.foldl uqs a).length ≤ a.length + r.length by
    have := h l []; simpa [uq] using this
  intro r
  induction r with
  | nil => intro a; simp
  | cons x r ih =>
    intro a
    have h1 := ih (uqs a x)
    have h2 : (uqs a x).length ≤ a.length + 1 := by unfold uqs; split <;> simp
    simp only [List.foldl_cons, List.length_cons]; omega
theorem uq_nodup {l : List Nat} (h : l.Nodup) : uq l = l := by
  suffices g : ∀ (r a : List Nat), (a ++ r).Nodup → r.foldl uqs a = a ++ r by
    simpa [uq] using g l [] (by simpa using h)
  intro r
  induction r with
  | nil => intro a _; simp
  | cons x r ih =>
    intro a hn
    have hx : x ∉ a := fun hm => by
      have := List.nodup_append.mp hn
      exact this.2.2 x hm x (by simp) rfl
    have e : uqs a x = a ++ [x] := by unfold uqs; rw [if_neg hx]
    rw [List.foldl_cons, e, ih (a ++ [x]) (by simpa using hn)]; simp

section
variable {X : Cx}
/-- list(s), s a text -/
theorem call_listS (hc : X.calm = true) : CallR X (.type "list") (fun xs H Q => ∃ z : Str, xs = [.str z] ∧ z.length ≤ 1000 ∧ ∀ p, H p = none → Q (.ref p) (upd H p (.lst ((signs z).map V.str)))) := by
  intro pins s σ H xs us Q I r h
  obtain ⟨z, rfl, hz, q⟩ := h
  obtain ⟨u, rfl, ru⟩ := r.one
  obtain ⟨t, rfl⟩ := ru
  have hz2 : z.cps.size ≤ 1000 := hz
  have hln : ((signs z).map V.str).length = z.cps.size := by simp [signs]
  have hbig : (1000 : Nat) ≤ sizeLine := by decide
  refine PySem.call_list_str (hn := Nat.le_trans hz2 hbig) (I.ok.hd hc) z t fun h' tk acc c' hk hS hacc => ?_
  refine ⟨.ref s.heap.objs.size, _, I.laid hk (Nat.le_refl _) (show ObjOk X.prog X.w _ _ _ (.lst ((signs z).map V.str)) from ⟨?_, acc.toList, c', ?_, ?_⟩), rfl, q _ (I.hok.fresh (Nat.le_refl _))⟩
  · rw [hln]; exact Nat.le_trans hz2 hbig
  · refine vals_of_at (by rw [hln, Array.length_toList, hacc.1]) fun j x v h1 h2 => ?_
    obtain ⟨c, k, e1, rfl⟩ := hacc.2 j v (by rw [← Array.getElem?_toList]; exact h2)
    have e2 : ((signs z).map V.str)[j]? = some (.str (sg c)) := by
      simp [signs, e1]
    rw [e2] at h1
    cases h1
    exact ⟨k, rfl⟩
  · rw [Array.toArray_toList]; exact hS
/-- x += y of texts -/
theorem ip_addS : PIp X .Add (fun x y H Q => ∃ i j : Str, x = .str i ∧ y = .str j ∧ i.length + j.length ≤ sizeLine ∧ Q (.str (i ++ j)) H) :=
  fun pins s σ H x y v u Q I r1 r2 h => iop_add_str pins s σ H x y v u Q I r1 r2 h
end

/-! ### len(set(s)), s a text -/
section
variable {prog : Program} {w : World} {A : Around} {R : Result → Shared → Prop} {J : Addr} {fp wr : List Addr} {G : Array GenState → Array GenState → Prop} {St : Nat → Shared → Prop}
/-- what stands in the set behind i signs -/
def InU (prog : Program) (w : World) (h : Heap) (D : Addr) (z : Str) (i : Nat) : Prop :=
  h.SetOf (PySem.strKind prog w) D (fun k => decide (k ∈ (uq (z.cps.toList.take i)).map sg)) (uq (z.cps.toList.take i)).length
theorem InU.at' {h h' : Heap} {D : Addr} {z : Str} {i : Nat} (u : InU prog w h D z i) (k : ∀ o, h.get? D = some o → h'.get? D = some o) : InU prog w h' D z i := by
  obtain ⟨o, es, ep, t, ho, rest⟩ := u
  exact ⟨o, es, ep, t, k o ho, rest⟩
theorem loopSigns {z : Str} (W : WalksS prog w A.in1 J fp wr G z.cps.size (SignAt z) St) (D : Addr) (hD : D ∉ fp) (hz : z.cps.size ≤ 1000) :
    ∀ (k i : Nat) (s : Shared), z.cps.size - i = k → i ≤ z.cps.size → St i s → InU prog w s.heap D z i →
      (∀ s', Moved (D :: wr) G s s' → InU prog w s'.heap D z z.cps.size → R (.ok (.ret .none)) s') →
      codeAny (model prog w) A (.builtin "set.update.loop" ⟨[.ref D, .ref J], []⟩) R s := by
  have out : D ∉ wr := fun q => hD (W.sub _ q)
  have sub : ∀ b ∈ wr, b ∈ D :: wr := fun b hb => List.mem_cons_of_mem _ hb
  intro k
  induction k with
  | zero =>
    intro i s hk hi st u fin
    obtain rfl : i = z.cps.size := by omega
    refine codeAny_builtin PyProof.Rows.F.entry_set_update_loop ?_
    rw [Around.under_plainId PyProof.Rows.F.plain_set_update_loop _]
    refine wpAny_bind (m := pyNext (.ref J)) (W.done s _ _ st fun s' mv => ?_)
    exact wpAny_pure (fin s' (mv.mono sub) (u.at' fun o e => mv.heap D o out e))
  | succ k ih =>
    intro i s hk hi st u fin
    have lt : i < z.cps.size := by omega
    refine codeAny_builtin PyProof.Rows.F.entry_set_update_loop ?_
    rw [Around.under_plainId PyProof.Rows.F.plain_set_update_loop _]
    refine wpAny_bind (m := pyNext (.ref J)) (W.item i s _ _ lt st fun v s' hv st' mv => ?_)
    obtain ⟨c, t, hc, rfl⟩ := hv
    have u1 := u.at' fun o e => mv.heap D o out e
    refine wpAny_bind (m := holding [Value.str (sg c) t] (setAdd D (.str (sg c) t))) (wpAny_holding ?_)
    unfold setAdd
    refine wpAny_holding (wpAny_bind ((PySem.strKind prog w).pyHash (k := sg c) (strKind_is _ _ _ _) ?_))
    have room : (uq (z.cps.toList.take i)).length + 1 < scanBound := by
      have h1 := uq_le (z.cps.toList.take i)
      have h2 : (z.cps.toList.take i).length ≤ i := by rw [List.length_take]; exact Nat.min_le_left _ _
      unfold scanBound; omega
    refine wpAny_setAddHashed_of (knd := PySem.strKind prog w) (s := { s' with toks := s'.toks + 1 }) (strKind_is _ _ _ _) rfl u1 room fun h' sb u2 => ?_
    have u3 : InU prog w h' D z (i + 1) := by
      have e0 : z.cps.toList.take (i + 1) = z.cps.toList.take i ++ [c] := by
        rw [List.take_add_one, Array.getElem?_toList, hc]; rfl
      unfold InU
      rw [e0, uq_snoc]
      refine SetOf_congr u2 (fun q => ?_) ?_
      · unfold uqs
        by_cases hm : c ∈ uq (z.cps.toList.take i)
        · rw [if_pos hm]
          by_cases e : q = sg c
          · subst e
            have : sg c ∈ (uq (z.cps.toList.take i)).map sg := List.mem_map.mpr ⟨c, hm, rfl⟩
            simp [this]
          · simp [e]
        · rw [if_neg hm, List.map_append]
          simp [List.mem_append, Bool.decide_or]
      · unfold uqs
        by_cases hm : c ∈ uq (z.cps.toList.take i)
        · have : sg c ∈ (uq (z.cps.toList.take i)).map sg := List.mem_map.mpr ⟨c, hm, rfl⟩
          rw [if_pos hm, if_pos (decide_eq_true this)]
        · have : ¬ sg c ∈ (uq (z.cps.toList.take i)).map sg := fun h => by
            obtain ⟨d, h1, h2⟩ := List.mem_map.mp h
            rw [sg_inj h2] at h1
            exact hm h1
          rw [if_neg hm, if_neg (by simpa using this), List.length_append]; rfl
    refine wpAny_pure ⟨plainId_quiet PyProof.Rows.F.plain_set_update_loop _, ih (i + 1) _ (by omega) lt (W.frame _ s' _ _ st' (Nat.le_succ _) fun b hb o e => ?_) u3 fun s2 mv2 u4 => ?_⟩
    · exact (sb.2 b (fun q => hD (q ▸ hb))).trans e
    · refine fin s2 (Moved.trans W.gtrans ((mv.mono sub).then_heap (Nat.le_succ _) fun b o hb e => ?_) mv2) u4
      exact (sb.2 b (fun q => hb (q ▸ List.mem_cons_self))).trans e
end
section
variable {prog : Program} {w : World} {A : Around} {E : Value → Shared → Prop} {s : Shared}
set_option maxHeartbeats 3200000 in
theorem call_setS {z : Str} {t : Tok} {Q : Value → Shared → Prop} (hh : A.handled = none) (hz : z.cps.size ≤ 1000)
    (h : ∀ (h' : Heap) (tk : Nat), InU prog w h' s.heap.objs.size z z.cps.size → (∀ b o, b < s.heap.objs.size → s.heap.get? b = some o → h'.get? b = some o) →
      Q (.ref s.heap.objs.size) { s with heap := h', toks := tk }) : wpAny (model prog w) A (call (.type "set") [.str z t]) Q E s := by
  obtain ⟨c, tl, hmro⟩ := PySem.F.called_set.mro
  have q1 := PySem.F.called_set.made
  have q2 := PySem.F.called_set.sub
  refine wpAny_call (codeAny_of_tree ?_)
  show wpAny _ _ (callAny (.type "set") _) _ _ _
  refine wpAny_pure ⟨Code.quiet_builtin _ (by decide +kernel), codeAny_builtin PySem.F.entry_type_call ?_⟩
  rw [Around.under_plain (weight_type_call_type "set" [.str z t] []) rfl]
  have q3 := PySem.F.called_set.notType
  have q4 := PySem.F.called_set.canCreate
  have q5 := PySem.F.typeCall_set_1 (.str z t)
  repeat (any_goals (first | assumption | wp_step))
  refine codeAny_mono (code_set_new_1 (.str z t) (E := E) (Q₁ := fun ob s₁ => ∃ led : Bool, ob = .ref s.heap.objs.size ∧ s₁ = { s with heap := s.heap.push { cls := .type "set", dict := none, data := .set #[] 0 (.fresh 0 0 led) } }) fun led => ⟨led, rfl, rfl⟩) fun r s₁ hr => ?_
  cases r with
  | error e => exact hr
  | ok fl =>
    cases fl with
    | ret ob =>
      obtain ⟨led, rfl, rfl⟩ := hr
      have gS : (s.heap.push { cls := .type "set", dict := none, data := .set #[] 0 (.fresh 0 0 led) }).get? s.heap.objs.size =
          some { cls := .type "set", dict := none, data := .set #[] 0 (.fresh 0 0 led) } := Heap.get?_push_size _ rfl
      have gT : Shared.TypeIs { s with heap := s.heap.push { cls := .type "set", dict := none, data := .set #[] 0 (.fresh 0 0 led) } }
          (.ref s.heap.objs.size) "set" := ⟨_, gS, rfl⟩
      have q6 := PySem.F.called_set.init.lookup
      have q7 := PySem.F.called_set.init.bind (.ref s.heap.objs.size)
      repeat (any_goals (first | assumption | wp_step))
      refine codeAny_mono (codeAny_call_builtin (R := wants (fun r s₂ => r = .none ∧ ∃ h' tk, s₂ = { s with heap := h', toks := tk } ∧ InU prog w h' s.heap.objs.size z z.cps.size ∧
          (∀ b o, b < s.heap.objs.size → s.heap.get? b = some o → h'.get? b = some o)) E) PySem.F.called_set.init.plain PySem.F.entry_set_init (check_set_init_1 gT ?_)) fun r₂ s₂ hr₂ => ?_
      · have q8 := PySem.F.sub_str_set
        have q9 := PySem.F.sub_str_frozenset
        have qa : (Value.type "str" == Value.type "dict") = false := by decide
        unfold Builtin.«set.__init__» noKeywords Builtin.Frozenset.updateFrom
        generalize hPI : pyIter = PI
        wp_walk
        subst hPI
        generalize hso : ({ cls := .type "set", dict := none, data := .set #[] 0 (.fresh 0 0 led) } : Obj) = so at gS ⊢
        refine wpAny_pyIter_str fun o St W hst => ?_
        refine wpAny_bind (wpAny_runValue ?_)
        have sz : (s.heap.push so).objs.size = s.heap.objs.size + 1 := Heap.size_push ..
        have nI : s.heap.objs.size ∉ [(s.heap.push so).objs.size] := by
          rw [sz]; simp only [List.mem_singleton]; exact Nat.ne_of_lt (Nat.lt_succ_self _)
        refine loopSigns (W A.in1.in1.in1 (by simp [hh])).toS s.heap.objs.size nI hz (z.cps.size - 0) 0 _ (by omega) (Nat.zero_le _) hst ?hU ?hR
        case hU =>
          have g2 : ((s.heap.push so).push o).get? s.heap.objs.size = some so := Heap.get?_push_of_some _ gS
          unfold InU
          subst hso
          exact SetOf_congr ((setObjOf_fresh (knd := PySem.strKind prog w) led).setOf g2 (by unfold scanBound; omega)) (fun _ => by simp [uq]) (by simp [uq])
        case hR =>
          intro s' mv u
          obtain ⟨h', g', d', tk', os'⟩ := s'
          obtain rfl : g' = s.gens := mv.gens
          obtain rfl : d' = s.drawn := mv.drawn
          obtain rfl : os' = s.os := mv.os
          show wpAny _ _ _ _ _ _
          refine wpAny_pure ?_
          show wpAny _ _ (ret Value.none) _ _ _
          refine wpAny_pure ⟨rfl, h', tk', rfl, u, fun b o hb e => mv.heap b o (fun hm => ?_) (Heap.get?_push_of_some _ (Heap.get?_push_of_some _ e))⟩
          rcases List.mem_cons.mp hm with e1 | e1
          · exact Nat.ne_of_lt hb e1
          · rw [List.mem_singleton.mp e1, sz] at hb
            omega
      · cases r₂ with
        | error e => exact hr₂
        | ok fl₂ =>
          cases fl₂ with
          | ret r =>
            obtain ⟨rfl, h', tk, rfl, u, hk⟩ := hr₂
            repeat (any_goals (first | assumption | wp_step))
            exact h _ _ u hk
          | _ => exact hr₂.elim
    | _ => exact hr.elim
end
section
variable {X : Cx}
def tLenSetS (ta : TE) : TE := fun σ H Q => ta σ H fun x H1 => ∃ z : Str, x = .str z ∧ z.cps.size ≤ 1000 ∧ Q (.int ((uq z.cps.toList).length : Nat)) H1
theorem pe_lenSetS {a : Expr} {ta : TE} {p p2 q pos : Pos} (hc : X.calm = true) (hg : Gl X "len") (hm : X.mg "len" = none) (hg2 : Gl X "set") (hm2 : X.mg "set" = none) (ha : PE X a ta)
    (na : starEach [a] X.env = (false, eval a X.env) :: starEach [] X.env := by rfl) : PE X (.Call (.Name "len" p) [.Call (.Name "set" p2) [a] [] q] [] pos) (tLenSetS ta) := by
  refine ⟨fun pins s σ H Q I h => ?_⟩
  refine Call_ (ld_blt I hg hm PySem.boot_len ?_)
  refine callWith_builtin1 (args_cons ?_ rfl) rfl rfl
  refine Call_ (ld_blt I hg2 hm2 PyProof.Rows.boot_set ?_)
  refine callWith_type1 (args_cons (thn (ha.run pins s σ H _ I h) fun v s1 k => args_nil ?_) na) na rfl
  obtain ⟨x, H1, I1, r1, z, rfl, hz, q1⟩ := k
  obtain ⟨t, rfl⟩ := r1
  refine call_setS (I1.ok.hd hc) hz fun h' tk u hk => args_nil ?_
  unfold InU at u
  have ef : z.cps.toList.take z.cps.size = z.cps.toList := List.take_of_length_le (by rw [Array.length_toList]; exact Nat.le_refl _)
  rw [ef] at u
  have hl := uq_le z.cps.toList
  rw [Array.length_toList] at hl
  obtain ⟨o, es, ep, tb, ho, hex, hd, _, _, _, hf, hn⟩ := u
  have I2 : Inv X pins σ H1 { s1 with heap := h', toks := tk } := I1.kept fun b o e => hk b o (Heap.lt_size e) e
  exact call_len_set ho hex hd hf (by rw [hn]; exact Int.lt_of_le_of_lt (Int.ofNat_le.mpr (Nat.le_trans hl hz)) (by decide)) ⟨.int ((uq z.cps.toList).length : Nat), H1, I2.tok _, ⟨_, by rw [hn]⟩, q1⟩
end
end Kt
namespace Kt
open PySem PySem.Spec PyProof.Rows L2

/-! ### the test of a sign between two bounds -/
def pbIn (k1 k2 : Str) (c : Nat) : Bool := !decide ([c] < k1.cps.toList) && !decide (k2.cps.toList < [c])
theorem elt_in {prog : Program} {w : World} {scope : Scope} {x k1 k2 : Str} {j1 j2 : Nat} {p0 p1 p2 p3 : Pos} (hk : scope.kind = .function) (hl : scope.names.lookup x = some .local) (hd : (x == ("__debug__" : Str)) = false := by decide) :
    GxR.EltP prog w scope x (.Compare (.Constant (.str k1) j1 p0) [.LtE, .LtE] [.Name x p1, .Constant (.str k2) j2 p2] p3) (pbIn k1 k2) := by
  intro cenv A' E' c t s₂ m₂ hs hn hm
  refine Compare_chain (Calls.Constant_str (chain_link (wpAny_Name (wpAny_loadName_local (by rw [hs]; exact hk) (show cenv.scope.names.lookup x = some .local by rw [hs]; exact hl) ?_ hm ?_) hd))) (by rfl)
  · exact hn
  refine PySem.P.le_str (wpAny_truthy_bool ?_)
  show (if _ then _ else _)
  unfold pbIn
  cases h : decide ([c] < k1.cps.toList) with
  | true =>
    simp only [Bool.not_true, Bool.false_and]
    rw [if_neg Bool.false_ne_true]
    exact ⟨trivial, GxR.keeps_tok _ _⟩
  | false =>
    simp only [Bool.not_false, Bool.true_and]
    rw [if_pos trivial]
    refine chain_last (Calls.Constant_str (PySem.P.le_str ?_))
    exact ⟨rfl, ⟨_, _, rfl, fun _ _ e => e⟩⟩
theorem pbIn_32_126 (c : Nat) : pbIn " " "~" c = decide (32 ≤ c ∧ c ≤ 126) := by
  have e1 : (" " : Str).cps.toList = [32] := by decide
  have e2 : ("~" : Str).cps.toList = [126] := by decide
  unfold pbIn
  rw [e1, e2]
  by_cases h1 : c < 32
  · simp [List.cons_lt_cons_iff, h1]; omega
  · by_cases h2 : 126 < c
    · simp [List.cons_lt_cons_iff, h1, h2]
      try omega
    · simp [List.cons_lt_cons_iff, h1, h2]
      omega

/-! ### what stays, but for a table -/
/-- H' has all of H, the table at P may have grown -/
structure Kp (P : Addr) (H H' : Hp) : Prop where
  tab : GxR.TabG H' P
  at' : ∀ b o, b ≠ P → H b = some o → H' b = some o
theorem Kp.refl {P : Addr} {H : Hp} (t : GxR.TabG H P) : Kp P H H := ⟨t, fun _ _ _ h => h⟩
theorem Kp.trans {P : Addr} {H H1 H2 : Hp} (a : Kp P H H1) (b : Kp P H1 H2) : Kp P H H2 := ⟨b.tab, fun c o n h => b.at' c o n (a.at' c o n h)⟩
theorem Kp.of_tabbed {P : Addr} {H H' : Hp} (t : GxR.Tabbed P H H') : Kp P H H' := ⟨t.1, fun b o n h => by rw [t.2 b n]; exact h⟩
theorem tab_same {P : Addr} {H H' : Hp} (t : GxR.TabG H P) (k : ∀ o, H P = some o → H' P = some o) : GxR.TabG H' P := by
  obtain ⟨ps, h1, h2⟩ := t
  exact ⟨ps, k _ h1, h2⟩
theorem Kp.same {P : Addr} {H H' : Hp} (t : GxR.TabG H P) (s : Same H H') : Kp P H H' := ⟨tab_same t fun o e => s P o e, fun b o _ h => s b o h⟩
theorem tab_ne {P b : Addr} {H : Hp} {o : HO} (t : GxR.TabG H P) (h : H b = some o) (n : ∀ ps, o ≠ .tbl ps) : b ≠ P := fun e => by
  obtain ⟨ps, h1, _⟩ := t
  rw [e, h1] at h
  exact n ps (Option.some.inj h).symm
theorem tab_new {P b : Addr} {H : Hp} (t : GxR.TabG H P) (h : H b = none) : b ≠ P := fun e => by
  obtain ⟨ps, h1, _⟩ := t
  rw [e, h1] at h
  cases h
/-- what is no table stays -/
theorem Kp.get {P b : Addr} {H H' : Hp} {o : HO} (k : Kp P H H') (t : GxR.TabG H P) (h : H b = some o) (n : ∀ ps, o ≠ .tbl ps) : H' b = some o := k.at' b o (tab_ne t h n) h
theorem Kp.new {P b : Addr} {H H' : Hp} (k : Kp P H H') (t : GxR.TabG H P) (h : H' b = none) : H b = none := by
  cases q : H b with
  | none => rfl
  | some o =>
    by_cases e : b = P
    · exact absurd e (tab_new k.tab h)
    · rw [k.at' b o e q] at h
      cases h
theorem Kp.upd {P p : Addr} {H : Hp} {o : HO} (t : GxR.TabG H P) (n : H p = none) : Kp P H (upd H p o) :=
  Kp.same t fun b u e => by rw [upd_ne (ne_of_none e n)]; exact e
theorem same_new {H : Hp} {p : Addr} {o : HO} (h : H p = none) : Same H (upd H p o) := fun b x e => by
  rw [upd_ne (ne_of_none e h)]; exact e
/-- a list, a tuple that is read -/
theorem Kp.seqL {P a : Addr} {K : PySem.W.Frag} {H H' : Hp} {xs : List V} (k : Kp P H H') (t : GxR.TabG H P) (h : SqL K H a xs) : SqL K H' a xs := by
  rcases h with (h | ⟨o, h⟩) | h
  · exact .inl (.inl (k.get t h fun ps e => nomatch e))
  · exact .inl (.inr ⟨o, k.get t h fun ps e => nomatch e⟩)
  · exact .inr h
theorem Kp.seqT {P a : Addr} {K : PySem.W.Frag} {H H' : Hp} {xs : List V} (k : Kp P H H') (t : GxR.TabG H P) (h : SqT K H a xs) : SqT K H' a xs := by
  rcases h with (h | ⟨o, h⟩) | h
  · exact .inl (.inl (k.get t h fun ps e => nomatch e))
  · exact .inl (.inr ⟨o, k.get t h fun ps e => nomatch e⟩)
  · exact .inr h

/-! ### the end: the tables of the text's defs are empty where the law begins -/
theorem end_tab {l : PySem.W.OpenLaw} {n k : Nat} {q : Program} {loose : List Str} {XP : (Str → Option Value) → Heap → Prop} {YP : World → Heap → Prop} {d : DefRec} {K : Params → PySem.W.Frag} {CX : World → CXT} {x : Str}
    (hn : l.most = some n) (hn2 : n ≤ sizeLine) (hdf : d.params.defaults = []) (hr : Room k callerA) (hY : ∀ (w : World) (h : Heap), YP w h → (K w.params).In h)
    (F : ∀ (w : World) (mg : Str → Option Value) (fa : Addr) (h : Heap), YP w h → (K w.params).In h → h.Ns mainGlobals mg → mg d.name = some (.ref fa) →
      (∀ (y : Str) (c P : Addr), ((recsOf q).any fun r => r.name == y) = true → PySem.W.tabIn (K w.params) y = some (c, P) → PySem.W.CodeHd h c P ∧ h.get? P = some (PySem.W.tabObj #[])) →
      LamX.LawAtS l w (K w.params) (CX w) k n x mg fa h)
    (hC : ∀ (w : World) (H : Hp) (s : Shared) (e : Value) (s' : Shared), CX w [] H s (fun _ _ _ => False) e s' → False) :
    PySem.W.WalkO q loose XP YP l.row.toRowW d [] (fun f vs => PySem.call f vs) := by
  refine Att.attach_callB hn hdf fun w s0 s1 mg mb fa ob p1 p2 p3 a vs ns G Y h1 h2 h3 hmg hl hi hlen hbit hgen => ?_
  have KX := hY w _ Y
  have tabs : ∀ (y : Str) (c P : Addr), ((recsOf q).any fun r => r.name == y) = true → PySem.W.tabIn (K w.params) y = some (c, P) → PySem.W.CodeHd s1.heap c P ∧ s1.heap.get? P = some (PySem.W.tabObj #[]) := fun y c P u1 u2 => by
    have u3 : ((recsOf q).find? fun r => r.name == y).isSome = true := by
      rw [List.find?_isSome]
      obtain ⟨r, h1, h2⟩ := List.any_eq_true.mp u1
      exact ⟨r, h1, h2⟩
    obtain ⟨e, he⟩ := Option.isSome_iff_exists.mp u3
    exact PySem.W.tab_of G.T KX he u2
  obtain ⟨fd, cs, sp, t1, t2, t3, t4, t5, t6⟩ := F w mg fa _ Y KX G.T.g hmg tabs
  refine LamX.law_callTs KX G.T.g G.T.b G.T.builtins G.T.nolimit hgen t1 t2 t3 G.T.bmain hl hi (Nat.le_trans hlen hn2) hr t6 t4 (fun H u1 u2 => t5 H a ns hlen hbit u1 u2) ?_
  exact fun H e s' => hC w H s1 e s'
theorem gx_of {base : Heap} {mg : Str → Option Value} {c P : Addr} (t : LamX.TabB base mg c P) : GxR.TabB base mg c P := ⟨t.code, t.bm, t.gP⟩
end Kt
namespace Kt
open PySem PySem.Spec PyProof.Rows L2

/-! ### a def of the text -/
structure Df (K : PySem.W.Frag) (mg : Str → Option Value) (x : Str) (st : Stmt) (ps : List Str) (y : Str := x) where
  f : Addr
  fd : FuncData
  F : Fun K x x st f fd
  b : Binds K fd ps []
  g : mg y = some (.ref f)
/-- its code object is known -/
structure Coded (K : PySem.W.Frag) (x : Str) (st : Stmt) (f : Addr) (fd : FuncData) (c : Addr) : Prop where
  ex : ∃ (oc : Value) (od : Option Addr) (kV doc pm : Value) (an : Option Addr) (ct : Value) (osl : Array (Option Value)),
    fd = PySem.W.fnOf x x (defArgs st) (defBody st) (defScope st) .none kV doc pm an (.ref c) ct ∧ K.lookup f = some ⟨oc, od, .func fd, osl⟩ ∧ PySem.W.codeIn K (.ref c) x = true
section
variable {P : Program} {w : World} {K : PySem.W.Frag} {mg : Str → Option Value} {base : Heap}
theorem Coded.ok {x : Str} {st : Stmt} {f c : Addr} {fd : FuncData} {N ps : List Str} {k : Nat} {sp : Sp} (C : Coded K x st f fd c) (S : FnScope N ps (defScope st)) (len : ∀ vs H Q E, sp vs H Q E → vs.length = ps.length)
    (hb : ∀ (A : Around) (outer : List Env) (s : Shared) (H : Hp) (vs : List V) (Q : VK) (E : XK), Room k (A.deeper (envOfC x (defScope st) s.heap.objs.size f (.ref c))) → sp vs H Q E →
      ∃ t, PSs (cxOf CX0 P w K mg base N x (defScope st) f (.ref c) A outer s H E).nox (defBody st) t ∧
        t { nx := fun _ H' => Q .non H', rt := Q } (start N vs) H) : FnOk P w K mg base CX0 (k + 1) f fd ps sp := by
  obtain ⟨oc, od, kV, doc, pm, an, ct, osl, e, lk, hcd⟩ := C.ex
  subst e
  refine fn_of lk hcd S len fun A outer s H vs Q E room h => ?_
  obtain ⟨t, h1, h2⟩ := hb A outer s H vs Q E room h
  exact ⟨t, h1.nox, h2⟩
end

/-! ### lists of ints compared -/
theorem dpInts (K : PySem.W.Frag) (H : Hp) : ∀ ns : List Int, DpAll K H (ns.map V.int) (ns.map PyData.int)
  | [] => .nil
  | n :: r => .cons (.int n) (dpInts K H r)
theorem eqv_ints (ns ms : List Int) : PyData.eqv (.list (ns.map PyData.int)) (.list (ms.map PyData.int)) = decide (ns = ms) := by
  rw [← PySem.SeqAt.same_eq_eqv _ _ (by simp only [PySem.SeqAt.noMix]; exact PySem.W.noMix_ints ns ms), PySem.Spec.same]
  exact PySem.W.same_ints ns ms
section
variable {X : Cx}
def rEqI (K : PySem.W.Frag) (g : Bool → Bool) : R2 := fun x y H Q => ∃ (a b : Addr) (ns ms : List Int), x = .ref a ∧ y = .ref b ∧ SqL K H a (ns.map V.int) ∧ SqL K H b (ms.map V.int) ∧ Q (.bl (g (decide (ns = ms)))) H
theorem op_eqI (hu : X.A.units + 64 < cLine) : OpR X (compareOp .Eq) (rEqI X.K id) := by
  intro pins s σ H x y v u Q I rx ry h
  obtain ⟨a, b, ns, ms, rfl, rfl, h1, h2, q⟩ := h
  exact op_eqD hu pins s σ H _ _ v u Q I rx ry ⟨_, _, .lst h1 (dpInts _ _ ns), .lst h2 (dpInts _ _ ms), PySem.W.shaped_ints ns, PySem.W.shaped_ints ms, by rw [eqv_ints]; exact q⟩
theorem op_neI (hu : X.A.units + 64 < cLine) : OpR X (compareOp .NotEq) (rEqI X.K not) := by
  intro pins s σ H x y v u Q I rx ry h
  obtain ⟨a, b, ns, ms, rfl, rfl, h1, h2, q⟩ := h
  exact op_neD hu pins s σ H _ _ v u Q I rx ry ⟨_, _, .lst h1 (dpInts _ _ ns), .lst h2 (dpInts _ _ ms), PySem.W.shaped_ints ns, PySem.W.shaped_ints ms, by rw [eqv_ints]; exact q⟩
end

theorem ix_ok {n j : Nat} {z : Int} (e : z = (j : Int)) (h : j < n) : ixN n z = some j := by
  subst e
  unfold ixN
  rw [if_pos (by omega), if_pos (by omega)]
  rfl

theorem at_map {α β : Type} {f : α → β} {xs : List α} {i : Nat} {y : β} (h : (xs.map f)[i]? = some y) : ∃ x, xs[i]? = some x ∧ y = f x := by
  rw [List.getElem?_map] at h
  obtain ⟨x, h1, h2⟩ := Option.map_eq_some_iff.mp h
  exact ⟨x, h1, h2.symm⟩
theorem map_at {α β : Type} {f : α → β} {xs : List α} {i : Nat} {x : α} (h : xs[i]? = some x) : (xs.map f)[i]? = some (f x) := by
  rw [List.getElem?_map, h]; rfl
theorem dec_f {p : Prop} [Decidable p] (h : ¬ p) : V.bl (decide p) = V.bl false := by rw [decide_eq_false h]
theorem dec_t {p : Prop} [Decidable p] (h : p) : V.bl (decide p) = V.bl true := by rw [decide_eq_true h]

/-- the readings of len, list, by the written part alone -/
def rLenQ (K : PySem.W.Frag) : List V → Hp → VK → Prop := fun xs H Q => ∃ p ys, xs = [.ref p] ∧ (SqL K H p ys ∨ SqT K H p ys) ∧ Q (.int ys.length) H

theorem lc_yes {σ : L2.St} {H : Hp} {A B : Hp → Prop} (h : A H) : tYes σ H (fun b H3 => if b = true then A H3 else B H3) := by
  show (if true = true then A H else B H)
  rw [if_pos rfl]
  exact h

theorem perm_erase {α : Type} {x : α} : ∀ {l : List α} {k : Nat}, l[k]? = some x → ([x] ++ l.eraseIdx k).Perm l
  | [], k, h => by simp at h
  | a :: r, 0, h => by
    simp at h; subst h; simp
  | a :: r, k + 1, h => by
    have ih := perm_erase (l := r) (k := k) (by simpa using h)
    rw [List.eraseIdx_cons_succ]
    exact (List.Perm.swap a x _).trans (ih.cons a)
theorem erase_map {α β : Type} (f : α → β) : ∀ (l : List α) (k : Nat), (l.map f).eraseIdx k = (l.eraseIdx k).map f
  | [], k => by simp
  | a :: r, 0 => by simp
  | a :: r, k + 1 => by simp [erase_map f r k]

/-! ### the law's box -/
def BoxAt (H : Hp) (b l : Addr) : Prop := ∃ (ns : List Int) (st : Int), H b = some (.lst [.ref l, .int st]) ∧ H l = some (.lst (ns.map V.int))
theorem BoxAt.ne {H : Hp} {b l : Addr} (x : BoxAt H b l) : b ≠ l := by
  obtain ⟨ns, st, h1, h2⟩ := x
  refine ne_of h1 h2 fun e => ?_
  injection e with e
  cases ns with
  | nil => cases e
  | cons n r => injection e with e _; cases e
/-- the box was drawn from; what else stood, stands -/
structure Bxd (b l : Addr) (H H' : Hp) : Prop where
  box : BoxAt H' b l
  at' : ∀ a o, a ≠ b → a ≠ l → H a = some o → H' a = some o
theorem Bxd.refl {b l : Addr} {H : Hp} (x : BoxAt H b l) : Bxd b l H H := ⟨x, fun _ _ _ _ h => h⟩
theorem Bxd.trans {b l : Addr} {H H1 H2 : Hp} (x : Bxd b l H H1) (y : Bxd b l H1 H2) : Bxd b l H H2 := ⟨y.box, fun a o h1 h2 h => y.at' a o h1 h2 (x.at' a o h1 h2 h)⟩
theorem BoxAt.kp {b l : Addr} {H H' : Hp} (x : BoxAt H b l) (k1 : ∀ o, H b = some o → H' b = some o) (k2 : ∀ o, H l = some o → H' l = some o) : BoxAt H' b l := by
  obtain ⟨ns, st, h1, h2⟩ := x
  exact ⟨ns, st, k1 _ h1, k2 _ h2⟩
theorem BoxAt.same {b l : Addr} {H H' : Hp} (x : BoxAt H b l) (s : Same H H') : BoxAt H' b l := x.kp (fun o => s b o) fun o => s l o
theorem Bxd.same {b l : Addr} {H H' : Hp} (x : BoxAt H b l) (s : Same H H') : Bxd b l H H' := ⟨x.same s, fun a o _ _ h => s a o h⟩
theorem Bxd.new {b l p : Addr} {H H' : Hp} (x : Bxd b l H H') (bx : BoxAt H b l) (h : H' p = none) : H p = none := by
  cases q : H p with
  | none => rfl
  | some o =>
    obtain ⟨ns, st, h1, h2⟩ := x.box
    by_cases e1 : p = b
    · rw [e1, h1] at h; cases h
    · by_cases e2 : p = l
      · rw [e2, h2] at h; cases h
      · rw [x.at' p o e1 e2 q] at h; cases h
/-- a tuple stays, a list of other things too -/
theorem BoxAt.tup {H : Hp} {b l t : Addr} {xs : List V} (x : BoxAt H b l) (h : H t = some (.tup xs)) : t ≠ b ∧ t ≠ l := by
  obtain ⟨ns, st, h1, h2⟩ := x
  exact ⟨ne_of h h1 (fun e => nomatch e), ne_of h h2 (fun e => nomatch e)⟩
theorem Bxd.tup {H H' : Hp} {b l t : Addr} {xs : List V} (x : Bxd b l H H') (bx : BoxAt H b l) (h : H t = some (.tup xs)) : H' t = some (.tup xs) := x.at' t _ (bx.tup h).1 (bx.tup h).2 h
theorem Bxd.tab {H H' : Hp} {b l P : Addr} (x : Bxd b l H H') (bx : BoxAt H b l) (t : GxR.TabG H P) : GxR.TabG H' P := by
  obtain ⟨ps, h1, h2⟩ := t
  obtain ⟨ns, st, q1, q2⟩ := bx
  exact ⟨ps, x.at' P _ (ne_of h1 q1 fun e => nomatch e) (ne_of h1 q2 fun e => nomatch e) h1, h2⟩
theorem BoxAt.kpP {b l P : Addr} {H H' : Hp} (x : BoxAt H b l) (t : GxR.TabG H P) (k : Kp P H H') : BoxAt H' b l := by
  obtain ⟨ns, st, h1, h2⟩ := x
  exact ⟨ns, st, k.get t h1 (fun _ e => nomatch e), k.get t h2 (fun _ e => nomatch e)⟩

/-! ### the promises of the law's own helpers -/
def spTake : Sp := fun vs H Q _ => ∃ (b l : Addr) (m : Int), vs = [.ref b, .int m] ∧ BoxAt H b l ∧ 0 < m ∧ m.natAbs < 2 ^ 250 ∧
  ∀ v H', 0 ≤ v → v < m → Bxd b l H H' → Q (.int v) H'
def spBegun (K : PySem.W.Frag) : Sp := fun vs H Q _ => ∃ (a : Addr) (ns : List Int), vs = [.ref a] ∧ SqL K H a (ns.map V.int) ∧ ns.length ≤ 63 ∧
  ∀ b l H', Same H H' → BoxAt H' b l → H b = none → H l = none → Q (.ref b) H'
def spAlike : Sp := fun vs H Q _ => ((∃ s : Str, vs = [.str s, .str s]) ∨ ∃ i : Int, vs = [.int i, .int i]) ∧ Q (.bl true) H
/-- the list of one-sign texts -/
def sgs (ps : List Nat) : List V := (ps.map sg).map V.str
def spPicked : Sp := fun vs H Q _ => ∃ (b l : Addr) (z : Str) (m : Nat), vs = [.ref b, .str z, .int m] ∧ BoxAt H b l ∧ z.cps.size ≤ 1000 ∧ m ≤ z.cps.size ∧
  ∀ (D : Addr) (ps rest : List Nat) H', (ps ++ rest).Perm z.cps.toList → ps.length = m → Bxd b l H H' → H D = none → H' D = some (.lst (sgs ps)) → Q (.ref D) H'
/-- a sheet that can be -/
structure Good (z o : Str) (hm : V) : Prop where
  len : o.cps.size = z.cps.size
  pos : 1 ≤ z.cps.size
  le : z.cps.size ≤ 26
  nz : z.cps.toList.Nodup
  no : o.cps.toList.Nodup
  pz : ∀ c ∈ z.cps.toList, 32 ≤ c ∧ c ≤ 126
  po : ∀ c ∈ o.cps.toList, 32 ≤ c ∧ c ≤ 126
  home : hm = .non ∨ ∃ h : Nat, hm = .int h ∧ h < z.cps.size
/-- the sheet stands at t -/
def Sh (H : Hp) (t : Addr) (z o : Str) (hm : V) : Prop := H t = some (.tup [.str z, .str o, hm])
def spSheet : Sp := fun vs H Q _ => ∃ (b l : Addr) (most : Nat), vs = [.ref b, .int most] ∧ BoxAt H b l ∧ 1 ≤ most ∧ most ≤ 26 ∧
  ∀ t z o hm H', Good z o hm → z.cps.size ≤ most → Bxd b l H H' → H t = none → Sh H' t z o hm → Q (.ref t) H'
/-- codes of a sheet of n -/
def Codes (n : Nat) (cs : List Int) : Prop := ∀ c ∈ cs, 0 ≤ c ∧ c < (n : Int) + 2
def spTape : Sp := fun vs H Q _ => ∃ (b l t : Addr) (z o : Str) (hm : V) (most : Nat), vs = [.ref b, .ref t, .int most] ∧ BoxAt H b l ∧ Good z o hm ∧ Sh H t z o hm ∧ most ≤ 100 ∧
  ∀ (D : Addr) (cs : List Int) H', cs.length ≤ most → Codes z.cps.size cs → Bxd b l H H' → H D = none → H' D = some (.lst (cs.map V.int)) → Q (.ref D) H'

/-! ### reading -/
def rdStep (z o : Str) (hm : V) (s : Str × Int) (c : Int) : Str × Int :=
  if (z.cps.size : Int) ≤ c then (s.1, c - z.cps.size)
  else (s.1 ++ sg ((if s.2 = 0 then z else o).cps.toList.getD c.toNat 0), if V.int c = hm then 0 else s.2)
def rd (z o : Str) (hm : V) (cs : List Int) (b : Int) : Str × Int := cs.foldl (rdStep z o hm) (Str.ofString "", b)
def Is01 (b : Int) : Prop := b = 0 ∨ b = 1
theorem rd_snoc (z o : Str) (hm : V) (cs : List Int) (b c : Int) : rd z o hm (cs ++ [c]) b = rdStep z o hm (rd z o hm cs b) c := by
  unfold rd; rw [List.foldl_append]; rfl
theorem rd_take {z o : Str} {hm : V} {cs : List Int} {b c : Int} {i : Nat} (h : cs[i]? = some c) : rd z o hm (cs.take (i + 1)) b = rdStep z o hm (rd z o hm (cs.take i) b) c := by
  rw [List.take_add_one, h]; exact rd_snoc ..
theorem sg_len (c : Nat) : (sg c).length = 1 := rfl
theorem rdStep_ok {z o : Str} {hm : V} (s : Str × Int) {c : Int} (h1 : Is01 s.2) (h2 : 0 ≤ c ∧ c < (z.cps.size : Int) + 2) :
    Is01 (rdStep z o hm s c).2 ∧ (rdStep z o hm s c).1.length ≤ s.1.length + 1 := by
  unfold rdStep
  by_cases h : (z.cps.size : Int) ≤ c
  · rw [if_pos h]
    refine ⟨?_, Nat.le_succ _⟩
    show c - z.cps.size = 0 ∨ c - z.cps.size = 1
    omega
  · rw [if_neg h]
    refine ⟨?_, ?_⟩
    · show Is01 (if V.int c = hm then 0 else s.2)
      split
      · exact .inl rfl
      · exact h1
    · show (s.1 ++ sg _).length ≤ _
      rw [Str.length_append, sg_len]; exact Nat.le_refl _
theorem rd_ok {z o : Str} {hm : V} {b : Int} (hb : Is01 b) : ∀ {cs : List Int}, Codes z.cps.size cs → ∀ i, Is01 (rd z o hm (cs.take i) b).2 ∧ (rd z o hm (cs.take i) b).1.length ≤ i := by
  intro cs hc i
  induction i with
  | zero => exact ⟨hb, by rw [List.take_zero]; exact Nat.le_refl _⟩
  | succ i ih =>
    cases h : cs[i]? with
    | none =>
      have e : cs.take (i + 1) = cs.take i := by
        rw [List.take_add_one, h]; simp
      rw [e]; exact ⟨ih.1, Nat.le_succ_of_le ih.2⟩
    | some c =>
      rw [rd_take h]
      have := rdStep_ok (hm := hm) (o := o) (rd z o hm (cs.take i) b) ih.1 (hc c (List.mem_of_getElem? h))
      exact ⟨this.1, Nat.le_trans this.2 (Nat.succ_le_succ ih.2)⟩
/-- the law's own read, and the program's before its checks -/
def spRd (K : PySem.W.Frag) : Sp := fun vs H Q _ => ∃ (t a : Addr) (z o : Str) (hm : V) (cs : List Int) (b : Int), vs = [.ref t, .ref a, .int b] ∧ Good z o hm ∧ Sh H t z o hm ∧ SqL K H a (cs.map V.int) ∧ Codes z.cps.size cs ∧ cs.length ≤ 1000 ∧ Is01 b ∧
  ∀ p H', Same H H' → H p = none → H' p = some (.tup [.str (rd z o hm cs b).1, .int (rd z o hm cs b).2]) → Q (.ref p) H'
end Kt
namespace Kt
open PySem PySem.Spec PyProof.Rows L2
theorem joinL_one : ∀ ps : List Nat, TL.joinL [] (ps.map fun c => [c]) = ps
  | [] => rfl
  | [c] => rfl
  | c :: d :: r => by
    have ih := joinL_one (d :: r)
    show [c] ++ ([] ++ TL.joinL [] ((d :: r).map fun c => [c])) = c :: d :: r
    rw [ih]; rfl
theorem join_sg (ps : List Nat) : Txt.join (Str.ofString "") (ps.map sg) = ⟨ps.toArray⟩ := by
  rw [TL.join_eq]
  have e := TL.tl_join (Str.ofString "") (ps.map sg)
  have e0 : TL.tl (Str.ofString "") = [] := by decide +kernel
  have e1 : (ps.map sg).map TL.tl = ps.map fun c => [c] := by
    rw [List.map_map]; rfl
  rw [e0, e1, joinL_one] at e
  generalize Str.join (Str.ofString "") (ps.map sg) = s at e
  obtain ⟨a⟩ := s
  have e2 : a.toList = ps := e
  rw [← e2]
/-- the signs that a sheet's set is picked from -/
def SOk (s : Str) : Bool := decide (s.cps.toList.Nodup) && s.cps.toList.all (fun c => decide (32 ≤ c) && decide (c ≤ 126)) && decide (26 ≤ s.cps.size) && decide (s.cps.size ≤ 1000)
theorem SOk.elim {s : Str} (h : SOk s = true) : s.cps.toList.Nodup ∧ (∀ c ∈ s.cps.toList, 32 ≤ c ∧ c ≤ 126) ∧ 26 ≤ s.cps.size ∧ s.cps.size ≤ 1000 := by
  unfold SOk at h
  simp only [Bool.and_eq_true, decide_eq_true_eq, List.all_eq_true] at h
  exact ⟨h.1.1.1, h.1.1.2, h.1.2, h.2⟩
theorem picked_ok {s : Str} {ps rest : List Nat} (h : SOk s = true) (p : (ps ++ rest).Perm s.cps.toList) : ps.Nodup ∧ ∀ c ∈ ps, 32 ≤ c ∧ c ≤ 126 := by
  obtain ⟨h1, h2, _⟩ := SOk.elim h
  refine ⟨(List.nodup_append.mp (p.nodup_iff.mpr h1)).1, fun c hc => h2 c (p.mem_iff.mp (List.mem_append_left _ hc))⟩
theorem sgs_len (ps : List Nat) : (sgs ps).length = ps.length := by simp [sgs]
theorem sgs_at {ps : List Nat} {i : Nat} {c : Nat} (h : ps[i]? = some c) : (sgs ps)[i]? = some (.str (sg c)) := map_at (map_at h)
theorem sgs_flat (ps : List Nat) : (sgs ps).all flatV = true := by
  unfold sgs
  rw [List.all_eq_true]
  intro v hv
  obtain ⟨s, _, rfl⟩ := List.mem_map.mp hv
  rfl
theorem sgs_in (c : Nat) (ps : List Nat) : inV (.str (sg c)) (sgs ps) = decide (c ∈ ps) := by
  unfold inV sgs
  rw [Bool.eq_iff_iff, List.any_eq_true, decide_eq_true_eq]
  constructor
  · rintro ⟨v, hv, e⟩
    obtain ⟨s, hs, rfl⟩ := List.mem_map.mp hv
    obtain ⟨d, hd, rfl⟩ := List.mem_map.mp hs
    have e1 : (sg d == sg c) = true := e
    rw [← sg_inj (eq_of_beq e1)]
    exact hd
  · intro h
    refine ⟨.str (sg c), List.mem_map.mpr ⟨_, List.mem_map.mpr ⟨c, h, rfl⟩, rfl⟩, ?_⟩
    show (sg c == sg c) = true
    exact beq_self_eq_true _
theorem sgs_set (ps : List Nat) (i c : Nat) : (sgs ps).set i (.str (sg c)) = sgs (ps.set i c) := by
  unfold sgs; rw [List.map_set, List.map_set]
theorem nodup_set : ∀ {ps : List Nat} {i c : Nat}, ps.Nodup → c ∉ ps → (ps.set i c).Nodup
  | [], _, _, h, _ => h
  | a :: r, 0, c, h, hc => by
    rw [List.set_cons_zero]
    exact List.nodup_cons.mpr ⟨fun m => hc (List.mem_cons_of_mem _ m), (List.nodup_cons.mp h).2⟩
  | a :: r, i + 1, c, h, hc => by
    rw [List.set_cons_succ]
    obtain ⟨h1, h2⟩ := List.nodup_cons.mp h
    refine List.nodup_cons.mpr ⟨fun m => ?_, nodup_set h2 fun m => hc (List.mem_cons_of_mem _ m)⟩
    rcases List.mem_or_eq_of_mem_set m with q | q
    · exact h1 q
    · exact hc (q ▸ List.mem_cons_self)
theorem mem_set_or {α : Type} {ps : List α} {i : Nat} {c d : α} (h : d ∈ ps.set i c) : d ∈ ps ∨ d = c := List.mem_or_eq_of_mem_set h
theorem ix_pick {K : PySem.W.Frag} {H : Hp} {p : Addr} {s0 s1 : Str} {x : Int} {Q : VK} (hx : x = 0 ∨ x = 1) (hs : SqL K H p [.str s0, .str s1]) (k0 : SOk s0 = true) (k1 : SOk s1 = true)
    (h : ∀ s, SOk s = true → Q (.str s) H) : rIxL K (.ref p) (.int x) H Q := by
  rcases hx with e | e <;> rw [e]
  · exact ⟨p, _, 0, _, rfl, rfl, hs, atI_nat (j := 0) rfl, h s0 k0⟩
  · exact ⟨p, _, 1, _, rfl, rfl, hs, atI_nat (j := 1) rfl, h s1 k1⟩
theorem atI_nd {l : List Nat} {c : Int} (h : 0 ≤ c ∧ c < (l.length : Int)) : atI l c = some (l.getD c.toNat 0) := by
  obtain ⟨j, rfl⟩ := Int.eq_ofNat_of_zero_le h.1
  refine atI_nat ?_
  have hj : j < l.length := by omega
  rw [Int.toNat_natCast, List.getD_eq_getElem?_getD, List.getElem?_eq_getElem hj]
  rfl
theorem iteTd {p A B : Prop} [Decidable p] (h : p) (a : A) : if decide p = true then A else B := by rw [if_pos (decide_eq_true h)]; exact a
theorem iteFd {p A B : Prop} [Decidable p] (h : ¬ p) (a : B) : if decide p = true then A else B := by rw [if_neg (by simpa using h)]; exact a
end Kt
namespace Kt
open PySem PySem.Spec PyProof.Rows L2
theorem genS_by {env : Env} {scope : Scope} {x : Str} (h1 : scope.kind = .function) (h2 : scope.isCoroutine = false) (h3 : (scope.names.all fun y => !decide (y.2 = .cell) && !decide (y.2 = .free)) = true)
    (h4 : scope.names.lookup (".0" : Str) = some NameKind.local) (h5 : scope.names.lookup x = some .local) : GxR.GenS env scope x := by
  rw [List.all_eq_true] at h3
  refine ⟨h1, h2, fun y hy e => ?_, h4, h5, fun y hy e => ?_⟩
  · have := h3 y hy; rw [e] at this; simp at this
  · have := h3 y hy; rw [e] at this; simp at this
theorem tabbed_refl {P : Addr} {H : Hp} (t : GxR.TabG H P) : GxR.Tabbed P H H := ⟨t, fun _ _ => rfl⟩
/-- whether all signs are between the blank and the tilde -/
def spSigns (P : Addr) : Sp := fun vs H Q _ => ∃ z : Str, vs = [.str z] ∧ GxR.TabG H P ∧ ∀ H', GxR.Tabbed P H H' → Q (.bl (z.cps.toList.all fun c => decide (32 ≤ c ∧ c ≤ 126))) H'
/-- a set of signs that can be -/
def spCan (P : Addr) : Sp := fun vs H Q _ => ∃ z : Str, vs = [.str z] ∧ z.cps.size ≤ 1000 ∧ z.cps.toList.Nodup ∧ (∀ c ∈ z.cps.toList, 32 ≤ c ∧ c ≤ 126) ∧ GxR.TabG H P ∧ ∀ H', GxR.Tabbed P H H' → Q (.bl true) H'
def spCheckSheet (P : Addr) : Sp := fun vs H Q _ => ∃ (t : Addr) (z o : Str) (hm : V), vs = [.ref t] ∧ Good z o hm ∧ Sh H t z o hm ∧ GxR.TabG H P ∧ ∀ H', Kp P H H' → Q .non H'
def spCheckTape (K : PySem.W.Frag) : Sp := fun vs H Q _ => ∃ (t a : Addr) (z o : Str) (hm : V) (cs : List Int), vs = [.ref t, .ref a] ∧ Good z o hm ∧ Sh H t z o hm ∧ SqL K H a (cs.map V.int) ∧ Codes z.cps.size cs ∧ cs.length ≤ 100 ∧ ∀ H', Same H H' → Q .non H'
def spCheckSet : Sp := fun vs H Q _ => ∃ b : Int, vs = [.int b] ∧ Is01 b ∧ Q .non H
def behind (z : Str) (hm : V) (c nw : Int) : Int := if (z.cps.size : Int) ≤ c then c - z.cps.size else if V.int c = hm then 0 else nw
def spBehind : Sp := fun vs H Q _ => ∃ (t : Addr) (z o : Str) (hm : V) (c nw : Int), vs = [.ref t, .int c, .int nw] ∧ Good z o hm ∧ Sh H t z o hm ∧ Q (.int (behind z hm c nw)) H
def spBegun3 (K : PySem.W.Frag) (P : Addr) : Sp := fun vs H Q _ => ∃ (t a : Addr) (z o : Str) (hm : V) (cs : List Int) (b : Int), vs = [.ref t, .ref a, .int b] ∧ Good z o hm ∧ Sh H t z o hm ∧ SqL K H a (cs.map V.int) ∧ Codes z.cps.size cs ∧ cs.length ≤ 100 ∧ Is01 b ∧ GxR.TabG H P ∧
  ∀ H', Kp P H H' → Q .non H'
def spRead (K : PySem.W.Frag) (P : Addr) (last : Bool) : Sp := fun vs H Q _ => ∃ (t a : Addr) (z o : Str) (hm : V) (cs : List Int) (b : Int), vs = [.ref t, .ref a, .int b] ∧ Good z o hm ∧ Sh H t z o hm ∧ SqL K H a (cs.map V.int) ∧ Codes z.cps.size cs ∧ cs.length ≤ 100 ∧ Is01 b ∧ GxR.TabG H P ∧
  ∀ H', Kp P H H' → Q (if last then .int (rd z o hm cs b).2 else .str (rd z o hm cs b).1) H'
theorem rdStep_snd (z o : Str) (hm : V) (s : Str × Int) (c : Int) : (rdStep z o hm s c).2 = behind z hm c s.2 := by
  unfold rdStep behind
  by_cases h : (z.cps.size : Int) ≤ c
  · rw [if_pos h, if_pos h]
  · rw [if_neg h, if_neg h]
theorem tabIn_of {K : PySem.W.Frag} {x : Str} {f c P : Addr} {oc oc' : Value} {od od' : Option Addr} {fd : FuncData} {sl sl' : Array (Option Value)} {vs : Array Value} (a : PySem.W.nsIn K mainGlobals x = some (some (.ref f)))
    (l : K.lookup f = some ⟨oc, od, .func fd, sl⟩) (hc : fd.code = .ref c) (lc : K.lookup c = some ⟨oc', od', .fields vs, sl'⟩) (hv : (vs[11]? : Option Value) = some (.ref P)) : PySem.W.tabIn K x = some (c, P) := by
  unfold PySem.W.tabIn
  rw [a]
  simp only [l, hc, lc, hv]
end Kt
namespace Kt
open PySem PySem.Spec PyProof.Rows L2
/-! ### tapes in order: by length, then as lists ascend -/
def lx : List Int → List Int → Bool
  | _, [] => false
  | [], _ :: _ => true
  | x :: a, y :: b => if x = y then lx a b else decide (x < y)
/-- the datum of the key -/
def keyD (a : List Int) : PyData := .tuple [.int (a.length : Nat), .list (a.map PyData.int)]
def ltK (a b : List Int) : Bool := if a.length = b.length then lx a b else decide (a.length < b.length)
theorem alikeAll_ints : ∀ a b : List Int, PySem.W.alikeAll (a.map PyData.int) (b.map PyData.int) = true
  | [], b => by simp [PySem.W.alikeAll]
  | x :: a, [] => by simp [PySem.W.alikeAll]
  | x :: a, y :: b => by simp [PySem.W.alikeAll, PySem.W.alike, alikeAll_ints a b]
theorem dl_nil_cons (y : PyData) (ys : List PyData) : PyProof.Rows.lexLt PyProof.Rows.itemOrd (PySem.W.keyToksAll []) (PySem.W.keyToksAll (y :: ys)) = true := by
  simp only [PySem.W.keyToksAll]
  rw [PySem.W.lex_atom (by intro h; injection h with h; exact absurd h (by decide))]
  exact (PySem.W.dataLt_int 0 1).trans (by decide)
theorem dl_cons_nil (y : PyData) (ys : List PyData) : PyProof.Rows.lexLt PyProof.Rows.itemOrd (PySem.W.keyToksAll (y :: ys)) (PySem.W.keyToksAll []) = false := by
  simp only [PySem.W.keyToksAll]
  rw [PySem.W.lex_atom (by intro h; injection h with h; exact absurd h (by decide))]
  exact (PySem.W.dataLt_int 1 0).trans (by decide)
theorem dl_nil_nil : PyProof.Rows.lexLt PyProof.Rows.itemOrd (PySem.W.keyToksAll []) (PySem.W.keyToksAll []) = false := (PySem.W.dataLt_list [] []).symm.trans (PyProof.Rows.lex_irrefl _)
theorem dl_ints : ∀ a b : List Int, PyProof.Rows.lexLt PyProof.Rows.itemOrd (PySem.W.keyToksAll (a.map PyData.int)) (PySem.W.keyToksAll (b.map PyData.int)) = lx a b
  | [], [] => dl_nil_nil
  | [], y :: b => dl_nil_cons _ _
  | x :: a, [] => dl_cons_nil _ _
  | x :: a, y :: b => by
    have ih := dl_ints a b
    rw [List.map_cons, List.map_cons]
    unfold lx
    by_cases e : x = y
    · rw [if_pos e, PySem.W.dataLt_all_yes (by simp [PySem.W.alike]) (by simp [PyData.eqv, e])]
      exact ih
    · rw [if_neg e, PySem.W.dataLt_all_no (by simp [PySem.W.alike]) (by simp [PyData.eqv, e])]
      exact PySem.W.dataLt_int x y
theorem lx_irrefl : ∀ a : List Int, lx a a = false
  | [] => rfl
  | x :: a => by
    unfold lx
    rw [if_pos rfl]; exact lx_irrefl a
theorem keyD_lt (a b : List Int) : PySem.W.dataLt (keyD a) (keyD b) = ltK a b := by
  unfold keyD ltK
  rw [PySem.W.dataLt_tuple]
  by_cases e : a.length = b.length
  · rw [if_pos e, PySem.W.dataLt_all_yes (by simp [PySem.W.alike]) (by simp [PyData.eqv, e])]
    cases h : PyData.eqv (.list (a.map PyData.int)) (.list (b.map PyData.int)) with
    | true =>
      rw [PySem.W.dataLt_all_yes (by simp only [PySem.W.alike]; exact alikeAll_ints a b) h, dl_nil_nil]
      rw [eqv_ints] at h
      rw [of_decide_eq_true h, lx_irrefl]
    | false =>
      rw [PySem.W.dataLt_all_no (by simp only [PySem.W.alike]; exact alikeAll_ints a b) h, PySem.W.dataLt_list]
      exact dl_ints a b
  · rw [if_neg e, PySem.W.dataLt_all_no (by simp [PySem.W.alike]) (by simp [PyData.eqv]; omega), PySem.W.dataLt_int]
    exact decide_eq_decide.mpr (by omega)
theorem keyD_alike (a b : List Int) : PySem.W.alike (keyD a) (keyD b) = true := by
  unfold keyD
  simp [PySem.W.alike, PySem.W.alikeAll, alikeAll_ints]
theorem keyD_depth (a : List Int) : PyData.depth (keyD a) ≤ 3 := by
  have h := PySem.W.depthAll_ints a
  unfold keyD
  simp only [PyData.depth, PyData.depthAll]
  omega

/-! ### min(tapes, key = ..) over the heap -/
/-- all that stood stands -/
def Ext (h h' : Heap) : Prop := ∀ b o, h.get? b = some o → h'.get? b = some o
/-- the key of the tape ns, that stands at a -/
def KeyAt (h : Heap) (a : Addr) (ns : List Int) (v : Value) : Prop := ∃ T t n, v = .ref T ∧ h.get? T = some (seqObj "tuple" #[.int (ns.length : Nat) t, .ref a] n)
def TapeAt (h : Heap) (a : Addr) (ns : List Int) : Prop := ∃ vs, h.IsList a vs ∧ IntsAre vs.toList ns
theorem TapeAt.ext {h h' : Heap} {a : Addr} {ns : List Int} (x : TapeAt h a ns) (e : Ext h h') : TapeAt h' a ns := let ⟨vs, l, i⟩ := x; ⟨vs, l.at fun o q => e _ o q, i⟩
theorem KeyAt.ext {h h' : Heap} {a : Addr} {ns : List Int} {v : Value} (x : KeyAt h a ns v) (e : Ext h h') : KeyAt h' a ns v := let ⟨T, t, n, q, k⟩ := x; ⟨T, t, n, q, e _ _ k⟩
theorem KeyAt.reads {h : Heap} {a : Addr} {ns : List Int} {v : Value} (x : KeyAt h a ns v) (y : TapeAt h a ns) : ∃ as, Reads h v (keyD ns) as := by
  obtain ⟨T, t, n, rfl, k⟩ := x
  obtain ⟨vs, ⟨o, ho, hc, m, hd⟩, hi⟩ := y
  exact ⟨_, Reads.tuple k rfl rfl (.cons (.int _ _) (.cons (.list ho hc hd (PySem.W.readsAll_of_ints (h := h) hi)) .nil))⟩
end Kt
namespace Kt
open PySem PySem.Spec PyProof.Rows L2
theorem lx_trans : ∀ {a b c : List Int}, lx a b = true → lx b c = true → lx a c = true
  | _, [], _, h, _ => by unfold lx at h; cases h
  | _, _ :: _, [], _, h => by unfold lx at h; cases h
  | [], y :: b, z :: c, _, _ => rfl
  | x :: a, y :: b, z :: c, h1, h2 => by
    unfold lx at h1 h2 ⊢
    by_cases e1 : x = y
    · subst e1
      rw [if_pos rfl] at h1
      by_cases e2 : x = z
      · rw [if_pos e2] at h2 ⊢
        exact lx_trans h1 h2
      · rw [if_neg e2] at h2 ⊢
        exact h2
    · rw [if_neg e1] at h1
      have h1 := of_decide_eq_true h1
      by_cases e2 : y = z
      · subst e2
        rw [if_neg e1]; exact decide_eq_true h1
      · rw [if_neg e2] at h2
        have h2 := of_decide_eq_true h2
        rw [if_neg (by omega)]
        exact decide_eq_true (by omega)
theorem lx_tri : ∀ {a b : List Int}, lx a b = false → a = b ∨ lx b a = true
  | [], [], _ => .inl rfl
  | x :: a, [], _ => .inr rfl
  | [], y :: b, h => by unfold lx at h; cases h
  | x :: a, y :: b, h => by
    unfold lx at h ⊢
    by_cases e : x = y
    · subst e
      rw [if_pos rfl] at h ⊢
      rcases lx_tri h with q | q
      · exact .inl (by rw [q])
      · exact .inr q
    · rw [if_neg e] at h
      rw [if_neg (Ne.symm e)]
      have := of_decide_eq_false h
      exact .inr (decide_eq_true (by omega))
theorem ltK_trans {a b c : List Int} (h1 : ltK a b = true) (h2 : ltK b c = true) : ltK a c = true := by
  unfold ltK at h1 h2 ⊢
  by_cases e1 : a.length = b.length <;> by_cases e2 : b.length = c.length
  · rw [if_pos e1] at h1; rw [if_pos e2] at h2; rw [if_pos (e1.trans e2)]; exact lx_trans h1 h2
  · rw [if_neg e2] at h2; rw [if_neg (by omega)]; have := of_decide_eq_true h2; exact decide_eq_true (by omega)
  · rw [if_neg e1] at h1; rw [if_neg (by omega)]; have := of_decide_eq_true h1; exact decide_eq_true (by omega)
  · rw [if_neg e1] at h1; rw [if_neg e2] at h2
    have := of_decide_eq_true h1; have := of_decide_eq_true h2
    rw [if_neg (by omega)]; exact decide_eq_true (by omega)
theorem ltK_tri {a b : List Int} (h : ltK a b = false) : a = b ∨ ltK b a = true := by
  unfold ltK at h ⊢
  by_cases e : a.length = b.length
  · rw [if_pos e] at h; rw [if_pos e.symm]; exact lx_tri h
  · rw [if_neg e] at h; rw [if_neg (Ne.symm e)]
    have := of_decide_eq_false h
    exact .inr (decide_eq_true (by omega))
theorem ltK_irrefl (a : List Int) : ltK a a = false := by
  unfold ltK; rw [if_pos rfl]; exact lx_irrefl a

section
variable {prog : Program} {w : World} {A : Around} {E : Value → Shared → Prop} {s : Shared} {R : Result → Shared → Prop}
/-- the i-th tape is the first least of those up to j -/
def Best (tp : Nat → List Int) (i j : Nat) : Prop := i ≤ j ∧ ∀ k, k ≤ j → ltK (tp k) (tp i) = false ∧ (k < i → ltK (tp i) (tp k) = true)
theorem Best.keep {tp : Nat → List Int} {i j : Nat} (b : Best tp i j) (h : ltK (tp (j + 1)) (tp i) = false) : Best tp i (j + 1) := by
  refine ⟨Nat.le_succ_of_le b.1, fun k hk => ?_⟩
  by_cases e : k = j + 1
  · subst e
    exact ⟨h, fun q => absurd b.1 (by omega)⟩
  · exact b.2 k (by omega)
theorem Best.next {tp : Nat → List Int} {i j : Nat} (b : Best tp i j) (h : ltK (tp (j + 1)) (tp i) = true) : Best tp (j + 1) (j + 1) := by
  have all : ∀ k, k ≤ j → ltK (tp (j + 1)) (tp k) = true := fun k hk => by
    rcases ltK_tri (b.2 k hk).1 with e | e
    · rw [e]; exact h
    · exact ltK_trans h e
  refine ⟨Nat.le_refl _, fun k hk => ?_⟩
  by_cases e : k = j + 1
  · subst e
    exact ⟨ltK_irrefl _, fun q => absurd q (Nat.lt_irrefl _)⟩
  · have q := all k (by omega)
    refine ⟨?_, fun _ => q⟩
    cases z : ltK (tp k) (tp (j + 1)) with
    | false => rfl
    | true => rw [← ltK_irrefl (tp k), ltK_trans z q]
/-- what the loop of min over tapes knows: the heap at its start, the list, the key, the iterator, the best so far -/
structure MinW (prog : Program) (w : World) (A : Around) (s : Shared) (h0 : Heap) (l f J S : Addr) (as : List Addr) (tp : Nat → List Int) : Prop where
  hh : A.handled = none
  hu : A.units + 80 < cLine
  list : h0.IsList l (as.map Value.ref).toArray
  tapes : ∀ i a, as[i]? = some a → TapeAt h0 a (tp i)
  lJ : l ≠ J
  SJ : S ≠ J
  nJ : h0.get? J = none
  nS : h0.get? S = none
  key : ∀ i a, as[i]? = some a → ∀ h tk, Ext h0 h → wpAny (model prog w) A.in1 (call (.ref f) [.ref a]) (fun v s' => ∃ h' tk', s' = { s with heap := h', toks := tk' } ∧ Ext h h' ∧ KeyAt h' a (tp i) v) (fun _ _ => False) { s with heap := h, toks := tk }
set_option maxHeartbeats 4000000 in
theorem minLoop {h0 : Heap} {l f J S : Addr} {as : List Addr} {tp : Nat → List Int} (M : MinW prog w A s h0 l f J S as tp)
    (fin : ∀ i a h' tk', as[i]? = some a → Best tp i (as.length - 1) → Ext h0 h' → R (.ok (.ret (.ref a))) { s with heap := h', toks := tk' }) :
    ∀ (r j i : Nat) (h : Heap) (tk : Nat) (b : Addr) (kv : Value) (c : Nat), as.length - (j + 1) = r → j + 1 ≤ as.length → Ext h0 h → h.get? S = some (seqObj "list" #[.ref b, kv] c) → h.IsListIter J l (j + 1) → KeyAt h b (tp i) kv → as[i]? = some b → Best tp i j →
      codeAny (model prog w) A (.builtin "min.loop" ⟨[.ref J, .ref f, .ref S], []⟩) R { s with heap := h, toks := tk } := by
  have nm : (toString "min" ++ toString ".loop" : String) = "min.loop" := by decide
  have W := Walks.list (prog := prog) (w := w) (A := A.in1) M.hh J l M.lJ (as.map Value.ref).toArray
  have size : (as.map Value.ref).toArray.size = as.length := by simp
  have keepJ : ∀ {h h' : Heap}, Ext h0 h → (∀ b o, b ∉ [J] → h.get? b = some o → h'.get? b = some o) → Ext h0 h' := fun e k b o q => k b o (fun z => by
    rw [List.mem_singleton.mp z, M.nJ] at q; cases q) (e b o q)
  have keepS : ∀ {h h' : Heap}, Ext h0 h → Heap.SameBut S h h' → Ext h0 h' := fun e k b o q => (k.2 b (fun z => by
    rw [z, M.nS] at q; cases q)).trans (e b o q)
  intro r
  induction r with
  | zero =>
    intro j i h tk b kv c hr hj e hS hit hk hb best
    obtain rfl : j = as.length - 1 := by omega
    refine codeAny_builtin PySem.F.entry_min_loop ?_
    rw [Around.under_plainId PySem.F.plain_min_loop _]
    refine wpAny_bind (m := seqItems? (.ref S)) (wpAny_seqItems hS rfl ?_)
    refine wpAny_bind (wpAny_tryCatch (W.done _ _ _ ⟨by rw [size, ← show as.length - 1 + 1 = as.length by omega]; exact hit, M.list.at fun o q => e _ o q⟩ fun h' tk' k => ?_))
    have S' := k S _ (by simpa using M.SJ) hS
    have sb := Heap.SameBut.update h' S (Obj.mapSeq fun _ => (#[] : Array Value))
    refine wpAny_bind (m := updateSeq S (fun _ => #[])) ?_
    refine wpAny_updateSeq S' rfl (wpAny_bind (wpAny_letGo (wpAny_pure ?_)))
    exact fin i b _ _ hb best (keepS (keepJ e k) sb)
  | succ r ih =>
    intro j i h tk b kv c hr hj e hS hit hk hb best
    have lt : j + 1 < as.length := by omega
    refine codeAny_builtin PySem.F.entry_min_loop ?_
    rw [Around.under_plainId PySem.F.plain_min_loop _]
    refine wpAny_bind (m := seqItems? (.ref S)) (wpAny_seqItems hS rfl ?_)
    refine wpAny_bind (wpAny_tryCatch (W.item (j + 1) _ _ _ (by rw [size]; exact lt) ⟨hit, M.list.at fun o q => e _ o q⟩ fun v h1 tk1 hv st k => ?_))
    obtain ⟨d, hd, rfl⟩ : ∃ d, as[j + 1]? = some d ∧ v = .ref d := by
      have q : (as.map Value.ref)[j + 1]? = some v := by simpa using hv
      obtain ⟨d, q1, q2⟩ := at_map q
      exact ⟨d, q1, q2⟩
    have e1 := keepJ e k
    have S1 := k S _ (by simpa using M.SJ) hS
    have k1 : KeyAt h1 b (tp i) kv := by
      obtain ⟨T, t, n, q, z⟩ := hk
      refine ⟨T, t, n, q, k T _ (fun y => ?_) z⟩
      obtain ⟨oJ, y1, y2, _⟩ := hit
      rw [List.mem_singleton.mp y, y1] at z
      rw [Option.some.inj z] at y2
      exact absurd y2 (by show ¬ Value.type "tuple" = Value.type "list_iterator"; decide)
    refine wpAny_bind (m := tryCatch (holding [Value.ref d] (call (.ref f) [.ref d])) _) (wpAny_tryCatch (wpAny_holding (wpAny_mono (M.key (j + 1) d hd h1 tk1 e1) (fun x s2 he => ?_) fun _ _ z => z.elim)))
    obtain ⟨h2, tk2, rfl, g, k2⟩ := he
    have e2 : Ext h0 h2 := fun b o q => g b o (e1 b o q)
    have S2 := g _ _ S1
    have k3 := k1.ext g
    obtain ⟨as1, r1⟩ := k2.reads ((M.tapes _ _ hd).ext e2)
    obtain ⟨as2, r2⟩ := k3.reads ((M.tapes _ _ hb).ext e2)
    have nN : keyD (tp (j + 1)) ≠ .none := fun z => by cases z
    have room : A.in1.units + min (keyD (tp (j + 1))).depth (keyD (tp i)).depth < cLine := by
      have q1 := keyD_depth (tp (j + 1))
      have q2 := M.hu
      have q3 : min (keyD (tp (j + 1))).depth (keyD (tp i)).depth ≤ (keyD (tp (j + 1))).depth := Nat.min_le_left _ _
      have q4 : A.in1.units ≤ A.units + 8 := by simp [Around.in1, Around.units]
      omega
    refine wpAny_bind (wpAny_tryCatch (wpAny_holding (wpAny_bind (m := compareOp .Lt x kv) (PySem.W.lt_data r1 r2 (keyD_alike _ _) nN room ?_))))
    rw [keyD_lt]
    refine wpAny_bind (wpAny_holding (wpAny_truthy_bool ?_))
    refine wpAny_bind (wpAny_letGo (wpAny_pure ?_))
    have it2 : h2.IsListIter J l (j + 1 + 1) := let ⟨o, y1, y2⟩ := st.1; ⟨o, g _ _ y1, y2⟩
    cases z : ltK (tp (j + 1)) (tp i) with
    | true =>
      rw [if_pos rfl]
      have sb := Heap.SameBut.update h2 S (Obj.mapSeq fun _ => #[Value.ref d, x])
      obtain ⟨c2, hc2⟩ : ∃ c2, (h2.update S (Obj.mapSeq fun _ => #[Value.ref d, x])).get? S = some (seqObj "list" #[Value.ref d, x] c2) := ⟨_, get?_update_seq S2 fun _ => #[Value.ref d, x]⟩
      refine wpAny_bind (m := updateSeq S (fun _ => #[Value.ref d, x])) ?_
      refine wpAny_updateSeq S2 rfl (wpAny_bind (wpAny_letGo ?_))
      rw [nm]
      refine wpAny_pure ⟨plainId_quiet PySem.F.plain_min_loop _, ih (j + 1) (j + 1) _ _ d x c2 (by omega) lt (keepS e2 sb) hc2 ?_ ?_ hd (best.next z)⟩
      · obtain ⟨o, y1, y2⟩ := it2
        exact ⟨o, (sb.2 J M.SJ.symm).trans y1, y2⟩
      · obtain ⟨T, t, n, q, y⟩ := k2
        refine ⟨T, t, n, q, (sb.2 T fun q2 => ?_).trans y⟩
        rw [q2, S2] at y
        have q3 : Value.type "list" = Value.type "tuple" := congrArg Obj.cls (Option.some.inj y)
        exact absurd q3 (by decide)
    | false =>
      rw [if_neg Bool.false_ne_true]
      refine wpAny_bind (wpAny_letGo ?_)
      rw [nm]
      exact wpAny_pure ⟨plainId_quiet PySem.F.plain_min_loop _, ih (j + 1) i _ _ b kv c (by omega) lt e2 S2 it2 k3 hb (best.keep z)⟩
end
end Kt
namespace Kt
open PySem PySem.Spec PyProof.Rows L2
section
variable {prog : Program} {w : World} {A : Around} {E : Value → Shared → Prop} {s : Shared} {Q : Value → Shared → Prop}
set_option maxHeartbeats 4000000 in
theorem minTapes {l f : Addr} {as : List Addr} {tp : Nat → List Int} (hh : A.handled = none) (hu : A.units + 80 < cLine) (hl : s.heap.IsList l (as.map Value.ref).toArray) (ht : ∀ i a, as[i]? = some a → TapeAt s.heap a (tp i)) (hne : 0 < as.length)
    (key : ∀ i a, as[i]? = some a → ∀ h tk, Ext s.heap h → wpAny (model prog w) A.in1 (call (.ref f) [.ref a]) (fun v s' => ∃ h' tk', s' = { s with heap := h', toks := tk' } ∧ Ext h h' ∧ KeyAt h' a (tp i) v) (fun _ _ => False) { s with heap := h, toks := tk })
    (hQ : ∀ i a h' tk', as[i]? = some a → Best tp i (as.length - 1) → Ext s.heap h' → Q (.ref a) { s with heap := h', toks := tk' }) :
    wpAny (model prog w) A (call (.builtin "min") [.ref l] [(Str.ofString "key", .ref f)]) Q E s := by
  have nm : (toString "min" ++ toString ".loop" : String) = "min.loop" := by decide
  obtain ⟨ol, hol, hlr⟩ := id hl
  have ll : l < s.heap.objs.size := Heap.lt_size hol
  refine kmk_tree PySem.F.kind_min PySem.F.plain_min PySem.F.entry_min (kmk_min_key _ _) ?_
  refine wpAny_bind (m := Builtin.Builtins.bindParams "min" ["key", "default"] 0 ⟨[], [(Str.ofString "key", .ref f)]⟩) (wpAny_of_eq (a := [some (.ref f), none]) rfl ?_)
  refine wpAny_bind (wpAny_pure ?_)
  refine wpAny_bind (wpAny_pyIter_list hl ?_)
  refine wpAny_bind (wpAny_newList ?_ (Nat.zero_le _))
  rw [nm]
  generalize hJo : ({ cls := .type "list_iterator", data := .fields #[.ref l, .int 0 0] } : Obj) = oJ
  have fJ : oJ.isFreed = false := by rw [← hJo] <;> rfl
  have zS : (s.heap.push oJ).objs.size = s.heap.objs.size + 1 := Heap.size_push ..
  generalize hH : (s.heap.push oJ).push { cls := .type "list", data := .seq ([] : List Value).toArray } = H
  have eH : Ext s.heap H := fun b o q => by rw [← hH]; exact Heap.get?_push_of_some _ (Heap.get?_push_of_some _ q)
  have gJ : H.get? s.heap.objs.size = some oJ := by rw [← hH]; exact Heap.get?_push_of_some _ (Heap.get?_push_size _ fJ)
  have gS : H.get? (s.heap.push oJ).objs.size = some (seqObj "list" #[] 0) := by rw [← hH]; exact Heap.get?_push_size _ rfl
  have zJ : s.heap.get? s.heap.objs.size = none := Heap.get?_none_of_le (Nat.le_refl _)
  have zS0 : s.heap.get? (s.heap.push oJ).objs.size = none := Heap.get?_none_of_le (by rw [zS]; exact Nat.le_succ _)
  have lJ : l ≠ s.heap.objs.size := Nat.ne_of_lt ll
  have SJ : (s.heap.push oJ).objs.size ≠ s.heap.objs.size := by rw [zS]; exact Nat.ne_of_gt (Nat.lt_succ_self _)
  generalize (s.heap.push oJ).objs.size = S at gS zS0 SJ
  generalize hJ : s.heap.objs.size = J at gJ zJ lJ SJ
  refine wpAny_pure ⟨plainId_quiet PySem.F.plain_min_loop _, ?_⟩
  have M : MinW prog w A s s.heap l f J S as tp := ⟨hh, hu, hl, ht, lJ, SJ, zJ, zS0, key⟩
  have W := Walks.list (prog := prog) (w := w) (A := A.in1) hh J l lJ (as.map Value.ref).toArray
  have size : (as.map Value.ref).toArray.size = as.length := by simp
  refine codeAny_builtin PySem.F.entry_min_loop ?_
  rw [Around.under_plainId PySem.F.plain_min_loop _]
  refine wpAny_bind (m := seqItems? (.ref S)) (wpAny_seqItems gS rfl ?_)
  refine wpAny_bind (wpAny_tryCatch (W.item 0 _ _ _ (by rw [size]; exact hne) ⟨⟨oJ, gJ, by rw [← hJo], by rw [← hJo] <;> rfl⟩, hl.at fun o q => eH _ o q⟩ fun v h1 tk1 hv st k => ?_))
  obtain ⟨d, hd, rfl⟩ : ∃ d, as[0]? = some d ∧ v = .ref d := by
    have q : (as.map Value.ref)[0]? = some v := by simpa using hv
    obtain ⟨d, q1, q2⟩ := at_map q
    exact ⟨d, q1, q2⟩
  have e1 : Ext s.heap h1 := fun b o q => k b o (fun z => by
    rw [List.mem_singleton.mp z, zJ] at q; cases q) (eH b o q)
  have S1 := k S _ (by simpa using SJ) gS
  refine wpAny_bind (m := tryCatch (holding [Value.ref d] (call (.ref f) [.ref d])) _) (wpAny_tryCatch (wpAny_holding (wpAny_mono (key 0 d hd h1 tk1 e1) (fun x s2 he => ?_) fun _ _ z => z.elim)))
  obtain ⟨h2, tk2, rfl, g, k2⟩ := he
  have S2 := g _ _ S1
  have sb := Heap.SameBut.update h2 S (Obj.mapSeq fun _ => #[Value.ref d, x])
  obtain ⟨c2, hc2⟩ : ∃ c2, (h2.update S (Obj.mapSeq fun _ => #[Value.ref d, x])).get? S = some (seqObj "list" #[Value.ref d, x] c2) := ⟨_, get?_update_seq S2 fun _ => #[Value.ref d, x]⟩
  refine wpAny_bind (m := updateSeq S (fun _ => #[Value.ref d, x])) ?_
  refine wpAny_updateSeq S2 rfl ?_
  rw [nm]
  refine wpAny_pure ⟨plainId_quiet PySem.F.plain_min_loop _, minLoop M (fun i a h' tk' ha b e => hQ i a h' tk' ha b e) _ 0 0 _ _ d x c2 rfl hne (fun b o q => (sb.2 b fun z => by rw [z, zS0] at q; cases q).trans (g b o (e1 b o q))) hc2 ?_ ?_ hd ?_⟩
  · obtain ⟨o, y1, y2⟩ := st.1
    exact ⟨o, (sb.2 J SJ.symm).trans (g _ _ y1), y2⟩
  · obtain ⟨T, t, n, q, y⟩ := k2
    refine ⟨T, t, n, q, (sb.2 T fun q2 => ?_).trans y⟩
    rw [q2, S2] at y
    have q3 : Value.type "list" = Value.type "tuple" := congrArg Obj.cls (Option.some.inj y)
    exact absurd q3 (by decide)
  · refine ⟨Nat.le_refl _, fun k hk => ?_⟩
    obtain rfl : k = 0 := by omega
    exact ⟨ltK_irrefl _, fun q => absurd q (Nat.lt_irrefl _)⟩
end
end Kt
namespace Kt
open PySem PySem.Spec PyProof.Rows L2
section
variable {prog : Program} {w : World} {A : Around} {E : Value → Shared → Prop} {s : Shared}
/-- x ↦ (len(x), x) of a tape -/
theorem lamKey {f a c' : Addr} {name qual x : Str} {params : Arguments} {scope : Scope} {cl : List (Str × Addr)} {pm ctv : Value} {p1 p2 p3 p4 p5 : Pos} {k : Nat} {ns : List Int} {mg mb : Str → Option Value}
    (hf : s.heap.get? f = some (PySem.W.kla_obj name qual params (.Tuple [.Call (.Name ("len" : Str) p1) [.Name x p2] [] p3, .Name x p4] k p5) scope cl pm c' ctv)) (hcd : s.heap.CodeRec (.ref c') qual)
    (hd : A.depth < recursionLimit) (hk : scope.kind = .function) (hco : scope.isCoroutine = false) (hgen : scope.isGenerator = false) (cell : ∀ y ∈ scope.names, y.2 ≠ .cell) (hx : scope.names.lookup x = some .local) (hlen : scope.names.lookup ("len" : Str) = some .globalImplicit)
    (hbind : bindArgs (PySem.W.kla_fn name qual params (.Tuple [.Call (.Name ("len" : Str) p1) [.Name x p2] [] p3, .Name x p4] k p5) scope cl pm (.ref c') ctv) ⟨[.ref a], []⟩ = pure [(x, .ref a)])
    (glob : s.heap.Ns mainGlobals mg) (hm : mg ("len" : Str) = none) (blt : s.heap.Ns builtinsNs mb) (hb : mb ("len" : Str) = some (.builtin "len")) (lim : s.heap.NoLimit) (ha : TapeAt s.heap a ns) (hz : ns.length ≤ 1000000) (hdb : (x == ("__debug__" : Str)) = false) :
    wpAny (model prog w) A (call (.ref f) [.ref a]) (fun v s' => ∃ h' tk', s' = { s with heap := h', toks := tk' } ∧ Ext s.heap h' ∧ KeyAt h' a ns v) E s := by
  refine wpAny_call (codeAny_mono (R := fun r s' => ∃ v, r = .ok (.ret v) ∧ ∃ h' tk', s' = { s with heap := h', toks := tk' } ∧ Ext s.heap h' ∧ KeyAt h' a ns v) (PySem.W.kla_callFunE hd hf rfl hco hgen rfl hcd ?_) fun r s' h => ?_)
  · rw [hbind]
    refine wpAny_pure (wpAny_newFunctionEnv cell (fun y hy => ?_) (fun h1 hns hsb => ⟨lim.fresh _ hsb, ?_⟩) hk)
    · rw [List.mem_singleton.mp hy]; exact hx
    have g1 : Ext s.heap h1 := fun b o q => (hsb.2 b (Nat.ne_of_lt (Heap.lt_size q))).trans (Heap.get?_push_of_some _ q)
    generalize hL : s.heap.objs.size = L at hns hsb ⊢
    show codeAny _ _ (.expr _ (PySem.W.envX qual scope L f (.ref c') cl)) _ _
    refine PySem.W.kla_codeExpr ?_
    have nm : ([((x, .ref a) : Str × Value)].reverse.lookup x) = some (.ref a) := by simp
    refine Tuple_ (args_cons (Call_ (Calls.Name_function_global hk (show Env.kindOf _ _ = _ from hlen) (Calls.loadGlobal_builtin (glob.keeps g1) hm (blt.keeps g1) hb ?_) (by decide)) rfl) rfl)
    refine callWith_builtin1 (args_cons (wpAny_Name (wpAny_loadName_local hk hx hns nm ?_) hdb) rfl) rfl rfl
    refine args_nil ?_
    obtain ⟨vs, hl, hi⟩ := ha.ext g1
    have hlen2 : vs.size = ns.length := by rw [← Array.length_toList]; exact hi.length
    refine Calls.call_len_list hl (by rw [hlen2]; omega) ?_
    refine args_cons (wpAny_Name (wpAny_loadName_local hk hx hns nm ?_) hdb) rfl
    refine args_nil ?_
    refine wpAny_newTuple ?_ (by show 2 ≤ sizeLine; decide)
    rw [hlen2]
    exact ⟨_, rfl, _, _, rfl, fun b o q => Heap.get?_push_of_some _ (g1 b o q), _, _, 0, rfl, Heap.get?_push_size _ rfl⟩
  · obtain ⟨v, rfl, q⟩ := h
    exact q
end
end Kt
namespace Kt
open PySem PySem.Spec PyProof.Rows L2
theorem vals_refs_inv : ∀ {as : List Addr} {us : List Value}, Vals (as.map V.ref) us → us = as.map Value.ref
  | [], _, .nil => rfl
  | a :: r, _, .cons h t => by
    have e : _ = Value.ref a := h
    rw [e, vals_refs_inv t]; rfl
section
variable {X : Cx} {pins : List (Addr × Obj)} {σ : L2.St} {H : Hp} {s : Shared}
/-- a lambda is made: all but the table of the def stays as it is -/
theorem lam3 {c P : Addr} {params : Arguments} {body : Expr} {scope : Scope} {pos : Pos} {E : Value → Shared → Prop} {Q : Value → Shared → Prop} (I : Inv X pins σ H s) (TB : LamX.TabB X.base X.mg c P) (hcode : X.env.code = .ref c)
    (hT : LamX.TabS H P (X.env.qual ++ "<lambda>")) (hdef : defaultsOf params X.env = ([], [])) (hfree : ∀ y ∈ scope.names, y.2 = .free → ∃ c, X.env.cells.lookup y.1 = some c)
    (h : ∀ (f c' : Addr) (pm ctv : Value) (H1 : Hp) (s' : Shared), Inv X pins σ H1 s' → (∀ b o, b ≠ P → H b = some o → H1 b = some o) → LamX.TabS H1 P (X.env.qual ++ "<lambda>") →
      s'.heap.get? f = some (PySem.W.kla_obj "<lambda>" (X.env.qual ++ "<lambda>") params body scope (cloFrom X.env.cells scope.names []) pm c' ctv) → H1 c' = some (LamX.CodeO c' (X.env.qual ++ "<lambda>")) → Q (.ref f) s') :
    wpAny (model X.prog X.w) X.A (eval (.Lambda params body scope pos) X.env) Q E s := by
  obtain ⟨ps, hP, ht, ha⟩ := hT
  refine PySem.W.kla_eval hdef ?_
  have bm := TB.bm.keeps I.bk
  have oP : s.heap.get? P = some { cls := .none, data := .fields ps } := I.hok P _ hP
  cases hc : codeAmong pos ps.toList with
  | none =>
    refine PySem.W.kla_makeFunction (mg := X.mg) (c := c) (P := P) (ps := ps) (closure_ok hfree) I.ok.glob (I.mod.glob.keeps I.bk) hcode (TB.code.keeps I.bk) oP ht hc TB.gP bm fun c' ctv h' tk hx hge hlt hrec htb => ?_
    obtain ⟨c2, oc, vs, t, e2, hoc, hd, hv⟩ := hrec
    cases e2
    have nC : H c' = none := I.hok.fresh hge
    have J := LamX.inv_table (t' := tk) (more := #[rawInt pos.line, rawInt pos.col, .ref c']) (h' := h'.push (PySem.W.kla_obj "<lambda>" (X.env.qual ++ "<lambda>") params body scope (cloFrom X.env.cells scope.names []) ((X.mg "__name__").getD .none) c' ctv)) I hP
      (fun b o hb e => Heap.get?_push_of_some _ (hx b o hb e)) (Heap.get?_push_of_some _ htb) hge ⟨oc, vs, t, Heap.get?_push_of_some _ hoc, hd, hv⟩
    have stay : ∀ b o, b ≠ P → H b = some o → upd (upd H P (.tbl (ps ++ #[rawInt pos.line, rawInt pos.col, .ref c']))) c' (LamX.CodeO c' (X.env.qual ++ "<lambda>")) b = some o := fun b o n e => by
      rw [upd_ne (ne_of_none e nC), upd_ne n]; exact e
    have eL : (ps ++ #[rawInt pos.line, rawInt pos.col, .ref c']).toList = ps.toList ++ [rawInt pos.line, rawInt pos.col, .ref c'] := by simp
    refine h h'.objs.size c' ((X.mg "__name__").getD .none) ctv _ _ J stay ⟨_, by rw [upd_ne (ne_of_none hP nC), upd_same], by rw [eL]; exact PySem.TriplesOk_snoc _ _ _ _ ht, fun p' cv hcv => ?_⟩ (Heap.get?_push_size _ rfl) upd_same
    rw [eL] at hcv
    rcases LamX.among_app _ ht hcv with z | z
    · obtain ⟨c0, e1, e2⟩ := ha p' cv z
      refine ⟨c0, e1, stay _ _ (fun q => ?_) e2⟩
      rw [q, hP] at e2
      exact LamX.codeO_ne ps (Option.some.inj e2).symm
    · exact ⟨c', z, upd_same⟩
  | some cv =>
    obtain ⟨c', rfl, hco⟩ := ha pos cv hc
    refine PySem.W.kla_makeFunctionHit (mg := X.mg) (c := c) (P := P) (ps := ps) (closure_ok hfree) I.ok.glob (I.mod.glob.keeps I.bk) hcode (TB.code.keeps I.bk) oP ht hc bm fun ctv h' tk hx hsz => ?_
    exact h h'.objs.size c' ((X.mg "__name__").getD .none) ctv H _ (I.kept fun b o e => Heap.get?_push_of_some _ (hx b o e)) (fun _ _ _ e => e) ⟨ps, hP, ht, ha⟩ (Heap.get?_push_size _ rfl) hco
end
/-- what stays where only the table at P may grow -/
def But (P : Addr) (H H' : Hp) : Prop := ∀ b o, b ≠ P → H b = some o → H' b = some o
theorem seqL_but {K : PySem.W.Frag} {P a : Addr} {H H' : Hp} {xs : List V} {ps : Array Value} (e : But P H H') (hP : H P = some (.tbl ps)) (h : SqL K H a xs) : SqL K H' a xs := by
  rcases h with (h | ⟨o, h⟩) | h
  · exact .inl (.inl (e _ _ (ne_of h hP (fun q => nomatch q)) h))
  · exact .inl (.inr ⟨o, e _ _ (ne_of h hP (fun q => nomatch q)) h⟩)
  · exact .inr h
/-- what the reading of min(.., key = lambda x: (len(x), x)) asks -/
def tMinK (K : PySem.W.Frag) (P : Addr) (q : Str) (ta : TE) : TE := fun σ H Q => ta σ H fun x H1 => ∃ (l : Addr) (as : List Addr) (tp : Nat → List Int), x = .ref l ∧ SqL K H1 l (as.map V.ref) ∧ 0 < as.length ∧
  (∀ i a, as[i]? = some a → SqL K H1 a ((tp i).map V.int) ∧ (tp i).length ≤ 1000000) ∧ LamX.TabS H1 P q ∧
  ∀ i a H2, as[i]? = some a → Best tp i (as.length - 1) → But P H1 H2 → LamX.TabS H2 P q → Q (.ref a) H2
section
variable {X : Cx}
theorem pe_minKey {c P : Addr} {k j : Nat} {x : Str} {params : Arguments} {scope : Scope} {a : Expr} {ta : TE} {p p1 p2 p3 p4 p5 lpos kpos pos : Pos} (hc : X.calm = true) (hr : Room j X.A) (hg : Gl X "min") (hm : X.mg "min" = none) (hml : X.mg "len" = none)
    (TB : LamX.TabB X.base X.mg c P) (hcode : X.env.code = .ref c) (ha : PE X a ta) (hk : scope.kind = .function) (hco : scope.isCoroutine = false) (hgen : scope.isGenerator = false) (cell : (scope.names.all fun y => !decide (y.2 = .cell) && !decide (y.2 = .free)) = true)
    (hx : scope.names.lookup x = some .local) (hlen : scope.names.lookup ("len" : Str) = some .globalImplicit) (hdef : defaultsOf params X.env = ([], []))
    (hbind : ∀ (q : Str) (cl : List (Str × Addr)) (pm cv ctv u : Value), bindArgs (PySem.W.kla_fn "<lambda>" q params (.Tuple [.Call (.Name ("len" : Str) p1) [.Name x p2] [] p3, .Name x p4] k p5) scope cl pm cv ctv) ⟨[u], []⟩ = pure [(x, u)])
    (hdb : (x == ("__debug__" : Str)) = false)
    (h1 : starEach [a] X.env = (false, eval a X.env) :: starEach [] X.env := by rfl) :
    PE X (.Call (.Name "min" p) [a] [⟨some "key", .Lambda params (.Tuple [.Call (.Name ("len" : Str) p1) [.Name x p2] [] p3, .Name x p4] k p5) scope lpos, kpos⟩] pos) (tMinK X.K P (X.env.qual ++ "<lambda>") ta) := by
  refine ⟨fun pins s σ H Q I h => ?_⟩
  have hfree : ∀ y ∈ scope.names, y.2 = .free → ∃ c, X.env.cells.lookup y.1 = some c := fun y hy e => by
    have := List.all_eq_true.mp cell y hy
    rw [e] at this; simp at this
  have hcell : ∀ y ∈ scope.names, y.2 ≠ .cell := fun y hy e => by
    have := List.all_eq_true.mp cell y hy
    rw [e] at this; simp at this
  refine wpAny_Call_Name_kw (ld_blt I hg hm PyProof.Rows.boot_min ?_)
  refine callWith_kw (args_cons (thn (ha.run pins s σ H _ I h) fun v s1 q => args_nil ?_) h1) (by rw [h1]; rfl) (by rw [h1]; rfl) rfl rfl
  · obtain ⟨x1, H1, I1, r1, l, as, tp, rfl, hl, hne, ht, hT, q⟩ := q
    cases r1
    show wpAny _ _ (evalAll ((do let v ← eval _ X.env; standAt pos; pure v) :: [])) _ _ s1
    have hP := hT
    obtain ⟨ps0, hP, _⟩ := hP
    refine wpAny_evalAll_cons (wpAny_bind (lam3 I1 TB hcode hT hdef hfree fun f c' pm ctv H2 s2 I2 eN T2 hf hcod => wpAny_bind (wpAny_standAt (wpAny_pure (wpAny_evalAll_nil ?_)))))
    show wpAny _ _ (call (.builtin "min") [.ref l] [(Str.ofString "key", .ref f)]) _ _ s2
    obtain ⟨its, rv, pl, hz⟩ := I2.list (seqL_but eN hP hl)
    have ei := vals_refs_inv rv
    subst ei
    have hlim := I2.nolimit
    have hgl := I2.mod.glob.keeps I2.bk
    obtain ⟨mb, hb1, hb2⟩ := I2.mod.blt
    have hb3 := hb1.keeps I2.bk
    obtain ⟨⟨oc, vs, t, y1, y2, y3⟩, _, _⟩ := I2.hok c' _ hcod
    have un := hr.un
    have tapes : ∀ i d, as[i]? = some d → TapeAt s2.heap d (tp i) := fun i d hd => by
      obtain ⟨its2, rv2, pl2, _⟩ := I2.list (seqL_but eN hP (ht i d hd).1)
      exact ⟨its2.toArray, pl2.isList, by simpa using ints_of_vals rv2⟩
    refine minTapes (I2.ok.hd hc) (by omega) pl.isList tapes hne (fun i d hd h tk e => ?_) fun i d h' tk' hd best e => ?_
    · have hf2 := e _ _ hf
      refine lamKey (s := { s2 with heap := h, toks := tk }) hf2 ⟨c', oc, vs, t, rfl, e _ _ y1, y2, y3⟩ ?_ hk hco hgen hcell hx hlen (hbind _ _ _ _ _ _) (hgl.keeps e) hml (hb3.keeps e) ((hb2 _ (by decide)).trans PySem.boot_len) (hlim.keeps e) ((tapes i d hd).ext e) (ht i d hd).2 hdb
      show X.A.depth < recursionLimit
      have := hr.dp; omega
    · exact ⟨.ref d, H2, I2.kept e, rfl, q i d H2 hd best eN T2⟩
end
end Kt
namespace Kt
open PySem PySem.Spec PyProof.Rows L2
/-! ### reversed(s), s a text -/
theorem str_norev : typeLookup (.type "str") "__reversed__" = pure none := by
  rw [typeLookup_type, builtinLookup_eq_fast]; kernel_rfl
theorem str_item : typeLookup (.type "str") "__getitem__" = pure (some (.builtin "str.__getitem__")) := by
  rw [typeLookup_type, builtinLookup_eq_fast]; kernel_rfl
/-- the iterator it over x from its end, the next place i -/
def RevS (h : Heap) (it : Addr) (x : Str) (u : Tok) (i : Int) : Prop := ∃ o, h.get? it = some o ∧ o.cls = .type "reversed" ∧ o.data = .fields #[.str x u, rawInt i]
section
variable {prog : Program} {w : World} {A : Around} {E : Value → Shared → Prop} {s : Shared}
theorem RevS.ty {it : Addr} {x : Str} {u : Tok} {i : Int} (r : RevS s.heap it x u i) : s.TypeIs (.ref it) "reversed" := let ⟨o, ho, hc, _⟩ := r; ⟨o, ho, hc⟩
set_option maxHeartbeats 1000000 in
theorem rev_new {x : Str} {u : Tok} {Q : Value → Shared → Prop} (hz : x.length ≤ sizeLine)
    (h : ∀ tk, Q (.ref s.heap.objs.size) { s with heap := s.heap.push { cls := .type "reversed", data := .fields #[.str x u, rawInt ((x.length : Int) - 1)] }, toks := tk }) : wpAny (model prog w) A (call (.type "reversed") [.str x u]) Q E s := by
  have ty : s.TypeIs (.str x u) "str" := typeIs_str s x u
  rw [sizeLine_eq] at hz
  refine callType_codes (Q₁ := fun ob s₁ => s₁.TypeIs ob "reversed" ∧ Q ob s₁) RT.called_rt (PySem.F.typeCall_reversed_1 _) PySem.F.entry_object_init (codeAny_of_tree ?_) fun ob s₁ k => ?_
  · show wpAny _ _ (do checkBuiltinCall "reversed.__new__" ⟨[.type "reversed", .str x u], []⟩; again (.builtin "reversed.__new__" ⟨[.type "reversed", .str x u], []⟩)) _ _ s
    refine wpAny_bind (wpAny_of_eq (PySem.F.newCall_reversed_1 _) (wpAny_pure ⟨plainId_quiet PySem.F.plain_reversed_new _, codeAny_builtin PySem.F.entry_reversed_new ?_⟩))
    rw [Around.under_plainId PySem.F.plain_reversed_new _]
    unfold Builtin.«reversed.__new__»
    refine wpAny_bind (wpAny_of_eq (newClass_reversed _) ?_); try dsimp only
    refine wpAny_bind (wpAny_of_eq (a := ()) (by first | rfl | kernel_rfl) ?_); try dsimp only
    refine wpAny_bind (wpAny_of_eq (a := ()) (by first | rfl | kernel_rfl) ?_); try dsimp only
    refine wpAny_bind (wpAny_specialOf ty str_norev ?_); try dsimp only
    refine wpAny_bind ?_
    wp_delta
    refine wpAny_bind (wpAny_isInstance (T := "str") (U := "dict") (b := false) ty PySem.F.sub_str_dict ?_); try dsimp only
    try rw [if_neg Bool.false_ne_true]
    try dsimp only
    refine wpAny_bind (wpAny_specialOf ty str_item ?_); try dsimp only
    try rw [if_pos (by decide +kernel)]
    refine wpAny_pure ?_
    try dsimp only
    try rw [if_neg (by decide)]
    try dsimp only
    refine wpAny_bind (PySem.P.len_str (by omega) ?_)
    refine wpAny_bind (wpAny_of_eq (a := some ((x.length : Nat) : Int)) rfl ?_); try dsimp only
    refine wpAny_bind (m := newObj (.type "reversed") (.fields #[.str x u, rawInt ((x.length : Int) - 1)])) ?_
    exact wpAny_newObj_type (wpAny_pure ⟨⟨_, Heap.get?_push_size _ rfl, rfl⟩, h _⟩)
  · exact ⟨k.1, PySem.F.args_object_init_2 ob _, object_init_meets RT.called_rt.init.lookup RT.called_rt.made (by decide) prog w A.in1 _ s₁ ⟨k.1, rfl, k.2⟩⟩
set_option maxHeartbeats 1000000 in
theorem rev_item {it : Addr} {x : Str} {u : Tok} {i c : Nat} {Q : Option Value → Shared → Prop} (r : RevS s.heap it x u (i : Int)) (hx : x.cps[i]? = some c) (hz : x.length ≤ sizeLine)
    (hQ : ∀ h' t tk, RevS h' it x u ((i : Int) - 1) → Heap.SameBut it s.heap h' → Q (some (.str (sg c) t)) { s with heap := h', toks := tk }) : wpAny (model prog w) A (pyNext (.ref it)) Q E s := by
  obtain ⟨o, ho, hc, hd⟩ := id r
  have hi : i < x.length := (Array.getElem?_eq_some_iff.mp hx).1
  have ty : s.TypeIs (.str x u) "str" := typeIs_str s x u
  rw [sizeLine_eq] at hz
  unfold pyNext
  refine wpAny_bind (wpAny_attempt (wpAny_callSpecial?_slot (name := Str.ofString "__next__") r.ty RT.slot_rt_next (wpAny_call_entry RT.slot_rt_next r.ty RT.entry_rt_next ?_ (RT.args_rt_next _))))
  unfold Builtin.«reversed.__next__»
  refine wpAny_bind (wpAny_of_eq (a := (Value.ref it, [])) rfl ?_); try dsimp only
  refine wpAny_bind (wpAny_field ho hd (x := .str x u) rfl ?_); try dsimp only
  refine wpAny_bind (wpAny_field ho hd (x := rawInt (i : Int)) rfl ?_)
  show wpAny _ _ (if (i : Int) < 0 then _ else _) _ _ s
  rw [if_neg (by omega)]
  try dsimp only
  refine wpAny_bind (wpAny_specialOf ty str_item ?_); try dsimp only
  try rw [if_neg (by decide)]
  try dsimp only
  refine wpAny_bind (wpAny_mkInt (wpAny_bind (wpAny_attempt ?_)))
  have sq : (seqIndex? (i : Int) x.length).bind (x.cps[·]?) = some c := by
    rw [(ixN_seq (ix_ok rfl hi)).1]; exact hx
  refine PySem.P.getItem_str (s := { s with toks := s.toks + 1 }) (by
    have e1 : decide ((i : Int) < -(2 ^ 63 : Int)) = false := decide_eq_false (by omega)
    have e2 : decide ((i : Int) ≥ 2 ^ 63) = false := decide_eq_false (by omega)
    rw [e1, e2] <;> rfl) sq ?_
  try dsimp only
  refine wpAny_bind (wpAny_field (s := { s with toks := s.toks + 1 + 1 }) ho hd (x := rawInt (i : Int)) rfl ?_); try dsimp only
  refine wpAny_bind (wpAny_setField (s := { s with toks := s.toks + 1 + 1 }) ho hd (by simp) ?_)
  have new : RevS (s.heap.update it (Obj.mapFields (·.setIfInBounds 1 (rawInt ((i : Int) - 1))))) it x u ((i : Int) - 1) :=
    ⟨_, Heap.get?_update_self _ ho (Obj.isFreed_of_fields (Obj.data_mapFields hd _)), (Obj.cls_mapFields ..).trans hc, by rw [Obj.data_mapFields hd]; simp⟩
  first
  | exact wpAny_pure ⟨_, rfl, wpAny_pure (hQ _ _ _ new (Heap.SameBut.update ..))⟩
  | exact wpAny_bind (wpAny_pure (wpAny_pure ⟨_, rfl, wpAny_pure (hQ _ _ _ new (Heap.SameBut.update ..))⟩))
set_option maxHeartbeats 1000000 in
theorem rev_end {it : Addr} {x : Str} {u : Tok} {Q : Option Value → Shared → Prop} (hh : A.handled = none) (r : RevS s.heap it x u (-1))
    (hQ : ∀ h', Heap.ExtBut it s.heap h' → Q none { s with heap := h' }) : wpAny (model prog w) A (pyNext (.ref it)) Q E s := by
  obtain ⟨o, ho, hc, hd⟩ := id r
  unfold pyNext
  refine wpAny_bind (wpAny_attempt (wpAny_callSpecial?_slot (name := Str.ofString "__next__") r.ty RT.slot_rt_next (wpAny_call_entry RT.slot_rt_next r.ty RT.entry_rt_next ?_ (RT.args_rt_next _))))
  unfold Builtin.«reversed.__next__»
  refine wpAny_bind (wpAny_of_eq (a := (Value.ref it, [])) rfl ?_); try dsimp only
  refine wpAny_bind (wpAny_field ho hd (x := .str x u) rfl ?_); try dsimp only
  refine wpAny_bind (wpAny_field ho hd (x := rawInt (-1)) rfl ?_)
  show wpAny _ _ (if (-1 : Int) < 0 then _ else _) _ _ s
  rw [if_pos (by decide)]
  try dsimp only
  refine wpAny_bind (wpAny_rule (wpAny_bind ?_))
  wp_delta
  refine wpAny_bind (wpAny_setField ho hd (by simp) ?_)
  have ho2 := Heap.get?_update_self (Obj.mapFields (·.setIfInBounds 1 (rawInt (-1)))) ho (Obj.isFreed_of_fields (Obj.data_mapFields hd _))
  refine wpAny_setField (s := { s with heap := s.heap.update it (Obj.mapFields (·.setIfInBounds 1 (rawInt (-1)))) }) ho2 (Obj.data_mapFields hd _) (by simp) ?_
  try dsimp only
  first
  | show wpAny _ _ (newExc (.type "StopIteration") [] >>= _) _ _ _
  | (refine wpAny_bind ?_; show wpAny _ _ (newExc (.type "StopIteration") [] >>= _) _ _ _)
  | (refine wpAny_bind ?_; wp_delta; show wpAny _ _ (newExc (.type "StopIteration") [] >>= _) _ _ _)
  refine wpAny_bind ?_
  simp only [newExc, newTuple]
  refine wpAny_bind (wpAny_newObj_type (wpAny_bind (m := firstArgMember _ _) (wpAny_of_eq (a := Value.none) (by first | rfl | (simp only [firstArgMember]; rfl)) ?_)) (by size_fits))
  refine wpAny_newObj_type ?_ (by size_fits)
  simp only [raiseNew]
  refine wpAny_bind (wpAny_handled ?_)
  first | rw [show A.in1.handled = none from hh] | rw [hh]
  refine wpAny_bind (wpAny_pure (wpAny_throw ?_))
  refine wpAny_bind (wpAny_isInstance (T := "StopIteration") (b := true) ⟨_, Heap.get?_push_size _ rfl, rfl⟩ isSubtype_stop (wpAny_pure (hQ _ ?_)))
  refine ((?_ : Heap.ExtBut it s.heap _).push _).push _
  exact fun b ob hb e => (Heap.get?_update_other _ _ (Ne.symm hb)).trans ((Heap.get?_update_other _ _ (Ne.symm hb)).trans e)
theorem rev_iter {it : Addr} {x : Str} {u : Tok} {i : Int} {Q : Value → Shared → Prop} (r : RevS s.heap it x u i) (h : Q (.ref it) s) : wpAny (model prog w) A (pyIter (.ref it)) Q E s :=
  wpAny_pyIter_slot r.ty RT.slot_rt_iter (wpAny_call_entry RT.slot_rt_iter r.ty RT.entry_rt_iter (show wpAny _ _ (ret (.ref it)) _ _ s from wpAny_pure ⟨_, rfl, "reversed", _, r.ty, RT.slot_rt_next.lookup, h⟩) (RT.args_rt_iter _))
end
/-- the signs of x from its end -/
def ItRs (x : Str) : It := ⟨fun i _ => i < x.cps.size, fun i H v H' => H' = H ∧ ∃ c, x.cps[x.cps.size - 1 - i]? = some c ∧ v = .str (sg c), fun i _ => x.cps.size ≤ i⟩
theorem turn_rs {P : Program} {w : World} {K : PySem.W.Frag} {tg : Expr} (x : Str) (u : Tok) (it : Addr) (hz : x.length ≤ sizeLine) : Turn P w K tg (ItRs x) [it] it (fun i h => i ≤ x.cps.size ∧ RevS h it x u ((x.cps.size : Int) - 1 - (i : Nat))) where
  mem := by simp
  obj := fun i h st b hb => by
    obtain rfl : b = it := by simpa using hb
    obtain ⟨_, o, e, _, d⟩ := st
    exact ⟨o, e, fun v z => by rw [d] at z; cases z⟩
  keep := fun i h h' ⟨a, o, e, r⟩ k => ⟨a, o, k it (by simp) o e, r⟩
  item := by
    intro X hP hw hK hc i pins s σ H E I hf st hg
    subst hP hw hK
    have hin : i < x.cps.size := hg
    obtain ⟨f0, f1, f2, f3, f4, f5⟩ := hf it (by simp)
    obtain ⟨_, hit⟩ := st
    rw [show (x.cps.size : Int) - 1 - ((i : Nat) : Int) = ((x.cps.size - 1 - i : Nat) : Int) by omega] at hit
    obtain ⟨c, hx⟩ : ∃ c, x.cps[x.cps.size - 1 - i]? = some c := ⟨_, Array.getElem?_eq_getElem (by omega)⟩
    refine rev_item hit hx hz fun h' t tk st' sb => ?_
    rw [show ((x.cps.size - 1 - i : Nat) : Int) - 1 = (x.cps.size : Int) - 1 - ((i + 1 : Nat) : Int) by omega] at st'
    have I1 : Inv X pins σ H { s with heap := h', toks := tk } := I.turned (t' := tk) (fun b o hb e => (sb.2 b hb).trans e) f0 f1 f3 f4 f5
    obtain ⟨o, e, y, d⟩ := id st'
    exact ⟨_, rfl, go_of (s := { s with heap := h', toks := tk }) e y d (by decide) ⟨.str (sg c), H, I1, ⟨t, rfl⟩, ⟨rfl, c, hx, rfl⟩, ⟨hin, st'⟩, fun b hb => (hf b hb).1⟩⟩
  done := by
    intro X hP hw hK hc i pins s σ H E I hf st hg
    subst hP hw hK
    obtain ⟨f0, f1, f2, f3, f4, f5⟩ := hf it (by simp)
    obtain ⟨hin, hit⟩ := st
    have hge : x.cps.size ≤ i := hg
    rw [show (x.cps.size : Int) - 1 - ((i : Nat) : Int) = -1 by omega] at hit
    exact rev_end (I.ok.hd hc) hit fun h' eb => ⟨rfl, I.turned (t' := s.toks) (fun b o hb e => eb b o hb e) f0 f1 f3 f4 f5⟩
  self := fun A i s Q E st h => rev_iter st.2 h
def iRevS (te : TE) : TI := fun σ H R => te σ H fun v H1 => ∃ x : Str, v = .str x ∧ x.length ≤ sizeLine ∧ R (ItRs x) H1
theorem pi_revS {X : Cx} {tg e : Expr} {te : TE} {p pos : Pos} (hg : Gl X "reversed") (hm : X.mg "reversed" = none) (he : PE X e te) (hs : starEach [e] X.env = (false, eval e X.env) :: starEach [] X.env := by rfl) : PI X tg (.Call (.Name "reversed" p) [e] [] pos) (iRevS te) := by
  refine ⟨fun pins s σ H R I h => ?_⟩
  refine Call_ (ld_blt I hg hm PyProof.Rows.boot_reversed (callWith_type1 (args_cons (thn (he.run pins s σ H _ I h) fun v s1 q => args_nil ?_) hs) hs rfl))
  obtain ⟨y, H1, I1, r1, x, rfl, hz, q⟩ := q
  obtain ⟨u, rfl⟩ := r1
  refine rev_new hz fun tk => rev_iter (x := x) (u := u) (i := (x.length : Int) - 1) ⟨_, Heap.get?_push_size _ rfl, rfl, rfl⟩ ?_
  refine pi_one I1 _ (turn_rs x u _ hz) ⟨Nat.zero_le _, ?_⟩ q
  exact ⟨_, Heap.get?_push_size _ rfl, rfl, by show Data.fields _ = Data.fields _; rw [show (x.cps.size : Int) - 1 - ((0 : Nat) : Int) = (x.length : Int) - 1 by show (x.cps.size : Int) - 1 - 0 = (x.cps.size : Int) - 1; omega]⟩
end Kt
namespace Kt
open PySem PySem.Spec PyProof.Rows L2
/-! ### where a sign stands -/
def fi (s : Str) (c : Nat) : Int := Txt.find s (sg c)
theorem fi_spec (s : Str) (c : Nat) : (fi s c = -1 ∧ c ∉ s.cps.toList) ∨ ∃ k : Nat, fi s c = k ∧ s.cps.toList[k]? = some c := by
  unfold fi Txt.find
  rcases PySem.StrLaws.occ_head s (sg c) 1 (Nat.le_refl _) with ⟨h1, h2⟩ | ⟨i, r, h1, h2, _⟩
  · rw [h1]
    refine .inl ⟨rfl, fun hm => ?_⟩
    obtain ⟨i, hi⟩ := List.mem_iff_getElem?.mp hm
    exact h2 i ((PySem.StrLaws.subAt_one s c i).mpr hi)
  · rw [h1]
    exact .inr ⟨i, rfl, (PySem.StrLaws.subAt_one s c i).mp h2⟩
/-- the one set, or the other -/
def at01 (z o : Str) (b : Int) : Str := if b = 0 then z else o
/-- the code of the sign c in the set now, or in both (2) -/
def cod (z o : Str) (c : Nat) (now : Int) : Int := if now ≠ 2 then fi (at01 z o now) c else if fi o c ≠ fi z c then -1 else fi z c
/-- the set behind the code -/
def bhd (hm : V) (k now : Int) : Int := if V.int k = hm then 0 else now
/-- three tapes -/
structure T3 where
  t0 : List Int
  t1 : List Int
  t2 : List Int
def T3.at (t : T3) (b : Int) : List Int := if b = 0 then t.t0 else if b = 1 then t.t1 else t.t2
/-- the tapes without a shift -/
def plainL (z o : Str) (hm : V) (c : Nat) (r : T3) (now : Int) : List (List Int) := if cod z o c now < 0 then [] else [cod z o c now :: r.at (bhd hm (cod z o c now) now)]
def shiftL (z o : Str) (hm : V) (c : Nat) (r : T3) : List (List Int) := (plainL z o hm c r 0).map (fun t => ((z.cps.size : Int) + 0) :: t) ++ (plainL z o hm c r 1).map fun t => ((z.cps.size : Int) + 1) :: t
def IsFirst (L : List (List Int)) (t : List Int) : Prop := t ∈ L ∧ ∀ u ∈ L, ltK u t = false
/-- what is told of a text, from its end on -/
inductive Tells (z o : Str) (hm : V) : List Nat → T3 → Prop
  | nil : Tells z o hm [] ⟨[], [], []⟩
  | cons {c : Nat} {cs : List Nat} {r t : T3} (h : Tells z o hm cs r) (h0 : IsFirst (plainL z o hm c r 0 ++ shiftL z o hm c r) t.t0) (h1 : IsFirst (plainL z o hm c r 1 ++ shiftL z o hm c r) t.t1)
      (h2 : IsFirst (plainL z o hm c r 2 ++ shiftL z o hm c r) t.t2) : Tells z o hm (c :: cs) t
theorem IsFirst.eq {L : List (List Int)} {t u : List Int} (h : IsFirst L t) (g : IsFirst L u) : t = u := by
  rcases ltK_tri (g.2 t h.1) with e | e
  · exact e
  · rw [h.2 u g.1] at e; cases e
theorem ltK_len {a b : List Int} (h : a.length < b.length) : ltK a b = true := by
  unfold ltK; rw [if_neg (by omega)]; exact decide_eq_true h
theorem ltK_ge {a b : List Int} (h : b.length < a.length) : ltK a b = false := by
  unfold ltK; rw [if_neg (by omega)]; exact decide_eq_false (by omega)
theorem ltK_hd {x y : Int} {a b : List Int} (h : a.length = b.length) (hx : y < x) : ltK (x :: a) (y :: b) = false := by
  unfold ltK; rw [if_pos (by simp [h])]
  unfold lx; rw [if_neg (by omega)]; exact decide_eq_false (by omega)
end Kt
namespace Kt
open PySem PySem.Spec PyProof.Rows L2
/-- the sign can be written -/
def InSet (z o : Str) (c : Nat) : Prop := c ∈ z.cps.toList ∨ c ∈ o.cps.toList
def pOf (z o : Str) (hm : V) (c : Nat) (r : T3) (b : Int) : List Int := cod z o c b :: r.at (bhd hm (cod z o c b) b)
theorem cod01 {z o : Str} {c : Nat} {b : Int} (hb : Is01 b) : cod z o c b = fi (at01 z o b) c := by
  unfold cod; rw [if_pos (by rcases hb with e | e <;> omega)]
theorem at01_size {z o : Str} {hm : V} (g : Good z o hm) (b : Int) : (at01 z o b).cps.size = z.cps.size := by
  unfold at01; split
  · rfl
  · exact g.len
theorem cod_lt {z o : Str} {hm : V} (g : Good z o hm) (c : Nat) (b : Int) : cod z o c b < z.cps.size ∧ -1 ≤ cod z o c b := by
  have one : ∀ s : Str, s.cps.size = z.cps.size → fi s c < z.cps.size ∧ -1 ≤ fi s c := fun s hs => by
    rcases fi_spec s c with ⟨e, _⟩ | ⟨k, e, hk⟩
    · rw [e]; have := g.pos; omega
    · rw [e]
      have := (List.getElem?_eq_some_iff.mp hk).1
      rw [Array.length_toList] at this
      omega
  unfold cod
  split
  · exact one _ (at01_size g b)
  · split
    · have := g.pos; omega
    · exact one z rfl
theorem cod_sign {z o : Str} {c : Nat} {b : Int} (hb : Is01 b) (h : 0 ≤ cod z o c b) : (at01 z o b).cps.toList.getD (cod z o c b).toNat 0 = c := by
  rw [cod01 hb] at h ⊢
  rcases fi_spec (at01 z o b) c with ⟨e, _⟩ | ⟨k, e, hk⟩
  · omega
  · rw [e, Int.toNat_natCast, List.getD_eq_getElem?_getD, hk]; rfl
theorem cod_some {z o : Str} {c : Nat} (h : InSet z o c) (b : Int) (hb : Is01 b) : 0 ≤ cod z o c b ∨ 0 ≤ cod z o c (1 - b) := by
  have one : ∀ s : Str, c ∈ s.cps.toList → 0 ≤ fi s c := fun s hs => by
    rcases fi_spec s c with ⟨_, e⟩ | ⟨k, e, _⟩
    · exact absurd hs e
    · omega
  rcases hb with e | e <;> subst e
  · rw [cod01 (.inl rfl), cod01 (b := 1 - 0) (.inr rfl)]
    rcases h with h | h
    · exact .inl (one z h)
    · exact .inr (one o h)
  · rw [cod01 (.inr rfl), cod01 (b := 1 - 1) (.inl rfl)]
    rcases h with h | h
    · exact .inr (one z h)
    · exact .inl (one o h)
theorem mem_plain {z o : Str} {hm : V} {c : Nat} {r : T3} {b : Int} {u : List Int} : u ∈ plainL z o hm c r b ↔ 0 ≤ cod z o c b ∧ u = pOf z o hm c r b := by
  unfold plainL pOf
  split
  · rename_i h
    constructor
    · intro h'; cases h'
    · intro h'; omega
  · rename_i h
    rw [List.mem_singleton]
    exact ⟨fun e => ⟨by omega, e⟩, fun e => e.2⟩
theorem mem_shift {z o : Str} {hm : V} {c : Nat} {r : T3} {u : List Int} : u ∈ shiftL z o hm c r ↔ ∃ b, Is01 b ∧ 0 ≤ cod z o c b ∧ u = ((z.cps.size : Int) + b) :: pOf z o hm c r b := by
  unfold shiftL
  rw [List.mem_append, List.mem_map, List.mem_map]
  constructor
  · rintro (⟨t, h, e⟩ | ⟨t, h, e⟩)
    · obtain ⟨h1, h2⟩ := mem_plain.mp h
      exact ⟨0, .inl rfl, h1, by rw [← e, h2]⟩
    · obtain ⟨h1, h2⟩ := mem_plain.mp h
      exact ⟨1, .inr rfl, h1, by rw [← e, h2]⟩
  · rintro ⟨b, hb, h1, e⟩
    rcases hb with q | q <;> subst q
    · exact .inl ⟨_, mem_plain.mpr ⟨h1, rfl⟩, e.symm⟩
    · exact .inr ⟨_, mem_plain.mpr ⟨h1, rfl⟩, e.symm⟩
/-- the sign's own code is best -/
def GoodNow (z o : Str) (hm : V) (c : Nat) (r : T3) (b : Int) : Prop := 0 ≤ cod z o c b ∧ (0 ≤ cod z o c (1 - b) → (pOf z o hm c r b).length ≤ (pOf z o hm c r (1 - b)).length + 1)
theorem Tells.first {z o : Str} {hm : V} {c : Nat} {r t : T3} {b : Int} (hb : Is01 b) (h0 : IsFirst (plainL z o hm c r 0 ++ shiftL z o hm c r) t.t0) (h1 : IsFirst (plainL z o hm c r 1 ++ shiftL z o hm c r) t.t1) :
    IsFirst (plainL z o hm c r b ++ shiftL z o hm c r) (t.at b) := by
  rcases hb with e | e <;> subst e
  · exact h0
  · exact h1
theorem first_good {z o : Str} {hm : V} (g : Good z o hm) {c : Nat} {r : T3} {b : Int} {u : List Int} (hb : Is01 b) (h : IsFirst (plainL z o hm c r b ++ shiftL z o hm c r) u) (q : GoodNow z o hm c r b) : u = pOf z o hm c r b := by
  refine h.eq ⟨List.mem_append_left _ (mem_plain.mpr ⟨q.1, rfl⟩), fun v hv => ?_⟩
  rcases List.mem_append.mp hv with k | k
  · rw [(mem_plain.mp k).2]; exact ltK_irrefl _
  · obtain ⟨e, he, k1, k2⟩ := mem_shift.mp k
    rw [k2]
    by_cases eb : e = b
    · subst eb
      exact ltK_ge (by simp)
    · obtain rfl : e = 1 - b := by rcases hb with y | y <;> rcases he with y' | y' <;> omega
      have l := q.2 k1
      by_cases l2 : (pOf z o hm c r b).length = (pOf z o hm c r (1 - b)).length + 1
      · have lt := (cod_lt g c b).1
        unfold pOf at l2 ⊢
        refine ltK_hd (by simpa using l2.symm) ?_
        rcases he with y | y <;> omega
      · exact ltK_ge (by simp only [List.length_cons] at *; omega)
theorem first_else {z o : Str} {hm : V} (g : Good z o hm) {c : Nat} {r : T3} {b : Int} {u : List Int} (hs : InSet z o c) (hb : Is01 b) (h : IsFirst (plainL z o hm c r b ++ shiftL z o hm c r) u) (q : ¬ GoodNow z o hm c r b) :
    0 ≤ cod z o c (1 - b) ∧ GoodNow z o hm c r (1 - b) ∧ (0 ≤ cod z o c b → (pOf z o hm c r (1 - b)).length + 1 < (pOf z o hm c r b).length) ∧ u = ((z.cps.size : Int) + (1 - b)) :: pOf z o hm c r (1 - b) := by
  have hb' : Is01 (1 - b) := by rcases hb with y | y <;> subst y; exact .inr rfl; exact .inl rfl
  have e2 : 1 - (1 - b) = b := by omega
  have other : 0 ≤ cod z o c (1 - b) := by
    rcases cod_some hs b hb with k | k
    · by_cases k2 : 0 ≤ cod z o c (1 - b)
      · exact k2
      · exact absurd ⟨k, fun k3 => absurd k3 k2⟩ q
    · exact k
  have far : 0 ≤ cod z o c b → (pOf z o hm c r (1 - b)).length + 1 < (pOf z o hm c r b).length := fun k => by
    by_cases l : (pOf z o hm c r b).length ≤ (pOf z o hm c r (1 - b)).length + 1
    · exact absurd ⟨k, fun _ => l⟩ q
    · omega
  refine ⟨other, ⟨other, fun k => ?_⟩, far, ?_⟩
  · rw [e2] at k ⊢
    have := far k
    omega
  refine h.eq ⟨List.mem_append_right _ (mem_shift.mpr ⟨1 - b, hb', other, rfl⟩), fun v hv => ?_⟩
  rcases List.mem_append.mp hv with k | k
  · obtain ⟨k1, k2⟩ := mem_plain.mp k
    rw [k2]
    exact ltK_ge (by have := far k1; simpa using this)
  · obtain ⟨e, he, k1, k2⟩ := mem_shift.mp k
    rw [k2]
    by_cases eb : e = b
    · subst eb
      exact ltK_ge (by have := far k1; simp only [List.length_cons]; omega)
    · obtain rfl : e = 1 - b := by rcases hb with y | y <;> rcases he with y' | y' <;> omega
      exact ltK_irrefl _
/-- all that is told is short, and of codes -/
theorem Tells.short {z o : Str} {hm : V} (g : Good z o hm) : ∀ {cs : List Nat} {t : T3}, Tells z o hm cs t → ∀ b, (t.at b).length ≤ 2 * cs.length ∧ Codes z.cps.size (t.at b) := by
  intro cs t h
  induction h with
  | nil =>
    intro b
    unfold T3.at
    split
    · exact ⟨Nat.zero_le _, fun c hc => by cases hc⟩
    · split <;> exact ⟨Nat.zero_le _, fun c hc => by cases hc⟩
  | @cons c cs r t h h0 h1 h2 ih =>
    have plain : ∀ b u, u ∈ plainL z o hm c r b → u.length ≤ 2 * cs.length + 1 ∧ Codes z.cps.size u := fun b u hu => by
      obtain ⟨k1, k2⟩ := mem_plain.mp hu
      have i := ih (bhd hm (cod z o c b) b)
      have lt := (cod_lt g c b).1
      rw [k2]
      unfold pOf
      refine ⟨by simp only [List.length_cons]; omega, fun d hd => ?_⟩
      rcases List.mem_cons.mp hd with y | y
      · rw [y]; omega
      · exact i.2 d y
    have all : ∀ b u, u ∈ plainL z o hm c r b ++ shiftL z o hm c r → u.length ≤ 2 * (c :: cs).length ∧ Codes z.cps.size u := fun b u hu => by
      rcases List.mem_append.mp hu with k | k
      · have := plain b u k
        exact ⟨by simp only [List.length_cons]; omega, this.2⟩
      · obtain ⟨e, he, k1, k2⟩ := mem_shift.mp k
        have i := plain e _ (mem_plain.mpr ⟨k1, rfl⟩)
        rw [k2]
        refine ⟨by simp only [List.length_cons]; omega, fun d hd => ?_⟩
        rcases List.mem_cons.mp hd with y | y
        · rw [y]; rcases he with y' | y' <;> omega
        · exact i.2 d y
    intro b
    unfold T3.at
    split
    · exact all 0 _ h0.1
    · split
      · exact all 1 _ h1.1
      · exact all 2 _ h2.1
end Kt
namespace Kt
open PySem PySem.Spec PyProof.Rows L2
theorem is01_bhd {hm : V} {k b : Int} (hb : Is01 b) : Is01 (bhd hm k b) := by
  unfold bhd; split
  · exact .inl rfl
  · exact hb
theorem is01_other {b : Int} (hb : Is01 b) : Is01 (1 - b) := by rcases hb with y | y <;> subst y; exact .inr rfl; exact .inl rfl
/-- s and the signs cs behind -/
def catS (s : Str) (cs : List Nat) : Str := cs.foldl (fun s c => s ++ sg c) s
theorem catS_list : ∀ (cs : List Nat) (s : Str), (catS s cs).cps.toList = s.cps.toList ++ cs
  | [], s => by simp [catS]
  | c :: cs, s => by
    have ih := catS_list cs (s ++ sg c)
    have e : (s ++ sg c).cps.toList = s.cps.toList ++ [c] := by
      rw [Str.cps_append]; simp [sg]
    show (catS (s ++ sg c) cs).cps.toList = _
    rw [ih, e]; simp
theorem catS_all (x : Str) : catS (Str.ofString "") x.cps.toList = x := by
  have h := catS_list x.cps.toList (Str.ofString "")
  have e : (Str.ofString "").cps.toList = [] := by decide +kernel
  rw [e, List.nil_append] at h
  obtain ⟨a⟩ := x
  generalize catS (Str.ofString "") a.toList = y at h
  obtain ⟨b⟩ := y
  have h2 : b.toList = a.toList := h
  rw [Array.toList_inj.mp h2]
theorem rdStep_own {z o : Str} {hm : V} (g : Good z o hm) {c : Nat} {b : Int} (s : Str) (hb : Is01 b) (h : 0 ≤ cod z o c b) : rdStep z o hm (s, b) (cod z o c b) = (s ++ sg c, bhd hm (cod z o c b) b) := by
  have lt := (cod_lt g c b).1
  unfold rdStep bhd
  rw [if_neg (by omega)]
  have e := cod_sign hb h
  unfold at01 at e
  show (s ++ sg ((if b = 0 then z else o).cps.toList.getD (cod z o c b).toNat 0), _) = _
  rw [e]
theorem rdStep_shift {z o : Str} {hm : V} {b e : Int} (s : Str) (he : Is01 e) : rdStep z o hm (s, b) ((z.cps.size : Int) + e) = (s, e) := by
  unfold rdStep
  rw [if_pos (by rcases he with y | y <;> omega)]
  show (s, (z.cps.size : Int) + e - z.cps.size) = (s, e)
  congr 1; omega
theorem Tells.read {z o : Str} {hm : V} (g : Good z o hm) : ∀ {cs : List Nat} {t : T3}, Tells z o hm cs t → (∀ c ∈ cs, InSet z o c) → ∀ b s, Is01 b → ((t.at b).foldl (rdStep z o hm) (s, b)).1 = catS s cs := by
  intro cs t h
  induction h with
  | nil =>
    intro _ b s hb
    rcases hb with e | e <;> subst e <;> rfl
  | @cons c cs r t h h0 h1 h2 ih =>
    intro hs b s hb
    have ins := hs c List.mem_cons_self
    have ih' := ih fun d hd => hs d (List.mem_cons_of_mem _ hd)
    have own : ∀ e, Is01 e → 0 ≤ cod z o c e → ((pOf z o hm c r e).foldl (rdStep z o hm) (s, e)).1 = catS s (c :: cs) := fun e he k => by
      unfold pOf
      rw [List.foldl_cons, rdStep_own g s he k, ih' _ _ (is01_bhd he)]
      rfl
    have f := Tells.first hb h0 h1
    by_cases q : GoodNow z o hm c r b
    · rw [first_good g hb f q]; exact own b hb q.1
    · obtain ⟨k, _, _, e⟩ := first_else g ins hb f q
      rw [e, List.foldl_cons, rdStep_shift s (is01_other hb)]
      exact own _ (is01_other hb) k
/-- what the law reckons: the least length by the sign's own code -/
def rowC (z o : Str) (hm : V) (c : Nat) (r : T3) (b : Int) : Int := if 0 ≤ cod z o c b then min 1000 (1 + ((r.at (bhd hm (cod z o c b) b)).length : Int)) else 1000
theorem pOf_len (z o : Str) (hm : V) (c : Nat) (r : T3) (b : Int) : ((pOf z o hm c r b).length : Int) = 1 + ((r.at (bhd hm (cod z o c b) b)).length : Int) := by
  unfold pOf; rw [List.length_cons]; omega
theorem cost_of {z o : Str} {hm : V} (g : Good z o hm) {c : Nat} {cs : List Nat} {r t : T3} {b : Int} (hr : Tells z o hm cs r) (hl : cs.length ≤ 400) (ins : InSet z o c) (hb : Is01 b) (f : IsFirst (plainL z o hm c r b ++ shiftL z o hm c r) (t.at b)) :
    ((t.at b).length : Int) = min (rowC z o hm c r b) (rowC z o hm c r (1 - b) + 1) := by
  have s1 := (Tells.short g hr (bhd hm (cod z o c b) b)).1
  have s2 := (Tells.short g hr (bhd hm (cod z o c (1 - b)) (1 - b))).1
  have l1 := pOf_len z o hm c r b
  have l2 := pOf_len z o hm c r (1 - b)
  unfold rowC
  by_cases q : GoodNow z o hm c r b
  · rw [first_good g hb f q, if_pos q.1]
    by_cases k : 0 ≤ cod z o c (1 - b)
    · have := q.2 k
      rw [if_pos k]; omega
    · rw [if_neg k]; omega
  · obtain ⟨k, _, far, e⟩ := first_else g ins hb f q
    rw [e, if_pos k, List.length_cons]
    by_cases k2 : 0 ≤ cod z o c b
    · have := far k2
      rw [if_pos k2]; omega
    · rw [if_neg k2]; omega
/-- the law's own look: the code is good where it leads to as few -/
theorem good_iff {z o : Str} {hm : V} (g : Good z o hm) {c : Nat} {cs : List Nat} {r t : T3} {b : Int} (ins : InSet z o c) (hb : Is01 b) (f : IsFirst (plainL z o hm c r b ++ shiftL z o hm c r) (t.at b)) (h : 0 ≤ cod z o c b) :
    (1 + ((r.at (bhd hm (cod z o c b) b)).length : Int) = ((t.at b).length : Int)) ↔ GoodNow z o hm c r b := by
  have l1 := pOf_len z o hm c r b
  constructor
  · intro e
    by_cases q : GoodNow z o hm c r b
    · exact q
    · obtain ⟨k, _, far, e2⟩ := first_else g ins hb f q
      have := far h
      rw [e2, List.length_cons] at e
      omega
  · intro q
    rw [first_good g hb f q]; omega
/-- the codes of a sign in a set, as the law finds them -/
def codesL (s : Str) (c : Nat) : List Int := ((List.range s.cps.size).filter fun k => decide (s.cps.toList[k]? = some c)).map fun k => ((k : Nat) : Int)
theorem filter_one {p : Nat → Bool} {k : Nat} : ∀ n, k < n → p k = true → (∀ j, j < n → p j = true → j = k) → (List.range n).filter p = [k]
  | 0, h, _, _ => absurd h (Nat.not_lt_zero _)
  | n + 1, h, hk, hu => by
    rw [List.range_succ, List.filter_append]
    by_cases e : k = n
    · subst e
      have : (List.range k).filter p = [] := List.filter_eq_nil_iff.mpr fun j hj q => by
        have hj := List.mem_range.mp hj
        have := hu j (by omega) q
        omega
      rw [this]; simp [hk]
    · rw [filter_one n (by omega) hk fun j hj q => hu j (by omega) q]
      have : p n = false := by
        cases q : p n with
        | false => rfl
        | true => exact absurd (hu n (Nat.lt_succ_self _) q) (Ne.symm e)
      simp [this]
theorem codesL_eq {s : Str} (hn : s.cps.toList.Nodup) (c : Nat) : codesL s c = if 0 ≤ fi s c then [fi s c] else [] := by
  unfold codesL
  rcases fi_spec s c with ⟨e, h⟩ | ⟨k, e, h⟩
  · rw [e, if_neg (by decide), List.filter_eq_nil_iff.mpr fun j _ q => h (List.mem_of_getElem? (of_decide_eq_true q))]; rfl
  · rw [e, if_pos (by omega)]
    have hk := (List.getElem?_eq_some_iff.mp h).1
    rw [Array.length_toList] at hk
    rw [filter_one s.cps.size hk (decide_eq_true h) fun j hj q => nd_ix hn (of_decide_eq_true q) h]; rfl
end Kt
namespace Kt
open PySem PySem.Spec PyProof.Rows L2
/-! ### enumerate(s), s a text -/
def ItEs (x : Str) : It :=
  ⟨fun i _ => i < x.cps.size, fun i H v H' => ∃ T c, v = .ref T ∧ H T = none ∧ H' = upd H T (.tup [.int (i : Nat), .str (sg c)]) ∧ x.cps[i]? = some c, fun i _ => x.cps.size ≤ i⟩
theorem turn_enumS {P : Program} {w : World} {K : PySem.W.Frag} {elts : List Expr} {kk : Nat} {tpos : Pos} (x : Str) (t : Tok) (e it : Addr) (ty : String) (hty : ty = "str_ascii_iterator" ∨ ty = "str_iterator") :
    Turn P w K (.Tuple elts kk tpos) (ItEs x) [e, it] e (fun i h => (∃ old, IsEnum h e it ((i : Nat) : Int) old) ∧ i ≤ x.cps.size ∧ h.IsStrIter it ty x t i ∧ e ≠ it) where
  mem := by simp
  obj := fun i h st b hb => by
    obtain ⟨⟨old, he⟩, _, ⟨o, ho, hc, hd⟩, _⟩ := st
    have e' : b = e ∨ b = it := by simpa using hb
    rcases e' with z | z
    · rw [z]; exact ⟨_, he, fun v q => nomatch q⟩
    · rw [z]; exact ⟨o, ho, fun v q => by rw [hd] at q; cases q⟩
  keep := fun i h h' st k => let ⟨⟨old, he⟩, hle, ⟨o, ho, r⟩, hne⟩ := st; ⟨⟨old, k e (by simp) _ he⟩, hle, ⟨o, k it (by simp) o ho, r⟩, hne⟩
  item := by
    intro X hP hw hK hc i pins s σ H E I hf st hg
    subst hP hw hK
    obtain ⟨⟨old, he⟩, _, hit, hne⟩ := st
    have hin : i < x.cps.size := hg
    have hel : e < s.heap.objs.size := Heap.lt_size he
    have hil : it < s.heap.objs.size := by obtain ⟨_, q, _⟩ := hit; exact Heap.lt_size q
    have D : Draws X.prog X.w X.A.in1 it [it] x.cps.size (fun i v => ∃ c u, x.cps[i]? = some c ∧ v = .str ⟨#[c]⟩ u) (fun i h => h.IsStrIter it ty x t i) := by
      rcases hty with z | z
      · rw [z]; exact Draws.strAscii (A := X.A.in1) (I.ok.hd hc) it x t
      · rw [z]; exact Draws.strWide (A := X.A.in1) (I.ok.hd hc) it x t
    refine wpAny_pyNext_enum_itemD D he hit hin hne (by simpa using hne) fun v h' tk hv ho hit' hT hsz hk => ?_
    obtain ⟨c, u, hcx, rfl⟩ := hv
    refine ⟨_, rfl, wpAny_letOwnedTupleGo_enum (s := { s with heap := h', toks := tk + 1 }) ho fun h'' he' sb => ?_⟩
    have hT2 : h''.get? s.heap.objs.size = some { cls := .type "tuple", data := .seq #[.int i tk, .str ⟨#[c]⟩ u] } := (sb.2 _ (Nat.ne_of_gt hel)).trans hT
    have new : ObjOk X.prog X.w (upd H s.heap.objs.size (.tup [.int (i : Nat), .str (sg c)])) h'' s.heap.objs.size (.tup [.int (i : Nat), .str (sg c)]) :=
      ⟨by show 2 ≤ sizeLine; decide, [.int i tk, .str ⟨#[c]⟩ u], .cons ⟨_, rfl⟩ (.cons ⟨_, rfl⟩ .nil), ⟨_, hT2, rfl, _, rfl⟩⟩
    have I1 : Inv X pins σ (upd H s.heap.objs.size (.tup [.int (i : Nat), .str (sg c)])) { s with heap := h'', toks := tk + 1 } :=
      I.turnedNew (ch := [e, it]) (fun b ob hb q => (sb.2 b (fun z => hb (by simp [z]))).trans (hk b ob (fun z => hb (by simp [z])) (fun z => hb (by simp [z])) q)) hf (Nat.le_refl _) new
    refine ⟨.ref s.heap.objs.size, _, I1, rfl, ⟨_, c, rfl, I.hok.fresh (Nat.le_refl _), rfl, hcx⟩, ⟨⟨.str ⟨#[c]⟩ u, ?_⟩, hin, ?_, hne⟩, fun b hb => ?_⟩
    · have e1 : ((i + 1 : Nat) : Int) = (i : Int) + 1 := by omega
      rw [e1]; exact he'
    · obtain ⟨o, q, r⟩ := hit'
      exact ⟨o, (sb.2 it (Ne.symm hne)).trans q, r⟩
    · have hb' : b < s.heap.objs.size := by
        have e' : b = e ∨ b = it := by simpa using hb
        rcases e' with z | z
        · rw [z]; exact hel
        · rw [z]; exact hil
      rw [upd_ne (Nat.ne_of_lt hb')]
      exact (hf b hb).1
  done := by
    intro X hP hw hK hc i pins s σ H E I hf st hg
    subst hP hw hK
    obtain ⟨⟨old, he⟩, hle, hit, hne⟩ := st
    have hge : x.cps.size ≤ i := hg
    obtain rfl : i = x.cps.size := Nat.le_antisymm hle hge
    obtain ⟨f0, f1, f2, f3, f4, f5⟩ := hf it (by simp)
    have D : Draws X.prog X.w X.A.in1 it [it] x.cps.size (fun i v => ∃ c u, x.cps[i]? = some c ∧ v = .str ⟨#[c]⟩ u) (fun i h => h.IsStrIter it ty x t i) := by
      rcases hty with z | z
      · rw [z]; exact Draws.strAscii (A := X.A.in1) (I.ok.hd hc) it x t
      · rw [z]; exact Draws.strWide (A := X.A.in1) (I.ok.hd hc) it x t
    exact wpAny_pyNext_enum_endD D he hit fun h' eb => ⟨rfl, I.turned (t' := s.toks) (fun b o hb q => eb b o hb q) f0 f1 f3 f4 f5⟩
  self := fun A i s Q E st h => let ⟨⟨_, he⟩, _⟩ := st; wpAny_pyIter_enum he h
def iEnumS (ta : TA) : TI := fun σ H R => ta σ H fun vs H1 => ∃ x : Str, vs = [.str x] ∧ R (ItEs x) H1
theorem pi_enumS {X : Cx} {e : Expr} {ta : TA} {p pos tpos : Pos} {elts : List Expr} {kk : Nat} (hg : Gl X "enumerate") (hm : X.mg "enumerate" = none) (ha : PA X [e] ta) (hs : starEach [e] X.env = [(false, eval e X.env)] := by rfl) :
    PI X (.Tuple elts kk tpos) (.Call (.Name "enumerate" p) [e] [] pos) (iEnumS ta) := by
  refine ⟨fun pins s σ H R I h => ?_⟩
  refine Call_ (ld_blt I hg hm boot_enumerate (PyProof.Rows.callWith_type1 (thn (ha.run pos pins s σ H _ I h) fun us s1 ⟨vs, H1, I1, r1, q1⟩ => ?_) hs rfl))
  obtain ⟨x, ex, q⟩ := q1
  subst ex
  cases r1 with
  | cons r rr =>
    cases rr
    obtain ⟨t, rfl⟩ := r
    refine call_enumerate_str fun h' he hit hsz hk => wpAny_pyIter_enum he ?_
    have I2 : Inv X pins σ H1 { s1 with heap := h' } := I1.kept (t' := s1.toks) hk
    have hty : strIterType x = "str_ascii_iterator" ∨ strIterType x = "str_iterator" := by
      unfold strIterType
      split
      · first | exact .inl rfl | exact .inr rfl
      · first | exact .inr rfl | exact .inl rfl
    refine ⟨s1.heap.objs.size + 1, [s1.heap.objs.size + 1, s1.heap.objs.size], _, _, H1, rfl, I2, turn_enumS x t (s1.heap.objs.size + 1) s1.heap.objs.size _ hty, ⟨⟨.none, he⟩, Nat.zero_le _, hit, Nat.succ_ne_self _⟩, fun b hb => ?_, q⟩
    have e' : b = s1.heap.objs.size + 1 ∨ b = s1.heap.objs.size := by simpa using hb
    have hle : s1.heap.objs.size ≤ b := by
      rcases e' with z | z
      · rw [z]; exact Nat.le_add_right _ _
      · rw [z]; exact Nat.le_refl _
    exact I1.fpOk hle (I1.hok.fresh hle)
end Kt
namespace Kt
open PySem PySem.Spec PyProof.Rows L2
/-! ### two tables -/
structure Tw (P1 P2 : Addr) (q : Str) (H : Hp) : Prop where
  t1 : GxR.TabG H P1
  t2 : LamX.TabS H P2 q
structure Kq (P1 P2 : Addr) (q : Str) (H H' : Hp) : Prop where
  tw : Tw P1 P2 q H'
  at' : ∀ b o, b ≠ P1 → b ≠ P2 → H b = some o → H' b = some o
section
variable {P1 P2 : Addr} {q : Str} {H H1 H' : Hp}
theorem tabS_ne {b : Addr} {o : HO} (t : LamX.TabS H P2 q) (h : H b = some o) (n : ∀ ps, o ≠ .tbl ps) : b ≠ P2 := fun e => by
  obtain ⟨ps, h1, _⟩ := t
  rw [e, h1] at h
  exact n ps (Option.some.inj h).symm
theorem tabS_new {b : Addr} (t : LamX.TabS H P2 q) (h : H b = none) : b ≠ P2 := fun e => by
  obtain ⟨ps, h1, _⟩ := t
  rw [e, h1] at h
  cases h
theorem Kq.refl (t : Tw P1 P2 q H) : Kq P1 P2 q H H := ⟨t, fun _ _ _ _ h => h⟩
theorem Kq.trans (a : Kq P1 P2 q H H1) (b : Kq P1 P2 q H1 H') : Kq P1 P2 q H H' := ⟨b.tw, fun c o n1 n2 h => b.at' c o n1 n2 (a.at' c o n1 n2 h)⟩
theorem Tw.same (t : Tw P1 P2 q H) (s : Same H H') : Tw P1 P2 q H' := ⟨tab_same t.t1 fun o e => s _ o e, t.t2.ext s⟩
theorem Kq.same (t : Tw P1 P2 q H) (s : Same H H') : Kq P1 P2 q H H' := ⟨t.same s, fun b o _ _ h => s b o h⟩
theorem Kq.get {b : Addr} {o : HO} (k : Kq P1 P2 q H H') (t : Tw P1 P2 q H) (h : H b = some o) (n : ∀ ps, o ≠ .tbl ps) : H' b = some o := k.at' b o (tab_ne t.t1 h n) (tabS_ne t.t2 h n) h
theorem Kq.new {b : Addr} (k : Kq P1 P2 q H H') (h : H' b = none) : H b = none := by
  cases z : H b with
  | none => rfl
  | some o =>
    rw [k.at' b o (tab_new k.tw.t1 h) (tabS_new k.tw.t2 h) z] at h
    cases h
theorem Kq.kp (ne : P1 ≠ P2) (t : Tw P1 P2 q H) (k : Kp P1 H H') : Kq P1 P2 q H H' := by
  refine ⟨⟨k.tab, ?_⟩, fun b o n1 _ h => k.at' b o n1 h⟩
  obtain ⟨ps, h1, h2, h3⟩ := t.t2
  refine ⟨ps, k.at' _ _ ne.symm h1, h2, fun pos cv hc => ?_⟩
  obtain ⟨c, e1, e2⟩ := h3 pos cv hc
  exact ⟨c, e1, k.get t.t1 e2 fun ps => LamX.codeO_ne ps⟩
theorem Kq.but (ne : P1 ≠ P2) (t : Tw P1 P2 q H) (b : But P2 H H') (t2 : LamX.TabS H' P2 q) : Kq P1 P2 q H H' :=
  ⟨⟨tab_same t.t1 fun o e => b _ o ne e, t2⟩, fun c o _ n h => b c o n h⟩
theorem Kq.sh {t : Addr} {z o : Str} {hm : V} (k : Kq P1 P2 q H H') (tw : Tw P1 P2 q H) (h : Sh H t z o hm) : Sh H' t z o hm := k.get tw h fun _ e => (nomatch e)
theorem Kq.lst {a : Addr} {xs : List V} (k : Kq P1 P2 q H H') (tw : Tw P1 P2 q H) (h : H a = some (.lst xs)) : H' a = some (.lst xs) := k.get tw h fun _ e => (nomatch e)
theorem BoxAt.kq {b l : Addr} (x : BoxAt H b l) (tw : Tw P1 P2 q H) (k : Kq P1 P2 q H H') : BoxAt H' b l := by
  obtain ⟨ns, st, h1, h2⟩ := x
  exact ⟨ns, st, k.lst tw h1, k.lst tw h2⟩
theorem Bxd.tw {b l : Addr} (x : Bxd b l H H') (bx : BoxAt H b l) (t : Tw P1 P2 q H) : Tw P1 P2 q H' := by
  refine ⟨x.tab bx t.t1, ?_⟩
  obtain ⟨ps, h1, h2, h3⟩ := t.t2
  obtain ⟨ns, st, q1, q2⟩ := bx
  have st : ∀ c (o : HO), (∀ us, o ≠ .lst us) → H c = some o → H' c = some o := fun c o n e => x.at' c o (ne_of e q1 (n _)) (ne_of e q2 (n _)) e
  refine ⟨ps, st _ _ (fun _ e => nomatch e) h1, h2, fun pos cv hc => ?_⟩
  obtain ⟨c, e1, e2⟩ := h3 pos cv hc
  exact ⟨c, e1, st _ _ (fun us e => by unfold LamX.CodeO at e; cases e) e2⟩
end
/-! ### lists of tapes -/
def Rows (H : Hp) : List Addr → List (List Int) → Prop
  | [], [] => True
  | a :: as, u :: L => H a = some (.lst (u.map V.int)) ∧ Rows H as L
  | _, _ => False
theorem Rows.mono {H H' : Hp} (k : ∀ a (u : List Int), H a = some (.lst (u.map V.int)) → H' a = some (.lst (u.map V.int))) : ∀ {as : List Addr} {L : List (List Int)}, Rows H as L → Rows H' as L
  | [], [], _ => trivial
  | a :: as, u :: L, h => ⟨k _ _ h.1, Rows.mono k h.2⟩
  | [], _ :: _, h => h.elim
  | _ :: _, [], h => h.elim
theorem Rows.same {H H' : Hp} (s : Same H H') {as : List Addr} {L : List (List Int)} (h : Rows H as L) : Rows H' as L := h.mono fun a u e => s _ _ e
theorem Rows.len {H : Hp} : ∀ {as : List Addr} {L : List (List Int)}, Rows H as L → as.length = L.length
  | [], [], _ => rfl
  | a :: as, u :: L, h => congrArg (· + 1) (Rows.len h.2)
  | [], _ :: _, h => h.elim
  | _ :: _, [], h => h.elim
theorem Rows.app {H : Hp} : ∀ {as bs : List Addr} {L M : List (List Int)}, Rows H as L → Rows H bs M → Rows H (as ++ bs) (L ++ M)
  | [], _, [], _, _, g => g
  | a :: as, _, u :: L, _, h, g => ⟨h.1, Rows.app h.2 g⟩
  | [], _, _ :: _, _, h, _ => h.elim
  | _ :: _, _, [], _, h, _ => h.elim
theorem Rows.get {H : Hp} : ∀ {as : List Addr} {L : List (List Int)}, Rows H as L → ∀ {i : Nat} {a : Addr}, as[i]? = some a → ∃ u, L[i]? = some u ∧ H a = some (.lst (u.map V.int))
  | [], [], _, i, a, e => by simp at e
  | b :: as, u :: L, h, 0, a, e => by
    simp at e; subst e
    exact ⟨u, rfl, h.1⟩
  | b :: as, u :: L, h, i + 1, a, e => by
    obtain ⟨v, e1, e2⟩ := Rows.get h.2 (i := i) (a := a) (by simpa using e)
    exact ⟨v, by simpa using e1, e2⟩
  | [], _ :: _, h, _, _, _ => h.elim
  | _ :: _, [], h, _, _, _ => h.elim
def Three (H : Hp) (rs a0 a1 a2 : Addr) (r : T3) : Prop := H rs = some (.lst [.ref a0, .ref a1, .ref a2]) ∧ H a0 = some (.lst (r.t0.map V.int)) ∧ H a1 = some (.lst (r.t1.map V.int)) ∧ H a2 = some (.lst (r.t2.map V.int))
theorem Three.mono {H H' : Hp} {rs a0 a1 a2 : Addr} {r : T3} (k : ∀ a (us : List V), H a = some (.lst us) → H' a = some (.lst us)) (h : Three H rs a0 a1 a2 r) : Three H' rs a0 a1 a2 r := ⟨k _ _ h.1, k _ _ h.2.1, k _ _ h.2.2.1, k _ _ h.2.2.2⟩
def Is012 (b : Int) : Prop := b = 0 ∨ b = 1 ∨ b = 2
theorem Three.at {H : Hp} {rs a0 a1 a2 : Addr} {r : T3} (h : Three H rs a0 a1 a2 r) {b : Int} (hb : Is012 b) : ∃ a, atI [V.ref a0, V.ref a1, V.ref a2] b = some (.ref a) ∧ H a = some (.lst ((r.at b).map V.int)) ∧ (a = a0 ∨ a = a1 ∨ a = a2) := by
  rcases hb with e | e | e <;> subst e
  · exact ⟨a0, atI_nat (j := 0) rfl, h.2.1, .inl rfl⟩
  · exact ⟨a1, atI_nat (j := 1) rfl, h.2.2.1, .inr (.inl rfl)⟩
  · exact ⟨a2, atI_nat (j := 2) rfl, h.2.2.2, .inr (.inr rfl)⟩
def Short3 (r : T3) : Prop := ∀ b, (r.at b).length ≤ 500
theorem is012_bhd {hm : V} {k b : Int} (hb : Is012 b) : Is012 (bhd hm k b) := by
  unfold bhd; split
  · exact .inl rfl
  · exact hb
theorem behind_own {z o : Str} {hm : V} (g : Good z o hm) (c : Nat) (b : Int) : behind z hm (cod z o c b) b = bhd hm (cod z o c b) b := by
  have := (cod_lt g c b).1
  unfold behind bhd
  rw [if_neg (by omega)]
theorem best_first {L : List (List Int)} {i : Nat} (h : L ≠ []) (hi : i < L.length) (b : Best (fun j => L.getD j []) i (L.length - 1)) : IsFirst L (L.getD i []) := by
  have gd : ∀ j, j < L.length → L.getD j [] = L[j]! := fun j hj => by simp [List.getD_eq_getElem?_getD, hj]
  refine ⟨?_, fun u hu => ?_⟩
  · rw [List.getD_eq_getElem?_getD, List.getElem?_eq_getElem hi]
    exact List.getElem_mem hi
  · obtain ⟨k, hk, e⟩ := List.mem_iff_getElem.mp hu
    have := (b.2 k (by omega)).1
    have e2 : L.getD k [] = u := by rw [List.getD_eq_getElem?_getD, List.getElem?_eq_getElem hk, e]; rfl
    rw [← e2]; exact this
/-! ### the promises of the program -/
def spCheckText : Sp := fun vs H Q _ => ∃ (t : Addr) (z o : Str) (hm : V) (x : Str), vs = [.ref t, .str x] ∧ Good z o hm ∧ Sh H t z o hm ∧ x.cps.size ≤ 32 ∧ (∀ c ∈ x.cps.toList, InSet z o c) ∧ ∀ H', Same H H' → Q .non H'
def spCodeOf : Sp := fun vs H Q _ => ∃ (t : Addr) (z o : Str) (hm : V) (c : Nat) (now : Int), vs = [.ref t, .str (sg c), .int now] ∧ Good z o hm ∧ Sh H t z o hm ∧ Is012 now ∧ Q (.int (cod z o c now)) H
def spWithout : Sp := fun vs H Q _ => ∃ (t : Addr) (z o : Str) (hm : V) (c : Nat) (now : Int) (rs a0 a1 a2 : Addr) (r : T3), vs = [.ref t, .str (sg c), .int now, .ref rs] ∧ Good z o hm ∧ Sh H t z o hm ∧ Is012 now ∧ Three H rs a0 a1 a2 r ∧ Short3 r ∧
  ∀ p as H', Same H H' → H p = none → H' p = some (.lst (as.map V.ref)) → Rows H' as (plainL z o hm c r now) → (∀ a ∈ as, H a = none) → Q (.ref p) H'
def spFirst (P2 : Addr) (q : Str) : Sp := fun vs H Q _ => ∃ (l : Addr) (as : List Addr) (L : List (List Int)), vs = [.ref l] ∧ H l = some (.lst (as.map V.ref)) ∧ Rows H as L ∧ L ≠ [] ∧ (∀ u ∈ L, u.length ≤ 1000000) ∧ LamX.TabS H P2 q ∧
  ∀ a u H', But P2 H H' → LamX.TabS H' P2 q → a ∈ as → H a = some (.lst (u.map V.int)) → IsFirst L u → Q (.ref a) H'
def spWith (P1 P2 : Addr) (q : Str) : Sp := fun vs H Q _ => ∃ (t : Addr) (z o : Str) (hm : V) (c : Nat) (rs a0 a1 a2 : Addr) (r : T3), vs = [.ref t, .str (sg c), .ref rs] ∧ Good z o hm ∧ Sh H t z o hm ∧ Three H rs a0 a1 a2 r ∧ Short3 r ∧ InSet z o c ∧ Tw P1 P2 q H ∧
  ∀ p b0 b1 b2 T H', Kq P1 P2 q H H' → H b0 = none → H b1 = none → H b2 = none → Three H' p b0 b1 b2 T → (∀ b, Is012 b → IsFirst (plainL z o hm c r b ++ shiftL z o hm c r) (T.at b)) → Q (.ref p) H'
def spBestTapes (P1 P2 : Addr) (q : Str) : Sp := fun vs H Q _ => ∃ (t : Addr) (z o : Str) (hm : V) (x : Str), vs = [.ref t, .str x] ∧ Good z o hm ∧ Sh H t z o hm ∧ x.cps.size ≤ 32 ∧ (∀ c ∈ x.cps.toList, InSet z o c) ∧ Tw P1 P2 q H ∧
  ∀ p b0 b1 b2 T H', Kq P1 P2 q H H' → H b0 = none → H b1 = none → H b2 = none → Three H' p b0 b1 b2 T → Tells z o hm x.cps.toList T → Q (.ref p) H'
def spShortest (P1 P2 : Addr) (q : Str) : Sp := fun vs H Q _ => ∃ (t : Addr) (z o : Str) (hm : V) (x : Str) (b : Int), vs = [.ref t, .str x, .int b] ∧ Good z o hm ∧ Sh H t z o hm ∧ x.cps.size ≤ 32 ∧ (∀ c ∈ x.cps.toList, InSet z o c) ∧ Is01 b ∧ Tw P1 P2 q H ∧
  ∀ a T H', Kq P1 P2 q H H' → H a = none → Tells z o hm x.cps.toList T → H' a = some (.lst ((T.at b).map V.int)) → Q (.ref a) H'
end Kt
namespace Kt
open PySem PySem.Spec PyProof.Rows L2
/-! ### walks in a comprehension of two fors -/
theorem walk_t {K : PySem.W.Frag} {a : Addr} {xs : List V} {H0 : Hp} {Nd : Hp → Prop} {Z : V → (Hp → Prop) → Hp → Prop} (Pv : Nat → Hp → Prop) (h0 : Pv 0 H0) (hl : ∀ i H, i ≤ xs.length → Pv i H → SqT K H a xs)
    (hs : ∀ i x H, xs[i]? = some x → Pv i H → Z x (Pv (i + 1)) H) (hd : ∀ H, Pv xs.length H → Nd H) :
    ∃ W : Nat → Nat → Hp → Prop, (∃ m, W 0 m H0) ∧ ∀ i m H, W i m H → ((Itt K a).stop i H ∧ Nd H) ∨ ((Itt K a).go i H ∧ ∃ Nx : Hp → Prop, (∀ H', Nx H' → ∃ m', m' < m ∧ W (i + 1) m' H') ∧ ∀ x H', (Itt K a).yld i H x H' → Z x Nx H') := by
  refine ⟨fun i m H => m + i = xs.length ∧ Pv i H, ⟨xs.length, rfl, h0⟩, fun i m H hW => ?_⟩
  obtain ⟨em, p⟩ := hW
  have hS := hl i H (by omega) p
  cases m with
  | zero =>
    obtain rfl : i = xs.length := by omega
    exact .inl ⟨⟨xs, hS, Nat.le_refl _⟩, hd H p⟩
  | succ m =>
    have hlt : i < xs.length := by omega
    refine .inr ⟨⟨xs, xs[i], hS, List.getElem?_eq_getElem hlt⟩, Pv (i + 1), fun H' p' => ⟨m, Nat.lt_succ_self _, by omega, p'⟩, fun x H' hy => ?_⟩
    obtain ⟨rfl, hy⟩ := hy
    exact hs i x _ (hy xs hS) p
theorem walk_l {K : PySem.W.Frag} {a : Addr} {xs : List V} {H0 : Hp} {Nd : Hp → Prop} {Z : V → (Hp → Prop) → Hp → Prop} (Pv : Nat → Hp → Prop) (h0 : Pv 0 H0) (hl : ∀ i H, i ≤ xs.length → Pv i H → SqL K H a xs)
    (hs : ∀ i x H, xs[i]? = some x → Pv i H → Z x (Pv (i + 1)) H) (hd : ∀ H, Pv xs.length H → Nd H) :
    ∃ W : Nat → Nat → Hp → Prop, (∃ m, W 0 m H0) ∧ ∀ i m H, W i m H → ((Itl K a).stop i H ∧ Nd H) ∨ ((Itl K a).go i H ∧ ∃ Nx : Hp → Prop, (∀ H', Nx H' → ∃ m', m' < m ∧ W (i + 1) m' H') ∧ ∀ x H', (Itl K a).yld i H x H' → Z x Nx H') := by
  refine ⟨fun i m H => m + i = xs.length ∧ Pv i H, ⟨xs.length, rfl, h0⟩, fun i m H hW => ?_⟩
  obtain ⟨em, p⟩ := hW
  have hS := hl i H (by omega) p
  cases m with
  | zero =>
    obtain rfl : i = xs.length := by omega
    exact .inl ⟨⟨xs, hS, Nat.le_refl _⟩, hd H p⟩
  | succ m =>
    have hlt : i < xs.length := by omega
    refine .inr ⟨⟨xs, xs[i], hS, List.getElem?_eq_getElem hlt⟩, Pv (i + 1), fun H' p' => ⟨m, Nat.lt_succ_self _, by omega, p'⟩, fun x H' hy => ?_⟩
    obtain ⟨rfl, hy⟩ := hy
    exact hs i x _ (hy xs hS) p
theorem Rows.upd {H : Hp} {D : Addr} {o : HO} {as : List Addr} {L : List (List Int)} (h : Rows H as L) (n : ∀ a ∈ as, a ≠ D) : Rows (upd H D o) as L := by
  induction as generalizing L with
  | nil => cases L with
    | nil => trivial
    | cons u L => exact h.elim
  | cons a as ih => cases L with
    | nil => exact h.elim
    | cons u L => exact ⟨by rw [upd_ne (n a List.mem_cons_self)]; exact h.1, ih h.2 fun b hb => n b (List.mem_cons_of_mem _ hb)⟩
theorem same_upd {H H' : Hp} {D : Addr} {o : HO} (s : Same H H') (n : H D = none) : Same H (upd H' D o) := fun b x e => by
  rw [upd_ne (ne_of_none e n)]; exact s b x e
/-- the tapes without a shift stand at p -/
def PlainAt (H0 : Hp) (D : Addr) (z o : Str) (hm : V) (c : Nat) (r : T3) (H : Hp) (p : Addr) (now : Int) : Prop :=
  p ≠ D ∧ ∃ as, H p = some (.lst (as.map V.ref)) ∧ Rows H as (plainL z o hm c r now) ∧ ∀ a ∈ as, H0 a = none ∧ a ≠ D
theorem PlainAt.upd {H0 : Hp} {D : Addr} {z o : Str} {hm : V} {c : Nat} {r : T3} {H H' : Hp} {p : Addr} {now : Int} {x : HO} (h : PlainAt H0 D z o hm c r H p now) (s : Same H H') : PlainAt H0 D z o hm c r (L2.upd H' D x) p now := by
  obtain ⟨n, as, e, rw', na⟩ := h
  exact ⟨n, as, by rw [upd_ne n]; exact s _ _ e, (rw'.same s).upd fun a ha => (na a ha).2, na⟩
theorem plain_len {z o : Str} {hm : V} {c : Nat} {r : T3} (sr : Short3 r) (b : Int) : (plainL z o hm c r b).length ≤ 1 ∧ ∀ u ∈ plainL z o hm c r b, u.length ≤ 501 := by
  unfold plainL
  split
  · exact ⟨Nat.zero_le _, fun u hu => nomatch hu⟩
  · refine ⟨Nat.le_refl _, fun u hu => ?_⟩
    rw [List.mem_singleton.mp hu, List.length_cons]
    have := sr (bhd hm (cod z o c b) b)
    omega
theorem shift_len {z o : Str} {hm : V} {c : Nat} {r : T3} (sr : Short3 r) : (shiftL z o hm c r).length ≤ 2 ∧ ∀ u ∈ shiftL z o hm c r, u.length ≤ 502 := by
  have a := plain_len (z := z) (o := o) (hm := hm) (c := c) sr 0
  have b := plain_len (z := z) (o := o) (hm := hm) (c := c) sr 1
  unfold shiftL
  refine ⟨by simp only [List.length_append, List.length_map]; omega, fun u hu => ?_⟩
  rcases List.mem_append.mp hu with k | k
  · obtain ⟨v, hv, rfl⟩ := List.mem_map.mp k
    have := a.2 v hv
    simp only [List.length_cons]; omega
  · obtain ⟨v, hv, rfl⟩ := List.mem_map.mp k
    have := b.2 v hv
    simp only [List.length_cons]; omega
theorem shift_ne {z o : Str} {hm : V} {c : Nat} {r : T3} (h : InSet z o c) : shiftL z o hm c r ≠ [] := by
  rcases cod_some h 0 (.inl rfl) with k | k
  · exact List.ne_nil_of_mem (mem_shift.mpr ⟨0, .inl rfl, k, rfl⟩)
  · exact List.ne_nil_of_mem (mem_shift.mpr ⟨1, .inr rfl, k, rfl⟩)
theorem Kq.upd {P1 P2 D : Addr} {q : Str} {H H' : Hp} {xs ys : List V} (k : Kq P1 P2 q H H') (n : H D = none) (e : H' D = some (.lst xs)) : Kq P1 P2 q H (L2.upd H' D (.lst ys)) := by
  have st : ∀ c (o : HO), (∀ us, o ≠ .lst us) → H' c = some o → L2.upd H' D (.lst ys) c = some o := fun c o m z => by
    rw [upd_ne (ne_of z e (m _))]; exact z
  refine ⟨⟨tab_same k.tw.t1 fun o z => ?_, ?_⟩, fun b o n1 n2 z => ?_⟩
  · obtain ⟨ps, h1, _⟩ := k.tw.t1
    rw [h1] at z
    have z := Option.some.inj z
    subst z
    exact st _ _ (fun _ e => nomatch e) h1
  · obtain ⟨ps, h1, h2, h3⟩ := k.tw.t2
    refine ⟨ps, st _ _ (fun _ e => nomatch e) h1, h2, fun pos cv hc => ?_⟩
    obtain ⟨c, e1, e2⟩ := h3 pos cv hc
    exact ⟨c, e1, st _ _ (fun us e => by unfold LamX.CodeO at e; cases e) e2⟩
  · rw [upd_ne (ne_of_none z n)]; exact k.at' b o n1 n2 z
end Kt
namespace Kt
open PySem PySem.Spec PyProof.Rows L2
/-! ### what the law reckons -/
def costRow (z o : Str) (hm : V) (c : Nat) (h : Int × Int) (b : Int) : Int := if 0 ≤ cod z o c b then min 1000 (1 + (if bhd hm (cod z o c b) b = 0 then h.1 else h.2)) else 1000
def costHd (z o : Str) (hm : V) (c : Nat) (h : Int × Int) : Int × Int := (min (costRow z o hm c h 0) (costRow z o hm c h 1 + 1), min (costRow z o hm c h 1) (costRow z o hm c h 0 + 1))
def costHead (z o : Str) (hm : V) : List Nat → Int × Int
  | [] => (0, 0)
  | c :: cs => costHd z o hm c (costHead z o hm cs)
def costs (z o : Str) (hm : V) : List Nat → List (List Int)
  | [] => [[0, 0]]
  | c :: cs => [(costHead z o hm (c :: cs)).1, (costHead z o hm (c :: cs)).2] :: costs z o hm cs
theorem costs_at (z o : Str) (hm : V) : ∀ (cs : List Nat) (j : Nat), j ≤ cs.length → (costs z o hm cs)[j]? = some [(costHead z o hm (cs.drop j)).1, (costHead z o hm (cs.drop j)).2]
  | [], 0, _ => rfl
  | [], j + 1, h => absurd h (by simp)
  | c :: cs, 0, _ => rfl
  | c :: cs, j + 1, h => by
    have := costs_at z o hm cs j (by simpa using h)
    simpa [costs] using this
theorem at_if {r : T3} {b : Int} (hb : Is01 b) : ((r.at b).length : Int) = if b = 0 then (r.t0.length : Int) else (r.t1.length : Int) := by
  rcases hb with e | e <;> subst e <;> rfl
theorem costRow_eq {z o : Str} {hm : V} {c : Nat} {r : T3} {b : Int} (hb : Is01 b) : costRow z o hm c ((r.t0.length : Int), (r.t1.length : Int)) b = rowC z o hm c r b := by
  unfold costRow rowC
  rw [at_if (r := r) (is01_bhd (hm := hm) (k := cod z o c b) hb)]
theorem costHead_eq {z o : Str} {hm : V} (g : Good z o hm) : ∀ {cs : List Nat} {t : T3}, Tells z o hm cs t → cs.length ≤ 400 → (∀ c ∈ cs, InSet z o c) → costHead z o hm cs = ((t.t0.length : Int), (t.t1.length : Int)) := by
  intro cs t h
  induction h with
  | nil => intro _ _; rfl
  | @cons c cs r t h h0 h1 h2 ih =>
    intro hl hs
    have hl' : cs.length ≤ 400 := by simp at hl; omega
    have e := ih hl' fun d hd => hs d (List.mem_cons_of_mem _ hd)
    have c0 := cost_of g (b := 0) h hl' (hs c List.mem_cons_self) (.inl rfl) h0
    have c1 := cost_of g (b := 1) h hl' (hs c List.mem_cons_self) (.inr rfl) h1
    show costHd z o hm c (costHead z o hm cs) = _
    rw [e]
    unfold costHd
    rw [costRow_eq (.inl rfl), costRow_eq (.inr rfl)]
    exact Prod.ext c0.symm c1.symm
theorem cost_len {z o : Str} {hm : V} (g : Good z o hm) {cs : List Nat} {t : T3} {b : Int} (h : Tells z o hm cs t) (hl : cs.length ≤ 400) (hs : ∀ c ∈ cs, InSet z o c) (hb : Is01 b) :
    atI [V.int (costHead z o hm cs).1, V.int (costHead z o hm cs).2] b = some (.int ((t.at b).length : Nat)) := by
  rw [costHead_eq g h hl hs]
  rcases hb with e | e <;> subst e
  · exact atI_nat (j := 0) rfl
  · exact atI_nat (j := 1) rfl
/-- the costs of the signs cs stand at p -/
def CostsAt (z o : Str) (hm : V) (H : Hp) (p : Addr) (cs : List Nat) : Prop := ∃ ps, H p = some (.lst (ps.map V.ref)) ∧ Rows H ps (costs z o hm cs)
theorem CostsAt.mono {z o : Str} {hm : V} {H H' : Hp} {p : Addr} {cs : List Nat} (k : ∀ a (us : List V), H a = some (.lst us) → H' a = some (.lst us)) (h : CostsAt z o hm H p cs) : CostsAt z o hm H' p cs := by
  obtain ⟨ps, h1, h2⟩ := h
  exact ⟨ps, k _ _ h1, h2.mono fun a u e => k _ _ e⟩
theorem CostsAt.get {z o : Str} {hm : V} {H : Hp} {p : Addr} {cs : List Nat} (h : CostsAt z o hm H p cs) {j : Nat} (hj : j ≤ cs.length) :
    ∃ (xs : List V) (a : Addr), H p = some (.lst xs) ∧ xs[j]? = some (.ref a) ∧ H a = some (.lst [V.int (costHead z o hm (cs.drop j)).1, V.int (costHead z o hm (cs.drop j)).2]) := by
  obtain ⟨ps, h1, h2⟩ := h
  have e := costs_at z o hm cs j hj
  have hl := h2.len
  have hjl : j < ps.length := by rw [hl]; exact (List.getElem?_eq_some_iff.mp e).1
  obtain ⟨u, h3, h4⟩ := h2.get (List.getElem?_eq_getElem hjl)
  rw [e] at h3
  have h3 := Option.some.inj h3
  subst h3
  exact ⟨_, ps[j], h1, map_at (List.getElem?_eq_getElem hjl), h4⟩
def spText : Sp := fun vs H Q _ => ∃ (b l t : Addr) (z o : Str) (hm : V) (most : Nat), vs = [.ref b, .ref t, .int most] ∧ BoxAt H b l ∧ Good z o hm ∧ Sh H t z o hm ∧ most ≤ 32 ∧
  ∀ x H', x.cps.size ≤ most → (∀ c ∈ x.cps.toList, InSet z o c) → Bxd b l H H' → Q (.str x) H'
def spIsTape : Sp := fun vs H Q _ => ∃ (t a : Addr) (z o : Str) (hm : V) (cs : List Int), vs = [.ref t, .ref a] ∧ Good z o hm ∧ Sh H t z o hm ∧ H a = some (.lst (cs.map V.int)) ∧ Codes z.cps.size cs ∧ cs.length ≤ 1000 ∧ ∀ H', Same H H' → Q (.bl true) H'
def spCodesL : Sp := fun vs H Q _ => ∃ (t : Addr) (z o : Str) (hm : V) (c : Nat) (b : Int), vs = [.ref t, .str (sg c), .int b] ∧ Good z o hm ∧ Sh H t z o hm ∧ Is01 b ∧
  ∀ p H', Same H H' → H p = none → H' p = some (.lst ((codesL (at01 z o b) c).map V.int)) → Q (.ref p) H'
def spBehindL : Sp := fun vs H Q _ => ∃ (t : Addr) (z o : Str) (hm : V) (c b : Int), vs = [.ref t, .int c, .int b] ∧ Good z o hm ∧ Sh H t z o hm ∧ Q (.int (bhd hm c b)) H
def spCosts : Sp := fun vs H Q _ => ∃ (t : Addr) (z o : Str) (hm : V) (x : Str), vs = [.ref t, .str x] ∧ Good z o hm ∧ Sh H t z o hm ∧ x.cps.size ≤ 32 ∧
  ∀ p H', Same H H' → H p = none → CostsAt z o hm H' p x.cps.toList → Q (.ref p) H'
def spFirstL : Sp := fun vs H Q _ => ∃ (t p : Addr) (z o : Str) (hm : V) (x : Str) (b : Int) (R : T3), vs = [.ref t, .str x, .int b, .ref p] ∧ Good z o hm ∧ Sh H t z o hm ∧ x.cps.size ≤ 32 ∧ (∀ c ∈ x.cps.toList, InSet z o c) ∧ Is01 b ∧
  CostsAt z o hm H p x.cps.toList ∧ Tells z o hm x.cps.toList R ∧ ∀ a H', Same H H' → H a = none → H' a = some (.lst ((R.at b).map V.int)) → Q (.ref a) H'
end Kt
namespace Kt
open PySem PySem.Spec PyProof.Rows L2
/-! ### the tape for either set -/
theorem first_le {L : List (List Int)} {u v : List Int} (f : IsFirst L u) (h : v ∈ L) : u.length ≤ v.length := by
  rcases Nat.lt_or_ge v.length u.length with k | k
  · have := f.2 v h
    rw [ltK_len k] at this
    cases this
  · exact k
theorem len3 {z o : Str} {hm : V} (g : Good z o hm) {c : Nat} {cs : List Nat} {r : T3} {b : Int} {u : List Int} (hr : Tells z o hm cs r) (hl : cs.length ≤ 400) (f : IsFirst (plainL z o hm c r b ++ shiftL z o hm c r) u) :
    (u.length : Int) = min (rowC z o hm c r b) (1 + min (rowC z o hm c r 0) (rowC z o hm c r 1)) := by
  have sb := (Tells.short g hr (bhd hm (cod z o c b) b)).1
  have s0 := (Tells.short g hr (bhd hm (cod z o c 0) 0)).1
  have s1 := (Tells.short g hr (bhd hm (cod z o c 1) 1)).1
  have lb := pOf_len z o hm c r b
  have l0 := pOf_len z o hm c r 0
  have l1 := pOf_len z o hm c r 1
  have ub : 0 ≤ cod z o c b → u.length ≤ (pOf z o hm c r b).length := fun k => first_le f (List.mem_append_left _ (mem_plain.mpr ⟨k, rfl⟩))
  have us : ∀ e, Is01 e → 0 ≤ cod z o c e → u.length ≤ (pOf z o hm c r e).length + 1 := fun e he k => by
    have := first_le f (List.mem_append_right _ (mem_shift.mpr ⟨e, he, k, rfl⟩))
    rwa [List.length_cons] at this
  have u0 := us 0 (.inl rfl)
  have u1 := us 1 (.inr rfl)
  unfold rowC
  rcases List.mem_append.mp f.1 with k | k
  · obtain ⟨k1, k2⟩ := mem_plain.mp k
    have eu : u.length = (pOf z o hm c r b).length := by rw [k2]
    rw [if_pos k1]
    by_cases a0 : 0 ≤ cod z o c 0 <;> by_cases a1 : 0 ≤ cod z o c 1
    · have := u0 a0; have := u1 a1; rw [if_pos a0, if_pos a1]; omega
    · have := u0 a0; rw [if_pos a0, if_neg a1]; omega
    · have := u1 a1; rw [if_neg a0, if_pos a1]; omega
    · rw [if_neg a0, if_neg a1]; omega
  · obtain ⟨e, he, k1, k2⟩ := mem_shift.mp k
    have eu : u.length = (pOf z o hm c r e).length + 1 := by rw [k2, List.length_cons]
    by_cases ab : 0 ≤ cod z o c b
    · have := ub ab
      rw [if_pos ab]
      rcases he with rfl | rfl
      · rw [if_pos k1]
        by_cases a1 : 0 ≤ cod z o c 1
        · have := u1 a1; rw [if_pos a1]; omega
        · rw [if_neg a1]; omega
      · rw [if_pos k1]
        by_cases a0 : 0 ≤ cod z o c 0
        · have := u0 a0; rw [if_pos a0]; omega
        · rw [if_neg a0]; omega
    · rw [if_neg ab]
      rcases he with rfl | rfl
      · rw [if_pos k1]
        by_cases a1 : 0 ≤ cod z o c 1
        · have := u1 a1; rw [if_pos a1]; omega
        · rw [if_neg a1]; omega
      · rw [if_pos k1]
        by_cases a0 : 0 ≤ cod z o c 0
        · have := u0 a0; rw [if_pos a0]; omega
        · rw [if_neg a0]; omega
theorem cod2 {z o : Str} {c : Nat} {e : Int} (he : Is01 e) (h : 0 ≤ cod z o c 2) : cod z o c e = cod z o c 2 := by
  have e2 : cod z o c 2 = if fi o c ≠ fi z c then -1 else fi z c := rfl
  rw [e2] at h ⊢
  by_cases k : fi o c = fi z c
  · rw [if_neg (fun q => q k)]
    rw [cod01 he]
    rcases he with rfl | rfl
    · rfl
    · exact k
  · rw [if_pos k] at h
    omega
theorem Tells.read2 {z o : Str} {hm : V} (g : Good z o hm) : ∀ {cs : List Nat} {t : T3}, Tells z o hm cs t → (∀ c ∈ cs, InSet z o c) → ∀ b s, Is01 b → (t.t2.foldl (rdStep z o hm) (s, b)).1 = catS s cs := by
  intro cs t h
  induction h with
  | nil => intro _ b s hb; rfl
  | @cons c cs r t h h0 h1 h2 ih =>
    intro hs b s hb
    have hs' : ∀ d ∈ cs, InSet z o d := fun d hd => hs d (List.mem_cons_of_mem _ hd)
    have rd1 := Tells.read g h hs'
    rcases List.mem_append.mp h2.1 with k | k
    · obtain ⟨k1, k2⟩ := mem_plain.mp k
      have ec := cod2 hb k1
      have own := rdStep_own g s hb (by rw [ec]; exact k1)
      rw [ec] at own
      rw [k2]
      unfold pOf
      rw [List.foldl_cons, own]
      show _ = catS (s ++ sg c) cs
      by_cases e : V.int (cod z o c 2) = hm
      · have e1 : bhd hm (cod z o c 2) 2 = 0 := by unfold bhd; rw [if_pos e]
        have e2 : bhd hm (cod z o c 2) b = 0 := by unfold bhd; rw [if_pos e]
        rw [e1, e2]
        exact rd1 0 _ (.inl rfl)
      · have e1 : bhd hm (cod z o c 2) 2 = 2 := by unfold bhd; rw [if_neg e]
        have e2 : bhd hm (cod z o c 2) b = b := by unfold bhd; rw [if_neg e]
        rw [e1, e2]
        exact ih hs' b _ hb
    · obtain ⟨e, he, k1, k2⟩ := mem_shift.mp k
      rw [k2, List.foldl_cons, rdStep_shift s he]
      unfold pOf
      rw [List.foldl_cons, rdStep_own g s he k1]
      exact rd1 _ _ (is01_bhd he)
theorem le_one {z o : Str} {hm : V} (g : Good z o hm) {cs : List Nat} {t : T3} {b : Int} (h : Tells z o hm cs t) (hl : cs.length ≤ 401) (hb : Is01 b) : t.t2.length ≤ (t.at b).length + 1 := by
  cases h with
  | nil => exact Nat.zero_le _
  | @cons c cs r t h h0 h1 h2 =>
    have hl' : cs.length ≤ 400 := by simp at hl; omega
    have a := len3 g h hl' h2
    have b2 := len3 (b := b) g h hl' (Tells.first hb h0 h1)
    rcases hb with rfl | rfl <;> omega
/-- the law's row of three -/
structure I3 where
  c0 : Int
  c1 : Int
  c2 : Int
def I3.at (t : I3) (b : Int) : Int := if b = 0 then t.c0 else if b = 1 then t.c1 else t.c2
def I3.list (t : I3) : List V := [.int t.c0, .int t.c1, .int t.c2]
def strt (z o : Str) (hm : V) (c : Nat) (h : I3) (b : Int) : Int := if 0 ≤ cod z o c b then min 1000 (1 + h.at (bhd hm (cod z o c b) b)) else 1000
def rowNext (z o : Str) (hm : V) (c : Nat) (h : I3) : I3 :=
  ⟨min (strt z o hm c h 0) (1 + min (strt z o hm c h 0) (strt z o hm c h 1)), min (strt z o hm c h 1) (1 + min (strt z o hm c h 0) (strt z o hm c h 1)), min (strt z o hm c h 2) (1 + min (strt z o hm c h 0) (strt z o hm c h 1))⟩
def row3 (z o : Str) (hm : V) : List Nat → I3
  | [] => ⟨0, 0, 0⟩
  | c :: cs => rowNext z o hm c (row3 z o hm cs)
theorem I3.get {t : I3} {b : Int} (hb : Is012 b) : atI t.list b = some (.int (t.at b)) := by
  rcases hb with e | e | e <;> subst e
  · exact atI_nat (j := 0) rfl
  · exact atI_nat (j := 1) rfl
  · exact atI_nat (j := 2) rfl
def lenI (t : T3) : I3 := ⟨(t.t0.length : Int), (t.t1.length : Int), (t.t2.length : Int)⟩
theorem lenI_at (t : T3) {b : Int} (hb : Is012 b) : (lenI t).at b = ((t.at b).length : Int) := by
  rcases hb with e | e | e <;> subst e <;> rfl
theorem strt_eq {z o : Str} {hm : V} {c : Nat} {r : T3} {b : Int} (hb : Is012 b) : strt z o hm c (lenI r) b = rowC z o hm c r b := by
  unfold strt rowC
  rw [lenI_at r (is012_bhd hb)]
theorem row3_eq {z o : Str} {hm : V} (g : Good z o hm) : ∀ {cs : List Nat} {t : T3}, Tells z o hm cs t → cs.length ≤ 400 → row3 z o hm cs = lenI t := by
  intro cs t h
  induction h with
  | nil => intro _; rfl
  | @cons c cs r t h h0 h1 h2 ih =>
    intro hl
    have hl' : cs.length ≤ 400 := by simp at hl; omega
    show rowNext z o hm c (row3 z o hm cs) = _
    rw [ih hl']
    unfold rowNext
    rw [strt_eq (.inl rfl), strt_eq (.inr (.inl rfl)), strt_eq (.inr (.inr rfl))]
    have a0 := len3 g h hl' h0
    have a1 := len3 g h hl' h1
    have a2 := len3 g h hl' h2
    unfold lenI
    rw [a0, a1, a2]
theorem in_codes {o : Str} (nd : o.cps.toList.Nodup) (c : Nat) (k : Int) : inV (.int k) ((codesL o c).map V.int) = decide (0 ≤ fi o c ∧ fi o c = k) := by
  rw [codesL_eq nd]
  unfold inV
  rw [Bool.eq_iff_iff, List.any_eq_true, decide_eq_true_eq]
  constructor
  · rintro ⟨v, hv, e⟩
    by_cases h : 0 ≤ fi o c
    · rw [if_pos h] at hv
      obtain rfl : v = .int (fi o c) := by simpa using hv
      have e1 : (fi o c == k) = true := e
      exact ⟨h, eq_of_beq e1⟩
    · rw [if_neg h] at hv
      cases hv
  · rintro ⟨h, e⟩
    refine ⟨.int (fi o c), by rw [if_pos h]; simp, ?_⟩
    show (fi o c == k) = true
    rw [e]; exact beq_self_eq_true _
theorem cod2_eq {z o : Str} {c : Nat} (h : fi o c = fi z c) : cod z o c 2 = fi z c := by
  have e2 : cod z o c 2 = if fi o c ≠ fi z c then -1 else fi z c := rfl
  rw [e2, if_neg (fun k => k h)]
theorem cod2_neg {z o : Str} {c : Nat} (h : ¬ (0 ≤ fi z c ∧ 0 ≤ fi o c ∧ fi o c = fi z c)) : ¬ 0 ≤ cod z o c 2 := by
  have e2 : cod z o c 2 = if fi o c ≠ fi z c then -1 else fi z c := rfl
  rw [e2]
  intro k
  by_cases e : fi o c = fi z c
  · rw [if_neg (fun q => q e)] at k
    exact h ⟨k, by omega, e⟩
  · rw [if_pos e] at k
    omega
def spEither (P1 P2 : Addr) (q : Str) : Sp := fun vs H Q _ => ∃ (t : Addr) (z o : Str) (hm : V) (x : Str), vs = [.ref t, .str x] ∧ Good z o hm ∧ Sh H t z o hm ∧ x.cps.size ≤ 32 ∧ (∀ c ∈ x.cps.toList, InSet z o c) ∧ Tw P1 P2 q H ∧
  ∀ a T H', Kq P1 P2 q H H' → H a = none → Tells z o hm x.cps.toList T → H' a = some (.lst (T.t2.map V.int)) → Q (.ref a) H'
def spCosts3 : Sp := fun vs H Q _ => ∃ (t : Addr) (z o : Str) (hm : V) (x : Str), vs = [.ref t, .str x] ∧ Good z o hm ∧ Sh H t z o hm ∧ x.cps.size ≤ 32 ∧
  ∀ p H', Same H H' → H p = none → H' p = some (.lst (row3 z o hm x.cps.toList).list) → Q (.ref p) H'
end Kt
namespace Kt
open PySem PySem.Spec PyProof.Rows L2
/-! ### no tape is ahead of what is told -/
/-- u is not ahead of v -/
def Ge (u v : List Int) : Prop := ltK u v = false
theorem Ge.refl (u : List Int) : Ge u u := ltK_irrefl u
theorem Ge.trans {u v w : List Int} (a : Ge u v) (b : Ge v w) : Ge u w := by
  unfold Ge at *
  rcases ltK_tri a with e | e
  · rw [e]; exact b
  · cases h : ltK u w with
    | false => rfl
    | true => rw [← b, ltK_trans e h]
theorem Ge.len {u v : List Int} (a : Ge u v) : v.length ≤ u.length := by
  rcases Nat.lt_or_ge u.length v.length with k | k
  · unfold Ge at a; rw [ltK_len k] at a; cases a
  · exact k
theorem Ge.long {u v : List Int} (h : v.length < u.length) : Ge u v := ltK_ge h
theorem Ge.cons {u v : List Int} (k : Int) (a : Ge u v) : Ge (k :: u) (k :: v) := by
  unfold Ge ltK at *
  simp only [List.length_cons]
  by_cases e : u.length = v.length
  · rw [if_pos e] at a
    rw [if_pos (by omega)]
    unfold lx
    rw [if_pos rfl]; exact a
  · rw [if_neg e] at a
    rw [if_neg (by omega)]
    have := of_decide_eq_false a
    exact decide_eq_false (by omega)
theorem IsFirst.ge {L : List (List Int)} {t u : List Int} (f : IsFirst L t) (h : u ∈ L) : Ge u t := f.2 u h
/-- what a shift ahead costs -/
theorem shift_ge {z o : Str} {hm : V} {c : Nat} {r t : T3} {e : Int} {u w : List Int} (he : Is01 e) (h0 : IsFirst (plainL z o hm c r 0 ++ shiftL z o hm c r) t.t0) (h1 : IsFirst (plainL z o hm c r 1 ++ shiftL z o hm c r) t.t1)
    {b : Int} (hw : IsFirst (plainL z o hm c r b ++ shiftL z o hm c r) w) (h : Ge u (t.at e)) : Ge (((z.cps.size : Int) + e) :: u) w := by
  have f := Tells.first he h0 h1
  rcases List.mem_append.mp f.1 with k | k
  · obtain ⟨k1, k2⟩ := mem_plain.mp k
    refine Ge.trans (Ge.cons _ h) (hw.ge (List.mem_append_right _ (mem_shift.mpr ⟨e, he, k1, ?_⟩)))
    rw [k2]
  · have a := (hw.ge (List.mem_append_right (plainL z o hm c r b) k)).len
    have b := h.len
    exact Ge.long (by simp only [List.length_cons]; omega)
/-- how the reading goes on -/
theorem read_pre (z o : Str) (hm : V) : ∀ (u : List Int) (s : Str) (b : Int), ∃ w, (u.foldl (rdStep z o hm) (s, b)).1.cps.toList = s.cps.toList ++ w
  | [], s, b => ⟨[], by simp⟩
  | k :: u, s, b => by
    rw [List.foldl_cons]
    unfold rdStep
    split
    · obtain ⟨w, h⟩ := read_pre z o hm u s (k - z.cps.size)
      exact ⟨w, h⟩
    · obtain ⟨w, h⟩ := read_pre z o hm u (s ++ sg ((if b = 0 then z else o).cps.toList.getD k.toNat 0)) (if V.int k = hm then 0 else b)
      refine ⟨(if b = 0 then z else o).cps.toList.getD k.toNat 0 :: w, ?_⟩
      refine Eq.trans h ?_
      rw [Str.cps_append]
      simp [sg]
/-- a code that is no shift: it is the sign's own -/
theorem own_code {z o : Str} {hm : V} (g : Good z o hm) {k : Int} {u : List Int} {s : Str} {b : Int} {cs : List Nat} (hb : Is01 b) (k0 : 0 ≤ k) (k1 : k < (z.cps.size : Int)) (h : ((k :: u).foldl (rdStep z o hm) (s, b)).1 = catS s cs) :
    ∃ c cs', cs = c :: cs' ∧ fi (at01 z o b) c = k ∧ (u.foldl (rdStep z o hm) (s ++ sg c, bhd hm k b)).1 = catS (s ++ sg c) cs' := by
  rw [List.foldl_cons] at h
  have e : rdStep z o hm (s, b) k = (s ++ sg ((at01 z o b).cps.toList.getD k.toNat 0), bhd hm k b) := by
    unfold rdStep bhd at01
    rw [if_neg (by omega)]
  rw [e] at h
  generalize hc : (at01 z o b).cps.toList.getD k.toNat 0 = c at h
  obtain ⟨w, hw⟩ := read_pre z o hm u (s ++ sg c) (bhd hm k b)
  rw [h, catS_list, Str.cps_append, Array.toList_append] at hw
  have hw2 : cs = c :: w := by
    have : s.cps.toList ++ cs = s.cps.toList ++ ([c] ++ w) := by rw [hw, List.append_assoc]; rfl
    exact List.append_cancel_left this
  refine ⟨c, w, hw2, ?_, by rw [h, hw2]; rfl⟩
  have hk : k.toNat < (at01 z o b).cps.toList.length := by rw [Array.length_toList, at01_size g b]; omega
  have at1 : (at01 z o b).cps.toList[k.toNat]? = some c := by
    rw [← hc, List.getD_eq_getElem?_getD, List.getElem?_eq_getElem hk]; rfl
  have nd : (at01 z o b).cps.toList.Nodup := by
    rcases hb with e | e <;> subst e
    · exact g.nz
    · exact g.no
  rcases fi_spec (at01 z o b) c with ⟨_, h2⟩ | ⟨j, h1, h2⟩
  · exact absurd (List.mem_of_getElem? at1) h2
  · rw [h1]
    have := nd_ix nd at1 h2
    omega
theorem none_ahead {z o : Str} {hm : V} (g : Good z o hm) : ∀ (u : List Int) (cs : List Nat) (t : T3) (b : Int) (s : Str), Tells z o hm cs t → Codes z.cps.size u → Is01 b → (u.foldl (rdStep z o hm) (s, b)).1 = catS s cs → Ge u (t.at b) := by
  intro u
  induction u with
  | nil =>
    intro cs t b s ht _ hb h
    have e : cs = [] := by
      have h2 := congrArg (fun x : Str => x.cps.toList) h
      simp only [List.foldl_nil, catS_list] at h2
      simpa using h2
    subst e
    cases ht
    rcases hb with e | e <;> subst e <;> exact Ge.refl _
  | cons k u ih =>
    intro cs t b s ht hc hb h
    have hk := hc k List.mem_cons_self
    have hc' : Codes z.cps.size u := fun d hd => hc d (List.mem_cons_of_mem _ hd)
    by_cases ks : (z.cps.size : Int) ≤ k
    · obtain ⟨e, rfl⟩ : ∃ e, k = (z.cps.size : Int) + e := ⟨k - z.cps.size, by omega⟩
      have he : Is01 e := by unfold Is01; omega
      rw [List.foldl_cons, rdStep_shift s he] at h
      have ge := ih cs t e s ht hc' he h
      cases ht with
      | nil => rcases hb with y | y <;> subst y <;> exact Ge.long (Nat.succ_pos _)
      | cons h' h0 h1 h2 => exact shift_ge he h0 h1 (Tells.first hb h0 h1) ge
    · obtain ⟨c, cs', rfl, e1, e2⟩ := own_code g hb hk.1 (by omega) h
      cases ht with
      | @cons _ _ r _ h' h0 h1 h2 =>
      have ge := ih cs' r (bhd hm k b) (s ++ sg c) h' hc' (is01_bhd hb) e2
      have ec : cod z o c b = k := by rw [cod01 hb]; exact e1
      refine Ge.trans (Ge.cons k ge) ((Tells.first hb h0 h1).ge (List.mem_append_left _ (mem_plain.mpr ⟨by omega, ?_⟩)))
      unfold pOf
      rw [ec]
theorem none_ahead2 {z o : Str} {hm : V} (g : Good z o hm) : ∀ (u : List Int) (cs : List Nat) (t : T3) (s : Str), Tells z o hm cs t → Codes z.cps.size u → (∀ b, Is01 b → (u.foldl (rdStep z o hm) (s, b)).1 = catS s cs) → Ge u t.t2 := by
  intro u
  induction u with
  | nil =>
    intro cs t s ht _ h
    have e : cs = [] := by
      have h2 := congrArg (fun x : Str => x.cps.toList) (h 0 (.inl rfl))
      simp only [List.foldl_nil, catS_list] at h2
      simpa using h2
    subst e
    cases ht
    exact Ge.refl _
  | cons k u ih =>
    intro cs t s ht hc h
    have hk := hc k List.mem_cons_self
    have hc' : Codes z.cps.size u := fun d hd => hc d (List.mem_cons_of_mem _ hd)
    by_cases ks : (z.cps.size : Int) ≤ k
    · obtain ⟨e, rfl⟩ : ∃ e, k = (z.cps.size : Int) + e := ⟨k - z.cps.size, by omega⟩
      have he : Is01 e := by unfold Is01; omega
      have h := h 0 (.inl rfl)
      rw [List.foldl_cons, rdStep_shift s he] at h
      have ge := none_ahead g u cs t e s ht hc' he h
      cases ht with
      | nil => exact Ge.long (Nat.succ_pos _)
      | cons h' h0 h1 h2 => exact shift_ge he h0 h1 h2 ge
    · obtain ⟨c, cs', rfl, e1, e2⟩ := own_code g (b := 0) (.inl rfl) hk.1 (by omega) (h 0 (.inl rfl))
      obtain ⟨c2, cs2, e3, e4, e5⟩ := own_code g (b := 1) (.inr rfl) hk.1 (by omega) (h 1 (.inr rfl))
      injection e3 with e3 e6
      subst e3 e6
      have e1 : fi z c = k := e1
      have e4 : fi o c = k := e4
      have ec : cod z o c 2 = k := (cod2_eq (e4.trans e1.symm)).trans e1
      cases ht with
      | @cons _ _ r _ h' h0 h1 h2 =>
      have ge : Ge u (r.at (bhd hm k 2)) := by
        by_cases e : V.int k = hm
        · have b2 : bhd hm k 2 = 0 := by unfold bhd; rw [if_pos e]
          have b0 : bhd hm k 0 = 0 := by unfold bhd; rw [if_pos e]
          rw [b0] at e2
          rw [b2]
          exact none_ahead g u cs' r 0 (s ++ sg c) h' hc' (.inl rfl) e2
        · have b2 : bhd hm k 2 = 2 := by unfold bhd; rw [if_neg e]
          have b0 : bhd hm k 0 = 0 := by unfold bhd; rw [if_neg e]
          have b1 : bhd hm k 1 = 1 := by unfold bhd; rw [if_neg e]
          rw [b0] at e2
          rw [b1] at e5
          rw [b2]
          refine ih cs' r (s ++ sg c) h' hc' fun b hb => ?_
          rcases hb with y | y <;> subst y
          · exact e2
          · exact e5
      refine Ge.trans (Ge.cons k ge) (h2.ge (List.mem_append_left _ (mem_plain.mpr ⟨by omega, ?_⟩)))
      unfold pOf
      rw [ec]
end Kt
namespace Kt
open PySem PySem.Spec PyProof.Rows L2
/-! ### the search by levels -/
theorem lx_asym {a b : List Int} (h : lx a b = true) : lx b a = false := by
  cases e : lx b a with
  | false => rfl
  | true => rw [← lx_irrefl a, lx_trans h e]
theorem lx_app : ∀ {a b : List Int} (u v : List Int), a.length = b.length → lx a b = true → lx (a ++ u) (b ++ v) = true
  | [], [], _, _, _, h => by unfold lx at h; cases h
  | [], _ :: _, _, _, hl, _ => by simp at hl
  | _ :: _, [], _, _, hl, _ => by simp at hl
  | x :: a, y :: b, u, v, hl, h => by
    unfold lx at h
    show lx (x :: (a ++ u)) (y :: (b ++ v)) = true
    unfold lx
    by_cases e : x = y
    · rw [if_pos e] at h ⊢
      exact lx_app u v (by simpa using hl) h
    · rw [if_neg e] at h ⊢
      exact h
theorem lx_last (k j : Int) (h : k < j) : ∀ w : List Int, lx (w ++ [k]) (w ++ [j]) = true
  | [] => by
    show lx [k] [j] = true
    unfold lx
    rw [if_neg (by omega)]; exact decide_eq_true h
  | x :: w => by
    show lx (x :: (w ++ [k])) (x :: (w ++ [j])) = true
    unfold lx
    rw [if_pos rfl]; exact lx_last k j h w
theorem lx_snocF {u w : List Int} (k : Int) (hl : u.length = w.length) (h : lx u w = false) : lx (u ++ [k]) (w ++ [k]) = false := by
  rcases lx_tri h with e | e
  · rw [e]; exact lx_irrefl _
  · exact lx_asym (lx_app _ _ hl.symm e)
theorem lxF_trans {a b c : List Int} (h1 : lx a b = false) (h2 : lx b c = false) : lx a c = false := by
  rcases lx_tri h1 with e | e
  · rw [e]; exact h2
  · cases h : lx a c with
    | false => rfl
    | true => rw [← h2, lx_trans e h]
abbrev Ends := List (Str × Int)
abbrev Lv := List Int × Ends
def stepE (z o : Str) (hm : V) (e : Ends) (k : Int) : Ends := e.map fun p => rdStep z o hm p k
def endsOf (z o : Str) (hm : V) (Bs : List Int) (u : List Int) : Ends := Bs.map fun b => rd z o hm u b
theorem ends_snoc (z o : Str) (hm : V) (Bs : List Int) (u : List Int) (k : Int) : endsOf z o hm Bs (u ++ [k]) = stepE z o hm (endsOf z o hm Bs u) k := by
  unfold endsOf stepE
  rw [List.map_map]
  exact List.map_congr_left fun b _ => rd_snoc z o hm u b k
/-- all are read so far as the text begins -/
def OkE (x : Str) (e : Ends) : Prop := ∀ p ∈ e, ∃ w, x.cps.toList = p.1.cps.toList ++ w
theorem ok_back {z o : Str} {hm : V} {x : Str} {e : Ends} {k : Int} (h : OkE x (stepE z o hm e k)) : OkE x e := by
  intro p hp
  obtain ⟨w, hw⟩ := h _ (List.mem_map_of_mem hp)
  obtain ⟨v, hv⟩ := read_pre z o hm [k] p.1 p.2
  have e1 : (rdStep z o hm p k).1.cps.toList = p.1.cps.toList ++ v := hv
  rw [e1, List.append_assoc] at hw
  exact ⟨_, hw⟩
open Classical in
noncomputable def grownOf (z o : Str) (hm : V) (x : Str) (p : Lv) : List Lv := (List.range (z.cps.size + 2)).filterMap fun (k : Nat) => if OkE x (stepE z o hm p.2 (k : Int)) then some (p.1 ++ [(k : Int)], stepE z o hm p.2 (k : Int)) else none
noncomputable def grown (z o : Str) (hm : V) (x : Str) (T : List Lv) : List Lv := T.flatMap (grownOf z o hm x)
open Classical in
noncomputable def dedS (acc : List Lv) (p : Lv) : List Lv := if ∃ q ∈ acc, q.2 = p.2 then acc else acc ++ [p]
noncomputable def ded (L : List Lv) : List Lv := L.foldl dedS []
def Bef (p q : Lv) : Prop := lx p.1 q.1 = true
theorem ded_spec : ∀ (L acc : List Lv), (acc ++ L).Pairwise Bef → (∀ p ∈ L.foldl dedS acc, p ∈ acc ++ L) ∧ (L.foldl dedS acc).Pairwise Bef ∧ (∀ p ∈ acc, p ∈ L.foldl dedS acc) ∧ ∀ p ∈ L, ∃ q ∈ L.foldl dedS acc, q.2 = p.2 ∧ (q = p ∨ Bef q p)
  | [], acc, h => ⟨fun p hp => List.mem_append_left _ hp, by rw [List.append_nil] at h; exact h, fun p hp => hp, fun p hp => nomatch hp⟩
  | p :: L, acc, h => by
    rw [List.foldl_cons]
    by_cases e : ∃ q ∈ acc, q.2 = p.2
    · have e1 : dedS acc p = acc := by unfold dedS; rw [if_pos e]
      rw [e1]
      have hs : (acc ++ L).Pairwise Bef := h.sublist (List.Sublist.append_left (List.sublist_cons_self _ _) _)
      obtain ⟨a, b, c, d⟩ := ded_spec L acc hs
      refine ⟨fun q hq => ?_, b, c, fun q hq => ?_⟩
      · rcases List.mem_append.mp (a q hq) with m | m
        · exact List.mem_append_left _ m
        · exact List.mem_append_right _ (List.mem_cons_of_mem _ m)
      · rcases List.mem_cons.mp hq with m | m
        · obtain ⟨r, hr, er⟩ := e
          rw [m]
          exact ⟨r, c r hr, er, .inr ((List.pairwise_append.mp h).2.2 r hr p List.mem_cons_self)⟩
        · exact d q m
    · have e1 : dedS acc p = acc ++ [p] := by unfold dedS; rw [if_neg e]
      rw [e1]
      have hs : ((acc ++ [p]) ++ L).Pairwise Bef := by rw [List.append_assoc]; exact h
      obtain ⟨a, b, c, d⟩ := ded_spec L (acc ++ [p]) hs
      refine ⟨fun q hq => ?_, b, fun q hq => c q (List.mem_append_left _ hq), fun q hq => ?_⟩
      · have := a q hq
        rw [List.append_assoc] at this
        exact this
      · rcases List.mem_cons.mp hq with m | m
        · rw [m]
          exact ⟨p, c p (List.mem_append_right _ (List.mem_singleton.mpr rfl)), rfl, .inl rfl⟩
        · exact d q m
/-- a level of the search -/
structure Lev (z o : Str) (hm : V) (x : Str) (Bs : List Int) (d : Nat) (T : List Lv) : Prop where
  each : ∀ p ∈ T, p.1.length = d ∧ Codes z.cps.size p.1 ∧ p.2 = endsOf z o hm Bs p.1 ∧ OkE x p.2
  ord : T.Pairwise Bef
  all : ∀ u : List Int, u.length = d → Codes z.cps.size u → OkE x (endsOf z o hm Bs u) → ∃ p ∈ T, p.2 = endsOf z o hm Bs u ∧ lx u p.1 = false
theorem mem_grownOf {z o : Str} {hm : V} {x : Str} {p q : Lv} : q ∈ grownOf z o hm x p ↔ ∃ k : Nat, k < z.cps.size + 2 ∧ OkE x (stepE z o hm p.2 (k : Int)) ∧ q = (p.1 ++ [(k : Int)], stepE z o hm p.2 (k : Int)) := by
  unfold grownOf
  rw [List.mem_filterMap]
  constructor
  · rintro ⟨k, hk, h⟩
    split at h
    · exact ⟨k, List.mem_range.mp hk, by assumption, (Option.some.inj h).symm⟩
    · cases h
  · rintro ⟨k, hk, h, e⟩
    exact ⟨k, List.mem_range.mpr hk, by rw [if_pos h, e]⟩
theorem Lev.next {z o : Str} {hm : V} {x : Str} {Bs : List Int} {d : Nat} {T : List Lv} (l : Lev z o hm x Bs d T) : Lev z o hm x Bs (d + 1) (ded (grown z o hm x T)) := by
  have srt : (grown z o hm x T).Pairwise Bef := by
    unfold grown
    rw [List.pairwise_flatMap]
    refine ⟨fun p hp => ?_, l.ord.imp_of_mem fun {p q} hp hq h => ?_⟩
    · unfold grownOf
      rw [List.pairwise_filterMap]
      refine List.pairwise_lt_range.imp fun {i j} hij => ?_
      intro a ha b hb
      split at ha
      · split at hb
        · have ha := Option.some.inj ha
          have hb := Option.some.inj hb
          rw [← ha, ← hb]
          exact lx_last _ _ (by omega) _
        · cases hb
      · cases ha
    · intro a ha b hb
      obtain ⟨k, _, _, rfl⟩ := mem_grownOf.mp ha
      obtain ⟨j, _, _, rfl⟩ := mem_grownOf.mp hb
      exact lx_app _ _ ((l.each p hp).1.trans (l.each q hq).1.symm) h
  obtain ⟨s1, s2, _, s4⟩ := ded_spec (grown z o hm x T) [] srt
  refine ⟨fun q hq => ?_, s2, fun u hu hc ok => ?_⟩
  · have hq := s1 q hq
    rw [List.nil_append] at hq
    obtain ⟨p, hp, hq⟩ := List.mem_flatMap.mp hq
    obtain ⟨k, hk, ok, rfl⟩ := mem_grownOf.mp hq
    obtain ⟨e1, e2, e3, e4⟩ := l.each p hp
    refine ⟨by simp [e1], fun c hc => ?_, by rw [ends_snoc, ← e3], ok⟩
    rcases List.mem_append.mp hc with m | m
    · exact e2 c m
    · rw [List.mem_singleton.mp m]; omega
  · obtain ⟨v, k, rfl⟩ : ∃ v k, u = v ++ [k] := by
      refine ⟨u.dropLast, u.getLast (fun e => by rw [e] at hu; simp at hu), ?_⟩
      exact (List.dropLast_concat_getLast _).symm
    have hk := hc k (List.mem_append_right _ (List.mem_singleton.mpr rfl))
    rw [ends_snoc] at ok
    obtain ⟨p, hp, e1, e2⟩ := l.all v (by simpa using hu) (fun c h => hc c (List.mem_append_left _ h)) (ok_back ok)
    obtain ⟨j, rfl⟩ := Int.eq_ofNat_of_zero_le hk.1
    have mem : (p.1 ++ [(j : Int)], stepE z o hm p.2 (j : Int)) ∈ grown z o hm x T := List.mem_flatMap.mpr ⟨p, hp, mem_grownOf.mpr ⟨j, by omega, by rw [e1]; exact ok, rfl⟩⟩
    obtain ⟨q, hq, e3, e4⟩ := s4 _ mem
    refine ⟨q, hq, by rw [e3, ends_snoc, ← e1], ?_⟩
    have lv : v.length = p.1.length := by rw [(l.each p hp).1]; simpa using hu
    have a := lx_snocF (j : Int) lv e2
    rcases e4 with e | e
    · rw [e]; exact a
    · exact lxF_trans a (lx_asym e)
theorem Lev.zero (z o : Str) (hm : V) (x : Str) (Bs : List Int) : Lev z o hm x Bs 0 [([], endsOf z o hm Bs [])] := by
  have ok : OkE x (endsOf z o hm Bs []) := fun p hp => by
    obtain ⟨b, _, rfl⟩ := List.mem_map.mp hp
    have e : (Str.ofString "").cps.toList = [] := by decide +kernel
    exact ⟨x.cps.toList, by show _ = (Str.ofString "").cps.toList ++ _; rw [e]; rfl⟩
  refine ⟨fun p hp => ?_, List.pairwise_singleton _ _, fun u hu _ _ => ?_⟩
  · rw [List.mem_singleton.mp hp]
    exact ⟨rfl, fun c hc => (nomatch hc), rfl, ok⟩
  · obtain rfl : u = [] := List.length_eq_zero_iff.mp hu
    exact ⟨_, List.mem_singleton.mpr rfl, rfl, lx_irrefl _⟩
/-- all are read as the text -/
def Full (x : Str) (e : Ends) : Prop := ∀ p ∈ e, p.1 = x
theorem Full.ok {x : Str} {e : Ends} (h : Full x e) : OkE x e := fun p hp => ⟨[], by rw [h p hp, List.append_nil]⟩
/-- a tape that is read as the text, of which none is ahead -/
def Least (z o : Str) (hm : V) (x : Str) (Bs : List Int) (t : List Int) : Prop := Codes z.cps.size t ∧ Full x (endsOf z o hm Bs t) ∧ ∀ u, Codes z.cps.size u → Full x (endsOf z o hm Bs u) → Ge u t
/-- no full one at a level that is shorter than the least -/
theorem Lev.none {z o : Str} {hm : V} {x : Str} {Bs : List Int} {d : Nat} {T : List Lv} {t : List Int} (l : Lev z o hm x Bs d T) (ht : Least z o hm x Bs t) (h : d < t.length) : ∀ p ∈ T, ¬ Full x p.2 := fun p hp f => by
  obtain ⟨e1, e2, e3, _⟩ := l.each p hp
  have := (ht.2.2 p.1 e2 (by rw [← e3]; exact f)).len
  omega
/-- the first full one at its level is the least -/
theorem Lev.hit {z o : Str} {hm : V} {x : Str} {Bs : List Int} {T : List Lv} {t : List Int} {i : Nat} {p : Lv} (l : Lev z o hm x Bs t.length T) (ht : Least z o hm x Bs t) (hi : T[i]? = some p) (hf : Full x p.2) (hn : ∀ j q, j < i → T[j]? = some q → ¬ Full x q.2) : p.1 = t := by
  obtain ⟨e1, e2, e3, _⟩ := l.each p (List.mem_of_getElem? hi)
  have g := ht.2.2 p.1 e2 (by rw [← e3]; exact hf)
  obtain ⟨q, hq, f1, f2⟩ := l.all t rfl ht.1 ht.2.1.ok
  obtain ⟨j, hj⟩ := List.mem_iff_getElem?.mp hq
  have fq : Full x q.2 := by rw [f1]; exact ht.2.1
  have hij : i ≤ j := by
    rcases Nat.lt_or_ge j i with k | k
    · exact absurd fq (hn j q k hj)
    · exact k
  -- q is not ahead of t, p not behind q
  have pq : p = q ∨ Bef p q := by
    rcases Nat.lt_or_ge i j with k | k
    · right
      have h1 := (List.getElem?_eq_some_iff.mp hi)
      have h2 := (List.getElem?_eq_some_iff.mp hj)
      obtain ⟨a1, a2⟩ := h1
      obtain ⟨b1, b2⟩ := h2
      rw [← a2, ← b2]
      exact List.pairwise_iff_getElem.mp l.ord i j a1 b1 k
    · left
      obtain rfl : i = j := by omega
      exact Option.some.inj (hi.symm.trans hj)
  have tp : lx t p.1 = false := by
    rcases pq with e | e
    · rw [e]; exact f2
    · exact lxF_trans f2 (lx_asym e)
  unfold Ge ltK at g
  rw [if_pos e1] at g
  rcases lx_tri g with e | e
  · exact e
  · rw [tp] at e; cases e
/-- .. and there is one -/
theorem Lev.some {z o : Str} {hm : V} {x : Str} {Bs : List Int} {T : List Lv} {t : List Int} (l : Lev z o hm x Bs t.length T) (ht : Least z o hm x Bs t) : ∃ p ∈ T, Full x p.2 := by
  obtain ⟨q, hq, f1, _⟩ := l.all t rfl ht.1 ht.2.1.ok
  exact ⟨q, hq, by rw [f1]; exact ht.2.1⟩
theorem told_least {z o : Str} {hm : V} (g : Good z o hm) {x : Str} {t : T3} {b : Int} (h : Tells z o hm x.cps.toList t) (hs : ∀ c ∈ x.cps.toList, InSet z o c) (hb : Is01 b) : Least z o hm x [b] (t.at b) := by
  refine ⟨(Tells.short g h b).2, fun p hp => ?_, fun u hu hf => ?_⟩
  · rw [List.mem_singleton.mp hp]
    exact (Tells.read g h hs b (Str.ofString "") hb).trans (catS_all x)
  · refine none_ahead g u _ t b (Str.ofString "") h hu hb ?_
    rw [catS_all]
    exact hf _ (List.mem_singleton.mpr rfl)
theorem told_least2 {z o : Str} {hm : V} (g : Good z o hm) {x : Str} {t : T3} (h : Tells z o hm x.cps.toList t) (hs : ∀ c ∈ x.cps.toList, InSet z o c) : Least z o hm x [0, 1] t.t2 := by
  refine ⟨(Tells.short g h 2).2, fun p hp => ?_, fun u hu hf => ?_⟩
  · obtain ⟨b, hb, rfl⟩ := List.mem_map.mp hp
    exact (Tells.read2 g h hs b (Str.ofString "") (by unfold Is01; simpa using hb)).trans (catS_all x)
  · refine none_ahead2 g u _ t (Str.ofString "") h hu fun b hb => ?_
    rw [catS_all]
    exact hf _ (List.mem_map.mpr ⟨b, by rcases hb with y | y <;> subst y <;> simp, rfl⟩)
end Kt
namespace Kt
open PySem PySem.Spec PyProof.Rows L2
/-! ### alike, at any depth -/
/-- the same data stand at both, to a depth -/
inductive Al (H : Hp) : Nat → V → V → Prop
  | non (n : Nat) : Al H n .non .non
  | bl (n : Nat) (b : Bool) : Al H n (.bl b) (.bl b)
  | int (n : Nat) (i : Int) : Al H n (.int i) (.int i)
  | str (n : Nat) (s : Str) : Al H n (.str s) (.str s)
  | lst {n : Nat} {a b : Addr} {xs ys : List V} (ha : H a = some (.lst xs)) (hb : H b = some (.lst ys)) (hl : xs.length = ys.length) (hz : xs.length ≤ 1000) (h : ∀ (i : Nat) (x y : V), xs[i]? = some x → ys[i]? = some y → Al H n x y) : Al H (n + 1) (.ref a) (.ref b)
  | tup {n : Nat} {a b : Addr} {xs ys : List V} (ha : H a = some (.tup xs)) (hb : H b = some (.tup ys)) (hl : xs.length = ys.length) (hz : xs.length ≤ 1000) (h : ∀ (i : Nat) (x y : V), xs[i]? = some x → ys[i]? = some y → Al H n x y) : Al H (n + 1) (.ref a) (.ref b)
def spAl (n : Nat) : Sp := fun vs H Q _ => ∃ a b, vs = [a, b] ∧ Al H n a b ∧ Q (.bl true) H
theorem Al.ints {H : Hp} {n : Nat} {a b : Addr} {ns : List Int} (ha : H a = some (.lst (ns.map V.int))) (hb : H b = some (.lst (ns.map V.int))) (hz : ns.length ≤ 1000) : Al H (n + 1) (.ref a) (.ref b) :=
  .lst ha hb rfl (by rw [List.length_map]; exact hz) fun i x y h1 h2 => by
    obtain ⟨k, _, rfl⟩ := at_map h1
    rw [h1] at h2
    cases h2
    exact .int n k
/-- the reading of list(..), by the written part alone -/
def rListQ (K : PySem.W.Frag) : List V → Hp → VK → Prop := fun xs H Q => ∃ p ys, xs = [.ref p] ∧ (SqL K H p ys ∨ SqT K H p ys) ∧ ∀ l, H l = none → Q (.ref l) (L2.upd H l (.lst ys))
/-! ### the tables of the text -/
structure TWs where
  gs : List Addr
  ls : List (Addr × Str)
structure Tb (W : TWs) (H : Hp) : Prop where
  g : ∀ P ∈ W.gs, GxR.TabG H P
  l : ∀ p ∈ W.ls, LamX.TabS H p.1 p.2
/-- all but the tables stays -/
structure Kz (W : TWs) (H H' : Hp) : Prop where
  tb : Tb W H'
  at' : ∀ b o, (∀ ps, o ≠ .tbl ps) → H b = some o → H' b = some o
  nn : ∀ b, H' b = none → H b = none
section
variable {W : TWs} {H H1 H' : Hp}
theorem Kz.refl (t : Tb W H) : Kz W H H := ⟨t, fun _ _ _ h => h, fun _ h => h⟩
theorem Kz.trans (a : Kz W H H1) (b : Kz W H1 H') : Kz W H H' := ⟨b.tb, fun c o n h => b.at' c o n (a.at' c o n h), fun c h => a.nn c (b.nn c h)⟩
theorem tabS_same {P : Addr} {q : Str} (t : LamX.TabS H P q) (s : Same H H') : LamX.TabS H' P q := t.ext s
theorem Tb.same (t : Tb W H) (s : Same H H') : Tb W H' := ⟨fun P h => tab_same (t.g P h) fun o e => s _ o e, fun p h => tabS_same (t.l p h) s⟩
theorem Kz.same (t : Tb W H) (s : Same H H') : Kz W H H' := ⟨t.same s, fun b o _ h => s b o h, fun b h => s.free h⟩
theorem Kz.lst {a : Addr} {xs : List V} (k : Kz W H H') (h : H a = some (.lst xs)) : H' a = some (.lst xs) := k.at' a _ (fun _ e => nomatch e) h
theorem Kz.tup {a : Addr} {xs : List V} (k : Kz W H H') (h : H a = some (.tup xs)) : H' a = some (.tup xs) := k.at' a _ (fun _ e => nomatch e) h
theorem Kz.sh {t : Addr} {z o : Str} {hm : V} (k : Kz W H H') (h : Sh H t z o hm) : Sh H' t z o hm := k.tup h
theorem sameD {H H' : Hp} {D : Addr} {o : HO} (s : Same H H') (n : H D = none) : Same H (upd H' D o) := fun b x e => by
  rw [upd_ne (ne_of_none e n)]; exact s b x e
/-- a list that was new is changed -/
theorem Kz.upd {D : Addr} {xs ys : List V} (k : Kz W H H') (n : H D = none) (e : H' D = some (.lst xs)) : Kz W H (L2.upd H' D (.lst ys)) := by
  have st : ∀ c (o : HO), (∀ us, o ≠ .lst us) → H' c = some o → L2.upd H' D (.lst ys) c = some o := fun c o m z => by
    rw [upd_ne (ne_of z e (m _))]; exact z
  refine ⟨⟨fun P h => ?_, fun p h => ?_⟩, fun b o m z => ?_, fun b z => ?_⟩
  · obtain ⟨ps, h1, h2⟩ := k.tb.g P h
    exact ⟨ps, st _ _ (fun _ e => nomatch e) h1, h2⟩
  · obtain ⟨ps, h1, h2, h3⟩ := k.tb.l p h
    refine ⟨ps, st _ _ (fun _ e => nomatch e) h1, h2, fun pos cv hc => ?_⟩
    obtain ⟨c, e1, e2⟩ := h3 pos cv hc
    exact ⟨c, e1, st _ _ (fun us e => by unfold LamX.CodeO at e; cases e) e2⟩
  · rw [upd_ne (ne_of_none z n)]; exact k.at' b o m z
  · by_cases q : b = D
    · rw [q, upd_same] at z; cases z
    · rw [upd_ne q] at z; exact k.nn b z
theorem Kz.seqL {a : Addr} {K : PySem.W.Frag} {xs : List V} (k : Kz W H H') (h : SqL K H a xs) : SqL K H' a xs := by
  rcases h with (h | ⟨o, h⟩) | h
  · exact .inl (.inl (k.at' _ _ (fun ps e => nomatch e) h))
  · exact .inl (.inr ⟨o, k.at' _ _ (fun ps e => nomatch e) h⟩)
  · exact .inr h
theorem Kz.seqT {a : Addr} {K : PySem.W.Frag} {xs : List V} (k : Kz W H H') (h : SqT K H a xs) : SqT K H' a xs := by
  rcases h with (h | ⟨o, h⟩) | h
  · exact .inl (.inl (k.at' _ _ (fun ps e => nomatch e) h))
  · exact .inl (.inr ⟨o, k.at' _ _ (fun ps e => nomatch e) h⟩)
  · exact .inr h
theorem BoxAt.kz {b l : Addr} (x : BoxAt H b l) (k : Kz W H H') : BoxAt H' b l := by
  obtain ⟨ns, st, h1, h2⟩ := x
  exact ⟨ns, st, k.lst h1, k.lst h2⟩
theorem tab_kept {P P' : Addr} (t : GxR.TabG H P) (t' : GxR.TabG H P') (k : Kp P' H H') : GxR.TabG H' P := by
  by_cases e : P = P'
  · rw [e]; exact k.tab
  · exact tab_same t fun o h => k.at' P o e h
theorem tabS_kept {P P' : Addr} {q : Str} (t : LamX.TabS H P q) (t' : GxR.TabG H P') (ne : P ≠ P') (k : Kp P' H H') : LamX.TabS H' P q := by
  obtain ⟨ps, h1, h2, h3⟩ := t
  refine ⟨ps, k.at' _ _ ne h1, h2, fun pos cv hc => ?_⟩
  obtain ⟨c, e1, e2⟩ := h3 pos cv hc
  exact ⟨c, e1, k.get t' e2 fun ps => LamX.codeO_ne ps⟩
/-- a call that may have grown one generator's table -/
theorem Kz.kp {P : Addr} (t : Tb W H) (hP : P ∈ W.gs) (ne : ∀ p ∈ W.ls, p.1 ≠ P) (k : Kp P H H') : Kz W H H' :=
  ⟨⟨fun P' h => tab_kept (t.g P' h) (t.g P hP) k, fun p h => tabS_kept (t.l p h) (t.g P hP) (ne p h) k⟩, fun b o n h => k.get (t.g P hP) h n, fun b h => k.new (t.g P hP) h⟩
theorem Bxd.tb {b l : Addr} (x : Bxd b l H H') (bx : BoxAt H b l) (t : Tb W H) : Tb W H' := by
  refine ⟨fun P h => x.tab bx (t.g P h), fun p h => ?_⟩
  obtain ⟨ps, h1, h2, h3⟩ := t.l p h
  obtain ⟨ns, st, q1, q2⟩ := bx
  have st : ∀ c (o : HO), (∀ us, o ≠ .lst us) → H c = some o → H' c = some o := fun c o n e => x.at' c o (ne_of e q1 (n _)) (ne_of e q2 (n _)) e
  refine ⟨ps, st _ _ (fun _ e => nomatch e) h1, h2, fun pos cv hc => ?_⟩
  obtain ⟨c, e1, e2⟩ := h3 pos cv hc
  exact ⟨c, e1, st _ _ (fun us e => by unfold LamX.CodeO at e; cases e) e2⟩
theorem Al.mono {n : Nat} {x y : V} (k : ∀ a o, (∀ ps, o ≠ .tbl ps) → H a = some o → H' a = some o) (h : Al H n x y) : Al H' n x y := by
  induction h with
  | non n => exact .non n
  | bl n b => exact .bl n b
  | int n i => exact .int n i
  | str n s => exact .str n s
  | lst ha hb hl hz _ ih => exact .lst (k _ _ (fun _ e => nomatch e) ha) (k _ _ (fun _ e => nomatch e) hb) hl hz ih
  | tup ha hb hl hz _ ih => exact .tup (k _ _ (fun _ e => nomatch e) ha) (k _ _ (fun _ e => nomatch e) hb) hl hz ih
end
end Kt
namespace Kt
open PySem PySem.Spec PyProof.Rows L2
/-! ### zip(s, t), two texts -/
def ItzS (x y : Str) : It :=
  ⟨fun i _ => i < x.cps.size ∧ i < y.cps.size, fun i H v H' => ∃ T c d, v = .ref T ∧ H T = none ∧ H' = upd H T (.tup [.str (sg c), .str (sg d)]) ∧ x.cps[i]? = some c ∧ y.cps[i]? = some d, fun i _ => x.cps.size ≤ i ∨ y.cps.size ≤ i⟩
theorem turn_zipS {P : Program} {w : World} {K : PySem.W.Frag} {elts : List Expr} {kk : Nat} {tpos : Pos} (x y : Str) (t u : Tok) {z TI TO i1 i2 : Addr} (S : ZipSep2 z TI TO i1 i2 [i1] [i2]) :
    Turn P w K (.Tuple elts kk tpos) (ItzS x y) [z, TI, TO, i1, i2] z (fun i h => IsZip h z TI TO .none ∧ IsTupOf2 h TI (.ref i1) (.ref i2) ∧ (∃ a b, IsTupOf2 h TO a b) ∧ h.IsStrIter i1 (strIterType x) x t i ∧ h.IsStrIter i2 (strIterType y) y u i ∧ i ≤ x.cps.size ∧ i ≤ y.cps.size) where
  mem := by simp
  obj := fun i h st c hc => by
    obtain ⟨hz, hTI, ⟨a, b, hTO⟩, ⟨o1, e1, _, d1⟩, ⟨o2, e2, _, d2⟩, _⟩ := st
    have e' : c = z ∨ c = TI ∨ c = TO ∨ c = i1 ∨ c = i2 := by simpa using hc
    rcases e' with q | q | q | q | q
    · rw [q]; exact ⟨_, hz, fun v q => nomatch q⟩
    · rw [q]; exact ⟨_, hTI, fun v q => nomatch q⟩
    · rw [q]; exact ⟨_, hTO, fun v q => nomatch q⟩
    · rw [q]; exact ⟨o1, e1, fun v q => by rw [d1] at q; cases q⟩
    · rw [q]; exact ⟨o2, e2, fun v q => by rw [d2] at q; cases q⟩
  keep := fun i h h' st k => by
    obtain ⟨hz, hTI, ⟨a, b, hTO⟩, ⟨o1, e1, r1⟩, ⟨o2, e2, r2⟩, hl⟩ := st
    exact ⟨k z (by simp) _ hz, k TI (by simp) _ hTI, ⟨a, b, k TO (by simp) _ hTO⟩, ⟨o1, k i1 (by simp) _ e1, r1⟩, ⟨o2, k i2 (by simp) _ e2, r2⟩, hl⟩
  item := by
    intro X hP hw hK hc i pins s σ H E I hf st hg
    subst hP hw hK
    obtain ⟨hz, hTI, ⟨a, b, hTO⟩, h1, h2, _, _⟩ := st
    obtain ⟨g1, g2⟩ := hg
    have hzl : z < s.heap.objs.size := Heap.lt_size hz
    refine wpAny_pyNext_zipD2_item S (Draws.text (A := X.A.in1) (I.ok.hd hc) i1 x t) (Draws.text (A := X.A.in1) (I.ok.hd hc) i2 y u) hz hTI hTO h1 h2 g1 g2 fun x1 x2 h' tk p1 p2 z' TO' h1' h2' hT hsz hk => ?_
    obtain ⟨c, k1, hc1, rfl⟩ := p1
    obtain ⟨d, k2, hd1, rfl⟩ := p2
    refine ⟨_, rfl, wpAny_letOwnedTupleGo_zip (s := { s with heap := h', toks := tk }) z' fun h'' z'' sb => ?_⟩
    have hT2 : h''.get? s.heap.objs.size = some { cls := .type "tuple", data := .seq #[.str ⟨#[c]⟩ k1, .str ⟨#[d]⟩ k2] } := (sb.2 _ (Nat.ne_of_gt hzl)).trans hT
    have new : ObjOk X.prog X.w (upd H s.heap.objs.size (.tup [.str (sg c), .str (sg d)])) h'' s.heap.objs.size (.tup [.str (sg c), .str (sg d)]) :=
      ⟨by show 2 ≤ sizeLine; decide, [.str ⟨#[c]⟩ k1, .str ⟨#[d]⟩ k2], .cons ⟨_, rfl⟩ (.cons ⟨_, rfl⟩ .nil), ⟨_, hT2, rfl, _, rfl⟩⟩
    have I1 : Inv X pins σ (upd H s.heap.objs.size (.tup [.str (sg c), .str (sg d)])) { s with heap := h'', toks := tk } :=
      I.turnedNew (t' := tk) (ch := [z, TI, TO, i1, i2]) (fun c o hb q => (sb.2 c (fun q' => hb (by simp [q']))).trans (hk c o (fun q' => hb (by simp [q'])) (fun q' => hb (by simp [q'])) (fun q' => hb (by simp [q'])) (fun q' => hb (by simp [q'])) q)) hf (Nat.le_refl _) new
    refine ⟨.ref s.heap.objs.size, _, I1, rfl, ⟨_, c, d, rfl, I.hok.fresh (Nat.le_refl _), rfl, hc1, hd1⟩, ⟨z'', ?_, ⟨.str ⟨#[c]⟩ k1, .str ⟨#[d]⟩ k2, ?_⟩, ?_, ?_, g1, g2⟩, fun c hcm => ?_⟩
    · exact (sb.2 _ S.TIz).trans (hk _ _ S.TIz S.TITO S.TIi1 S.TIi2 hTI)
    · exact (sb.2 _ S.TOz).trans TO'
    · obtain ⟨o, q, r⟩ := h1'
      exact ⟨o, (sb.2 _ S.zi1.symm).trans q, r⟩
    · obtain ⟨o, q, r⟩ := h2'
      exact ⟨o, (sb.2 _ S.zi2.symm).trans q, r⟩
    · have hlt : c < s.heap.objs.size := by
        have e' : c = z ∨ c = TI ∨ c = TO ∨ c = i1 ∨ c = i2 := by simpa using hcm
        rcases e' with q | q | q | q | q
        · rw [q]; exact hzl
        · rw [q]; exact Heap.lt_size hTI
        · rw [q]; exact Heap.lt_size hTO
        · rw [q]; obtain ⟨_, e1, _⟩ := h1; exact Heap.lt_size e1
        · rw [q]; obtain ⟨_, e2, _⟩ := h2; exact Heap.lt_size e2
      rw [upd_ne (Nat.ne_of_lt hlt)]
      exact (hf c hcm).1
  done := by
    intro X hP hw hK hc i pins s σ H E I hf st hg
    subst hP hw hK
    obtain ⟨hz, hTI, ⟨a, b, hTO⟩, h1, h2, l1, l2⟩ := st
    have hend : i = x.cps.size ∨ i = y.cps.size := by
      rcases hg with q | q
      · exact .inl (Nat.le_antisymm l1 q)
      · exact .inr (Nat.le_antisymm l2 q)
    exact wpAny_pyNext_zipD2_end S (Draws.text (A := X.A.in1) (I.ok.hd hc) i1 x t) (Draws.text (A := X.A.in1) (I.ok.hd hc) i2 y u) hz hTI hTO h1 h2 l1 l2 hend fun h' tk hk => ⟨rfl, I.turnedL (t' := tk) (ch := [z, TI, TO, i1, i2]) (fun c o hb q =>
      hk c o (fun q' => hb (by simp [q'])) (fun q' => hb (by simp [q'])) (fun q' => hb (by simp [q'])) (fun q' => hb (by simp [q'])) q) hf⟩
  self := fun A i s Q E st h => wpAny_pyIter_zip st.1 h
def iZipS (ta : TA) : TI := fun σ H R => ta σ H fun vs H1 => ∃ x y : Str, vs = [.str x, .str y] ∧ R (ItzS x y) H1
theorem pi_zipS {X : Cx} {e e2 : Expr} {ta : TA} {p pos tpos : Pos} {elts : List Expr} {kk : Nat} (hg : Gl X "zip") (hm : X.mg "zip" = none) (ha : PA X [e, e2] ta)
    (hs : starEach [e, e2] X.env = (false, eval e X.env) :: starEach [e2] X.env := by rfl) (hpl : (backTo pos (starEach [e2] X.env)).any (·.1) = false := by rfl) :
    PI X (.Tuple elts kk tpos) (.Call (.Name "zip" p) [e, e2] [] pos) (iZipS ta) := by
  refine ⟨fun pins s σ H R I h => ?_⟩
  refine Call_ (ld_blt I hg hm PyProof.Rows.boot_zip (PyProof.Rows.callWith_type1 (thn (ha.run pos pins s σ H _ I h) fun us s1 ⟨vs, H1, I1, r1, q1⟩ => ?_) hs hpl))
  obtain ⟨x, y, ex, q⟩ := q1
  subst ex
  cases r1 with
  | cons r rr =>
    cases rr with
    | cons r' rr =>
      cases rr
      obtain ⟨t, rfl⟩ := r
      obtain ⟨u, rfl⟩ := r'
      refine zip_begins2 (begins_text x t) (begins_text y u) trivial trivial fun h' hz hTI hTO h1 h2 hsz hk => wpAny_pyIter_zip hz ?_
      have I2 : Inv X pins σ H1 { s1 with heap := h' } := I1.kept (t' := s1.toks) hk
      refine ⟨s1.heap.objs.size + 4, [s1.heap.objs.size + 4, s1.heap.objs.size + 2, s1.heap.objs.size + 3, s1.heap.objs.size, s1.heap.objs.size + 1], _, _, H1, rfl, I2, turn_zipS x y t u (zip_sep2 (N := s1.heap.objs.size) (fp1 := []) (fp2 := []) (fun b h => nomatch h) (fun b h => nomatch h)),
        ⟨hz, hTI, ⟨_, _, hTO⟩, ⟨_, h1, rfl, rfl⟩, ⟨_, h2, rfl, rfl⟩, Nat.zero_le _, Nat.zero_le _⟩, fun c hcm => ?_, q⟩
      have e' : c = s1.heap.objs.size + 4 ∨ c = s1.heap.objs.size + 2 ∨ c = s1.heap.objs.size + 3 ∨ c = s1.heap.objs.size ∨ c = s1.heap.objs.size + 1 := by simpa using hcm
      have hle : s1.heap.objs.size ≤ c := by
        rcases e' with z | z | z | z | z
        · rw [z]; exact Nat.le_add_right _ _
        · rw [z]; exact Nat.le_add_right _ _
        · rw [z]; exact Nat.le_add_right _ _
        · rw [z]; exact Nat.le_refl _
        · rw [z]; exact Nat.le_add_right _ _
      exact I1.fpOk hle (I1.hok.fresh hle)
end Kt
namespace Kt
open PySem PySem.Spec PyProof.Rows L2
/-! ### comprehensions over enumerate and zip -/
theorem lc_enum {K : PySem.W.Frag} {a : Addr} {xs : List V} {g : TG} {tt : TT} {te : TE} {vs : List Nat} {σ : L2.St} {H1 : Hp} {D : Addr} {Qd : Hp → Prop} (Pv : Nat → Hp → Prop) (h0 : Pv 0 (upd H1 D (.lst []))) (hl : ∀ i H, i ≤ xs.length → Pv i H → SqL K H a xs)
    (hs : ∀ (i : Nat) (x : V) (T : Addr) (H : Hp), xs[i]? = some x → Pv i H → H T = none → g (.ref T) (wipe σ vs) (upd H T (.tup [.int (i : Nat), x])) fun σ2 H2 => wipe σ2 vs = wipe σ vs ∧ tt σ2 H2 fun b H3 =>
      if b = true then te σ2 H3 fun y H4 => ∃ acc, H4 D = some (.lst acc) ∧ acc.length < sizeLine ∧ Pv (i + 1) (upd H4 D (.lst (acc ++ [y]))) else Pv (i + 1) H3) (hd : ∀ H, Pv xs.length H → Qd H) :
    ∃ W : Nat → Nat → Hp → Prop, (∃ m, W 0 m (upd H1 D (.lst []))) ∧ ∀ i m H, W i m H →
      ((Ite K a).stop i H ∧ Qd H) ∨ ((Ite K a).go i H ∧ ∃ Nx : Hp → Prop, (∀ H', Nx H' → ∃ m', m' < m ∧ W (i + 1) m' H') ∧ ∀ x H', (Ite K a).yld i H x H' → g x (wipe σ vs) H' fun σ2 H2 => wipe σ2 vs = wipe σ vs ∧ tt σ2 H2 fun b H3 =>
        if b = true then te σ2 H3 fun y H4 => ∃ acc, H4 D = some (.lst acc) ∧ acc.length < sizeLine ∧ Nx (upd H4 D (.lst (acc ++ [y]))) else Nx H3) := by
  refine ⟨fun i m H => m = xs.length - i ∧ i ≤ xs.length ∧ Pv i H, ⟨xs.length, by simp, Nat.zero_le _, h0⟩, ?_⟩
  rintro i m H ⟨rfl, hi, p⟩
  have hS := hl i H hi p
  by_cases hlt : i < xs.length
  · refine .inr ⟨⟨xs, xs[i], hS, List.getElem?_eq_getElem hlt⟩, Pv (i + 1), fun H' p' => ⟨xs.length - (i + 1), by omega, rfl, hlt, p'⟩, fun v H' hy => ?_⟩
    obtain ⟨T, x2, rfl, nT, rfl, f⟩ := hy
    exact hs i x2 T H (f xs hS) p nT
  · obtain rfl : i = xs.length := by omega
    exact .inl ⟨⟨xs, hS, Nat.le_refl _⟩, hd H p⟩
theorem lc_zipS {x y : Str} {g : TG} {tt : TT} {te : TE} {vs : List Nat} {σ : L2.St} {H1 : Hp} {D : Addr} {Qd : Hp → Prop} (hxy : x.cps.size = y.cps.size) (Pv : Nat → Hp → Prop) (h0 : Pv 0 (upd H1 D (.lst [])))
    (hs : ∀ (i c d : Nat) (T : Addr) (H : Hp), x.cps.toList[i]? = some c → y.cps.toList[i]? = some d → Pv i H → H T = none → g (.ref T) (wipe σ vs) (upd H T (.tup [.str (sg c), .str (sg d)])) fun σ2 H2 => wipe σ2 vs = wipe σ vs ∧ tt σ2 H2 fun b H3 =>
      if b = true then te σ2 H3 fun y H4 => ∃ acc, H4 D = some (.lst acc) ∧ acc.length < sizeLine ∧ Pv (i + 1) (upd H4 D (.lst (acc ++ [y]))) else Pv (i + 1) H3) (hd : ∀ H, Pv x.cps.size H → Qd H) :
    ∃ W : Nat → Nat → Hp → Prop, (∃ m, W 0 m (upd H1 D (.lst []))) ∧ ∀ i m H, W i m H →
      ((ItzS x y).stop i H ∧ Qd H) ∨ ((ItzS x y).go i H ∧ ∃ Nx : Hp → Prop, (∀ H', Nx H' → ∃ m', m' < m ∧ W (i + 1) m' H') ∧ ∀ v H', (ItzS x y).yld i H v H' → g v (wipe σ vs) H' fun σ2 H2 => wipe σ2 vs = wipe σ vs ∧ tt σ2 H2 fun b H3 =>
        if b = true then te σ2 H3 fun y H4 => ∃ acc, H4 D = some (.lst acc) ∧ acc.length < sizeLine ∧ Nx (upd H4 D (.lst (acc ++ [y]))) else Nx H3) := by
  refine ⟨fun i m H => m = x.cps.size - i ∧ i ≤ x.cps.size ∧ Pv i H, ⟨x.cps.size, by simp, Nat.zero_le _, h0⟩, ?_⟩
  rintro i m H ⟨rfl, hi, p⟩
  by_cases hlt : i < x.cps.size
  · refine .inr ⟨⟨hlt, by omega⟩, Pv (i + 1), fun H' p' => ⟨x.cps.size - (i + 1), by omega, rfl, hlt, p'⟩, fun v H' hy => ?_⟩
    obtain ⟨T, c, d, rfl, nT, rfl, e1, e2⟩ := hy
    exact hs i c d T H (by rw [Array.getElem?_toList]; exact e1) (by rw [Array.getElem?_toList]; exact e2) p nT
  · obtain rfl : i = x.cps.size := by omega
    exact .inl ⟨Or.inl (Nat.le_refl _), hd H p⟩
/-! ### lost shifts -/
/-- the places of all shift codes -/
def plc (n : Nat) (cs : List Int) : List Nat := (List.range cs.length).filter fun i => decide ((n : Int) ≤ cs.getD i 0)
def plcV (n : Nat) (cs : List Int) (k : Nat) : List Nat := (List.range k).filter fun i => decide ((n : Int) ≤ cs.getD i 0)
theorem plcV_all (n : Nat) (cs : List Int) : plcV n cs cs.length = plc n cs := rfl
theorem plcV_succ (n : Nat) (cs : List Int) (k : Nat) : plcV n cs (k + 1) = plcV n cs k ++ if (n : Int) ≤ cs.getD k 0 then [k] else [] := by
  unfold plcV
  rw [List.range_succ, List.filter_append]
  congr 1
  by_cases h : (n : Int) ≤ cs.getD k 0
  · rw [if_pos h]; simp only [List.filter_cons, List.filter_nil, decide_eq_true h]; rfl
  · rw [if_neg h]; simp only [List.filter_cons, List.filter_nil, decide_eq_false h]; rfl
theorem plcV_le (n : Nat) (cs : List Int) (k : Nat) : (plcV n cs k).length ≤ k := by
  unfold plcV
  exact Nat.le_trans (List.length_filter_le _ _) (by rw [List.length_range]; exact Nat.le_refl _)
theorem plc_lt {n : Nat} {cs : List Int} {i : Nat} (h : i ∈ plc n cs) : i < cs.length ∧ (n : Int) ≤ cs.getD i 0 := by
  unfold plc at h
  obtain ⟨h1, h2⟩ := List.mem_filter.mp h
  exact ⟨List.mem_range.mp h1, of_decide_eq_true h2⟩
def inZ (l : List Nat) : List V := l.map fun k => V.int ((k : Nat) : Int)
theorem inZ_at {l : List Nat} {i k : Nat} (h : l[i]? = some k) : (inZ l)[i]? = some (.int ((k : Nat) : Int)) := map_at h
/-- the tape without the code at a place -/
def cutAt (cs : List Int) (i : Nat) : List Int := cs.take i ++ cs.drop (i + 1)
theorem cut_lo (cs : List Int) (i : Nat) (h : i ≤ cs.length) : cutV (cs.map V.int) none (some ((i : Nat) : Int)) = (cs.take i).map V.int := by
  unfold cutV
  rw [HT.sIx_none, HT.sIx_nat, List.length_map, List.drop_zero, Nat.sub_zero, Nat.min_eq_left h, List.map_take]
theorem cut_hi (cs : List Int) (i : Nat) (h : i ≤ cs.length) : cutV (cs.map V.int) (some ((i : Nat) : Int)) none = (cs.drop i).map V.int := by
  unfold cutV
  rw [HT.sIx_none, HT.sIx_nat, List.length_map, Nat.min_eq_left h, List.map_drop, List.take_of_length_le]
  rw [List.length_drop, List.length_map]
  exact Nat.le_refl _
theorem cutAt_codes {n : Nat} {cs : List Int} (h : Codes n cs) (i : Nat) : Codes n (cutAt cs i) := fun c hc => by
  rcases List.mem_append.mp hc with m | m
  · exact h c (List.mem_of_mem_take m)
  · exact h c (List.mem_of_mem_drop m)
theorem cutAt_len (cs : List Int) (i : Nat) : (cutAt cs i).length ≤ cs.length := by
  unfold cutAt
  rw [List.length_append, List.length_take, List.length_drop]; omega
/-- how many signs a tape has -/
def signN (n : Nat) (cs : List Int) : Nat := (cs.filter fun c => decide (c < (n : Int))).length
theorem rd_size (z o : Str) (hm : V) (cs : List Int) (b : Int) : (rd z o hm cs b).1.cps.size = signN z.cps.size cs := by
  suffices h : ∀ (cs : List Int) (s : Str × Int), (cs.foldl (rdStep z o hm) s).1.cps.size = s.1.cps.size + signN z.cps.size cs by
    have e : (Str.ofString "").cps.size = 0 := by decide +kernel
    have := h cs (Str.ofString "", b)
    unfold rd
    rw [this, e, Nat.zero_add]
  intro cs
  induction cs with
  | nil => intro s; rfl
  | cons c cs ih =>
    intro s
    rw [List.foldl_cons, ih]
    unfold signN rdStep
    by_cases h : (z.cps.size : Int) ≤ c
    · rw [if_pos h, List.filter_cons_of_neg (by simpa using h)]
    · rw [if_neg h, List.filter_cons_of_pos (by simp; omega)]
      rw [Str.cps_append, Array.size_append]
      simp [sg]; omega
theorem cutAt_sign {n : Nat} {cs : List Int} {i : Nat} (h1 : i < cs.length) (h2 : (n : Int) ≤ cs.getD i 0) : signN n (cutAt cs i) = signN n cs := by
  have e : cs = cs.take i ++ cs[i] :: cs.drop (i + 1) := by
    rw [← List.drop_eq_getElem_cons h1, List.take_append_drop]
  have e2 : cs.getD i 0 = cs[i] := by simp [List.getD_eq_getElem?_getD, h1]
  rw [e2] at h2
  unfold signN cutAt
  conv => rhs; rw [e]
  rw [List.filter_append, List.filter_append, List.filter_cons_of_neg (by simpa using h2)]
/-- the text without the code at a place -/
def wo (z o : Str) (hm : V) (cs : List Int) (b : Int) (i : Nat) : Str := (rd z o hm (cutAt cs i) b).1
theorem wo_size {z o : Str} {hm : V} {cs : List Int} {b : Int} {i : Nat} (h : i ∈ plc z.cps.size cs) : (wo z o hm cs b i).cps.size = (rd z o hm cs b).1.cps.size := by
  unfold wo
  rw [rd_size, rd_size, cutAt_sign (plc_lt h).1 (plc_lt h).2]
/-- at how many places two texts are unlike -/
def unlikeV (x y : Str) (k : Nat) : Nat := ((List.range k).filter fun i => decide (x.cps.toList.getD i 0 ≠ y.cps.toList.getD i 0)).length
def unlike (x y : Str) : Nat := unlikeV x y x.cps.size
theorem unlikeV_succ (x y : Str) (k : Nat) : unlikeV x y (k + 1) = unlikeV x y k + if x.cps.toList.getD k 0 ≠ y.cps.toList.getD k 0 then 1 else 0 := by
  unfold unlikeV
  rw [List.range_succ, List.filter_append, List.length_append]
  congr 1
  by_cases h : x.cps.toList.getD k 0 ≠ y.cps.toList.getD k 0
  · rw [if_pos h, List.filter_cons_of_pos (by exact decide_eq_true h)]; rfl
  · rw [if_neg h, List.filter_cons_of_neg (by simpa using h)]; rfl
theorem unlikeV_le (x y : Str) (k : Nat) : unlikeV x y k ≤ k := by
  unfold unlikeV
  exact Nat.le_trans (List.length_filter_le _ _) (by rw [List.length_range]; exact Nat.le_refl _)
/-- pairs that stand as tuples -/
def Prs (H : Hp) : List Addr → List (Int × Int) → Prop
  | [], [] => True
  | a :: as, p :: L => H a = some (.tup [.int p.1, .int p.2]) ∧ Prs H as L
  | _, _ => False
theorem Prs.mono {H H' : Hp} (k : ∀ a xs, H a = some (.tup xs) → H' a = some (.tup xs)) : ∀ {as : List Addr} {L : List (Int × Int)}, Prs H as L → Prs H' as L
  | [], [], _ => trivial
  | a :: as, u :: L, h => ⟨k _ _ h.1, Prs.mono k h.2⟩
  | [], _ :: _, h => h.elim
  | _ :: _, [], h => h.elim
theorem Prs.len {H : Hp} : ∀ {as : List Addr} {L : List (Int × Int)}, Prs H as L → as.length = L.length
  | [], [], _ => rfl
  | a :: as, u :: L, h => congrArg (· + 1) (Prs.len h.2)
  | [], _ :: _, h => h.elim
  | _ :: _, [], h => h.elim
theorem Prs.app {H : Hp} : ∀ {as bs : List Addr} {L M : List (Int × Int)}, Prs H as L → Prs H bs M → Prs H (as ++ bs) (L ++ M)
  | [], _, [], _, _, g => g
  | a :: as, _, u :: L, _, h, g => ⟨h.1, Prs.app h.2 g⟩
  | [], _, _ :: _, _, h, _ => h.elim
  | _ :: _, _, [], _, h, _ => h.elim
theorem Prs.get {H : Hp} : ∀ {as : List Addr} {L : List (Int × Int)}, Prs H as L → ∀ {i : Nat} {a : Addr}, as[i]? = some a → ∃ p, L[i]? = some p ∧ H a = some (.tup [.int p.1, .int p.2])
  | [], [], _, i, a, e => by simp at e
  | b :: as, u :: L, h, 0, a, e => by
    simp at e; subst e
    exact ⟨u, rfl, h.1⟩
  | b :: as, u :: L, h, i + 1, a, e => by
    obtain ⟨v, e1, e2⟩ := Prs.get h.2 (i := i) (a := a) (by simpa using e)
    exact ⟨v, by simpa using e1, e2⟩
  | [], _ :: _, h, _, _, _ => h.elim
  | _ :: _, [], h, _, _, _ => h.elim
theorem atI_0 {l : List Nat} {j : Nat} (h : j < l.length) : atI l (0 + (j : Int)) = some (l.getD j 0) := by
  rw [Int.zero_add]
  exact atI_nat (j := j) (by rw [List.getD_eq_getElem?_getD, List.getElem?_eq_getElem h]; rfl)
theorem cut_read {K : PySem.W.Frag} {σ : L2.St} {H : Hp} {i j : Nat} {D : Addr} {cs : List Int} {k : Nat} {Q : VK} (h1 : σ[i]? = some (some (.ref D))) (h2 : σ[j]? = some (some (.int ((k : Nat) : Int)))) (hS : SqL K H D (cs.map V.int)) (hk : k < cs.length) (hl : cs.length ≤ 1000)
    (q : ∀ p H', Same H H' → H p = none → H' p = some (.lst ((cutAt cs k).map V.int)) → Q (.ref p) H') :
    tOp rCat (tSl (rSlL K) (tVar i) tNoPart (tPart (tVar j))) (tSl (rSlL K) (tVar i) (tPart (tOp (rI0 fun i j => V.int (i + j)) (tVar j) (tC (.int 1)))) tNoPart) σ H Q := by
  refine ⟨.ref D, h1, .int (k : Nat), h2, (k : Nat), rfl, D, _, rfl, hS, fun p1 n1 => ?_⟩
  have s1 := same_new (o := HO.lst (cutV (cs.map V.int) none (some (k : Nat)))) n1
  refine ⟨.ref D, h1, .int (k : Nat), h2, (k : Nat), 1, rfl, rfl, _, rfl, D, _, rfl, s1.seq hS, fun p2 n2 => ?_⟩
  have s2 := s1.trans (same_new (o := HO.lst (cutV (cs.map V.int) (some ((k : Nat) + 1)) none)) n2)
  have e1 := cut_lo cs k (by omega)
  have e2 := cut_hi cs (k + 1) (by omega)
  refine ⟨p1, p2, _, _, rfl, rfl, same_new n2 _ _ upd_same, upd_same, Nat.le_trans (Nat.add_le_add (cutV_length _ _ _) (cutV_length _ _ _)) (by rw [List.length_map]; exact Nat.le_trans (Nat.add_le_add hl hl) (by decide)), fun p3 n3 => ?_⟩
  refine q p3 _ (s2.trans (same_new n3)) (s2.free n3) ?_
  rw [upd_same, e1]
  unfold cutAt
  rw [List.map_append, ← e2]
  rfl
theorem BoxAt.fresh {H : Hp} {b l p : Addr} (bx : BoxAt H b l) (n : H p = none) : p ≠ b ∧ p ≠ l := by
  obtain ⟨ns, st, h1, h2⟩ := bx
  exact ⟨(ne_of_none h1 n).symm, (ne_of_none h2 n).symm⟩
def unl (x y : Str) (k : Nat) : List Nat := (List.range k).filter fun i => decide (x.cps.toList.getD i 0 ≠ y.cps.toList.getD i 0)
theorem unl_succ (x y : Str) (k : Nat) : unl x y (k + 1) = unl x y k ++ if x.cps.toList.getD k 0 ≠ y.cps.toList.getD k 0 then [k] else [] := by
  unfold unl
  rw [List.range_succ, List.filter_append]
  congr 1
  by_cases h : x.cps.toList.getD k 0 ≠ y.cps.toList.getD k 0
  · rw [if_pos h, List.filter_cons_of_pos (by exact decide_eq_true h)]; rfl
  · rw [if_neg h, List.filter_cons_of_neg (by simpa using h)]; rfl
theorem unl_len (x y : Str) (k : Nat) : (unl x y k).length = unlikeV x y k := rfl
theorem filt_succ {α : Type} {l : List α} {i : Nat} {k : α} (p : α → Bool) (hk : l[i]? = some k) : (l.take (i + 1)).filter p = (l.take i).filter p ++ if p k = true then [k] else [] := by
  rw [List.take_add_one, hk, List.filter_append]
  congr 1
  by_cases e : p k = true
  · rw [if_pos e]; exact List.filter_cons_of_pos e
  · rw [if_neg e]; exact List.filter_cons_of_neg e
def prD (p : Int × Int) : PyData := .tuple [.int p.1, .int p.2]
theorem canLay_prs : ∀ L : List (Int × Int), PyData.canLayAll0 (L.map prD) = true
  | [] => by simp [PyData.canLayAll0]
  | p :: r => by simp [PyData.canLayAll0, PyData.canLay0, prD, canLay_prs r]
theorem depth_prs : ∀ L : List (Int × Int), PyData.depthAll (L.map prD) ≤ 1
  | [] => by simp [PyData.depthAll]
  | p :: r => by
    have := depth_prs r
    simp only [List.map_cons, PyData.depthAll, PyData.depth, prD]
    omega
theorem shaped_prs (L : List (Int × Int)) : SeqAt.shaped (.list (L.map prD)) = true := by
  have h1 := depth_prs L
  have h2 : PyData.depth (.list (L.map prD)) ≤ 64 := by simp only [PyData.depth]; omega
  show (PyData.canLay0 (.list (L.map prD)) && decide (PyData.depth (.list (L.map prD)) ≤ 64)) = true
  rw [Bool.and_eq_true]
  exact ⟨by simp only [PyData.canLay0]; exact canLay_prs L, decide_eq_true h2⟩
theorem eqv_none : ∀ L : List (Int × Int), PyData.eqv (.list (L.map prD)) (.list []) = L.isEmpty
  | [] => by simp [PyData.eqv, PyData.eqvAll]
  | p :: r => by simp [PyData.eqv, PyData.eqvAll]
theorem Prs.dp {K : PySem.W.Frag} {H : Hp} : ∀ {as : List Addr} {L : List (Int × Int)}, Prs H as L → DpAll K H (as.map V.ref) (L.map prD)
  | [], [], _ => .nil
  | a :: as, p :: L, h => .cons (.tup (SqT.of h.1) (.cons (.int _) (.cons (.int _) .nil))) (Prs.dp h.2)
  | [], _ :: _, h => h.elim
  | _ :: _, [], h => h.elim
theorem Prs.al {H : Hp} {as bs : List Addr} {L : List (Int × Int)} {a b : Addr} (ha : H a = some (.lst (as.map V.ref))) (hb : H b = some (.lst (bs.map V.ref))) (pa : Prs H as L) (pb : Prs H bs L) (hl : L.length ≤ 1000) : Al H 2 (.ref a) (.ref b) := by
  have l1 := pa.len
  have l2 := pb.len
  refine .lst ha hb (by rw [List.length_map, List.length_map, l1, l2]) (by rw [List.length_map, l1]; exact hl) fun i x y h1 h2 => ?_
  obtain ⟨u, hu, rfl⟩ := at_map h1
  obtain ⟨v, hv, rfl⟩ := at_map h2
  obtain ⟨p, hp, eu⟩ := pa.get hu
  obtain ⟨p', hp', ev⟩ := pb.get hv
  rw [hp] at hp'
  cases hp'
  refine .tup eu ev rfl (by show 2 ≤ 1000; decide) fun j x y e1 e2 => ?_
  match j, e1, e2 with
  | 0, e1, e2 => cases e1; cases e2; exact .int _ _
  | 1, e1, e2 => cases e1; cases e2; exact .int _ _
  | j + 2, e1, e2 => simp at e1
theorem inZ_al {H : Hp} {l : List Nat} {n : Nat} {a b : Addr} (ha : H a = some (.lst (inZ l))) (hb : H b = some (.lst (inZ l))) (hl : l.length ≤ 1000) : Al H (n + 1) (.ref a) (.ref b) := by
  refine .lst ha hb rfl (by unfold inZ; rw [List.length_map]; exact hl) fun i x y h1 h2 => ?_
  obtain ⟨u, hu, rfl⟩ := at_map h1
  rw [h1] at h2
  cases h2
  exact .int _ _
/-- what is told spoilt -/
def lossOf (z o : Str) (hm : V) (cs : List Int) (b : Int) (i : Nat) : Int × Int := (((i : Nat) : Int), ((unlike (rd z o hm cs b).1 (wo z o hm cs b i) : Nat) : Int))
def losses (z o : Str) (hm : V) (cs : List Int) (b : Int) : List (Int × Int) := (plc z.cps.size cs).map (lossOf z o hm cs b)
def lostAt (z o : Str) (hm : V) (cs : List Int) (b : Int) (x : Str) : List Nat := (plc z.cps.size cs).filter fun i => decide (wo z o hm cs b i = x)
def kept (z o : Str) (hm : V) (cs : List Int) (b : Int) (most : Int) : Bool := (losses z o hm cs b).all fun p => decide (p.2 ≤ most)
theorem losses_len (z o : Str) (hm : V) (cs : List Int) (b : Int) : (losses z o hm cs b).length ≤ cs.length := by
  unfold losses
  rw [List.length_map]
  exact plcV_le z.cps.size cs cs.length
/-! ### the promises -/
def spPlaces (K : PySem.W.Frag) : Sp := fun vs H Q _ => ∃ (t a : Addr) (z o : Str) (hm : V) (cs : List Int), vs = [.ref t, .ref a] ∧ Good z o hm ∧ Sh H t z o hm ∧ SqL K H a (cs.map V.int) ∧ cs.length ≤ 1000 ∧
  ∀ p H', Same H H' → H p = none → H' p = some (.lst (inZ (plc z.cps.size cs))) → Q (.ref p) H'
def spWo (K : PySem.W.Frag) : Sp := fun vs H Q _ => ∃ (t a : Addr) (z o : Str) (hm : V) (cs : List Int) (b : Int) (i : Nat), vs = [.ref t, .ref a, .int b, .int (i : Nat)] ∧ Good z o hm ∧ Sh H t z o hm ∧ SqL K H a (cs.map V.int) ∧ Codes z.cps.size cs ∧ cs.length ≤ 100 ∧ Is01 b ∧ i < cs.length ∧
  ∀ H', Same H H' → Q (.str (wo z o hm cs b i)) H'
def spUnlike : Sp := fun vs H Q _ => ∃ x y : Str, vs = [.str x, .str y] ∧ x.cps.size = y.cps.size ∧ x.cps.size ≤ 1000 ∧ ∀ H', Same H H' → Q (.int ((unlike x y : Nat) : Int)) H'
def spSpoilt (K : PySem.W.Frag) (P : Addr) : Sp := fun vs H Q _ => ∃ (t a : Addr) (z o : Str) (hm : V) (cs : List Int) (b : Int), vs = [.ref t, .ref a, .int b] ∧ Good z o hm ∧ Sh H t z o hm ∧ SqL K H a (cs.map V.int) ∧ Codes z.cps.size cs ∧ cs.length ≤ 100 ∧ Is01 b ∧ GxR.TabG H P ∧
  ∀ p as H', Kp P H H' → H p = none → H' p = some (.lst (as.map V.ref)) → Prs H' as (losses z o hm cs b) → (∀ a ∈ as, H a = none) → Q (.ref p) H'
def spLostAt (K : PySem.W.Frag) (P : Addr) : Sp := fun vs H Q _ => ∃ (t a : Addr) (z o : Str) (hm : V) (cs : List Int) (b : Int) (x : Str), vs = [.ref t, .ref a, .int b, .str x] ∧ Good z o hm ∧ Sh H t z o hm ∧ SqL K H a (cs.map V.int) ∧ Codes z.cps.size cs ∧ cs.length ≤ 100 ∧ Is01 b ∧ GxR.TabG H P ∧
  ∀ p H', Kp P H H' → H p = none → H' p = some (.lst (inZ (lostAt z o hm cs b x))) → Q (.ref p) H'
def spCount : Sp := fun vs H Q _ => ∃ m n : Int, vs = [.int m, .int n] ∧ 0 ≤ m ∧ m ≤ n ∧ Q .non H
def spIsGuarded (K : PySem.W.Frag) (P : Addr) : Sp := fun vs H Q _ => ∃ (t a : Addr) (z o : Str) (hm : V) (cs : List Int) (b m : Int), vs = [.ref t, .ref a, .int b, .int m] ∧ Good z o hm ∧ Sh H t z o hm ∧ SqL K H a (cs.map V.int) ∧ Codes z.cps.size cs ∧ cs.length ≤ 100 ∧ Is01 b ∧ 0 ≤ m ∧ m ≤ 32 ∧ GxR.TabG H P ∧
  ∀ H', Kp P H H' → Q (.bl (kept z o hm cs b m)) H'
end Kt
namespace Kt
open PySem PySem.Spec PyProof.Rows L2
/-! ### joined and cut -/
theorem ne_f {x y : V} (h : x = y) : V.bl (!decide (x = y)) = V.bl false := by rw [decide_eq_true h]; rfl
theorem ne_t {x y : V} (h : x ≠ y) : V.bl (!decide (x = y)) = V.bl true := by rw [decide_eq_false h]; rfl
theorem str_ext {x y : Str} (h : x.cps.toList = y.cps.toList) : x = y := by
  obtain ⟨a⟩ := x
  obtain ⟨b⟩ := y
  have h2 : a.toList = b.toList := h
  rw [Array.toList_inj.mp h2]
theorem app_list (x y : Str) : (x ++ y).cps.toList = x.cps.toList ++ y.cps.toList := by
  rw [Str.cps_append, Array.toList_append]
theorem app_as (x y z : Str) : x ++ y ++ z = x ++ (y ++ z) := str_ext (by simp only [app_list, List.append_assoc])
theorem nil_list : (Str.ofString "").cps.toList = [] := by decide +kernel
theorem app_nil (x : Str) : x ++ Str.ofString "" = x := str_ext (by rw [app_list, nil_list, List.append_nil])
theorem nil_app (x : Str) : Str.ofString "" ++ x = x := str_ext (by rw [app_list, nil_list, List.nil_append])
theorem rdStep_from (z o : Str) (hm : V) (s x : Str) (b c : Int) : rdStep z o hm (s ++ x, b) c = (s ++ (rdStep z o hm (x, b) c).1, (rdStep z o hm (x, b) c).2) := by
  unfold rdStep
  by_cases h : (z.cps.size : Int) ≤ c
  · rw [if_pos h, if_pos h]
  · rw [if_neg h, if_neg h]
    show (s ++ x ++ _, _) = (s ++ (x ++ _), _)
    rw [app_as]
theorem fold_from (z o : Str) (hm : V) : ∀ (cs : List Int) (s x : Str) (b : Int), cs.foldl (rdStep z o hm) (s ++ x, b) = (s ++ (cs.foldl (rdStep z o hm) (x, b)).1, (cs.foldl (rdStep z o hm) (x, b)).2)
  | [], _, _, _ => rfl
  | c :: cs, s, x, b => by
    rw [List.foldl_cons, List.foldl_cons, rdStep_from]
    exact fold_from z o hm cs s _ _
theorem rd_from (z o : Str) (hm : V) (cs : List Int) (s : Str) (b : Int) : cs.foldl (rdStep z o hm) (s, b) = (s ++ (rd z o hm cs b).1, (rd z o hm cs b).2) := by
  have h := fold_from z o hm cs s (Str.ofString "") b
  rw [app_nil] at h
  exact h
theorem rd_app (z o : Str) (hm : V) (u v : List Int) (b : Int) : rd z o hm (u ++ v) b = ((rd z o hm u b).1 ++ (rd z o hm v (rd z o hm u b).2).1, (rd z o hm v (rd z o hm u b).2).2) := by
  show (u ++ v).foldl (rdStep z o hm) (Str.ofString "", b) = _
  rw [List.foldl_append]
  exact rd_from z o hm v (rd z o hm u b).1 (rd z o hm u b).2
theorem rd_shift {z o : Str} {hm : V} {e : Int} (he : Is01 e) (cs : List Int) (b : Int) : rd z o hm (((z.cps.size : Int) + e) :: cs) b = rd z o hm cs e := by
  show cs.foldl (rdStep z o hm) (rdStep z o hm (Str.ofString "", b) ((z.cps.size : Int) + e)) = _
  have h : rdStep z o hm (Str.ofString "", b) ((z.cps.size : Int) + e) = (Str.ofString "", e) := by
    unfold rdStep
    rw [if_pos (by rcases he with y | y <;> omega)]
    show (_, (z.cps.size : Int) + e - z.cps.size) = _
    congr 1; omega
  rw [h]; rfl
theorem rd_end {z o : Str} {hm : V} {cs : List Int} {b : Int} (hb : Is01 b) (hc : Codes z.cps.size cs) : Is01 (rd z o hm cs b).2 := by
  have := (rd_ok (z := z) (o := o) (hm := hm) hb hc cs.length).1
  rwa [List.take_length] at this
/-- the shift ahead, if it is read otherwise -/
def ahd (z o : Str) (hm : V) (cs : List Int) (now wanted : Int) : List Int := if (rd z o hm cs now).1 = (rd z o hm cs wanted).1 then [] else [(z.cps.size : Int) + wanted]
theorem ahd_len (z o : Str) (hm : V) (cs : List Int) (n w : Int) : (ahd z o hm cs n w).length ≤ 1 := by
  unfold ahd; split <;> simp
theorem ahd_codes {z o : Str} {hm : V} {cs : List Int} {n w : Int} (hw : Is01 w) (hc : Codes z.cps.size cs) : Codes z.cps.size (ahd z o hm cs n w ++ cs) := fun c h => by
  rcases List.mem_append.mp h with m | m
  · unfold ahd at m
    split at m
    · cases m
    · rw [List.mem_singleton.mp m]
      rcases hw with y | y <;> omega
  · exact hc c m
theorem ahd_read {z o : Str} {hm : V} (cs : List Int) (n : Int) {w : Int} (hw : Is01 w) : (rd z o hm (ahd z o hm cs n w ++ cs) n).1 = (rd z o hm cs w).1 := by
  unfold ahd
  by_cases h : (rd z o hm cs n).1 = (rd z o hm cs w).1
  · rw [if_pos h]; exact h
  · rw [if_neg h]
    show (rd z o hm (((z.cps.size : Int) + w) :: cs) n).1 = _
    rw [rd_shift hw]
theorem ahd_self (z o : Str) (hm : V) (cs : List Int) (b : Int) : ahd z o hm cs b b = [] := by
  unfold ahd; rw [if_pos rfl]
def jpart (z o : Str) (hm : V) (bg : Int) (now : Int) (cs : List Int) : List Int := ahd z o hm cs now bg ++ cs
def jstep (z o : Str) (hm : V) (bg : Int) (s : List Int × Int) (cs : List Int) : List Int × Int := (s.1 ++ jpart z o hm bg s.2 cs, (rd z o hm (jpart z o hm bg s.2 cs) s.2).2)
def jns (z o : Str) (hm : V) (bg : Int) (L : List (List Int)) : List Int × Int := L.foldl (jstep z o hm bg) ([], bg)
def catT (z o : Str) (hm : V) (bg : Int) (L : List (List Int)) : Str := L.foldl (fun s cs => s ++ (rd z o hm cs bg).1) (Str.ofString "")
theorem jns_snoc (z o : Str) (hm : V) (bg : Int) (L : List (List Int)) (cs : List Int) : jns z o hm bg (L ++ [cs]) = jstep z o hm bg (jns z o hm bg L) cs := by
  unfold jns; rw [List.foldl_append]; rfl
theorem catT_snoc (z o : Str) (hm : V) (bg : Int) (L : List (List Int)) (cs : List Int) : catT z o hm bg (L ++ [cs]) = catT z o hm bg L ++ (rd z o hm cs bg).1 := by
  unfold catT; rw [List.foldl_append]; rfl
theorem snoc_ind {α : Type} {p : List α → Prop} (h0 : p []) (h1 : ∀ l a, p l → p (l ++ [a])) (l : List α) : p l := by
  rw [← List.reverse_reverse l]
  induction l.reverse with
  | nil => exact h0
  | cons a r ih => rw [List.reverse_cons]; exact h1 _ _ ih
theorem jns_read {z o : Str} {hm : V} {bg : Int} (hb : Is01 bg) (L : List (List Int)) : rd z o hm (jns z o hm bg L).1 bg = (catT z o hm bg L, (jns z o hm bg L).2) := by
  induction L using snoc_ind with
  | h0 => rfl
  | h1 L cs ih =>
    rw [jns_snoc, catT_snoc]
    unfold jstep
    rw [rd_app, ih]
    show (_ ++ (rd z o hm (jpart z o hm bg (jns z o hm bg L).2 cs) (jns z o hm bg L).2).1, _) = _
    unfold jpart
    rw [ahd_read cs _ hb]
theorem jns_codes {z o : Str} {hm : V} {bg : Int} (hb : Is01 bg) {L : List (List Int)} (h : ∀ cs ∈ L, Codes z.cps.size cs) : Codes z.cps.size (jns z o hm bg L).1 ∧ Is01 (jns z o hm bg L).2 := by
  induction L using snoc_ind with
  | h0 => exact ⟨(fun c h => nomatch h), hb⟩
  | h1 L cs ih =>
    obtain ⟨i1, i2⟩ := ih fun c hc => h c (List.mem_append_left _ hc)
    have hcs := h cs (List.mem_append_right _ (List.mem_singleton.mpr rfl))
    have hp : Codes z.cps.size (jpart z o hm bg (jns z o hm bg L).2 cs) := ahd_codes hb hcs
    rw [jns_snoc]
    refine ⟨fun c hc => ?_, rd_end i2 hp⟩
    rcases List.mem_append.mp hc with m | m
    · exact i1 c m
    · exact hp c m
theorem jns_len {z o : Str} {hm : V} {bg : Int} {m : Nat} {L : List (List Int)} (h : ∀ cs ∈ L, cs.length ≤ m) : (jns z o hm bg L).1.length ≤ L.length * (m + 1) := by
  induction L using snoc_ind with
  | h0 => exact Nat.zero_le _
  | h1 L cs ih =>
    have i1 := ih fun c hc => h c (List.mem_append_left _ hc)
    have hcs := h cs (List.mem_append_right _ (List.mem_singleton.mpr rfl))
    have ha := ahd_len z o hm cs (jns z o hm bg L).2 bg
    rw [jns_snoc]
    show ((jns z o hm bg L).1 ++ (ahd z o hm cs (jns z o hm bg L).2 bg ++ cs)).length ≤ _
    simp only [List.length_append, List.length_cons, List.length_nil]
    rw [Nat.add_mul]
    omega
/-- joined by two steps -/
theorem jns_two {z o : Str} {hm : V} {bg : Int} (hb : Is01 bg) (L : List (List Int)) (k : Nat) : jns z o hm bg ((jns z o hm bg (L.take k)).1 :: L.drop k) = jns z o hm bg L := by
  have h1 : jstep z o hm bg ([], bg) (jns z o hm bg (L.take k)).1 = jns z o hm bg (L.take k) := by
    unfold jstep jpart
    show (_ ++ (ahd z o hm _ bg bg ++ _), _) = _
    rw [ahd_self, List.nil_append, List.nil_append, jns_read hb]
  have e : jns z o hm bg L = (L.drop k).foldl (jstep z o hm bg) (jns z o hm bg (L.take k)) := by
    conv => lhs; rw [← List.take_append_drop k L]
    unfold jns; rw [List.foldl_append]
  show (L.drop k).foldl _ (jstep z o hm bg ([], bg) _) = _
  rw [h1, e]
theorem rd_signs (z o : Str) (hm : V) (cs : List Int) (b : Int) : (rd z o hm cs b).1.cps.size ≤ cs.length := by
  rw [rd_size]; exact List.length_filter_le _ _
/-! ### tapes that stand -/
def Tps (H : Hp) : List Addr → List (List Int) → Prop
  | [], [] => True
  | a :: as, u :: L => H a = some (.lst (u.map V.int)) ∧ Tps H as L
  | _, _ => False
theorem Tps.mono {H H' : Hp} (k : ∀ a us, H a = some (.lst us) → H' a = some (.lst us)) : ∀ {as : List Addr} {L : List (List Int)}, Tps H as L → Tps H' as L
  | [], [], _ => trivial
  | a :: as, u :: L, h => ⟨k _ _ h.1, Tps.mono k h.2⟩
  | [], _ :: _, h => h.elim
  | _ :: _, [], h => h.elim
theorem Tps.len {H : Hp} : ∀ {as : List Addr} {L : List (List Int)}, Tps H as L → as.length = L.length
  | [], [], _ => rfl
  | a :: as, u :: L, h => congrArg (· + 1) (Tps.len h.2)
  | [], _ :: _, h => h.elim
  | _ :: _, [], h => h.elim
theorem Tps.app {H : Hp} : ∀ {as bs : List Addr} {L M : List (List Int)}, Tps H as L → Tps H bs M → Tps H (as ++ bs) (L ++ M)
  | [], _, [], _, _, g => g
  | a :: as, _, u :: L, _, h, g => ⟨h.1, Tps.app h.2 g⟩
  | [], _, _ :: _, _, h, _ => h.elim
  | _ :: _, _, [], _, h, _ => h.elim
theorem Tps.get {H : Hp} : ∀ {as : List Addr} {L : List (List Int)}, Tps H as L → ∀ {i : Nat} {a : Addr}, as[i]? = some a → ∃ u, L[i]? = some u ∧ H a = some (.lst (u.map V.int))
  | [], [], _, i, a, e => by simp at e
  | b :: as, u :: L, h, 0, a, e => by
    simp at e; subst e
    exact ⟨u, rfl, h.1⟩
  | b :: as, u :: L, h, i + 1, a, e => by
    obtain ⟨v, e1, e2⟩ := Tps.get h.2 (i := i) (a := a) (by simpa using e)
    exact ⟨v, by simpa using e1, e2⟩
  | [], _ :: _, h, _, _, _ => h.elim
  | _ :: _, [], h, _, _, _ => h.elim
def spAhead (K : PySem.W.Frag) : Sp := fun vs H Q _ => ∃ (t a : Addr) (z o : Str) (hm : V) (cs : List Int) (n w : Int), vs = [.ref t, .ref a, .int n, .int w] ∧ Good z o hm ∧ Sh H t z o hm ∧ SqL K H a (cs.map V.int) ∧ Codes z.cps.size cs ∧ cs.length ≤ 1000 ∧ Is01 n ∧ Is01 w ∧
  ∀ p H', Same H H' → H p = none → H' p = some (.lst ((ahd z o hm cs n w).map V.int)) → Q (.ref p) H'
def spJoined (K : PySem.W.Frag) (P : Addr) : Sp := fun vs H Q _ => ∃ (t l : Addr) (z o : Str) (hm : V) (as : List Addr) (L : List (List Int)) (bg : Int), vs = [.ref t, .ref l, .int bg] ∧ Good z o hm ∧ Sh H t z o hm ∧ H l = some (.lst (as.map V.ref)) ∧ Tps H as L ∧ (∀ cs ∈ L, Codes z.cps.size cs ∧ cs.length ≤ 100) ∧ L.length ≤ 300 ∧ Is01 bg ∧ GxR.TabG H P ∧
  ∀ p H', Kp P H H' → H p = none → H' p = some (.lst ((jns z o hm bg L).1.map V.int)) → Q (.ref p) H'
def cutB (z o : Str) (hm : V) (cs : List Int) (bg : Int) (i : Nat) : List Int := ahd z o hm (cs.drop i) bg (rd z o hm (cs.take i) bg).2 ++ cs.drop i
def spCut (K : PySem.W.Frag) (P : Addr) : Sp := fun vs H Q _ => ∃ (t a : Addr) (z o : Str) (hm : V) (cs : List Int) (bg : Int) (i : Nat), vs = [.ref t, .ref a, .int bg, .int (i : Nat)] ∧ Good z o hm ∧ Sh H t z o hm ∧ SqL K H a (cs.map V.int) ∧ Codes z.cps.size cs ∧ cs.length ≤ 100 ∧ Is01 bg ∧ i ≤ cs.length ∧ GxR.TabG H P ∧
  ∀ p f k H', Kp P H H' → H p = none → H f = none → H k = none → f ≠ k → H' p = some (.tup [.ref f, .ref k]) → H' f = some (.lst ((cs.take i).map V.int)) → H' k = some (.lst ((cutB z o hm cs bg i).map V.int)) → Q (.ref p) H'
theorem codes_take {n : Nat} {cs : List Int} (h : Codes n cs) (i : Nat) : Codes n (cs.take i) := fun c hc => h c (List.mem_of_mem_take hc)
theorem codes_drop {n : Nat} {cs : List Int} (h : Codes n cs) (i : Nat) : Codes n (cs.drop i) := fun c hc => h c (List.mem_of_mem_drop hc)
theorem cutB_codes {z o : Str} {hm : V} {cs : List Int} {bg : Int} (hb : Is01 bg) (h : Codes z.cps.size cs) (i : Nat) : Codes z.cps.size (cutB z o hm cs bg i) := ahd_codes (rd_end hb (codes_take h i)) (codes_drop h i)
/-- the front and the back are the parts of the text -/
theorem cut_text {z o : Str} {hm : V} {cs : List Int} {bg : Int} (hb : Is01 bg) (h : Codes z.cps.size cs) (i : Nat) : (rd z o hm (cs.take i) bg).1 ++ (rd z o hm (cutB z o hm cs bg i) bg).1 = (rd z o hm cs bg).1 := by
  have e := rd_app z o hm (cs.take i) (cs.drop i) bg
  rw [List.take_append_drop] at e
  unfold cutB
  rw [ahd_read _ _ (rd_end hb (codes_take h i)), e]
end Kt
namespace Kt
open PySem PySem.Spec PyProof.Rows L2
/-! ### two kinds of tables in one -/
theorem Tb.tw {W : TWs} {P1 P2 : Addr} {q : Str} {H : Hp} (t : Tb W H) (h1 : P1 ∈ W.gs) (h2 : (P2, q) ∈ W.ls) : Tw P1 P2 q H := ⟨t.g P1 h1, t.l (P2, q) h2⟩
theorem Kz.kq {W : TWs} {P1 P2 : Addr} {q : Str} {H H' : Hp} (t : Tb W H) (h1 : P1 ∈ W.gs) (h2 : (P2, q) ∈ W.ls) (hg : ∀ P ∈ W.gs, P ≠ P2) (hl : ∀ p ∈ W.ls, p = (P2, q)) (k : Kq P1 P2 q H H') : Kz W H H' := by
  refine ⟨⟨fun P hP => ?_, fun p hp => ?_⟩, fun b o n h => k.get (t.tw h1 h2) h n, fun b h => k.new h⟩
  · by_cases e : P = P1
    · rw [e]; exact k.tw.t1
    · exact tab_same (t.g P hP) fun o h => k.at' P o e (hg P hP) h
  · rw [hl p hp]; exact k.tw.t2
theorem Tb.updL {W : TWs} {H : Hp} {D : Addr} {xs ys : List V} (t : Tb W H) (e : H D = some (.lst xs)) : Tb W (L2.upd H D (.lst ys)) :=
  (Kz.upd (W := W) (H := fun c => if c = D then none else H c) (H' := H) (D := D) ⟨t, fun c o n e => by
    by_cases k : c = D
    · rw [if_pos k] at e; cases e
    · rw [if_neg k] at e; exact e, fun c e => by
    show (if c = D then none else H c) = none
    by_cases k : c = D
    · rw [if_pos k]
    · rw [if_neg k]; exact e⟩ (if_pos rfl) e).tb
/-! ### slices, lists of tapes as data -/
theorem cutV_take (xs : List V) (k : Nat) : cutV xs none (some ((k : Nat) : Int)) = xs.take k := by
  unfold cutV
  rw [HT.sIx_none, HT.sIx_nat, List.drop_zero, Nat.sub_zero]
  rcases Nat.le_total k xs.length with h | h
  · rw [Nat.min_eq_left h]
  · rw [Nat.min_eq_right h, List.take_of_length_le (Nat.le_refl _), List.take_of_length_le h]
theorem cutV_drop (xs : List V) (k : Nat) : cutV xs (some ((k : Nat) : Int)) none = xs.drop k := by
  unfold cutV
  rw [HT.sIx_none, HT.sIx_nat]
  rcases Nat.le_total k xs.length with h | h
  · rw [Nat.min_eq_left h, List.take_of_length_le]
    rw [List.length_drop]; exact Nat.le_refl _
  · rw [Nat.min_eq_right h, List.drop_of_length_le (Nat.le_refl _), List.drop_of_length_le h, List.take_nil]
theorem Tps.take {H : Hp} (k : Nat) : ∀ {as : List Addr} {L : List (List Int)}, Tps H as L → Tps H (as.take k) (L.take k) := by
  induction k with
  | zero => intro as L _; exact True.intro
  | succ k ih =>
    intro as L h
    cases as with
    | nil => cases L with
      | nil => exact True.intro
      | cons _ _ => exact h.elim
    | cons a as => cases L with
      | nil => exact h.elim
      | cons u L => exact ⟨h.1, ih h.2⟩
theorem Tps.drop {H : Hp} (k : Nat) : ∀ {as : List Addr} {L : List (List Int)}, Tps H as L → Tps H (as.drop k) (L.drop k) := by
  induction k with
  | zero => intro as L h; exact h
  | succ k ih =>
    intro as L h
    cases as with
    | nil => cases L with
      | nil => exact True.intro
      | cons _ _ => exact h.elim
    | cons a as => cases L with
      | nil => exact h.elim
      | cons u L => exact ih h.2
theorem Tps.upd {H : Hp} {D : Addr} {o : HO} : ∀ {as : List Addr} {L : List (List Int)}, Tps H as L → (∀ a ∈ as, a ≠ D) → Tps (L2.upd H D o) as L
  | [], [], _, _ => trivial
  | a :: as, u :: L, h, n => ⟨by rw [upd_ne (n a List.mem_cons_self)]; exact h.1, Tps.upd h.2 fun b hb => n b (List.mem_cons_of_mem _ hb)⟩
  | [], _ :: _, h, _ => h.elim
  | _ :: _, [], h, _ => h.elim
theorem Tps.stay {H H' : Hp} : ∀ {as : List Addr} {L : List (List Int)}, Tps H as L → (∀ a ∈ as, ∀ o, H a = some o → H' a = some o) → Tps H' as L
  | [], [], _, _ => trivial
  | a :: as, u :: L, h, n => ⟨n a List.mem_cons_self _ h.1, Tps.stay h.2 fun b hb => n b (List.mem_cons_of_mem _ hb)⟩
  | [], _ :: _, h, _ => h.elim
  | _ :: _, [], h, _ => h.elim
def tpD (u : List Int) : PyData := .list (u.map PyData.int)
theorem canLay_tps : ∀ L : List (List Int), PyData.canLayAll0 (L.map tpD) = true
  | [] => by simp [PyData.canLayAll0]
  | u :: r => by
    simp only [List.map_cons, PyData.canLayAll0, tpD, PyData.canLay0, canLay_tps r, Bool.and_true]
    exact PySem.W.canLayAll0_ints u
theorem depth_tps : ∀ L : List (List Int), PyData.depthAll (L.map tpD) ≤ 2
  | [] => by simp [PyData.depthAll]
  | u :: r => by
    have h := depth_tps r
    have h2 := PySem.W.depthAll_ints u
    simp only [List.map_cons, PyData.depthAll, PyData.depth, tpD]
    omega
theorem shaped_tps (L : List (List Int)) : SeqAt.shaped (.list (L.map tpD)) = true := by
  have h1 := depth_tps L
  have h2 : PyData.depth (.list (L.map tpD)) ≤ 64 := by simp only [PyData.depth]; omega
  show (PyData.canLay0 (.list (L.map tpD)) && decide (PyData.depth (.list (L.map tpD)) ≤ 64)) = true
  rw [Bool.and_eq_true]
  exact ⟨by simp only [PyData.canLay0]; exact canLay_tps L, decide_eq_true h2⟩
theorem eqv_tps (L : List (List Int)) : PyData.eqv (.list (L.map tpD)) (.list (L.map tpD)) = true :=
  SeqAt.eqv_refl _ (by simp only [PyData.canLay0]; exact canLay_tps L)
theorem Tps.dp {K : PySem.W.Frag} {H : Hp} : ∀ {as : List Addr} {L : List (List Int)}, Tps H as L → DpAll K H (as.map V.ref) (L.map tpD)
  | [], [], _ => .nil
  | a :: as, u :: L, h => .cons (.lst (SqL.of h.1) (dpInts K H u)) (Tps.dp h.2)
  | [], _ :: _, h => h.elim
  | _ :: _, [], h => h.elim
def spDue : Sp := fun vs H Q _ => ∃ (t l : Addr) (z o : Str) (hm : V) (as : List Addr) (L : List (List Int)) (bg : Int), vs = [.ref t, .ref l, .int bg] ∧ Good z o hm ∧ Sh H t z o hm ∧ H l = some (.lst (as.map V.ref)) ∧ Tps H as L ∧ (∀ cs ∈ L, Codes z.cps.size cs ∧ cs.length ≤ 16) ∧ L.length ≤ 20 ∧ Is01 bg ∧
  ∀ p H', Same H H' → H p = none → H' p = some (.lst ((jns z o hm bg L).1.map V.int)) → Q (.ref p) H'
theorem joinL_flat : ∀ ps : List (List Nat), TL.joinL [] ps = ps.flatten
  | [] => rfl
  | [a] => by simp [TL.joinL]
  | a :: b :: r => by
    have ih := joinL_flat (b :: r)
    show a ++ ([] ++ TL.joinL [] (b :: r)) = _
    rw [ih]; rfl
theorem join_cat (z o : Str) (hm : V) (bg : Int) (L : List (List Int)) : Txt.join (Str.ofString "") (L.map fun cs => (rd z o hm cs bg).1) = catT z o hm bg L := by
  rw [TL.join_eq]
  apply str_ext
  have e := TL.tl_join (Str.ofString "") (L.map fun cs => (rd z o hm cs bg).1)
  have e0 : TL.tl (Str.ofString "") = [] := by decide +kernel
  rw [e0, joinL_flat] at e
  refine (show (Str.join (Str.ofString "") (L.map fun cs => (rd z o hm cs bg).1)).cps.toList = _ from e).trans ?_
  induction L using snoc_ind with
  | h0 => simpa [catT] using nil_list.symm
  | h1 L cs ih =>
    rw [catT_snoc, app_list, List.map_append, List.map_append, List.flatten_append]
    have ih' := ih (by
      have e := TL.tl_join (Str.ofString "") (L.map fun cs => (rd z o hm cs bg).1)
      rw [e0, joinL_flat] at e
      exact e)
    rw [ih']
    simp only [List.map_cons, List.map_nil, List.flatten_cons, List.flatten_nil, List.append_nil]
    try rfl
end Kt
namespace Kt
open PySem PySem.Spec PyProof.Rows L2
/-! ### dicts whose keys are tuples of pairs -/
/-- a key, its tuple, its value -/
abbrev Ent := Ends × Addr × Addr
def nk (e : Ends) : NestedKey := .tup (e.map fun p => NestedKey.tup [NestedKey.text p.1, NestedKey.num p.2])
theorem nk_inj : ∀ {e f : Ends}, nk e = nk f → e = f := by
  have go : ∀ e f : Ends, (e.map fun p => NestedKey.tup [NestedKey.text p.1, NestedKey.num p.2]) = (f.map fun p => NestedKey.tup [NestedKey.text p.1, NestedKey.num p.2]) → e = f := by
    intro e
    induction e with
    | nil =>
      intro f h
      cases f with
      | nil => rfl
      | cons _ _ => cases h
    | cons p e ih =>
      intro f h
      cases f with
      | nil => cases h
      | cons q f =>
        injection h with h1 h2
        injection h1 with h1
        injection h1 with h3 h4
        injection h4 with h4 _
        injection h3 with h3
        injection h4 with h4
        rw [ih f h2, Prod.ext h3 h4]
  intro e f h
  exact go e f (NestedKey.tup.inj h)
theorem nk_depth (e : Ends) : (nk e).depth ≤ 8 := by
  have go : ∀ e : Ends, NestedKey.depthAll (e.map fun p => NestedKey.tup [NestedKey.text p.1, NestedKey.num p.2]) ≤ 4 := by
    intro e
    induction e with
    | nil => simp [NestedKey.depthAll]
    | cons p e ih =>
      simp only [List.map_cons, NestedKey.depthAll, NestedKey.depth]
      omega
  have := go e
  unfold nk
  simp only [NestedKey.depth]
  omega
def EndsT (H : Hp) : List Addr → Ends → Prop
  | [], [] => True
  | a :: as, p :: e => H a = some (.tup [.str p.1, .int p.2]) ∧ EndsT H as e
  | _, _ => False
theorem EndsT.mono {H H' : Hp} (k : ∀ a xs, H a = some (HO.tup xs) → H' a = some (.tup xs)) : ∀ {as : List Addr} {e : Ends}, EndsT H as e → EndsT H' as e
  | [], [], _ => trivial
  | a :: as, p :: e, h => ⟨k _ _ h.1, EndsT.mono k h.2⟩
  | [], _ :: _, h => h.elim
  | _ :: _, [], h => h.elim
theorem EndsT.len {H : Hp} : ∀ {as : List Addr} {e : Ends}, EndsT H as e → as.length = e.length
  | [], [], _ => rfl
  | a :: as, p :: e, h => congrArg (· + 1) (EndsT.len h.2)
  | [], _ :: _, h => h.elim
  | _ :: _, [], h => h.elim
theorem EndsT.app {H : Hp} : ∀ {as bs : List Addr} {e f : Ends}, EndsT H as e → EndsT H bs f → EndsT H (as ++ bs) (e ++ f)
  | [], _, [], _, _, g => g
  | a :: as, _, p :: e, _, h, g => ⟨h.1, EndsT.app h.2 g⟩
  | [], _, _ :: _, _, h, _ => h.elim
  | _ :: _, _, [], _, h, _ => h.elim
theorem EndsT.get {H : Hp} : ∀ {as : List Addr} {e : Ends}, EndsT H as e → ∀ {i : Nat} {a : Addr}, as[i]? = some a → ∃ p, e[i]? = some p ∧ H a = some (.tup [.str p.1, .int p.2])
  | [], [], _, i, a, e => by simp at e
  | b :: as, p :: f, h, 0, a, e => by
    simp at e; subst e
    exact ⟨p, rfl, h.1⟩
  | b :: as, p :: f, h, i + 1, a, e => by
    obtain ⟨v, e1, e2⟩ := EndsT.get h.2 (i := i) (a := a) (by simpa using e)
    exact ⟨v, by simpa using e1, e2⟩
  | [], _ :: _, h, _, _, _ => h.elim
  | _ :: _, [], h, _, _, _ => h.elim
/-- the tuple at t is the key e -/
def NKey (H : Hp) (t : Addr) (e : Ends) : Prop := ∃ as : List Addr, H t = some (.tup (as.map V.ref)) ∧ EndsT H as e
theorem NKey.mono {H H' : Hp} {t : Addr} {e : Ends} (k : ∀ a xs, H a = some (HO.tup xs) → H' a = some (.tup xs)) (h : NKey H t e) : NKey H' t e := by
  obtain ⟨as, h1, h2⟩ := h
  exact ⟨as, k _ _ h1, h2.mono k⟩
section
variable {P : Program} {w : World} {H : Hp} {h : Heap}
theorem tup_obj (ok : HOk P w H h) {t : Addr} {xs : List V} (e : H t = some (.tup xs)) : ∃ its : List Value, Vals xs its ∧ ∃ ob n, h.get? t = some ob ∧ ob.cls = .type "tuple" ∧ ob.data = .seq its.toArray n := by
  have x : ObjOk P w H h t (.tup xs) := ok t _ e
  obtain ⟨_, its, r, ob, g1, g2, n, g3⟩ := x
  exact ⟨its, r, ob, n, g1, g2, g3⟩
theorem pair_is (ok : HOk P w H h) {a : Addr} {x : Str} {n : Int} (e : H a = some (.tup [.str x, .int n])) : NestedIs h (.tup [.text x, .num n]) (.ref a) := by
  obtain ⟨its, r, ob, k, g1, g2, g3⟩ := tup_obj ok e
  cases r with
  | cons r1 r =>
    cases r with
    | cons r2 r =>
      cases r
      obtain ⟨tx, rfl⟩ : ∃ tx, _ = Value.str x tx := r1
      obtain ⟨tn, rfl⟩ : ∃ tn, _ = Value.int n tn := r2
      exact .tup g1 g2 g3 (.cons (.text _ _) (.cons (.int _ _) .nil))
theorem all_is (ok : HOk P w H h) : ∀ {as : List Addr} {e : Ends}, EndsT H as e → NestedAll h (e.map fun p => NestedKey.tup [NestedKey.text p.1, NestedKey.num p.2]) (as.map Value.ref)
  | [], [], _ => .nil
  | a :: as, p :: e, g => .cons (pair_is ok g.1) (all_is ok g.2)
  | [], _ :: _, g => g.elim
  | _ :: _, [], g => g.elim
theorem key_is (ok : HOk P w H h) {t : Addr} {e : Ends} (g : NKey H t e) : (nestedKind P w).is h (nk e) t := by
  obtain ⟨as, g1, g2⟩ := g
  obtain ⟨its, r, ob, k, o1, o2, o3⟩ := tup_obj ok g1
  have ei : its = as.map Value.ref := vals_refs_inv r
  subst ei
  exact ⟨.tup o1 o2 o3 (by simpa using all_is ok g2), nk_depth e⟩
def rawE (w : World) (x : Ent) : DictEntry := ⟨(nk x.1).hash w, .ref x.2.1, .ref x.2.2⟩
/-- the dict of these entries -/
def ndO (w : World) (d : Addr) (L : List Ent) : HO :=
  .ext fun h => (d == sysModules) = false ∧ L.length ≤ sizeLine ∧ ∃ ob es ep, h.get? d = some ob ∧ ob.ExactDict ∧ ob.data = .dict es ep ∧ es.toList = L.map (rawE w)
theorem ndO_ok {d : Addr} {L : List Ent} (h1 : (d == sysModules) = false) (h2 : L.length ≤ sizeLine) {ob : Obj} {es : Array DictEntry} {ep : Nat} (e1 : h.get? d = some ob) (e2 : ob.ExactDict) (e3 : ob.data = .dict es ep) (e4 : es.toList = L.map (rawE w)) : ObjOk P w H h d (ndO w d L) :=
  ⟨⟨h1, h2, ob, es, ep, e1, e2, e3, e4⟩, ⟨ob, e1⟩, fun _ _ z k => by
    obtain ⟨z1, z2, ob, es, ep, q1, q⟩ := z
    exact ⟨z1, z2, ob, es, ep, k _ q1, q⟩⟩
theorem nd_raw {d : Addr} {L : List Ent} (ok : HOk P w H h) (e : Rd H d (ndO w d L)) : (d == sysModules) = false ∧ L.length ≤ sizeLine ∧ ∃ ob es ep, h.get? d = some ob ∧ ob.ExactDict ∧ ob.data = .dict es ep ∧ es.toList = L.map (rawE w) := by
  have x : ObjOk P w H h d (ndO w d L) := e.ok ok
  exact x.1
/-- all keys stand, and are unlike -/
structure NKeys (H : Hp) (L : List Ent) : Prop where
  at' : ∀ x ∈ L, NKey H x.2.1 x.1
  nd : (L.map (·.1)).Nodup
abbrev xsOf (L : List Ent) : List (NestedKey × Addr × Value) := L.map fun x => (nk x.1, x.2.1, Value.ref x.2.2)
theorem nd_of {d : Addr} {L : List Ent} (ok : HOk P w H h) (e : Rd H d (ndO w d L)) (k : NKeys H L) : h.DictOfH (nestedKind P w) d (xsOf L) := by
  obtain ⟨_, _, ob, es, ep, e1, e2, e3, e4⟩ := nd_raw ok e
  refine ⟨ob, es, ep, e1, e2, e3, by rw [e4, List.map_map]; rfl, fun x hx => ?_, ?_⟩
  · obtain ⟨y, hy, rfl⟩ := List.mem_map.mp hx
    exact key_is ok (k.at' y hy)
  · rw [List.map_map]
    have : ((fun x : NestedKey × Addr × Value => x.1) ∘ fun x : Ent => (nk x.1, x.2.1, Value.ref x.2.2)) = nk ∘ fun x : Ent => x.1 := rfl
    rw [this, ← List.map_map]
    exact List.Pairwise.map nk (fun a b h c => h (nk_inj c)) k.nd
end
def valN (L : List Ent) (e : Ends) : Option Addr := (L.find? fun x => decide (x.1 = e)).map (·.2.2)
theorem atKey_xs (L : List Ent) (e : Ends) : (atKey (xsOf L) (nk e)).map (·.2) = (valN L e).map Value.ref := by
  unfold atKey valN
  rw [Option.map_map]
  induction L with
  | nil => rfl
  | cons x L ih =>
    by_cases h : x.1 = e
    · subst h; simp [List.find?_cons]
    · have h2 : ¬ nk x.1 = nk e := fun c => h (nk_inj c)
      simp only [List.map_cons, List.find?_cons, h, h2, decide_false]
      exact ih
theorem isSome_xs (L : List Ent) (e : Ends) : (atKey (xsOf L) (nk e)).isSome = (valN L e).isSome := by
  have := congrArg Option.isSome (atKey_xs L e)
  rwa [Option.isSome_map, Option.isSome_map] at this
theorem valN_none {L : List Ent} {e : Ends} : valN L e = none ↔ ∀ x ∈ L, x.1 ≠ e := by
  unfold valN
  rw [Option.map_eq_none_iff, List.find?_eq_none]
  exact ⟨fun h x hx c => h x hx (decide_eq_true c), fun h x hx c => h x hx (of_decide_eq_true c)⟩
theorem valN_mem {L : List Ent} {x : Ent} (nd : (L.map (·.1)).Nodup) (h : x ∈ L) : valN L x.1 = some x.2.2 := by
  induction L with
  | nil => cases h
  | cons y L ih =>
    rw [List.map_cons, List.nodup_cons] at nd
    unfold valN
    rw [List.find?_cons]
    rcases List.mem_cons.mp h with e | m
    · subst e; simp
    · have ne : ¬ y.1 = x.1 := fun c => nd.1 (c ▸ List.mem_map.mpr ⟨x, m, rfl⟩)
      rw [decide_eq_false ne]
      exact ih nd.2 m
section
variable {X : Cx} {pins : List (Addr × Obj)} {σ : L2.St} {H : Hp} {s : Shared} {d t v : Addr} {L : List Ent} {e : Ends} {A : Around} {E : Value → Shared → Prop}
theorem nd_get {Q : Value → Shared → Prop} (hu : A.units + 64 < cLine) (I : Inv X pins σ H s) (hd : Rd H d (ndO X.w d L)) (k : NKeys H L) (ht : NKey H t e) (hv : valN L e = some v) (q : ∀ s', Inv X pins σ H s' → Q (.ref v) s') :
    wpAny (model X.prog X.w) A (getItem (.ref d) (.ref t)) Q E s := by
  have a := atKey_xs L e
  rw [hv] at a
  obtain ⟨p, hp, hp2⟩ := Option.map_eq_some_iff.mp (show (atKey (xsOf L) (nk e)).map (·.2) = some (Value.ref v) from a)
  refine wpAny_getItem_heap (knd := nestedKind X.prog X.w) (by show A.units + 1 + 8 < cLine; omega) (key_is I.hok ht) (nd_of I.hok hd k) hp ?_
  rw [hp2]
  exact q _ (I.tok _)
theorem nd_notIn {Q : Value → Shared → Prop} (hu : A.units + 64 < cLine) (I : Inv X pins σ H s) (hd : Rd H d (ndO X.w d L)) (k : NKeys H L) (ht : NKey H t e) (q : ∀ s', Inv X pins σ H s' → Q (.bool (!(valN L e).isSome)) s') :
    wpAny (model X.prog X.w) A (compareOp .NotIn (.ref t) (.ref d)) Q E s := by
  refine wpAny_notIn_heap (knd := nestedKind X.prog X.w) (by show A.units + 1 + 8 < cLine; omega) (key_is I.hok ht) (nd_raw I.hok hd).1 (nd_of I.hok hd k) ?_
  rw [isSome_xs]
  exact q _ (I.tok _)
theorem nd_set {Q : Unit → Shared → Prop} (hu : A.units + 64 < cLine) (I : Inv X pins σ H s) (hd : H d = some (ndO X.w d L)) (k : NKeys H L) (ht : NKey H t e) (hn : valN L e = none) (hl : L.length < sizeLine)
    (q : ∀ s', Inv X pins σ (upd H d (ndO X.w d (L ++ [(e, t, v)]))) s' → Q () s') : wpAny (model X.prog X.w) A (setItem (.ref d) (.ref t) (.ref v)) Q E s := by
  refine wpAny_setItem_heap (knd := nestedKind X.prog X.w) (hsz := by rw [List.length_map]; omega) (by show A.units + 1 + 8 < cLine; omega) (key_is I.hok ht) (nd_of I.hok (.inl hd) k) fun h' dd hs => q _ ?_
  obtain ⟨ob, es, ep, e1, e2, e3, e4, _, _⟩ := dd
  have en : (atKey (xsOf L) (nk e)).isSome = false := by rw [isSome_xs, hn]; rfl
  refine d_write I (by rw [hd]; exact True.intro) hs ⟨ob, e1⟩ (ndO_ok (nd_raw I.hok (.inl hd)).1 (by rw [List.length_append]; exact hl) e1 e2 e3 ?_)
  rw [e4]
  unfold storedH
  rw [if_neg (by rw [en]; exact Bool.false_ne_true), List.map_append, List.map_append, List.map_map]
  rfl
end
/-! ### the rules -/
def tNewN (w : World) : TE := fun _ H Q => ∀ p, H p = none → Q (.ref p) (upd H p (ndO w p []))
def tGetN (w : World) (td ty : TE) : TE := fun σ H Q => td σ H fun x H1 => ty σ H1 fun y H2 => ∃ d t L e v, x = .ref d ∧ y = .ref t ∧ Rd H2 d (ndO w d L) ∧ NKeys H2 L ∧ NKey H2 t e ∧ valN L e = some v ∧ Q (.ref v) H2
def tNotInN (w : World) (ty td : TE) : TE := fun σ H Q => ty σ H fun y H1 => td σ H1 fun x H2 => ∃ d t L e, x = .ref d ∧ y = .ref t ∧ Rd H2 d (ndO w d L) ∧ NKeys H2 L ∧ NKey H2 t e ∧ Q (.bl (!(valN L e).isSome)) H2
def sPutN (w : World) (td ty tv : TE) : TS := fun D σ H => tv σ H fun z H1 => td σ H1 fun x H2 => ty σ H2 fun y H3 => ∃ d t L e v, x = .ref d ∧ y = .ref t ∧ z = .ref v ∧ H3 d = some (ndO w d L) ∧ NKeys H3 L ∧ NKey H3 t e ∧ valN L e = none ∧ L.length < sizeLine ∧ D.nx σ (upd H3 d (ndO w d (L ++ [(e, t, v)])))
section
variable {X : Cx} {o i value : Expr} {pos pos' : Pos} {td ty tv : TE}
theorem pe_newN : PE X (.Dict [] [] pos) (tNewN X.w) := ⟨fun pins s σ H Q I q =>
  wpAny_Dict_empty ⟨.ref s.heap.objs.size, _, I.laid (o := ndO X.w s.heap.objs.size []) (t' := s.toks) (fun _ _ z => Heap.get?_push_of_some _ z) (Nat.le_refl _)
    (ndO_ok (beq_eq_false_iff_ne.mpr (Ne.symm (Nat.ne_of_lt I.big))) (Nat.zero_le _) (Heap.get?_push_size _ rfl) ⟨rfl, rfl, rfl⟩ (es := #[]) (ep := 0) rfl rfl), rfl, q _ (I.hok.fresh (Nat.le_refl _))⟩⟩
theorem nd_type {pins : List (Addr × Obj)} {σ : L2.St} {H : Hp} {s : Shared} {d : Addr} {L : List Ent} (I : Inv X pins σ H s) (hd : Rd H d (ndO X.w d L)) : s.TypeIs (.ref d) "dict" := by
  obtain ⟨_, _, ob, _, _, e1, e2, _⟩ := nd_raw I.hok hd
  exact ⟨ob, e1, e2.1⟩
theorem pe_getN (hu : X.A.units + 64 < cLine) (ho : PE X o td) (hi : PE X i ty) (hs : NoSl i) : PE X (.Subscript o i pos) (tGetN X.w td ty) := by
  refine ⟨fun pins s σ H Q I h => ?_⟩
  refine subD_of PySem.F.slot_dict_getitem.lookup hs (thn (ho.run pins s σ H _ I h) fun u s1 q1 => ?_)
  obtain ⟨x, H1, I1, rx, q1⟩ := q1
  refine thn (hi.run pins s1 σ H1 _ I1 q1) fun iv s2 q2 => ?_
  obtain ⟨y, H2, I2, ry, d, t, L, e, v, ex, ey, hd, k, ht, hv, q2⟩ := q2
  subst ex ey
  obtain rfl : u = Value.ref d := rx
  obtain rfl : iv = Value.ref t := ry
  exact ⟨nd_type I2 hd, nd_get hu I2 hd k ht hv fun s3 I3 => ⟨.ref v, H2, I3, rfl, q2⟩⟩
theorem pc_notinN (hu : X.A.units + 64 < cLine) (hi : PE X i ty) (ho : PE X o td) : PC X .NotIn i o (tNotInN X.w ty td) := by
  refine ⟨fun pins s σ H Q I h => ?_⟩
  refine thn (hi.run pins s σ H _ I h) fun iv s1 q1 => ?_
  obtain ⟨y, H1, I1, ry, q1⟩ := q1
  refine thn (ho.run pins s1 σ H1 _ I1 q1) fun u s2 q2 => ?_
  obtain ⟨x, H2, I2, rx, d, t, L, e, ex, ey, hd, k, ht, q2⟩ := q2
  subst ex ey
  obtain rfl : u = Value.ref d := rx
  obtain rfl : iv = Value.ref t := ry
  exact nd_notIn hu I2 hd k ht fun s3 I3 => ⟨.bl _, H2, I3, rfl, q2⟩
theorem ps_putN (hu : X.A.units + 64 < cLine) (ho : PE X o td) (hi : PE X i ty) (hv : PE X value tv) (hs : swapsWith value (some (.Subscript o i pos')) pos.line X.env = pure false) :
    PS X (.Assign [.Subscript o i pos'] value pos) (sPutN X.w td ty tv) := by
  refine ⟨fun pins s σ H D I h => ?_⟩
  refine wpAny_Assign_Subscript (thn (hv.run pins s σ H _ I h) fun r s1 q1 => ?_) hs
  obtain ⟨z, H1, I1, rz, q1⟩ := q1
  refine thn (ho.run pins s1 σ H1 _ I1 q1) fun u s2 q2 => ?_
  obtain ⟨x, H2, I2, rx, q2⟩ := q2
  refine thn (hi.run pins s2 σ H2 _ I2 q2) fun iv s3 q3 => ?_
  obtain ⟨y, H3, I3, ry, d, t, L, e, v, ex, ey, ez, hd, k, ht, hn, hl, q3⟩ := q3
  subst ex ey ez
  obtain rfl : u = Value.ref d := rx
  obtain rfl : iv = Value.ref t := ry
  obtain rfl : r = Value.ref v := rz
  exact nd_set hu I3 hd k ht hn hl fun s4 I4 => ⟨σ, _, I4, q3⟩
end
/-! ### the walk over such a dict's keys -/
def ItkN (w : World) (d : Addr) (o : Obj) (L : List Ent) : It :=
  ⟨fun i H => H d = some (.frz o (ndO w d L)) ∧ i < L.length, fun i H x H' => H' = H ∧ ∃ y, L[i]? = some y ∧ x = .ref y.2.1, fun i H => H d = some (.frz o (ndO w d L)) ∧ L.length ≤ i⟩
theorem walk_keysN {w : World} {d : Addr} {o : Obj} {L : List Ent} : Walk (ItkN w d o L) L.length (fun H => H d = some (.frz o (ndO w d L))) (fun i H x H' => H' = H ∧ ∃ y, L[i]? = some y ∧ x = .ref y.2.1) :=
  ⟨fun _ _ hi q => ⟨q, hi⟩, fun _ q => ⟨q, Nat.le_refl _⟩, fun _ _ _ _ _ _ y => y⟩
theorem frzN {X : Cx} {pins : List (Addr × Obj)} {σ : L2.St} {H : Hp} {s : Shared} {d : Addr} {o : Obj} {L : List Ent} (I : Inv X pins σ H s) (h : H d = some (.frz o (ndO X.w d L))) :
    (d == sysModules) = false ∧ s.heap.get? d = some o ∧ o.ExactDict ∧ ∃ (es : Array DictEntry) (ep : Nat), o.data = .dict es ep ∧ es.size = L.length ∧ ∀ (i : Nat) (y : Ent), L[i]? = some y → ∃ en : DictEntry, es[i]? = some en ∧ en.key = .ref y.2.1 := by
  obtain ⟨hd, x⟩ := (show ObjOk X.prog X.w H s.heap d (.frz o (ndO X.w d L)) from I.hok d _ h)
  have y : ObjOk X.prog X.w H s.heap d (ndO X.w d L) := x
  obtain ⟨z1, _, ob, es, ep, e1, e2, e3, e4⟩ := y.1
  rw [hd] at e1
  cases e1
  refine ⟨z1, hd, e2, es, ep, e3, by rw [← Array.length_toList, e4, List.length_map], fun i y hy => ⟨rawE X.w y, ?_, rfl⟩⟩
  rw [← Array.getElem?_toList, e4, List.getElem?_map, hy]; rfl
section
variable {P : Program} {w : World} {K : PySem.W.Frag} {tg : Expr} {d : Addr} {o : Obj} {es : Array DictEntry} {ep : Nat}
theorem turn_keysN {L : List Ent} (it : Addr) (hod : o.data = .dict es ep) : Turn P w K tg (ItkN w d o L) [it] it (fun i h => h.IsKeyIter it d i L.length ep) where
  mem := List.mem_singleton.mpr rfl
  obj := fun i h st b hb => by
    obtain rfl := List.mem_singleton.mp hb
    obtain ⟨oi, e, c, dd⟩ := st
    exact ⟨oi, e, fun v z => by rw [dd] at z; cases z⟩
  keep := fun i h h' st k => st.at fun oi e => k it (List.mem_singleton.mpr rfl) oi e
  item := by
    intro X hP hw hK hc i pins s σ H E I hf st hg
    subst hP hw hK
    obtain ⟨hd, hi⟩ := hg
    obtain ⟨f0, f1, f2, f3, f4, f5⟩ := hf it (List.mem_singleton.mpr rfl)
    obtain ⟨_, hgd, _, es', ep', hdt, hsz, ent⟩ := frzN I hd
    obtain ⟨rfl, rfl⟩ := dict_ep hod hdt
    obtain ⟨en, hen, hkey⟩ := ent i _ (List.getElem?_eq_getElem hi)
    refine next_key_item st hgd hdt hsz hen fun h' st' sb => ?_
    have I1 : Inv X pins σ H { s with heap := h' } := I.turned (t' := s.toks) (fun b ob hb e => (sb.2 b hb).trans e) f0 f1 f3 f4 f5
    obtain ⟨oi, e, c, dd⟩ := id st'
    exact ⟨en.key, rfl, go_of (s := { s with heap := h' }) e c dd (by decide) ⟨.ref L[i].2.1, H, I1, hkey, ⟨rfl, L[i], List.getElem?_eq_getElem hi, rfl⟩, st', fun b hb => (hf b hb).1⟩⟩
  done := by
    intro X hP hw hK hc i pins s σ H E I hf st hg
    subst hP hw hK
    obtain ⟨hd, hi⟩ := hg
    obtain ⟨f0, f1, f2, f3, f4, f5⟩ := hf it (List.mem_singleton.mpr rfl)
    obtain ⟨_, hgd, _, es', ep', hdt, hsz, ent⟩ := frzN I hd
    obtain ⟨rfl, rfl⟩ := dict_ep hod hdt
    exact next_key_end (I.ok.hd hc) st hgd hdt hsz hi fun h' eb => ⟨rfl, I.turned (t' := s.toks) (fun b ob hb e => eb b ob hb e) f0 f1 f3 f4 f5⟩
  self := by
    have T := turn_keysT (P := P) (w := w) (K := K) (tg := tg) (d := d) (o := o) (kvs := L.map fun _ => (([] : List Key), V.non)) it hod
    have f := T.self
    simpa using f
end
def iKeysN (w : World) (td : TE) : TI := fun σ H R => td σ H fun x H1 => ∃ d o L, x = .ref d ∧ H1 d = some (.frz o (ndO w d L)) ∧ R (ItkN w d o L) H1
theorem pi_keysN {X : Cx} {tg e : Expr} {td : TE} (he : PE X e td) : PI X tg e (iKeysN X.w td) := by
  refine ⟨fun pins s σ H R I h => ?_⟩
  refine thn (he.run pins s σ H _ I h) fun u s1 q => ?_
  obtain ⟨x, H1, I1, rx, d, o, L, ex, hd, q⟩ := q
  subst ex
  obtain rfl : u = Value.ref d := rx
  obtain ⟨hs, hgd, hx, es, ep, hdt, hsz, _⟩ := frzN I1 hd
  refine iter_keys hs hgd hx hdt (pi_one (tk := s1.toks) I1 _ (turn_keysN _ hdt) ⟨_, Heap.get?_push_size _ rfl, rfl, ?_⟩ q)
  rw [hsz] <;> rfl
end Kt
namespace Kt
open PySem PySem.Spec PyProof.Rows L2
/-! ### the search by levels, over the heap -/
theorem cutS_take (x : Str) (k : Nat) : (cutS x none (some ((k : Nat) : Int))).cps.toList = x.cps.toList.take k := by
  unfold cutS
  rw [HT.sIx_none, HT.sIx_nat, List.drop_zero, Nat.sub_zero]
  show x.cps.toList.take (min k x.cps.size) = _
  rcases Nat.le_total k x.cps.size with h | h
  · rw [Nat.min_eq_left h]
  · rw [Nat.min_eq_right h, List.take_of_length_le (by rw [Array.length_toList]; exact Nat.le_refl _), List.take_of_length_le (by rw [Array.length_toList]; exact h)]
theorem cut_pre {x y : Str} : cutS x none (some ((y.length : Nat) : Int)) = y ↔ ∃ w, x.cps.toList = y.cps.toList ++ w := by
  have hl : y.length = y.cps.toList.length := Array.length_toList.symm
  constructor
  · intro e
    refine ⟨x.cps.toList.drop y.length, ?_⟩
    have := cutS_take x y.length
    rw [e] at this
    rw [this, List.take_append_drop]
  · rintro ⟨w, e⟩
    refine str_ext ?_
    rw [cutS_take, e, hl, List.take_left]
def SmallE (e : Ends) : Prop := ∀ p ∈ e, (∀ c ∈ p.1.cps.toList, c ≤ 126) ∧ Is01 p.2
theorem step_small {z o : Str} {hm : V} (g : Good z o hm) {e : Ends} {k : Int} (hk : 0 ≤ k ∧ k < (z.cps.size : Int) + 2) (h : SmallE e) : SmallE (stepE z o hm e k) := by
  intro q hq
  obtain ⟨p, hp, rfl⟩ := List.mem_map.mp hq
  obtain ⟨h1, h2⟩ := h p hp
  refine ⟨?_, (rdStep_ok (hm := hm) (o := o) p h2 hk).1⟩
  unfold rdStep
  by_cases hs : (z.cps.size : Int) ≤ k
  · rw [if_pos hs]; exact h1
  · rw [if_neg hs]
    intro c hc
    have hc : c ∈ (p.1 ++ sg ((if p.2 = 0 then z else o).cps.toList.getD k.toNat 0)).cps.toList := hc
    rw [app_list] at hc
    rcases List.mem_append.mp hc with m | m
    · exact h1 c m
    · rw [List.mem_singleton.mp (show c ∈ [(if p.2 = 0 then z else o).cps.toList.getD k.toNat 0] from m)]
      rw [List.getD_eq_getElem?_getD]
      cases e : (if p.2 = 0 then z else o).cps.toList[k.toNat]? with
      | none => exact Nat.zero_le _
      | some d =>
        have md := List.mem_of_getElem? e
        show d ≤ 126
        split at md
        · exact (g.pz d md).2
        · exact (g.po d md).2
theorem step_read {z o : Str} {hm : V} (p : Str × Int) (k : Int) : rdStep z o hm p k = (p.1 ++ (rd z o hm [k] p.2).1, (rd z o hm [k] p.2).2) := rd_from z o hm [k] p.1 p.2
theorem ok_len {x : Str} {e : Ends} (h : OkE x e) : ∀ p ∈ e, p.1.cps.size ≤ x.cps.size := fun p hp => by
  obtain ⟨w, hw⟩ := h p hp
  have := congrArg List.length hw
  rw [List.length_append, Array.length_toList, Array.length_toList] at this
  omega
/-! ### how many ends there are -/
theorem nat_nodup : ∀ (n : Nat) (L : List Nat), L.Nodup → (∀ k ∈ L, k < n) → L.length ≤ n
  | 0, L, _, h => by
    cases L with
    | nil => exact Nat.le_refl _
    | cons a L => exact absurd (h a List.mem_cons_self) (Nat.not_lt_zero _)
  | n + 1, L, nd, h => by
    have one : ∀ L : List Nat, L.Nodup → L.length ≤ (L.filter fun k => decide (k ≠ n)).length + 1 := by
      intro L
      induction L with
      | nil => intro _; exact Nat.zero_le _
      | cons a L ih =>
        intro nd
        rw [List.nodup_cons] at nd
        rw [List.filter_cons]
        by_cases e : a = n
        · have all : L.filter (fun k => decide (k ≠ n)) = L := List.filter_eq_self.mpr fun k hk => decide_eq_true fun c => nd.1 (by rw [e, ← c]; exact hk)
          rw [if_neg (by simp [e]), all]
          exact Nat.le_refl _
        · rw [if_pos (by simp [e])]
          exact Nat.succ_le_succ (ih nd.2)
    have := nat_nodup n (L.filter fun k => decide (k ≠ n)) (nd.sublist List.filter_sublist) fun k hk => by
      have h1 := h k (List.mem_filter.mp hk).1
      have h2 := of_decide_eq_true (List.mem_filter.mp hk).2
      omega
    exact Nat.le_trans (one L nd) (Nat.succ_le_succ this)
def codeP (p : Str × Int) : Nat := 2 * p.1.cps.size + if p.2 = 0 then 0 else 1
theorem codeP_inj {x : Str} {p q : Str × Int} (hp : ∃ w, x.cps.toList = p.1.cps.toList ++ w) (hq : ∃ w, x.cps.toList = q.1.cps.toList ++ w) (h1 : Is01 p.2) (h2 : Is01 q.2) (e : codeP p = codeP q) : p = q := by
  obtain ⟨v, hv⟩ := hp
  obtain ⟨w, hw⟩ := hq
  unfold codeP at e
  have es : p.1.cps.size = q.1.cps.size := by split at e <;> split at e <;> omega
  have eb : p.2 = q.2 := by
    unfold Is01 at h1 h2
    split at e <;> split at e <;> omega
  refine Prod.ext (str_ext ?_) eb
  have l : p.1.cps.toList.length = q.1.cps.toList.length := by rw [Array.length_toList, Array.length_toList]; exact es
  exact (List.append_inj (hv.symm.trans hw) l).1
def codeE : Ends → Nat
  | [] => 0
  | p :: e => codeE e * 66 + codeP p
theorem codeP_lt {x : Str} {p : Str × Int} (hx : x.cps.size ≤ 32) (hp : ∃ w, x.cps.toList = p.1.cps.toList ++ w) : codeP p < 66 := by
  have := ok_len (e := [p]) (fun q hq => by rw [List.mem_singleton.mp hq]; exact hp) p (List.mem_singleton.mpr rfl)
  unfold codeP
  split <;> omega
theorem codeE_inj {x : Str} (hx : x.cps.size ≤ 32) : ∀ {e f : Ends}, OkE x e → OkE x f → SmallE e → SmallE f → e.length = f.length → codeE e = codeE f → e = f
  | [], [], _, _, _, _, _, _ => rfl
  | [], _ :: _, _, _, _, _, l, _ => by cases l
  | _ :: _, [], _, _, _, _, l, _ => by cases l
  | p :: e, q :: f, h1, h2, s1, s2, l, c => by
    have a := codeP_lt hx (h1 p List.mem_cons_self)
    have b := codeP_lt hx (h2 q List.mem_cons_self)
    have c : codeE e * 66 + codeP p = codeE f * 66 + codeP q := c
    rw [codeP_inj (h1 p List.mem_cons_self) (h2 q List.mem_cons_self) (s1 p List.mem_cons_self).2 (s2 q List.mem_cons_self).2 (by omega),
      codeE_inj hx (e := e) (f := f) (fun r hr => h1 r (List.mem_cons_of_mem _ hr)) (fun r hr => h2 r (List.mem_cons_of_mem _ hr)) (fun r hr => s1 r (List.mem_cons_of_mem _ hr)) (fun r hr => s2 r (List.mem_cons_of_mem _ hr)) (by simpa using l) (by omega)]
/-- what every pair of a level is -/
structure Fit (x : Str) (d n : Nat) (p : Lv) : Prop where
  ok : OkE x p.2
  small : SmallE p.2
  len : p.2.length = n
  tape : p.1.length = d
theorem level_len {x : Str} (hx : x.cps.size ≤ 32) {d n : Nat} (hn : n ≤ 2) {T : List Lv} (nd : (T.map (·.2)).Nodup) (h : ∀ p ∈ T, Fit x d n p) : T.length ≤ 4356 := by
  have l : (T.map fun p => codeE p.2).length = T.length := List.length_map ..
  rw [← l]
  refine nat_nodup _ _ ?_ fun k hk => ?_
  · have e : (T.map fun p => codeE p.2) = (T.map (·.2)).map codeE := by rw [List.map_map]; rfl
    rw [e]
    unfold List.Nodup at *
    rw [List.pairwise_map] at *
    rw [List.pairwise_map]
    refine nd.imp_of_mem fun {a b} ha hb hne c => hne ?_
    exact codeE_inj hx (h a ha).ok (h b hb).ok (h a ha).small (h b hb).small ((h a ha).len.trans (h b hb).len.symm) c
  · obtain ⟨p, hp, rfl⟩ := List.mem_map.mp hk
    have f := h p hp
    have hl := f.len
    have ho := f.ok
    generalize p.2 = e at hl ho
    match e, hl with
    | [], _ => show 0 < 4356; decide
    | [a], _ =>
      have := codeP_lt hx (ho a List.mem_cons_self)
      show 0 * 66 + codeP a < 4356; omega
    | [a, b], _ =>
      have h1 := codeP_lt hx (ho a List.mem_cons_self)
      have h2 := codeP_lt hx (ho b (List.mem_cons_of_mem _ List.mem_cons_self))
      show (0 * 66 + codeP b) * 66 + codeP a < 4356; omega
    | a :: b :: c :: r, hl => simp at hl; omega
theorem ded_nodup (L : List Lv) : ((ded L).map (·.2)).Nodup := by
  have go : ∀ (L acc : List Lv), (acc.map (·.2)).Nodup → ((L.foldl dedS acc).map (·.2)).Nodup := by
    intro L
    induction L with
    | nil => exact fun _ h => h
    | cons p L ih =>
      intro acc h
      rw [List.foldl_cons]
      refine ih _ ?_
      unfold dedS
      split
      · exact h
      · rename_i hne
        rw [List.map_append]
        refine List.nodup_append.mpr ⟨h, List.pairwise_singleton _ _, fun a ha b hb c => hne ?_⟩
        obtain ⟨q, hq, rfl⟩ := List.mem_map.mp ha
        exact ⟨q, hq, c.trans (List.mem_singleton.mp hb)⟩
  exact go L [] List.nodup_nil
/-! ### as they stand -/
def LvAt (H : Hp) (a : Addr) (q : Lv) : Prop := ∃ (ta ea : Addr) (as : List Addr), H a = some (.tup [.ref ta, .ref ea]) ∧ H ta = some (.lst (q.1.map V.int)) ∧ H ea = some (.lst (as.map V.ref)) ∧ EndsT H as q.2
theorem LvAt.mono {H H' : Hp} {a : Addr} {q : Lv} (kl : ∀ a xs, H a = some (HO.lst xs) → H' a = some (.lst xs)) (kt : ∀ a xs, H a = some (HO.tup xs) → H' a = some (.tup xs)) (h : LvAt H a q) : LvAt H' a q := by
  obtain ⟨ta, ea, as, h1, h2, h3, h4⟩ := h
  exact ⟨ta, ea, as, kt _ _ h1, kl _ _ h2, kl _ _ h3, h4.mono kt⟩
def LvsAt (H : Hp) : List Addr → List Lv → Prop
  | [], [] => True
  | a :: as, q :: T => LvAt H a q ∧ LvsAt H as T
  | _, _ => False
theorem LvsAt.mono {H H' : Hp} (kl : ∀ a xs, H a = some (HO.lst xs) → H' a = some (.lst xs)) (kt : ∀ a xs, H a = some (HO.tup xs) → H' a = some (.tup xs)) : ∀ {as : List Addr} {T : List Lv}, LvsAt H as T → LvsAt H' as T
  | [], [], _ => trivial
  | a :: as, q :: T, h => ⟨h.1.mono kl kt, LvsAt.mono kl kt h.2⟩
  | [], _ :: _, h => h.elim
  | _ :: _, [], h => h.elim
theorem LvsAt.same {H H' : Hp} (s : Same H H') {as : List Addr} {T : List Lv} (h : LvsAt H as T) : LvsAt H' as T := h.mono (fun a xs e => s _ _ e) fun a xs e => s _ _ e
theorem LvsAt.len {H : Hp} : ∀ {as : List Addr} {T : List Lv}, LvsAt H as T → as.length = T.length
  | [], [], _ => rfl
  | a :: as, q :: T, h => congrArg (· + 1) (LvsAt.len h.2)
  | [], _ :: _, h => h.elim
  | _ :: _, [], h => h.elim
theorem LvsAt.app {H : Hp} : ∀ {as bs : List Addr} {T U : List Lv}, LvsAt H as T → LvsAt H bs U → LvsAt H (as ++ bs) (T ++ U)
  | [], _, [], _, _, g => g
  | a :: as, _, q :: T, _, h, g => ⟨h.1, LvsAt.app h.2 g⟩
  | [], _, _ :: _, _, h, _ => h.elim
  | _ :: _, _, [], _, h, _ => h.elim
theorem LvsAt.get {H : Hp} : ∀ {as : List Addr} {T : List Lv}, LvsAt H as T → ∀ {i : Nat} {a : Addr}, as[i]? = some a → ∃ q, T[i]? = some q ∧ LvAt H a q
  | [], [], _, i, a, e => by simp at e
  | b :: as, q :: T, h, 0, a, e => by
    simp at e; subst e
    exact ⟨q, rfl, h.1⟩
  | b :: as, q :: T, h, i + 1, a, e => by
    obtain ⟨v, e1, e2⟩ := LvsAt.get h.2 (i := i) (a := a) (by simpa using e)
    exact ⟨v, by simpa using e1, e2⟩
  | [], _ :: _, h, _, _, _ => h.elim
  | _ :: _, [], h, _, _, _ => h.elim
/-- data of ends -/
def eD (e : Ends) : List PyData := e.map fun p => PyData.tuple [.str p.1, .int p.2]
theorem EndsT.dp {K : PySem.W.Frag} {H : Hp} : ∀ {as : List Addr} {e : Ends}, EndsT H as e → DpAll K H (as.map V.ref) (eD e)
  | [], [], _ => .nil
  | a :: as, p :: e, h => .cons (.tup (SqT.of h.1) (.cons (.str _) (.cons (.int _) .nil))) (EndsT.dp h.2)
  | [], _ :: _, h => h.elim
  | _ :: _, [], h => h.elim
theorem small_strOk {x : Str} (h : ∀ c ∈ x.cps.toList, c ≤ 126) : PyData.strOk x = true := by
  unfold PyData.strOk
  rw [← Array.all_toList, List.all_eq_true]
  exact fun c hc => decide_eq_true (by have := h c hc; omega)
theorem canLay_e : ∀ {e : Ends}, SmallE e → PyData.canLayAll0 (eD e) = true
  | [], _ => by simp [eD, PyData.canLayAll0]
  | p :: e, h => by
    have a := canLay_e (e := e) fun q hq => h q (List.mem_cons_of_mem _ hq)
    have b := small_strOk (h p List.mem_cons_self).1
    simp only [eD, List.map_cons, PyData.canLayAll0, PyData.canLay0, b, Bool.and_true, Bool.true_and]
    exact a
theorem depth_e : ∀ e : Ends, PyData.depthAll (eD e) ≤ 4
  | [] => by simp [eD, PyData.depthAll]
  | p :: e => by
    have a := depth_e e
    simp only [eD, List.map_cons, PyData.depthAll, PyData.depth]
    unfold eD at a
    omega
theorem shaped_e {e : Ends} (h : SmallE e) : SeqAt.shaped (.list (eD e)) = true := by
  have a := depth_e e
  show (PyData.canLay0 (.list (eD e)) && decide (PyData.depth (.list (eD e)) ≤ 64)) = true
  rw [Bool.and_eq_true]
  refine ⟨by simp only [PyData.canLay0]; exact canLay_e h, decide_eq_true ?_⟩
  simp only [PyData.depth]; omega
theorem eqv_nil_e (e : Ends) : PyData.eqv (.list (eD e)) (.list []) = decide (e = []) := by
  cases e with
  | nil => simp [eD, PyData.eqv, PyData.eqvAll]
  | cons p e => simp [eD, PyData.eqv, PyData.eqvAll]
/-- what a dict of a level's ends holds -/
def EntsAt (H : Hp) : List Ent → List Lv → Prop
  | [], [] => True
  | x :: L, q :: T => (x.1 = q.2 ∧ NKey H x.2.1 x.1 ∧ H x.2.2 = some (.lst (q.1.map V.int))) ∧ EntsAt H L T
  | _, _ => False
theorem EntsAt.mono {H H' : Hp} (kl : ∀ a xs, H a = some (HO.lst xs) → H' a = some (.lst xs)) (kt : ∀ a xs, H a = some (HO.tup xs) → H' a = some (.tup xs)) : ∀ {L : List Ent} {T : List Lv}, EntsAt H L T → EntsAt H' L T
  | [], [], _ => trivial
  | x :: L, q :: T, h => ⟨⟨h.1.1, h.1.2.1.mono kt, kl _ _ h.1.2.2⟩, EntsAt.mono kl kt h.2⟩
  | [], _ :: _, h => h.elim
  | _ :: _, [], h => h.elim
theorem EntsAt.len {H : Hp} : ∀ {L : List Ent} {T : List Lv}, EntsAt H L T → L.length = T.length
  | [], [], _ => rfl
  | x :: L, q :: T, h => congrArg (· + 1) (EntsAt.len h.2)
  | [], _ :: _, h => h.elim
  | _ :: _, [], h => h.elim
theorem EntsAt.app {H : Hp} : ∀ {L M : List Ent} {T U : List Lv}, EntsAt H L T → EntsAt H M U → EntsAt H (L ++ M) (T ++ U)
  | [], _, [], _, _, g => g
  | a :: as, _, q :: T, _, h, g => ⟨h.1, EntsAt.app h.2 g⟩
  | [], _, _ :: _, _, h, _ => h.elim
  | _ :: _, _, [], _, h, _ => h.elim
theorem EntsAt.keys {H : Hp} : ∀ {L : List Ent} {T : List Lv}, EntsAt H L T → L.map (·.1) = T.map (·.2)
  | [], [], _ => rfl
  | x :: L, q :: T, h => by rw [List.map_cons, List.map_cons, h.1.1, EntsAt.keys h.2]
  | [], _ :: _, h => h.elim
  | _ :: _, [], h => h.elim
theorem EntsAt.all {H : Hp} : ∀ {L : List Ent} {T : List Lv}, EntsAt H L T → ∀ x ∈ L, NKey H x.2.1 x.1
  | [], [], _, x, m => nomatch m
  | y :: L, q :: T, h, x, m => by
    rcases List.mem_cons.mp m with e | m
    · rw [e]; exact h.1.2.1
    · exact EntsAt.all h.2 x m
  | [], _ :: _, h, _, _ => h.elim
  | _ :: _, [], h, _, _ => h.elim
theorem EntsAt.get {H : Hp} : ∀ {L : List Ent} {T : List Lv}, EntsAt H L T → ∀ {i : Nat} {x : Ent}, L[i]? = some x → ∃ q, T[i]? = some q ∧ x.1 = q.2 ∧ NKey H x.2.1 x.1 ∧ H x.2.2 = some (.lst (q.1.map V.int))
  | [], [], _, i, a, e => by simp at e
  | b :: as, q :: T, h, 0, a, e => by
    simp at e; subst e
    exact ⟨q, rfl, h.1⟩
  | b :: as, q :: T, h, i + 1, a, e => by
    obtain ⟨v, e1, e2⟩ := EntsAt.get h.2 (i := i) (x := a) (by simpa using e)
    exact ⟨v, by simpa using e1, e2⟩
  | [], _ :: _, h, _, _, _ => h.elim
  | _ :: _, [], h, _, _, _ => h.elim
theorem EntsAt.nkeys {H : Hp} {L : List Ent} {T : List Lv} (h : EntsAt H L T) (nd : (T.map (·.2)).Nodup) : NKeys H L := ⟨h.all, by rw [h.keys]; exact nd⟩
theorem ents_none {H : Hp} {L : List Ent} {T : List Lv} (h : EntsAt H L T) (e : Ends) : valN L e = none ↔ ¬ ∃ q ∈ T, q.2 = e := by
  rw [valN_none]
  have k := h.keys
  constructor
  · rintro a ⟨q, hq, c⟩
    have : q.2 ∈ L.map (·.1) := by rw [k]; exact List.mem_map.mpr ⟨q, hq, rfl⟩
    obtain ⟨x, hx, ex⟩ := List.mem_map.mp this
    exact a x hx (ex.trans c)
  · intro a x hx c
    have : x.1 ∈ T.map (·.2) := by rw [← k]; exact List.mem_map.mpr ⟨x, hx, rfl⟩
    obtain ⟨q, hq, eq⟩ := List.mem_map.mp this
    exact a ⟨q, hq, eq.trans c⟩
/-! ### the grown ones, one by one -/
open Classical in
noncomputable def grownTo (z o : Str) (hm : V) (x : Str) (p : Lv) (j : Nat) : List Lv := (List.range j).filterMap fun (k : Nat) => if OkE x (stepE z o hm p.2 (k : Int)) then some (p.1 ++ [(k : Int)], stepE z o hm p.2 (k : Int)) else none
theorem grownTo_pos {z o : Str} {hm : V} {x : Str} {p : Lv} {j : Nat} (h : OkE x (stepE z o hm p.2 (j : Int))) : grownTo z o hm x p (j + 1) = grownTo z o hm x p j ++ [(p.1 ++ [(j : Int)], stepE z o hm p.2 (j : Int))] := by
  unfold grownTo
  rw [List.range_succ, List.filterMap_append]
  congr 1
  simp [h]
theorem grownTo_neg {z o : Str} {hm : V} {x : Str} {p : Lv} {j : Nat} (h : ¬ OkE x (stepE z o hm p.2 (j : Int))) : grownTo z o hm x p (j + 1) = grownTo z o hm x p j := by
  unfold grownTo
  rw [List.range_succ, List.filterMap_append]
  simp [h]
theorem grownTo_len (z o : Str) (hm : V) (x : Str) (p : Lv) (j : Nat) : (grownTo z o hm x p j).length ≤ j := by
  unfold grownTo
  exact Nat.le_trans (List.length_filterMap_le _ _) (by rw [List.length_range]; exact Nat.le_refl _)
theorem grown_take {z o : Str} {hm : V} {x : Str} {T : List Lv} {i : Nat} {p : Lv} (h : T[i]? = some p) : grown z o hm x (T.take (i + 1)) = grown z o hm x (T.take i) ++ grownTo z o hm x p (z.cps.size + 2) := by
  unfold grown
  rw [List.take_add_one, h, List.flatMap_append]
  congr 1
  show List.flatMap _ [p] = _
  rw [List.flatMap_cons, List.flatMap_nil, List.append_nil]; rfl
theorem grown_len (z o : Str) (hm : V) (x : Str) : ∀ T : List Lv, (grown z o hm x T).length ≤ T.length * (z.cps.size + 2)
  | [] => Nat.zero_le _
  | p :: T => by
    have a := grown_len z o hm x T
    have b := grownTo_len z o hm x p (z.cps.size + 2)
    have e : grown z o hm x (p :: T) = grownTo z o hm x p (z.cps.size + 2) ++ grown z o hm x T := rfl
    rw [e, List.length_append, List.length_cons, Nat.succ_mul]
    omega
theorem grown_fit {z o : Str} {hm : V} (g : Good z o hm) {x : Str} {d n : Nat} {T : List Lv} (h : ∀ p ∈ T, Fit x d n p) : ∀ p ∈ grown z o hm x T, Fit x (d + 1) n p := fun q hq => by
  obtain ⟨p, hp, hq⟩ := List.mem_flatMap.mp hq
  obtain ⟨k, hk, ok, rfl⟩ := mem_grownOf.mp hq
  have f := h p hp
  exact ⟨ok, step_small g (by omega) f.small, by show (stepE z o hm p.2 (k : Int)).length = n; unfold stepE; rw [List.length_map]; exact f.len, by simp [f.tape]⟩
theorem dedS_take {L : List Lv} {i : Nat} {p : Lv} (h : L[i]? = some p) : (L.take (i + 1)).foldl dedS [] = dedS ((L.take i).foldl dedS []) p := by
  rw [List.take_add_one, h, List.foldl_append]; rfl
theorem ded_sub (L : List Lv) : ∀ p ∈ ded L, p ∈ L := by
  have go : ∀ (L acc : List Lv), ∀ p ∈ L.foldl dedS acc, p ∈ acc ∨ p ∈ L := by
    intro L
    induction L with
    | nil => exact fun _ p hp => .inl hp
    | cons a L ih =>
      intro acc p hp
      rw [List.foldl_cons] at hp
      rcases ih _ p hp with h | h
      · unfold dedS at h
        split at h
        · exact .inl h
        · rcases List.mem_append.mp h with m | m
          · exact .inl m
          · exact .inr (by rw [List.mem_singleton.mp m]; exact List.mem_cons_self)
      · exact .inr (List.mem_cons_of_mem _ h)
  intro p hp
  rcases go L [] p hp with h | h
  · cases h
  · exact h
def spGrown : Sp := fun vs H Q _ => ∃ (t l : Addr) (z o : Str) (hm : V) (x : Str) (pas : List Addr) (T : List Lv) (d n : Nat), vs = [.ref t, .str x, .ref l] ∧ Good z o hm ∧ Sh H t z o hm ∧ x.cps.size ≤ 32 ∧ (∀ c ∈ x.cps.toList, c ≤ 126) ∧ H l = some (.lst (pas.map V.ref)) ∧ LvsAt H pas T ∧ (∀ p ∈ T, Fit x d n p) ∧ d ≤ 100 ∧ n ≤ 2 ∧ T.length ≤ 4356 ∧
  ∀ p gs H', Same H H' → H p = none → H' p = some (.lst (gs.map V.ref)) → LvsAt H' gs (grown z o hm x T) → Q (.ref p) H'
def spFirst4 : Sp := fun vs H Q _ => ∃ (t l : Addr) (z o : Str) (hm : V) (x : Str) (Bs u : List Int), vs = [.ref t, .str x, .ref l] ∧ Good z o hm ∧ Sh H t z o hm ∧ x.cps.size ≤ 32 ∧ (∀ c ∈ x.cps.toList, InSet z o c) ∧ H l = some (.lst (Bs.map V.int)) ∧ Bs.length ≤ 2 ∧ (∀ b ∈ Bs, Is01 b) ∧ Least z o hm x Bs u ∧ u.length ≤ 64 ∧
  ∀ a H', Same H H' → H' a = some (.lst (u.map V.int)) → Q (.ref a) H'
end Kt
namespace K04
open PySem PySem.Spec PyProof.Rows L2
def topS (i : Nat) : Stmt := PySem.Challenge.pw_shifttape_k04_whole_no_shorter_at_all.main.body.getD i (.Pass ⟨0, 0, 0, 0⟩)
abbrev s_are_signs : Stmt := topS 8
theorem sc_are_signs : FnScope ["signs"] ["signs"] (defScope s_are_signs) := ⟨rfl, rfl, rfl, by decide +kernel, rfl, by decide +kernel, by decide +kernel⟩
abbrev s_can_be_a_set : Stmt := topS 9
theorem sc_can_be_a_set : FnScope ["signs"] ["signs"] (defScope s_can_be_a_set) := ⟨rfl, rfl, rfl, by decide +kernel, rfl, by decide +kernel, by decide +kernel⟩
abbrev s_check_sheet : Stmt := topS 10
theorem sc_check_sheet : FnScope ["sheet", "zero", "one", "home"] ["sheet"] (defScope s_check_sheet) := ⟨rfl, rfl, rfl, by decide +kernel, rfl, by decide +kernel, by decide +kernel⟩
abbrev s_check_set : Stmt := topS 11
theorem sc_check_set : FnScope ["begin"] ["begin"] (defScope s_check_set) := ⟨rfl, rfl, rfl, by decide +kernel, rfl, by decide +kernel, by decide +kernel⟩
abbrev s_check_text : Stmt := topS 12
theorem sc_check_text : FnScope ["sheet", "text", "zero", "one", "_", "place", "sign"] ["sheet", "text"] (defScope s_check_text) := ⟨rfl, rfl, rfl, by decide +kernel, rfl, by decide +kernel, by decide +kernel⟩
abbrev s_set_behind : Stmt := topS 14
theorem sc_set_behind : FnScope ["sheet", "code", "now", "zero", "_", "home"] ["sheet", "code", "now"] (defScope s_set_behind) := ⟨rfl, rfl, rfl, by decide +kernel, rfl, by decide +kernel, by decide +kernel⟩
abbrev s_code_of : Stmt := topS 17
theorem sc_code_of : FnScope ["sheet", "sign", "now", "zero", "one", "_", "code"] ["sheet", "sign", "now"] (defScope s_code_of) := ⟨rfl, rfl, rfl, by decide +kernel, rfl, by decide +kernel, by decide +kernel⟩
abbrev s_without_shift : Stmt := topS 18
theorem sc_without_shift : FnScope ["sheet", "sign", "now", "rests", "code"] ["sheet", "sign", "now", "rests"] (defScope s_without_shift) := ⟨rfl, rfl, rfl, by decide +kernel, rfl, by decide +kernel, by decide +kernel⟩
abbrev s_first_of : Stmt := topS 19
theorem sc_first_of : FnScope ["tapes"] ["tapes"] (defScope s_first_of) := ⟨rfl, rfl, rfl, by decide +kernel, rfl, by decide +kernel, by decide +kernel⟩
abbrev s_with_sign : Stmt := topS 20
theorem sc_with_sign : FnScope ["sheet", "sign", "rests", "size", "plain", "shifted", "now", "tape", "tapes"] ["sheet", "sign", "rests"] (defScope s_with_sign) := ⟨rfl, rfl, rfl, by decide +kernel, rfl, by decide +kernel, by decide +kernel⟩
abbrev s_best_tapes : Stmt := topS 21
theorem sc_best_tapes : FnScope ["sheet", "text", "best", "sign"] ["sheet", "text"] (defScope s_best_tapes) := ⟨rfl, rfl, rfl, by decide +kernel, rfl, by decide +kernel, by decide +kernel⟩
abbrev s_shortest : Stmt := topS 22
theorem sc_shortest : FnScope ["sheet", "text", "begin"] ["sheet", "text", "begin"] (defScope s_shortest) := ⟨rfl, rfl, rfl, by decide +kernel, rfl, by decide +kernel, by decide +kernel⟩
abbrev s_either : Stmt := topS 23
theorem sc_either : FnScope ["sheet", "text"] ["sheet", "text"] (defScope s_either) := ⟨rfl, rfl, rfl, by decide +kernel, rfl, by decide +kernel, by decide +kernel⟩
abbrev s_l_begun : Stmt := topS 25
theorem sc_l_begun : FnScope ["_law_script", "_law_stirred", "_law_cell"] ["_law_script"] (defScope s_l_begun) := ⟨rfl, rfl, rfl, by decide +kernel, rfl, by decide +kernel, by decide +kernel⟩
abbrev s_l_take : Stmt := topS 26
theorem sc_l_take : FnScope ["_law_box", "_law_many", "_law_number"] ["_law_box", "_law_many"] (defScope s_l_take) := ⟨rfl, rfl, rfl, by decide +kernel, rfl, by decide +kernel, by decide +kernel⟩
abbrev s_l_alike : Stmt := topS 27
theorem sc_l_alike : FnScope ["_law_found", "_law_due", "_law_k"] ["_law_found", "_law_due"] (defScope s_l_alike) := ⟨rfl, rfl, rfl, by decide +kernel, rfl, by decide +kernel, by decide +kernel⟩
abbrev s_l_picked : Stmt := topS 28
theorem sc_l_picked : FnScope ["_law_box", "_law_signs", "_law_many", "_law_left", "_law_turn"] ["_law_box", "_law_signs", "_law_many"] (defScope s_l_picked) := ⟨rfl, rfl, rfl, by decide +kernel, rfl, by decide +kernel, by decide +kernel⟩
abbrev s_l_sheet : Stmt := topS 29
theorem sc_l_sheet : FnScope ["_law_box", "_law_most", "_law_many", "_law_every", "_law_often", "_law_zero", "_law_one", "_law_place", "_law_home"] ["_law_box", "_law_most"] (defScope s_l_sheet) := ⟨rfl, rfl, rfl, by decide +kernel, rfl, by decide +kernel, by decide +kernel⟩
abbrev s_l_text : Stmt := topS 30
theorem sc_l_text : FnScope ["_law_box", "_law_sheet_here", "_law_most", "_law_found", "_law_number", "_law_often", "_law_turn"] ["_law_box", "_law_sheet_here", "_law_most"] (defScope s_l_text) := ⟨rfl, rfl, rfl, by decide +kernel, rfl, by decide +kernel, by decide +kernel⟩
abbrev s_l_read : Stmt := topS 32
theorem sc_l_read : FnScope ["_law_sheet_here", "_law_tape_here", "_law_begin", "_law_n", "_law_found", "_law_code"] ["_law_sheet_here", "_law_tape_here", "_law_begin"] (defScope s_l_read) := ⟨rfl, rfl, rfl, by decide +kernel, rfl, by decide +kernel, by decide +kernel⟩
abbrev s_l_grown : Stmt := topS 33
theorem sc_l_grown : FnScope ["_law_sheet_here", "_law_text_here", "_law_tapes", "_law_found", "_law_tape_here", "_law_ends", "_law_code", "_law_told", "_law_some", "_law_number", "_law_more", "_law_one"] ["_law_sheet_here", "_law_text_here", "_law_tapes"] (defScope s_l_grown) := ⟨rfl, rfl, rfl, by decide +kernel, rfl, by decide +kernel, by decide +kernel⟩
abbrev s_l_first : Stmt := topS 34
theorem sc_l_first : FnScope ["_law_sheet_here", "_law_text_here", "_law_begins", "_law_tapes", "_law_tape_here", "_law_ends", "_law_known", "_law_begin", "_law_one"] ["_law_sheet_here", "_law_text_here", "_law_begins"] (defScope s_l_first) := ⟨rfl, rfl, rfl, by decide +kernel, rfl, by decide +kernel, by decide +kernel⟩
abbrev s_law : Stmt := topS 35
theorem sc_law : FnScope ["_law_script", "_law_box", "_law_turn", "_law_sheet_here", "_law_text_here", "_law_begin"] ["_law_script"] (defScope s_law) := ⟨rfl, rfl, rfl, by decide +kernel, rfl, by decide +kernel, by decide +kernel⟩
/-- what the top has written -/
structure Txt (K : PySem.W.Frag) (mg : Str → Option Value) where
  d_are_signs : Kt.Df K mg "are_signs" s_are_signs ["signs"]
  d_can_be_a_set : Kt.Df K mg "_can_be_a_set" s_can_be_a_set ["signs"]
  d_check_sheet : Kt.Df K mg "check_sheet" s_check_sheet ["sheet"]
  d_check_set : Kt.Df K mg "check_set" s_check_set ["begin"]
  d_check_text : Kt.Df K mg "check_text" s_check_text ["sheet", "text"]
  d_set_behind : Kt.Df K mg "set_behind" s_set_behind ["sheet", "code", "now"]
  d_code_of : Kt.Df K mg "_code_of" s_code_of ["sheet", "sign", "now"]
  d_without_shift : Kt.Df K mg "_without_shift" s_without_shift ["sheet", "sign", "now", "rests"]
  d_first_of : Kt.Df K mg "_first_of" s_first_of ["tapes"]
  d_with_sign : Kt.Df K mg "_with_sign" s_with_sign ["sheet", "sign", "rests"]
  d_best_tapes : Kt.Df K mg "_best_tapes" s_best_tapes ["sheet", "text"]
  d_shortest : Kt.Df K mg "shortest" s_shortest ["sheet", "text", "begin"]
  d_either : Kt.Df K mg "either" s_either ["sheet", "text"]
  d_l_begun : Kt.Df K mg "_law_begun" s_l_begun ["_law_script"]
  d_l_take : Kt.Df K mg "_law_take" s_l_take ["_law_box", "_law_many"]
  d_l_alike : Kt.Df K mg "_law_alike" s_l_alike ["_law_found", "_law_due"]
  d_l_picked : Kt.Df K mg "_law_picked" s_l_picked ["_law_box", "_law_signs", "_law_many"]
  d_l_sheet : Kt.Df K mg "_law_sheet" s_l_sheet ["_law_box", "_law_most"]
  d_l_text : Kt.Df K mg "_law_text" s_l_text ["_law_box", "_law_sheet_here", "_law_most"]
  d_l_read : Kt.Df K mg "_law_read" s_l_read ["_law_sheet_here", "_law_tape_here", "_law_begin"]
  d_l_grown : Kt.Df K mg "_law_grown" s_l_grown ["_law_sheet_here", "_law_text_here", "_law_tapes"]
  d_l_first : Kt.Df K mg "_law_first" s_l_first ["_law_sheet_here", "_law_text_here", "_law_begins"]
  d_law : Kt.Df K mg "law" s_law ["_law_script"]
  n_all : mg "all" = none
  n_bool : mg "bool" = none
  n_enumerate : mg "enumerate" = none
  n_int : mg "int" = none
  n_isinstance : mg "isinstance" = none
  n_len : mg "len" = none
  n_list : mg "list" = none
  n_min : mg "min" = none
  n_range : mg "range" = none
  n_reversed : mg "reversed" = none
  n_set : mg "set" = none
  n_str : mg "str" = none
  n_tuple : mg "tuple" = none
  c_EITHER : ∃ t, mg "EITHER" = some (.int 2 t)
  c_MOST_PLACES : ∃ t, mg "MOST_PLACES" = some (.int 26 t)
  c_MOST_SIGNS : ∃ t, mg "MOST_SIGNS" = some (.int 32 t)
  c_are_signs : Addr
  t_are_signs : Addr
  k_are_signs : Kt.Coded K "are_signs" s_are_signs d_are_signs.f d_are_signs.fd c_are_signs
  c_first_of : Addr
  t_first_of : Addr
  k_first_of : Kt.Coded K "_first_of" s_first_of d_first_of.f d_first_of.fd c_first_of
end K04
namespace K04
open PySem PySem.Spec PyProof.Rows L2 Kt
section
variable {P : Program} {w : World} {K : PySem.W.Frag} {mg : Str → Option Value} {base : Heap}
theorem ok_l_take (T : Txt K mg) : FnOk P w K mg base CX0 1 T.d_l_take.f T.d_l_take.fd ["_law_box", "_law_many"] spTake := by
  refine T.d_l_take.F.ok sc_l_take (fun vs H Q E h => ?_) (fun cdv A outer s H vs Q E hr h => ?_)
  · obtain ⟨b, l, m, rfl, _⟩ := h
    rfl
  · obtain ⟨b, l, m, rfl, bx, m0, m9, q⟩ := h
    have nbl := bx.ne
    obtain ⟨ns, st, h1, h2⟩ := bx
    refine ⟨_, (pss_cons (ps_if (pt_cmpR (Kt.op_eqI hr.units) (pe_ix ix_list (pv 0) pe_int (fun _ _ => rfl)) (pe_lst pa_nil) (nomark _))
  (pss_cons (ps_asg (pe_op op_mod (pe_op op_mul (pe_ix ix_list (pv 0) pe_int (fun _ _ => rfl)) pe_int) pe_int) (pg_sub (pv 0) pe_int set_list))
  (pss_one (ps_ret (pe_op op_mod (pe_op op_fdivW (pe_ix ix_list (pv 0) pe_int (fun _ _ => rfl)) pe_int) (pv 1)))))
  pss_nil)
  (pss_cons (ps_set (i := 2) sc_l_take.nd rfl (.inl rfl) (pe_ix ix_list (pe_ix ix_list (pv 0) pe_int (fun _ _ => rfl)) pe_int (fun _ _ => rfl)))
  (pss_cons (ps_asg (pe_op op_fdivW (pv 2) (pv 1)) (pg_sub (pe_ix ix_list (pv 0) pe_int (fun _ _ => rfl)) pe_int set_list))
  (pss_cons (ps_if (PW.pt (pw_or (pt_cmpR op_eq (pe_ix ix_list (pe_ix ix_list (pv 0) pe_int (fun _ _ => rfl)) pe_int (fun _ _ => rfl)) pe_int (nomark _)) (pw_or1 (pt_cmpR op_eq (pe_ix ix_list (pe_ix ix_list (pv 0) pe_int (fun _ _ => rfl)) pe_int (fun _ _ => rfl)) (pe_un un_neg pe_int) (nomark _)))))
  (pss_one (ps_expr (pe_bm PySem.F.plainAttrs_list PySem.F.slot_list_pop PySem.F.type_list_pop mt_popAt (pe_ix ix_list (pv 0) pe_int (fun _ _ => rfl)) (pa_cons pe_int pa_nil))))
  pss_nil)
  (pss_one (ps_ret (pe_op op_mod (pv 2) (pv 1)))))))), ?_⟩
    -- if box[0] == []
    refine ⟨.ref b, rfl, b, _, 0, .ref l, rfl, rfl, SqL.of h1, atI_nat (j := 0) rfl, Nat.zero_le _, fun p np => ?_⟩
    have nb : b ≠ p := ne_of_none h1 np
    have nl : l ≠ p := ne_of_none h2 np
    have g1 : upd H p (.lst []) b = some (.lst [.ref l, .int st]) := by rw [upd_ne nb]; exact h1
    have g2 : upd H p (.lst []) l = some (.lst (ns.map V.int)) := by rw [upd_ne nl]; exact h2
    have keep : ∀ a o, H a = some o → upd H p (.lst []) a = some o := fun a o e => by rw [upd_ne (ne_of_none e np)]; exact e
    refine ⟨l, p, ns, [], rfl, rfl, SqL.of g2, SqL.of upd_same, _, rfl, ?_⟩
    generalize upd H p (.lst []) = H1 at g1 g2 keep
    cases ns with
    | nil =>
      refine iteT ?_
      -- box[1] = box[1] * 48271 % 2147483647
      refine ⟨.ref b, rfl, b, _, 1, .int st, rfl, rfl, SqL.of g1, atI_nat (j := 1) rfl, st, 48271, rfl, rfl, .inr ⟨by decide, by decide⟩, _, 2147483647, rfl, rfl, (by show (0 : Int) < 2147483647; decide), ?_⟩
      refine ⟨.ref b, rfl, b, _, 1, 1, rfl, rfl, g1, rfl, ?_⟩
      -- return box[1] // 7 % many
      refine ⟨.ref b, rfl, b, _, 1, _, rfl, rfl, SqL.of upd_same, atI_nat (j := 1) rfl, _, 7, rfl, rfl, ⟨by decide, by decide⟩, .int m, rfl, _, m, rfl, rfl, m0, ?_⟩
      refine q _ _ (Int.emod_nonneg _ (by omega)) (Int.emod_lt_of_pos _ m0) ⟨⟨[], _, upd_same, by rw [upd_ne nbl.symm]; exact g2⟩, fun a o e1 e2 e => by rw [upd_ne e1]; exact keep a o e⟩
    | cons n r =>
      refine iteF ?_
      -- number = box[0][0]
      refine ⟨.ref b, rfl, b, _, 0, .ref l, rfl, rfl, SqL.of g1, atI_nat (j := 0) rfl, l, _, 0, .int n, rfl, rfl, SqL.of g2, atI_nat (j := 0) rfl, ?_⟩
      -- box[0][0] = number // many
      refine ⟨.int n, rfl, .int m, rfl, n, m, rfl, rfl, wide_div m0 m9 (by decide) (by decide), ?_⟩
      refine ⟨.ref b, rfl, b, _, 0, .ref l, rfl, rfl, SqL.of g1, atI_nat (j := 0) rfl, l, _, 0, 0, rfl, rfl, g2, ix_ok rfl (by simp), ?_⟩
      have k1 : upd H1 l (.lst ((List.map V.int (n :: r)).set 0 (V.int (n / m)))) b = some (.lst [.ref l, .int st]) := by rw [upd_ne nbl]; exact g1
      have k2 : upd H1 l (.lst ((List.map V.int (n :: r)).set 0 (V.int (n / m)))) l = some (.lst (((n / m) :: r).map V.int)) := upd_same
      have keep2 : ∀ a o, a ≠ l → H a = some o → upd H1 l (.lst ((List.map V.int (n :: r)).set 0 (V.int (n / m)))) a = some o := fun a o e1 e => by rw [upd_ne e1]; exact keep a o e
      generalize upd H1 l (.lst ((List.map V.int (n :: r)).set 0 (V.int (n / m)))) = H2 at k1 k2 keep2
      -- the end
      have fin : ∀ H3, BoxAt H3 b l → (∀ a o, a ≠ b → a ≠ l → H a = some o → H3 a = some o) → tRet (tOp (rI (fun _ j => 0 < j) fun i j => .int (i % j)) (tVar 2) (tVar 1)) { nx := fun _ H' => Q .non H', rt := Q } [some (.ref b), some (.int m), some (.int n)] H3 := fun H3 bx kk =>
        ⟨.int n, rfl, .int m, rfl, n, m, rfl, rfl, m0, q _ _ (Int.emod_nonneg _ (by omega)) (Int.emod_lt_of_pos _ m0) ⟨bx, kk⟩⟩
      have drop : ∀ H3, H3 = H2 → tDrop (tBM K "list" rPopAt (tOp (rIxL K) (tVar 0) (tC (.int 0))) (tCons (tC (.int 0)) tNil)) { nx := fun σ H' => tRet (tOp (rI (fun _ j => 0 < j) fun i j => .int (i % j)) (tVar 2) (tVar 1)) { nx := fun _ H' => Q .non H', rt := Q } σ H', rt := Q } [some (.ref b), some (.int m), some (.int n)] H3 := fun H3 e => by
        subst e
        refine ⟨.ref b, rfl, b, _, 0, .ref l, rfl, rfl, SqL.of k1, atI_nat (j := 0) rfl, .inl ⟨rfl, _, SqL.of k2⟩, l, _, 0, 0, _, rfl, rfl, k2, by decide, by decide, (ixN_seq (ix_ok rfl (by simp))).1, rfl, ?_⟩
        refine fin _ ⟨r, st, by rw [upd_ne nbl]; exact k1, upd_same⟩ fun a o e1 e2 e => by rw [upd_ne e2]; exact keep2 a o e2 e
      refine ⟨.ref b, rfl, b, _, 0, .ref l, rfl, rfl, SqL.of k1, atI_nat (j := 0) rfl, l, _, 0, _, rfl, rfl, SqL.of k2, atI_nat (j := 0) rfl, rfl, _, rfl, ?_⟩
      cases e0 : decide (V.int (n / m) = V.int 0) with
      | true => exact iteT (iteT (drop _ rfl))
      | false =>
        refine iteF ?_
        refine ⟨.ref b, rfl, b, _, 0, .ref l, rfl, rfl, SqL.of k1, atI_nat (j := 0) rfl, l, _, 0, _, rfl, rfl, SqL.of k2, atI_nat (j := 0) rfl, 1, rfl, rfl, _, rfl, ?_⟩
        cases e1 : decide (V.int (n / m) = V.int (-1)) with
        | true => exact iteT (drop _ rfl)
        | false => exact iteF (fin _ ⟨_, st, k1, k2⟩ fun a o e1 e2 e => keep2 a o e2 e)
end
end K04
namespace K04
open PySem PySem.Spec PyProof.Rows L2 Kt
section
variable {P : Program} {w : World} {K : PySem.W.Frag} {mg : Str → Option Value} {base : Heap}
theorem ok_l_begun (T : Txt K mg) : FnOk P w K mg base CX0 1 T.d_l_begun.f T.d_l_begun.fd ["_law_script"] (spBegun K) := by
  refine T.d_l_begun.F.ok sc_l_begun (fun vs H Q E h => ?_) (fun cdv A outer s H vs Q E hr h => ?_)
  · obtain ⟨a, ns, rfl, _⟩ := h
    rfl
  · obtain ⟨a, ns, rfl, hS, hlen, q⟩ := h
    refine ⟨_, (pss_cons (ps_set (i := 1) sc_l_begun.nd rfl (.inl rfl) pe_int)
  (pss_cons (ps_for PassesOwn.never rfl (pi_list (pv 0)) (pg_name (i := 2) sc_l_begun.nd rfl (.inl rfl))
  (pss_one (ps_set (i := 1) sc_l_begun.nd rfl (.inl rfl) (pe_op op_mod (pe_op op_add (pe_op op_add (pe_op op_mul (pv 1) pe_int) (pe_op op_mul (pv 2) pe_int)) pe_int) pe_int))))
  (pss_one (ps_ret (pe_lst (pa_cons (pe_callTy call_list_of (by rfl) T.n_list (by decide +kernel) (pa_cons (pv 0) pa_nil)) (pa_cons (pe_op op_mul (pv 1) (pe_callTy call_int1 (by rfl) T.n_int (by decide +kernel) (pa_cons (pe_cmpR op_gt (pe_callB call_len_seq (by rfl) T.n_len PySem.boot_len (pa_cons (pv 0) pa_nil)) pe_int (nomark _)) pa_nil))) pa_nil))))))), ?_⟩
    refine ⟨.ref a, rfl, a, rfl, ⟨_, hS⟩, for_list (K := K) (a := a) (xs := ns.map V.int) (fun i σ H' => H' = H ∧ ∃ (st : Int) (y : Option V), σ = [some (.ref a), some (.int st), y]) ⟨rfl, 0, none, rfl⟩ (fun i σ H' _ p => ?_) (fun i x σ H' hx p => ?_) (fun σ H' p => ?_)⟩
    · obtain ⟨rfl, _⟩ := p
      exact hS
    · obtain ⟨rfl, st, y, rfl⟩ := p
      obtain ⟨k, hk, rfl⟩ := at_map hx
      refine ⟨.int st, rfl, st, 48271, rfl, rfl, .inr ⟨by decide, by decide⟩, .int k, rfl, k, 69621, rfl, rfl, .inr ⟨by decide, by decide⟩, _, _, rfl, rfl, _, 11, rfl, rfl, _, 2147483647, rfl, rfl, (by show (0 : Int) < 2147483647; decide), rfl, _, _, rfl⟩
    · obtain ⟨rfl, st, y, rfl⟩ := p
      refine ⟨.ref a, rfl, a, _, rfl, .inl hS, fun l nl => ?_⟩
      refine ⟨.int st, rfl, .ref a, rfl, a, _, rfl, .inl ((same_new nl).seq hS), _, 2, rfl, rfl, .inr ⟨_, rfl, ?_⟩⟩
      refine ⟨st, _, rfl, rfl, .inr (by split <;> constructor <;> decide), ?_⟩
      refine ⟨by show 2 ≤ sizeLine; decide, fun b nb => ?_⟩
      have nlb : l ≠ b := fun e => by rw [← e, upd_same] at nb; cases nb
      refine q b l _ ((same_new nl).trans (same_new nb)) ⟨ns, _, upd_same, by rw [upd_ne nlb, upd_same]⟩ ((same_new nl).free nb) nl
theorem ok_l_picked (T : Txt K mg) : FnOk P w K mg base CX0 2 T.d_l_picked.f T.d_l_picked.fd ["_law_box", "_law_signs", "_law_many"] spPicked := by
  refine T.d_l_picked.F.ok sc_l_picked (fun vs H Q E h => ?_) (fun cdv A outer s H vs Q E hr h => ?_)
  · obtain ⟨b, l, z, m, rfl, _⟩ := h
    rfl
  · obtain ⟨b, l, z, m, rfl, bx, hz, hm, q⟩ := h
    have nbl := bx.ne
    refine ⟨_, (pss_cons (ps_set (i := 3) sc_l_picked.nd rfl (.inr rfl) (pe_callTy (Kt.call_listS rfl) (by rfl) T.n_list (by decide +kernel) (pa_cons (pv 1) pa_nil)))
  (pss_one (ps_ret (pe_lc (own := [("_law_turn", 4)]) (g := gName 4) (tt := tYes) (te := (tBM K "list" rPopAt (tVar 3) (tCons (tCall spTake [] E0 (tCons (tVar 0) (tCons (tCB (rLenQ K) (tCons (tVar 3) tNil)) tNil))) tNil))) rfl sc_l_picked.nd (pi_range1 (by rfl) T.n_range (pa_cons (pv 2) pa_nil)) (blkOk_by (own := [("_law_turn", 4)]) (N := ["_law_box", "_law_signs", "_law_many", "_law_left", "_law_turn"]) (sc := defScope s_l_picked) (by decide +kernel)) (by exact fun _ _ _ _ _ => pg_name (i := 4) sc_l_picked.nd rfl (Or.inl rfl)) (by exact fun _ _ _ _ _ => pts_nil) (by exact fun _ _ _ _ _ => (pe_bm PySem.F.plainAttrs_list PySem.F.slot_list_pop PySem.F.type_list_pop mt_popAt (pv 3) (pa_cons (pe_call (ok_l_take T) (hr.mono (by decide)) (by rfl) T.d_l_take.g T.d_l_take.F.kp T.d_l_take.b .nil pass0 (pa_cons (pv 0) (pa_cons (pe_callB call_len_seq (by rfl) T.n_len PySem.boot_len (pa_cons (pv 3) pa_nil)) pa_nil))) pa_nil))))))), ?_⟩
    refine ⟨.str z, rfl, z, rfl, hz, fun L nL => ?_⟩
    refine ⟨.int m, rfl, m, rfl, by omega, by omega, fun D nD => ?_⟩
    have nL0 : L ≠ D := fun e => by rw [← e, upd_same] at nD; cases nD
    have nD0 : H D = none := by rw [upd_ne nL0.symm] at nD; exact nD
    have nLb : b ≠ L ∧ l ≠ L := let ⟨ns, st, h1, h2⟩ := bx; ⟨ne_of_none h1 nL, ne_of_none h2 nL⟩
    have nDb : b ≠ D ∧ l ≠ D := let ⟨ns, st, h1, h2⟩ := bx; ⟨ne_of_none h1 nD0, ne_of_none h2 nD0⟩
    refine lc_range (lo := 0) (n := (m : Int).toNat) (fun i H' => ∃ ps rest : List Nat, (ps ++ rest).Perm z.cps.toList ∧ ps.length = i ∧ Bxd b l H H' ∧ H' D = some (.lst (sgs ps)) ∧ H' L = some (.lst (sgs rest))) ?_ (fun i H' hi p => ?_) (fun H' p => ?_)
    · refine ⟨[], z.cps.toList, List.Perm.refl _, rfl, Bxd.same bx ((same_new nL).trans (same_new nD)), upd_same, ?_⟩
      rw [upd_ne nL0, upd_same]; rfl
    · obtain ⟨ps, rest, hp, hl, bd, hD, hL⟩ := p
      have hlen : ps.length + rest.length = z.cps.size := by
        have := hp.length_eq
        rw [List.length_append, Array.length_toList] at this; exact this
      have hpos : 0 < rest.length := by omega
      have hsl : (sgs rest).length = rest.length := by simp [sgs]
      refine ⟨rfl, lc_yes ?_⟩
      refine ⟨.ref L, rfl, .inl ⟨rfl, _, SqL.of hL⟩, .ref b, rfl, .ref L, rfl, L, _, rfl, .inl (SqL.of hL), b, l, ((sgs rest).length : Nat), rfl, bd.box, by omega, ?_, fun v H3 v0 v1 bd3 => ?_⟩
      · rw [hsl, Int.natAbs_natCast]
        exact Nat.lt_of_le_of_lt (show rest.length ≤ 1000 by omega) (by decide)
      obtain ⟨k, rfl⟩ := Int.eq_ofNat_of_zero_le v0
      have hk : k < rest.length := by omega
      have eL : H3 L = some (.lst (sgs rest)) := bd3.at' L _ nLb.1.symm nLb.2.symm hL
      have eD : H3 D = some (.lst (sgs ps)) := bd3.at' D _ nDb.1.symm nDb.2.symm hD
      refine ⟨L, sgs rest, k, k, .str (sg rest[k]), rfl, rfl, eL, by omega, by omega, (ixN_seq (ix_ok rfl (by rw [hsl]; exact hk))).1, map_at (map_at (List.getElem?_eq_getElem hk)), ?_⟩
      refine ⟨sgs ps, by rw [upd_ne nL0.symm]; exact eD, ?_, ps ++ [rest[k]], rest.eraseIdx k, ?_, by simp [hl], ⟨?_, ?_⟩, ?_, ?_⟩
      · have : (sgs ps).length = ps.length := by simp [sgs]
        rw [this]; exact small1000 (by omega)
      · refine List.Perm.trans ?_ hp
        rw [List.append_assoc]
        exact List.Perm.append_left ps (perm_erase (List.getElem?_eq_getElem hk))
      · exact bd3.box.kp (fun o e => by rw [upd_ne nDb.1, upd_ne nLb.1]; exact e) fun o e => by rw [upd_ne nDb.2, upd_ne nLb.2]; exact e
      · intro a o e1 e2 e
        rw [upd_ne (ne_of_none e nD0), upd_ne (ne_of_none e nL)]
        exact bd3.at' a o e1 e2 (bd.at' a o e1 e2 e)
      · rw [upd_same]; simp [sgs]
      · rw [upd_ne nL0, upd_same]
        unfold sgs; rw [erase_map, erase_map]
    · obtain ⟨ps, rest, hp, hl, bd, hD, hL⟩ := p
      exact q D ps rest H' hp (by rw [hl]; exact Int.toNat_natCast m) bd nD0 hD
end
end K04
namespace K04
open PySem PySem.Spec PyProof.Rows L2 Kt
section
variable {P : Program} {w : World} {K : PySem.W.Frag} {mg : Str → Option Value} {base : Heap}
theorem ok_l_sheet (T : Txt K mg) : FnOk P w K mg base CX0 3 T.d_l_sheet.f T.d_l_sheet.fd ["_law_box", "_law_most"] spSheet := by
  refine T.d_l_sheet.F.ok sc_l_sheet (fun vs H Q E h => ?_) (fun cdv A outer s H vs Q E hr h => ?_)
  · obtain ⟨b, l, m, rfl, _⟩ := h
    rfl
  · obtain ⟨b, l, most, rfl, bx, m1, m2, q⟩ := h
    refine ⟨_, (pss_cons (ps_set (i := 2) sc_l_sheet.nd rfl (.inl rfl) (pe_op op_add pe_int (pe_call (ok_l_take T) (hr.mono (by decide)) (by rfl) T.d_l_take.g T.d_l_take.F.kp T.d_l_take.b .nil pass0 (pa_cons (pv 0) (pa_cons (pv 1) pa_nil)))))
  (pss_cons (ps_set (i := 3) sc_l_sheet.nd rfl (.inl rfl) pe_str)
  (pss_cons (ps_set (i := 3) sc_l_sheet.nd rfl (.inl rfl) (pe_op op_add_str (pv 3) pe_str))
  (pss_cons (ps_set (i := 4) sc_l_sheet.nd rfl (.inl rfl) (pe_op op_fdivW (pe_call (ok_l_take T) (hr.mono (by decide)) (by rfl) T.d_l_take.g T.d_l_take.F.kp T.d_l_take.b .nil pass0 (pa_cons (pv 0) (pa_cons pe_int pa_nil))) pe_int))
  (pss_cons (ps_set (i := 5) sc_l_sheet.nd rfl (.inl rfl) (pe_call (ok_l_picked T) (hr.mono (by decide)) (by rfl) T.d_l_picked.g T.d_l_picked.F.kp T.d_l_picked.b .nil pass0 (pa_cons (pv 0) (pa_cons (pe_ix ix_list (pe_lst (pa_cons pe_str (pa_cons (pv 3) pa_nil))) (pv 4) (fun _ _ => rfl)) (pa_cons (pv 2) pa_nil)))))
  (pss_cons (ps_set (i := 6) sc_l_sheet.nd rfl (.inl rfl) (pe_call (ok_l_picked T) (hr.mono (by decide)) (by rfl) T.d_l_picked.g T.d_l_picked.F.kp T.d_l_picked.b .nil pass0 (pa_cons (pv 0) (pa_cons (pe_ix ix_list (pe_lst (pa_cons pe_str (pa_cons (pv 3) pa_nil))) (pv 4) (fun _ _ => rfl)) (pa_cons (pv 2) pa_nil)))))
  (pss_cons (ps_for PassesOwn.never rfl (pi_range1 (by rfl) T.n_range (pa_cons (pv 2) pa_nil)) (pg_name (i := 7) sc_l_sheet.nd rfl (.inl rfl))
  (pss_one (ps_if (PW.pt (pw_and (pt_cmpR op_eq (pe_call (ok_l_take T) (hr.mono (by decide)) (by rfl) T.d_l_take.g T.d_l_take.F.kp T.d_l_take.b .nil pass0 (pa_cons (pv 0) (pa_cons pe_int pa_nil))) pe_int (nomark _)) (pw_and1 (pt_cmpR op_notIn_seq (pe_ix ix_list (pv 5) (pv 7) (fun _ _ => rfl)) (pv 6) (by rfl)))))
  (pss_one (ps_asg (pe_ix ix_list (pv 5) (pv 7) (fun _ _ => rfl)) (pg_sub (pv 6) (pv 7) set_list)))
  pss_nil)))
  (pss_cons (ps_set (i := 8) sc_l_sheet.nd rfl (.inl rfl) (pe_ix ix_list (pe_lst (pa_cons pe_non (pa_cons (pe_call (ok_l_take T) (hr.mono (by decide)) (by rfl) T.d_l_take.g T.d_l_take.F.kp T.d_l_take.b .nil pass0 (pa_cons (pv 0) (pa_cons (pv 2) pa_nil))) pa_nil))) (pe_call (ok_l_take T) (hr.mono (by decide)) (by rfl) T.d_l_take.g T.d_l_take.F.kp T.d_l_take.b .nil pass0 (pa_cons (pv 0) (pa_cons pe_int pa_nil))) (fun _ _ => rfl)))
  (pss_one (ps_ret (pe_tup (pa_cons (pe_join pe_str (pv 5)) (pa_cons (pe_join pe_str (pv 6)) (pa_cons (pv 8) pa_nil)))))))))))))), ?_⟩
    -- many
    refine ⟨.ref b, rfl, .int most, rfl, b, l, most, rfl, bx, by omega, Nat.lt_of_le_of_lt (show (most : Int).natAbs ≤ 26 by omega) (by decide), fun v H1 v0 v1 bd1 => ?_⟩
    refine ⟨1, v, rfl, rfl, ?_⟩
    obtain ⟨n, hn, n1, n2⟩ : ∃ n : Nat, 1 + v = (n : Int) ∧ 1 ≤ n ∧ n ≤ most := ⟨(1 + v).toNat, by omega, by omega, by omega⟩
    -- every
    refine ⟨_, rfl, _, _, rfl, rfl, (by decide +kernel), ?_⟩
    -- often
    refine ⟨.ref b, rfl, b, l, 4, rfl, bd1.box, by decide, by decide, fun v4 H2 v40 v41 bd2 => ?_⟩
    refine ⟨v4, 3, rfl, rfl, ⟨by decide, by decide⟩, ?_⟩
    have hof : v4 / 3 = 0 ∨ v4 / 3 = 1 := by omega
    -- zero
    refine ⟨.ref b, rfl, _, rfl, by show 2 ≤ sizeLine; decide, fun p np => ?_⟩
    have bd2' := bd1.trans bd2
    have bd3 : ∀ o, Bxd b l H (upd H2 p o) := fun o => bd2'.trans (Bxd.same bd2'.box (same_new np))
    refine ⟨.int (v4 / 3), rfl, ix_pick hof (SqL.of upd_same) (by decide +kernel) (by decide +kernel) fun sz ok1 => ?_⟩
    refine ⟨.int (1 + v), rfl, b, l, sz, n, by rw [hn]; rfl, (bd3 _).box, (SOk.elim ok1).2.2.2, Nat.le_trans (Nat.le_trans n2 m2) (SOk.elim ok1).2.2.1, fun Dz zs rz H3 pz lz bd4 nDz eDz => ?_⟩
    have bd4' := (bd3 _).trans bd4
    have fDz : H Dz = none := (bd3 _).new bx nDz
    have nDzb : Dz ≠ b ∧ Dz ≠ l := by
      obtain ⟨ns, st, h1, h2⟩ := (bd3 (.lst [])).box
      obtain ⟨ns', st', h1', h2'⟩ := bd2'.box
      have q1 : p ≠ b := (ne_of_none h1' np).symm
      have q2 : p ≠ l := (ne_of_none h2' np).symm
      have r1 : Dz ≠ p := fun e => by rw [e, upd_same] at nDz; cases nDz
      rw [upd_ne r1] at nDz
      exact ⟨(ne_of_none h1' nDz).symm, (ne_of_none h2' nDz).symm⟩
    -- one
    refine ⟨.ref b, rfl, _, rfl, by show 2 ≤ sizeLine; decide, fun p2 np2 => ?_⟩
    have bd5 : ∀ o, Bxd b l H (upd H3 p2 o) := fun o => bd4'.trans (Bxd.same bd4'.box (same_new np2))
    refine ⟨.int (v4 / 3), rfl, ix_pick hof (SqL.of upd_same) (by decide +kernel) (by decide +kernel) fun so ok2 => ?_⟩
    refine ⟨.int (1 + v), rfl, b, l, so, n, by rw [hn]; rfl, (bd5 _).box, (SOk.elim ok2).2.2.2, Nat.le_trans (Nat.le_trans n2 m2) (SOk.elim ok2).2.2.1, fun Do os ro H4 po lo bd6 nDo eDo => ?_⟩
    have bd6' := (bd5 _).trans bd6
    have fDo : H Do = none := (bd5 _).new bx nDo
    have nDo3 : Do ≠ p2 := fun e => by rw [e, upd_same] at nDo; cases nDo
    rw [upd_ne nDo3] at nDo
    have nDob : Do ≠ b ∧ Do ≠ l := by
      obtain ⟨ns', st', h1', h2'⟩ := bd4'.box
      exact ⟨(ne_of_none h1' nDo).symm, (ne_of_none h2' nDo).symm⟩
    have nDD : Dz ≠ Do := ne_of_none eDz nDo
    have eDz4 : H4 Dz = some (.lst (sgs zs)) := bd6.at' Dz _ nDzb.1 nDzb.2 (by rw [upd_ne (ne_of_none eDz np2)]; exact eDz)
    obtain ⟨nz, az⟩ := picked_ok ok1 pz
    obtain ⟨no, ao⟩ := picked_ok ok2 po
    -- the loop
    refine ⟨.int (1 + v), rfl, 1 + v, rfl, by omega, by omega, ?_⟩
    rw [show (1 + v).toNat = n by omega]
    refine for_range (lo := 0) (n := n) (fun i σ H' => ∃ (os' : List Nat) (y7 : Option V) (sE : Str), os'.Nodup ∧ (∀ c ∈ os', 32 ≤ c ∧ c ≤ 126) ∧ os'.length = n ∧ H' Do = some (.lst (sgs os')) ∧ H' Dz = some (.lst (sgs zs)) ∧ Bxd b l H H' ∧
      σ = [some (.ref b), some (.int most), some (.int (1 + v)), some (.str sE), some (.int (v4 / 3)), some (.ref Dz), some (.ref Do), y7, none]) ?_ (fun i σ H' hi p => ?_) (fun σ H' p => ?_)
    · exact ⟨os, none, _, no, ao, lo, eDo, eDz4, bd6', rfl⟩
    · obtain ⟨os', y7, sE, no', ao', lo', eo', ez', bd', rfl⟩ := p
      -- take == 1
      refine ⟨.ref b, rfl, b, l, 4, rfl, bd'.box, by decide, by decide, fun u H5 u0 u1 bdu => ?_⟩
      have bdu' := bd'.trans bdu
      have eo5 : H5 Do = some (.lst (sgs os')) := bdu.at' Do _ nDob.1 nDob.2 eo'
      have ez5 : H5 Dz = some (.lst (sgs zs)) := bdu.at' Dz _ nDzb.1 nDzb.2 ez'
      have same : ∃ (os2 : List Nat) (y7 : Option V) (sE' : Str), os2.Nodup ∧ (∀ c ∈ os2, 32 ≤ c ∧ c ≤ 126) ∧ os2.length = n ∧ H5 Do = some (.lst (sgs os2)) ∧ H5 Dz = some (.lst (sgs zs)) ∧ Bxd b l H H5 ∧
          [some (V.ref b), some (.int most), some (.int (1 + v)), some (.str sE), some (.int (v4 / 3)), some (.ref Dz), some (.ref Do), some (.int (0 + (i : Int))), none] =
          [some (.ref b), some (.int most), some (.int (1 + v)), some (.str sE'), some (.int (v4 / 3)), some (.ref Dz), some (.ref Do), y7, none] := ⟨os', _, sE, no', ao', lo', eo5, ez5, bdu', rfl⟩
      refine ⟨rfl, _, rfl, ?_⟩
      cases decide (V.int u = V.int 1) with
      | false => exact iteF (iteF same)
      | true =>
        refine iteT ?_
        obtain ⟨c, hc⟩ : ∃ c, zs[i]? = some c := ⟨zs[i]'(by omega), List.getElem?_eq_getElem _⟩
        refine ⟨.ref Dz, rfl, .int (0 + (i : Int)), rfl, Dz, _, 0 + (i : Int), _, rfl, rfl, SqL.of ez5, at_of (by omega) (sgs_at hc), .ref Do, rfl, Do, _, rfl, .inl (SqL.of eo5), rfl, sgs_flat os', _, rfl, ?_⟩
        rw [if_pos rfl, sgs_in]
        by_cases hm : c ∈ os'
        · rw [decide_eq_true hm]
          exact iteF same
        · rw [decide_eq_false hm]
          refine iteT ?_
          refine ⟨.ref Dz, rfl, .int (0 + (i : Int)), rfl, Dz, _, 0 + (i : Int), _, rfl, rfl, SqL.of ez5, at_of (by omega) (sgs_at hc), .ref Do, rfl, .int (0 + (i : Int)), rfl, Do, _, 0 + (i : Int), i, rfl, rfl, eo5, ix_ok (by omega) (by rw [sgs_len]; omega), ?_⟩
          refine ⟨os'.set i c, _, sE, nodup_set no' hm, fun d hd => ?_, by rw [List.length_set]; exact lo', by rw [upd_same, sgs_set], by rw [upd_ne nDD]; exact ez5, ⟨?_, fun a o e1 e2 e => ?_⟩, rfl⟩
          · rcases mem_set_or hd with z | z
            · exact ao' d z
            · rw [z]; exact az c (List.mem_of_getElem? hc)
          · exact bdu'.box.kp (fun o e => by rw [upd_ne nDob.1.symm]; exact e) fun o e => by rw [upd_ne nDob.2.symm]; exact e
          · rw [upd_ne (ne_of_none e fDo)]
            exact bdu'.at' a o e1 e2 e
    · obtain ⟨os', y7, sE, no', ao', lo', eo', ez', bd', rfl⟩ := p
      -- home
      refine ⟨.ref b, rfl, .int (1 + v), rfl, b, l, 1 + v, rfl, bd'.box, by omega, Nat.lt_of_le_of_lt (show (1 + v).natAbs ≤ 26 by omega) (by decide), fun u H5 u0 u1 bdu => ?_⟩
      refine ⟨by show 2 ≤ sizeLine; decide, fun p3 np3 => ?_⟩
      have bd7 := bd'.trans bdu
      have bd8 : Bxd b l H (upd H5 p3 (HO.lst [V.non, V.int u])) := bd7.trans (Bxd.same bd7.box (same_new np3))
      refine ⟨.ref b, rfl, b, l, 2, rfl, bd8.box, by decide, by decide, fun t H6 t0 t1 bdt => ?_⟩
      have bd9 := bd8.trans bdt
      have e3 : upd H5 p3 (HO.lst [V.non, V.int u]) p3 = some (.lst [V.non, V.int u]) := upd_same
      have np3b : p3 ≠ b ∧ p3 ≠ l := by
        obtain ⟨ns, st, h1, h2⟩ := bd7.box
        exact ⟨(ne_of_none h1 np3).symm, (ne_of_none h2 np3).symm⟩
      have e36 : H6 p3 = some (.lst [V.non, V.int u]) := bdt.at' p3 _ np3b.1 np3b.2 e3
      have stay : ∀ a o, a ≠ b → a ≠ l → H' a = some o → H6 a = some o := fun a o e1 e2 e => bdt.at' a o e1 e2 (by
        have e5 := bdu.at' a o e1 e2 e
        rw [upd_ne (ne_of_none e5 np3)]; exact e5)
      have ez6 := stay Dz _ nDzb.1 nDzb.2 ez'
      have eo6 := stay Do _ nDob.1 nDob.2 eo'
      obtain ⟨hm, at3, hh⟩ : ∃ hm : V, atI [V.non, V.int u] t = some hm ∧ (hm = .non ∨ ∃ h : Nat, hm = .int h ∧ h < n) := by
        rcases (show t = 0 ∨ t = 1 by omega) with e | e <;> rw [e]
        · exact ⟨_, atI_nat (j := 0) rfl, .inl rfl⟩
        · exact ⟨_, atI_nat (j := 1) rfl, .inr ⟨u.toNat, by rw [show ((u.toNat : Nat) : Int) = u by omega], by omega⟩⟩
      refine ⟨p3, _, t, hm, rfl, rfl, SqL.of e36, at3, ?_⟩
      -- the tuple
      have lens : ∀ ps : List Nat, ps.length ≤ 26 → ((ps.map sg).map (·.length)).sum + (ps.map sg).length * (Str.ofString "").length ≤ 16777216 := fun ps hp => by
        have e0 : (Str.ofString "").length = 0 := by decide +kernel
        have e1 : (ps.map sg).map (·.length) = List.replicate ps.length 1 := by
          rw [List.map_map]
          exact List.map_eq_replicate_iff.mpr fun _ _ => rfl
        rw [e0, e1]
        simp
        omega
      refine ⟨⟨_, rfl⟩, .ref Dz, rfl, _, Dz, zs.map sg, rfl, rfl, .inl (SqL.of ez6), lens zs (by omega), ?_⟩
      refine ⟨⟨_, rfl⟩, .ref Do, rfl, _, Do, os'.map sg, rfl, rfl, .inl (SqL.of eo6), lens os' (by omega), ?_⟩
      refine ⟨hm, rfl, by show 3 ≤ sizeLine; decide, fun t' nt' => ?_⟩
      rw [join_sg, join_sg]
      refine q t' ⟨zs.toArray⟩ ⟨os'.toArray⟩ hm _ ⟨?_, ?_, ?_, nz, no', az, ao', ?_⟩ ?_ (bd9.trans (Bxd.same bd9.box (same_new nt'))) (bd9.new bx nt') upd_same
      · show os'.toArray.size = zs.toArray.size
        simp; omega
      · show 1 ≤ zs.toArray.size
        simp; omega
      · show zs.toArray.size ≤ 26
        simp; omega
      · rcases hh with e | ⟨h, e1, e2⟩
        · exact .inl e
        · refine .inr ⟨h, e1, ?_⟩
          show h < zs.toArray.size
          simp; omega
      · show zs.toArray.size ≤ most
        simp; omega
end
end K04
namespace K04
open PySem PySem.Spec PyProof.Rows L2 Kt
abbrev q2 : Str := "_first_of.<locals>.<lambda>"
/-- the tables of the text -/
abbrev tws {K : PySem.W.Frag} {mg : Str → Option Value} (T : Txt K mg) : TWs := ⟨[T.t_are_signs], [(T.t_first_of, q2)]⟩
theorem tb1 {K : PySem.W.Frag} {mg : Str → Option Value} {T : Txt K mg} {H : Hp} (t : Tb (tws T) H) : GxR.TabG H T.t_are_signs := t.g _ (by simp [tws])
theorem kz1 {K : PySem.W.Frag} {mg : Str → Option Value} {T : Txt K mg} {H H' : Hp} (ne : T.t_are_signs ≠ T.t_first_of) (t : Tb (tws T) H) (k : Kp T.t_are_signs H H') : Kz (tws T) H H' := Kz.kp t (by simp [tws]) (fun p h => by rw [List.mem_singleton.mp h]; exact ne.symm) k
section
variable {P : Program} {w : World} {K : PySem.W.Frag} {mg : Str → Option Value} {base : Heap}
theorem ok_are_signs (T : Txt K mg) (TB : GxR.TabB base mg T.c_are_signs T.t_are_signs) : FnOk P w K mg base CX0 1 T.d_are_signs.f T.d_are_signs.fd ["signs"] (spSigns T.t_are_signs) := by
  refine T.k_are_signs.ok sc_are_signs (fun vs H Q E h => ?_) (fun A outer s H vs Q E hr h => ?_)
  · obtain ⟨z, rfl, _⟩ := h
    rfl
  · obtain ⟨z, rfl, tb, q⟩ := h
    refine ⟨_, (pss_one (ps_ret (GxR.pe_allS hr (by rfl) T.n_all (by decide +kernel) TB rfl (Kt.genS_by rfl rfl (by decide +kernel) rfl rfl) (pv 0) (Kt.elt_in rfl rfl) (fun _ => rfl)))), ?_⟩
    refine ⟨.str z, rfl, z, rfl, tb, fun H2 t2 => ?_⟩
    rw [show pbIn " " "~" = fun c => decide (32 ≤ c ∧ c ≤ 126) from funext pbIn_32_126]
    exact q H2 t2
theorem ok_check_set (T : Txt K mg) : FnOk P w K mg base CX0 1 T.d_check_set.f T.d_check_set.fd ["begin"] spCheckSet := by
  refine T.d_check_set.F.ok sc_check_set (fun vs H Q E h => ?_) (fun cdv A outer s H vs Q E hr h => ?_)
  · obtain ⟨b, rfl, _⟩ := h
    rfl
  · obtain ⟨b, rfl, hb, q⟩ := h
    refine ⟨_, (pss_one (ps_if (PW.pt (pw_and (pt_cmpR op_ne (pv 0) pe_int (nomark _)) (pw_and1 (pt_cmpR op_ne (pv 0) pe_int (nomark _)))))
  (pss_one ps_never)
  pss_nil)), ?_⟩
    refine ⟨.int b, rfl, rfl, _, rfl, ?_⟩
    rcases hb with e | e <;> subst e
    · exact iteF (iteF q)
    · exact iteT ⟨.int 1, rfl, rfl, _, rfl, iteF q⟩
theorem ok_check_text (T : Txt K mg) : FnOk P w K mg base CX0 1 T.d_check_text.f T.d_check_text.fd ["sheet", "text"] spCheckText := by
  refine T.d_check_text.F.ok sc_check_text (fun vs H Q E h => ?_) (fun cdv A outer s H vs Q E hr h => ?_)
  · obtain ⟨t, z, o, hm, x, rfl, _⟩ := h
    rfl
  · obtain ⟨t, z, o, hm, x, rfl, gd, sh, hx, hin, q⟩ := h
    refine ⟨_, (pss_cons (ps_asg (pv 0) (pg_tup rfl (pgs_cons (pg_name (i := 2) sc_check_text.nd rfl (.inl rfl)) (pgs_cons (pg_name (i := 3) sc_check_text.nd rfl (.inl rfl)) (pgs_cons (pg_name (i := 4) sc_check_text.nd rfl (.inl rfl)) pgs_nil)))))
  (pss_one (ps_for PassesOwn.never rfl (Kt.pi_enumS (by rfl) T.n_enumerate (pa_cons (pv 1) pa_nil)) (pg_tup rfl (pgs_cons (pg_name (i := 5) sc_check_text.nd rfl (.inl rfl)) (pgs_cons (pg_name (i := 6) sc_check_text.nd rfl (.inl rfl)) pgs_nil)))
  (pss_one (ps_if (PW.pt (pw_or (pt_cmpR op_eq (pv 5) (pe_glob (v := .int 32) (by rfl) T.c_MOST_SIGNS.choose_spec ⟨_, rfl⟩) (nomark _)) (pw_or1 (PW.pt (pw_and (pt_cmpR op_notIn_sign (pv 6) (pv 2) (by rfl)) (pw_and1 (pt_cmpR op_notIn_sign (pv 6) (pv 3) (by rfl))))))))
  (pss_one ps_never)
  pss_nil))))), ?_⟩
    refine ⟨.ref t, rfl, t, _, rfl, SqT.of sh, rfl, _, _, rfl, _, _, rfl, _, _, rfl, rfl, ?_⟩
    refine ⟨.str x, rfl, x, rfl, ?_⟩
    refine ⟨fun i m σ H' => m = x.cps.size - i ∧ i ≤ x.cps.size ∧ Same H H' ∧ ∃ y5 y6 : Option V, σ = [some (.ref t), some (.str x), some (.str z), some (.str o), some hm, y5, y6], ⟨x.cps.size, by omega, Nat.zero_le _, Same.refl _, none, none, rfl⟩, fun i m σ H' hW => ?_⟩
    obtain ⟨em, hi, sm, y5, y6, rfl⟩ := hW
    by_cases hlt : i < x.cps.size
    · refine .inr ⟨hlt, fun σ' H2 => Same H H2 ∧ ∃ y5 y6 : Option V, σ' = [some (.ref t), some (.str x), some (.str z), some (.str o), some hm, y5, y6], fun σ' H2 p => ⟨m - 1, by omega, by omega, hlt, p.1, p.2⟩, fun v H2 hy => ?_⟩
      obtain ⟨D, c, rfl, nD, rfl, hc⟩ := hy
      have hmem : c ∈ x.cps.toList := by
        rw [← Array.getElem?_toList] at hc
        exact List.mem_of_getElem? hc
      refine ⟨D, _, rfl, SqT.of upd_same, rfl, _, _, rfl, _, _, rfl, rfl, ?_⟩
      refine ⟨.int (i : Nat), rfl, rfl, _, rfl, iteFd (fun e => ?_) ?_⟩
      · injection e with e
        omega
      · refine ⟨.str (sg c), rfl, .str z, rfl, c, z, rfl, rfl, _, rfl, ?_⟩
        by_cases hz : c ∈ z.cps.toList
        · rw [decide_eq_true hz]
          exact iteF (iteF ⟨sm.trans (same_new nD), _, _, rfl⟩)
        · rw [decide_eq_false hz]
          have ho : c ∈ o.cps.toList := (hin c hmem).resolve_left hz
          refine iteT ⟨.str (sg c), rfl, .str o, rfl, c, o, rfl, rfl, _, rfl, ?_⟩
          rw [decide_eq_true ho]
          exact iteF ⟨sm.trans (same_new nD), _, _, rfl⟩
    · exact .inl ⟨by show x.cps.size ≤ i; omega, q H' sm⟩
theorem ok_set_behind (T : Txt K mg) : FnOk P w K mg base CX0 1 T.d_set_behind.f T.d_set_behind.fd ["sheet", "code", "now"] spBehind := by
  refine T.d_set_behind.F.ok sc_set_behind (fun vs H Q E h => ?_) (fun cdv A outer s H vs Q E hr h => ?_)
  · obtain ⟨t, z, o, hm, c, nw, rfl, _⟩ := h
    rfl
  · obtain ⟨t, z, o, hm, c, nw, rfl, gd, sh, q⟩ := h
    refine ⟨_, (pss_cons (ps_asg (pv 0) (pg_tup rfl (pgs_cons (pg_name (i := 3) sc_set_behind.nd rfl (.inl rfl)) (pgs_cons (pg_name (i := 4) sc_set_behind.nd rfl (.inl rfl)) (pgs_cons (pg_name (i := 5) sc_set_behind.nd rfl (.inl rfl)) pgs_nil)))))
  (pss_cons (ps_if (pt_cmpR op_ge (pv 1) (pe_callB call_len_str (by rfl) T.n_len PySem.boot_len (pa_cons (pv 3) pa_nil)) (nomark _))
  (pss_one (ps_ret (pe_op op_sub (pv 1) (pe_callB call_len_str (by rfl) T.n_len PySem.boot_len (pa_cons (pv 3) pa_nil)))))
  pss_nil)
  (pss_cons (ps_if (pt_cmpR op_eq (pv 1) (pv 5) (nomark _))
  (pss_one (ps_ret pe_int))
  pss_nil)
  (pss_one (ps_ret (pv 2)))))), ?_⟩
    have big : z.length ≤ sizeLine := Nat.le_trans gd.le (by decide)
    refine ⟨.ref t, rfl, t, _, rfl, SqT.of sh, rfl, _, _, rfl, _, _, rfl, _, _, rfl, rfl, ?_⟩
    refine ⟨.int c, rfl, .str z, rfl, z, rfl, big, c, _, rfl, rfl, _, rfl, ?_⟩
    unfold behind at q
    by_cases h : (z.cps.size : Int) ≤ c
    · rw [if_pos h] at q
      exact iteTd h ⟨.int c, rfl, .str z, rfl, z, rfl, big, c, _, rfl, rfl, q⟩
    · rw [if_neg h] at q
      refine iteFd h ?_
      refine ⟨.int c, rfl, hm, rfl, ?_, _, rfl, ?_⟩
      · rcases gd.home with e | ⟨h, e, _⟩ <;> rw [e] <;> rfl
      · by_cases e : V.int c = hm
        · rw [if_pos e] at q
          exact iteTd e q
        · rw [if_neg e] at q
          exact iteFd e ⟨.int nw, rfl, q⟩
theorem ok_code_of (T : Txt K mg) : FnOk P w K mg base CX0 1 T.d_code_of.f T.d_code_of.fd ["sheet", "sign", "now"] spCodeOf := by
  refine T.d_code_of.F.ok sc_code_of (fun vs H Q E h => ?_) (fun cdv A outer s H vs Q E hr h => ?_)
  · obtain ⟨t, z, o, hm, c, now, rfl, _⟩ := h
    rfl
  · obtain ⟨t, z, o, hm, c, now, rfl, gd, sh, hn, q⟩ := h
    refine ⟨_, (pss_cons (ps_asg (pv 0) (pg_tup rfl (pgs_cons (pg_name (i := 3) sc_code_of.nd rfl (.inl rfl)) (pgs_cons (pg_name (i := 4) sc_code_of.nd rfl (.inl rfl)) (pgs_cons (pg_name (i := 5) sc_code_of.nd rfl (.inl rfl)) pgs_nil)))))
  (pss_cons (ps_if (pt_cmpR op_ne (pv 2) (pe_glob (v := .int 2) (by rfl) T.c_EITHER.choose_spec ⟨_, rfl⟩) (nomark _))
  (pss_one (ps_ret (pe_m1 PySem.F.slot_str_find PySem.F.type_str_find mt_find (pe_ix ix_tup (pv 0) (pv 2) (fun _ _ => rfl)) (pv 1))))
  pss_nil)
  (pss_cons (ps_set (i := 6) sc_code_of.nd rfl (.inl rfl) (pe_m1 PySem.F.slot_str_find PySem.F.type_str_find mt_find (pv 3) (pv 1)))
  (pss_cons (ps_if (pt_cmpR op_ne (pe_m1 PySem.F.slot_str_find PySem.F.type_str_find mt_find (pv 4) (pv 1)) (pv 6) (nomark _))
  (pss_one (ps_ret (pe_un un_neg pe_int)))
  pss_nil)
  (pss_one (ps_ret (pv 6))))))), ?_⟩
    refine ⟨.ref t, rfl, t, _, rfl, SqT.of sh, rfl, _, _, rfl, _, _, rfl, _, _, rfl, rfl, ?_⟩
    refine ⟨.int now, rfl, rfl, _, rfl, ?_⟩
    rcases hn with e | e | e <;> subst e
    · exact iteT ⟨.ref t, rfl, .int 0, rfl, t, _, 0, _, rfl, rfl, SqT.of sh, atI_nat (j := 0) rfl, ⟨z, rfl⟩, .str (sg c), rfl, z, sg c, rfl, rfl, q⟩
    · exact iteT ⟨.ref t, rfl, .int 1, rfl, t, _, 1, _, rfl, rfl, SqT.of sh, atI_nat (j := 1) rfl, ⟨o, rfl⟩, .str (sg c), rfl, o, sg c, rfl, rfl, q⟩
    · refine iteF ?_
      refine ⟨.str z, rfl, ⟨z, rfl⟩, .str (sg c), rfl, z, sg c, rfl, rfl, ?_⟩
      refine ⟨.str o, rfl, ⟨o, rfl⟩, .str (sg c), rfl, o, sg c, rfl, rfl, .int (fi z c), rfl, rfl, _, rfl, ?_⟩
      have e2 : cod z o c 2 = if fi o c ≠ fi z c then -1 else fi z c := rfl
      rw [e2] at q
      by_cases h : fi o c = fi z c
      · rw [if_neg (fun k => k h)] at q
        rw [show decide (V.int (Txt.find o (sg c)) = V.int (fi z c)) = true from decide_eq_true (congrArg V.int h)]
        exact iteF ⟨.int (fi z c), rfl, q⟩
      · rw [if_pos h] at q
        rw [show decide (V.int (Txt.find o (sg c)) = V.int (fi z c)) = false from decide_eq_false fun k => h (V.int.inj k)]
        exact iteT ⟨1, rfl, q⟩
theorem ok_first_of (T : Txt K mg) (TB2 : LamX.TabB base mg T.c_first_of T.t_first_of) : FnOk P w K mg base CX0 1 T.d_first_of.f T.d_first_of.fd ["tapes"] (spFirst T.t_first_of q2) := by
  refine T.k_first_of.ok sc_first_of (fun vs H Q E h => ?_) (fun A outer s H vs Q E hr h => ?_)
  · obtain ⟨l, as, L, rfl, _⟩ := h
    rfl
  · obtain ⟨l, as, L, rfl, hl, hr2, hne, hlen, ht, q⟩ := h
    refine ⟨_, (pss_one (ps_ret (Kt.pe_minKey rfl hr (by rfl) T.n_min T.n_len TB2 rfl (pv 0) rfl rfl rfl (by decide +kernel) (by decide +kernel) (by decide +kernel) rfl (by intros; rfl) (by decide +kernel)))), ?_⟩
    have e1 := hr2.len
    have pos : 0 < L.length := List.length_pos_iff.mpr hne
    have gd : ∀ i a, as[i]? = some a → H a = some (.lst ((L.getD i []).map V.int)) ∧ L.getD i [] ∈ L ∧ i < L.length := fun i a ha => by
      obtain ⟨u, h1, h2⟩ := hr2.get ha
      have h3 : L.getD i [] = u := by rw [List.getD_eq_getElem?_getD, h1]; rfl
      rw [h3]
      exact ⟨h2, List.mem_of_getElem? h1, (List.getElem?_eq_some_iff.mp h1).1⟩
    refine ⟨.ref l, rfl, l, as, fun j => L.getD j [], rfl, SqL.of hl, by omega, fun i a ha => ⟨SqL.of (gd i a ha).1, hlen _ (gd i a ha).2.1⟩, ht, fun i a H2 ha best bt t2 => ?_⟩
    rw [e1] at best
    exact q a _ H2 bt t2 (List.mem_of_getElem? ha) (gd i a ha).1 (best_first hne (gd i a ha).2.2 best)
theorem ok_can_be_a_set (T : Txt K mg) (TB : GxR.TabB base mg T.c_are_signs T.t_are_signs) : FnOk P w K mg base CX0 2 T.d_can_be_a_set.f T.d_can_be_a_set.fd ["signs"] (spCan T.t_are_signs) := by
  refine T.d_can_be_a_set.F.ok sc_can_be_a_set (fun vs H Q E h => ?_) (fun cdv A outer s H vs Q E hr h => ?_)
  · obtain ⟨z, rfl, _⟩ := h
    rfl
  · obtain ⟨z, rfl, hz, hn, hp, tb, q⟩ := h
    refine ⟨_, (pss_one (ps_ret (pe_and (pe_call (ok_are_signs T TB) (hr.mono (by decide)) (by rfl) T.d_are_signs.g T.d_are_signs.F.kp T.d_are_signs.b .nil pass0 (pa_cons (pv 0) pa_nil)) (pe_one (pe_cmpR op_eq (Kt.pe_lenSetS rfl (by rfl) T.n_len (by rfl) T.n_set (pv 0)) (pe_callB call_len_str (by rfl) T.n_len PySem.boot_len (pa_cons (pv 0) pa_nil)) (nomark _)))))), ?_⟩
    refine ⟨.str z, rfl, z, rfl, tb, fun H2 t2 => ?_⟩
    have e : (z.cps.toList.all fun c => decide (32 ≤ c ∧ c ≤ 126)) = true := List.all_eq_true.mpr fun c hc => decide_eq_true (hp c hc)
    rw [e]
    refine ⟨true, rfl, iteT ?_⟩
    refine ⟨.str z, rfl, z, rfl, hz, .str z, rfl, z, rfl, Nat.le_trans hz (by decide), rfl, ?_⟩
    rw [uq_nodup hn, Array.length_toList]
    rw [show decide (V.int ((z.cps.size : Nat) : Int) = V.int ((z.length : Nat) : Int)) = true from decide_eq_true rfl]
    exact q H2 t2
theorem ok_without_shift (T : Txt K mg) : FnOk P w K mg base CX0 2 T.d_without_shift.f T.d_without_shift.fd ["sheet", "sign", "now", "rests"] spWithout := by
  refine T.d_without_shift.F.ok sc_without_shift (fun vs H Q E h => ?_) (fun cdv A outer s H vs Q E hr h => ?_)
  · obtain ⟨t, z, o, hm, c, now, rs, a0, a1, a2, r, rfl, _⟩ := h
    rfl
  · obtain ⟨t, z, o, hm, c, now, rs, a0, a1, a2, r, rfl, gd, sh, hn, th, sr, q⟩ := h
    refine ⟨_, (pss_cons (ps_set (i := 4) sc_without_shift.nd rfl (.inl rfl) (pe_call (ok_code_of T) (hr.mono (by decide)) (by rfl) T.d_code_of.g T.d_code_of.F.kp T.d_code_of.b .nil pass0 (pa_cons (pv 0) (pa_cons (pv 1) (pa_cons (pv 2) pa_nil)))))
  (pss_cons (ps_if (pt_cmpR op_lt (pv 4) pe_int (nomark _))
  (pss_one (ps_ret (pe_lst pa_nil)))
  pss_nil)
  (pss_one (ps_ret (pe_lst (pa_cons (pe_op op_cat (pe_lst (pa_cons (pv 4) pa_nil)) (pe_ix ix_list (pv 3) (pe_call (ok_set_behind T) (hr.mono (by decide)) (by rfl) T.d_set_behind.g T.d_set_behind.F.kp T.d_set_behind.b .nil pass0 (pa_cons (pv 0) (pa_cons (pv 4) (pa_cons (pv 2) pa_nil)))) (fun _ _ => rfl))) pa_nil)))))), ?_⟩
    refine ⟨.ref t, rfl, .str (sg c), rfl, .int now, rfl, t, z, o, hm, c, now, rfl, gd, sh, hn, ?_⟩
    refine ⟨.int (cod z o c now), rfl, _, 0, rfl, rfl, _, rfl, ?_⟩
    by_cases h : cod z o c now < 0
    · refine iteTd h ⟨Nat.zero_le _, fun p np => ?_⟩
      refine q p [] _ (same_new np) np upd_same ?_ (fun a ha => nomatch ha)
      unfold plainL; rw [if_pos h]; exact True.intro
    · refine iteFd h ?_
      refine ⟨.int (cod z o c now), rfl, by show 1 ≤ sizeLine; decide, fun p1 np1 => ?_⟩
      have th1 := th.mono fun a us e => same_new (o := HO.lst [V.int (cod z o c now)]) np1 a _ e
      have sh1 : Sh (upd H p1 (HO.lst [V.int (cod z o c now)])) t z o hm := same_new np1 _ _ sh
      refine ⟨.ref rs, rfl, .ref t, rfl, .int (cod z o c now), rfl, .int now, rfl, t, z, o, hm, cod z o c now, now, rfl, gd, sh1, ?_⟩
      rw [behind_own gd]
      obtain ⟨a, ha1, ha2, _⟩ := th1.at (is012_bhd (hm := hm) (k := cod z o c now) hn)
      refine ⟨rs, _, _, .ref a, rfl, rfl, SqL.of th1.1, ha1, ?_⟩
      refine ⟨p1, a, _, _, rfl, rfl, upd_same, ha2, ?_, fun p2 np2 => ?_⟩
      · rw [List.length_map]
        have := sr (bhd hm (cod z o c now) now)
        exact Nat.le_of_lt (small1000 (by simp only [List.length_cons, List.length_nil]; omega))
      · refine ⟨by show 1 ≤ sizeLine; decide, fun p3 np3 => ?_⟩
        have s2 := (same_new (o := HO.lst [V.int (cod z o c now)]) np1).trans ((same_new (o := HO.lst ([V.int (cod z o c now)] ++ (r.at (bhd hm (cod z o c now) now)).map V.int)) np2))
        have n2 : H p2 = none := (same_new (o := HO.lst [V.int (cod z o c now)]) np1).free np2
        refine q p3 [p2] _ (s2.trans (same_new np3)) (s2.free np3) upd_same ?_ (fun b hb => by rw [List.mem_singleton.mp hb]; exact n2)
        unfold plainL; rw [if_neg h]
        refine ⟨?_, True.intro⟩
        exact same_new np3 _ _ upd_same
theorem ok_check_sheet (T : Txt K mg) (TB : GxR.TabB base mg T.c_are_signs T.t_are_signs) : FnOk P w K mg base CX0 3 T.d_check_sheet.f T.d_check_sheet.fd ["sheet"] (spCheckSheet T.t_are_signs) := by
  refine T.d_check_sheet.F.ok sc_check_sheet (fun vs H Q E h => ?_) (fun cdv A outer s H vs Q E hr h => ?_)
  · obtain ⟨t, z, o, hm, rfl, _⟩ := h
    rfl
  · obtain ⟨t, z, o, hm, rfl, gd, sh, tb, q⟩ := h
    refine ⟨_, (pss_cons (ps_asg (pv 0) (pg_tup rfl (pgs_cons (pg_name (i := 1) sc_check_sheet.nd rfl (.inl rfl)) (pgs_cons (pg_name (i := 2) sc_check_sheet.nd rfl (.inl rfl)) (pgs_cons (pg_name (i := 3) sc_check_sheet.nd rfl (.inl rfl)) pgs_nil)))))
  (pss_cons (ps_if (pt_cmpR op_ne (pe_callB call_len_str (by rfl) T.n_len PySem.boot_len (pa_cons (pv 1) pa_nil)) (pe_callB call_len_str (by rfl) T.n_len PySem.boot_len (pa_cons (pv 2) pa_nil)) (nomark _))
  (pss_one ps_never)
  pss_nil)
  (pss_cons (ps_if (pt_not (pt_chain op_le op_le pe_int (pe_callB call_len_str (by rfl) T.n_len PySem.boot_len (pa_cons (pv 1) pa_nil)) (pe_glob (v := .int 26) (by rfl) T.c_MOST_PLACES.choose_spec ⟨_, rfl⟩)))
  (pss_one ps_never)
  pss_nil)
  (pss_cons (ps_if (PW.pt (pw_or (pt_not (pt_val (pe_call (ok_can_be_a_set T TB) (hr.mono (by decide)) (by rfl) T.d_can_be_a_set.g T.d_can_be_a_set.F.kp T.d_can_be_a_set.b .nil pass0 (pa_cons (pv 1) pa_nil)))) (pw_or1 (pt_not (pt_val (pe_call (ok_can_be_a_set T TB) (hr.mono (by decide)) (by rfl) T.d_can_be_a_set.g T.d_can_be_a_set.F.kp T.d_can_be_a_set.b .nil pass0 (pa_cons (pv 2) pa_nil)))))))
  (pss_one ps_never)
  pss_nil)
  (pss_one (ps_if (PW.pt (pw_and (pt_cmp (pc_notN (pv 3))) (pw_and1 (pt_not (pt_chain op_le op_lt pe_int (pv 3) (pe_callB call_len_str (by rfl) T.n_len PySem.boot_len (pa_cons (pv 1) pa_nil)))))))
  (pss_one ps_never)
  pss_nil)))))), ?_⟩
    have z1 := gd.pos
    have z2 := gd.le
    have big : z.length ≤ sizeLine := Nat.le_trans z2 (by decide)
    have bigo : o.length ≤ sizeLine := Nat.le_trans (Nat.le_of_eq gd.len) big
    have elen : z.length = o.length := gd.len.symm
    refine ⟨.ref t, rfl, t, _, rfl, SqT.of sh, rfl, _, _, rfl, _, _, rfl, _, _, rfl, rfl, ?_⟩
    refine ⟨.str z, rfl, z, rfl, big, .str o, rfl, o, rfl, bigo, rfl, _, rfl, iteNS (by rw [elen]) ?_⟩
    have hz : (z.length : Int) = (z.cps.size : Int) := rfl
    refine ⟨.str z, rfl, z, rfl, big, 1, _, rfl, rfl, _, rfl, iteTd (by omega) ?_⟩
    refine ⟨_, 26, rfl, rfl, _, rfl, iteNS (by omega) ?_⟩
    refine ⟨.str z, rfl, z, rfl, Nat.le_trans z2 (by decide), gd.nz, gd.pz, tb, fun H1 t1 => ⟨true, rfl, iteF ?_⟩⟩
    refine ⟨.str o, rfl, o, rfl, Nat.le_trans (Nat.le_of_eq gd.len) (Nat.le_trans z2 (by decide)), gd.no, gd.po, t1.1, fun H2 t2 => ⟨true, rfl, iteF ?_⟩⟩
    have kp : Kp T.t_are_signs H H2 := (Kp.of_tabbed t1).trans (Kp.of_tabbed t2)
    refine ⟨hm, rfl, _, rfl, ?_⟩
    rcases gd.home with e | ⟨h, e, hh⟩
    · rw [e]
      exact iteF (iteF (q H2 kp))
    · rw [e]
      refine iteT ?_
      refine ⟨.int h, rfl, 0, _, rfl, rfl, _, rfl, iteTd (by omega) ?_⟩
      refine ⟨.str z, rfl, z, rfl, big, _, _, rfl, rfl, _, rfl, iteNS (by omega) ?_⟩
      exact q H2 kp
set_option maxHeartbeats 1000000 in
theorem ok_with_sign (T : Txt K mg) (TB : GxR.TabB base mg T.c_are_signs T.t_are_signs) (TB2 : LamX.TabB base mg T.c_first_of T.t_first_of) (ne : T.t_are_signs ≠ T.t_first_of) : FnOk P w K mg base CX0 3 T.d_with_sign.f T.d_with_sign.fd ["sheet", "sign", "rests"] (spWith T.t_are_signs T.t_first_of q2) := by
  refine T.d_with_sign.F.ok sc_with_sign (fun vs H Q E h => ?_) (fun cdv A outer s H vs Q E hr h => ?_)
  · obtain ⟨t, z, o, hm, c, rs, a0, a1, a2, r, rfl, _⟩ := h
    rfl
  · obtain ⟨t, z, o, hm, c, rs, a0, a1, a2, r, rfl, gd, sh, th, sr, ins, tw, q⟩ := h
    refine ⟨_, (pss_cons (ps_set (i := 3) sc_with_sign.nd rfl (.inr rfl) (pe_callB call_len_str (by rfl) T.n_len PySem.boot_len (pa_cons (pe_ix ix_tup (pv 0) pe_int (fun _ _ => rfl)) pa_nil)))
  (pss_cons (ps_set (i := 4) sc_with_sign.nd rfl (.inr rfl) (pe_lc (own := [("now", 6)]) (g := gName 6) (tt := tYes) (te := _) rfl sc_with_sign.nd (pi_tup (pe_tup (pa_cons pe_int (pa_cons pe_int (pa_cons (pe_glob (v := .int 2) (by rfl) T.c_EITHER.choose_spec ⟨_, rfl⟩) pa_nil))))) (blkOk_by (own := [("now", 6)]) (N := ["sheet", "sign", "rests", "size", "plain", "shifted", "now", "tape", "tapes"]) (sc := defScope s_with_sign) (by decide +kernel)) (by exact fun _ _ _ _ _ => pg_name (i := 6) sc_with_sign.nd rfl (Or.inl rfl)) (by exact fun _ _ _ _ _ => pts_nil) (by exact fun _ _ _ _ _ => (pe_call (ok_without_shift T) (hr.mono (by decide)) (by rfl) T.d_without_shift.g T.d_without_shift.F.kp T.d_without_shift.b .nil pass0 (pa_cons (pv 0) (pa_cons (pv 1) (pa_cons (pv 6) (pa_cons (pv 2) pa_nil))))))))
  (pss_cons (ps_set (i := 5) sc_with_sign.nd rfl (.inr rfl) (pe_lc2 (own := [("now", 6), ("tape", 7)]) (vs1 := [7]) (g := gName 6) (g1 := gName 7) (tt := tYes) (tt1 := tYes) (wi1 := iList K (tOp (rIxL K) (tVar 4) (tVar 6))) rfl sc_with_sign.nd (pi_tup (pe_tup (pa_cons pe_int (pa_cons pe_int pa_nil)))) (blkOk_by (own := [("now", 6), ("tape", 7)]) (N := ["sheet", "sign", "rests", "size", "plain", "shifted", "now", "tape", "tapes"]) (sc := defScope s_with_sign) (by decide +kernel)) (by decide) (by exact fun _ _ _ _ _ => pg_name (i := 6) sc_with_sign.nd rfl (Or.inl rfl)) (by exact fun _ _ _ _ _ => pts_nil) (by exact fun _ _ _ _ _ => (pi_list (pe_ix ix_list (pv 4) (pv 6) (fun _ _ => rfl)))) (by exact fun _ _ _ _ _ => pg_name (i := 7) sc_with_sign.nd rfl (Or.inl rfl)) (by exact fun _ _ _ _ _ => pts_nil) (by exact fun _ _ _ _ _ => (pe_op op_cat (pe_lst (pa_cons (pe_op op_add (pv 3) (pv 6)) pa_nil)) (pv 7)))))
  (pss_one (ps_ret (pe_lc (own := [("tapes", 8)]) (g := gName 8) (tt := tYes) (te := _) rfl sc_with_sign.nd (pi_list (pv 4)) (blkOk_by (own := [("tapes", 8)]) (N := ["sheet", "sign", "rests", "size", "plain", "shifted", "now", "tape", "tapes"]) (sc := defScope s_with_sign) (by decide +kernel)) (by exact fun _ _ _ _ _ => pg_name (i := 8) sc_with_sign.nd rfl (Or.inl rfl)) (by exact fun _ _ _ _ _ => pts_nil) (by exact fun _ _ _ _ _ => (pe_call (ok_first_of T TB2) (hr.mono (by decide)) (by rfl) T.d_first_of.g T.d_first_of.F.kp T.d_first_of.b .nil pass0 (pa_cons (pe_op op_cat (pv 8) (pv 5)) pa_nil))))))))), ?_⟩
    have big : z.length ≤ sizeLine := Nat.le_trans gd.le (by decide)
    refine ⟨.ref t, rfl, t, _, 0, _, rfl, rfl, SqT.of sh, atI_nat (j := 0) rfl, z, rfl, big, ?_⟩
    -- plain
    refine ⟨by show 3 ≤ sizeLine; decide, fun pt npt => ⟨pt, rfl, ⟨_, SqT.of upd_same⟩, fun D nD => ?_⟩⟩
    have s1 : Same H (upd H pt (HO.tup [V.int 0, V.int 1, V.int 2])) := same_new npt
    have nD0 : H D = none := s1.free nD
    have nptD : pt ≠ D := fun e => by rw [← e, upd_same] at nD; cases nD
    refine lc_tup (K := K) (a := pt) (xs := [V.int 0, V.int 1, V.int 2]) (fun i H' => Same H H' ∧ H' pt = some (.tup [V.int 0, V.int 1, V.int 2]) ∧ ∃ ps : List Addr, ps.length = i ∧ i ≤ 3 ∧ H' D = some (.lst (ps.map V.ref)) ∧ ∀ j p, ps[j]? = some p → PlainAt H D z o hm c r H' p (j : Nat))
      ⟨same_upd s1 nD0, by rw [upd_ne nptD]; exact upd_same, [], rfl, by decide, upd_same, fun j p e => by simp at e⟩ (fun i H' _ p => SqT.of p.2.1) (fun i x H' hx p => ?_) (fun H' p => ?_)
    · obtain ⟨sm, ept, ps, hl, hi3, eD, hp⟩ := p
      obtain ⟨rfl, hi, h012⟩ : x = .int (i : Nat) ∧ i < 3 ∧ Is012 (i : Nat) := by
        match i, hx with
        | 0, hx => exact ⟨(Option.some.inj hx).symm, by decide, .inl rfl⟩
        | 1, hx => exact ⟨(Option.some.inj hx).symm, by decide, .inr (.inl rfl)⟩
        | 2, hx => exact ⟨(Option.some.inj hx).symm, by decide, .inr (.inr rfl)⟩
        | i + 3, hx => simp at hx
      refine ⟨rfl, lc_yes ?_⟩
      refine ⟨.ref t, rfl, .str (sg c), rfl, .int (i : Nat), rfl, .ref rs, rfl, t, z, o, hm, c, (i : Nat), rs, a0, a1, a2, r, rfl, gd, sm _ _ sh, h012, th.mono fun a us e => sm _ _ e, sr, fun p as H4 s4 np ep rows nas => ?_⟩
      have npD : p ≠ D := fun e => by rw [e, eD] at np; cases np
      refine ⟨ps.map V.ref, s4 _ _ eD, by rw [List.length_map, hl]; exact small1000 (by omega), same_upd (sm.trans s4) nD0, by rw [upd_ne nptD]; exact s4 _ _ ept, ps ++ [p], by rw [List.length_append, hl]; rfl, hi, by rw [upd_same, List.map_append]; rfl, fun j p' e => ?_⟩
      rcases Nat.lt_or_ge j ps.length with hj | hj
      · rw [List.getElem?_append_left hj] at e
        exact (hp j p' e).upd s4
      · rw [List.getElem?_append_right hj] at e
        have hj0 : j - ps.length = 0 := by
          have := (List.getElem?_eq_some_iff.mp e).1
          simp at this; omega
        rw [hj0] at e
        obtain rfl : p = p' := by simpa using e
        obtain rfl : j = i := by omega
        refine ⟨npD, as, by rw [upd_ne npD]; exact ep, rows.upd fun a ha e2 => ?_, fun a ha => ⟨sm.free (nas a ha), fun e2 => ?_⟩⟩
        · have := nas a ha
          rw [e2, eD] at this; cases this
        · have := nas a ha
          rw [e2, eD] at this; cases this
    obtain ⟨sm2, _, ps, hl, _, eD, hp⟩ := p
    obtain ⟨p0, p1, p2, rfl⟩ : ∃ p0 p1 p2, ps = [p0, p1, p2] := by
      match ps, hl with
      | [p0, p1, p2], _ => exact ⟨p0, p1, p2, rfl⟩
    have pl0 := hp 0 p0 rfl
    have pl1 := hp 1 p1 rfl
    have pl2 := hp 2 p2 rfl
    obtain ⟨_, as0, e0, r0, n0⟩ := pl0
    obtain ⟨_, as1, e1, r1, n1⟩ := pl1
    obtain ⟨_, as2, e2, r2, n2⟩ := pl2
    clear hp
    have eD : H' D = some (.lst [.ref p0, .ref p1, .ref p2]) := eD
    have at0 : ∀ x, x = 0 ∨ x = 1 → ∃ p as, atI [V.ref p0, V.ref p1, V.ref p2] x = some (.ref p) ∧ H' p = some (.lst (as.map V.ref)) ∧ Rows H' as (plainL z o hm c r x) ∧ ∀ a ∈ as, H a = none := by
      rintro x (rfl | rfl)
      · exact ⟨p0, as0, atI_nat (j := 0) rfl, e0, r0, fun a ha => (n0 a ha).1⟩
      · exact ⟨p1, as1, atI_nat (j := 1) rfl, e1, r1, fun a ha => (n1 a ha).1⟩
    have nnD : H D = none := nD0
    clear nD0 nptD nD
    -- shifted
    refine ⟨by show 2 ≤ sizeLine; decide, fun qt nqt => ⟨qt, rfl, ⟨_, SqT.of upd_same⟩, fun D2 nD2 => ?_⟩⟩
    have s2 : Same H' (upd H' qt (HO.tup [V.int 0, V.int 1])) := same_new nqt
    have nD2' : H' D2 = none := s2.free nD2
    have nqtD : qt ≠ D2 := fun e => by rw [← e, upd_same] at nD2; cases nD2
    refine walk_t (K := K) (a := qt) (xs := [V.int 0, V.int 1]) (fun i H3 => Same H' H3 ∧ H3 qt = some (.tup [V.int 0, V.int 1]) ∧ i ≤ 2 ∧ ∃ bs : List Addr, H3 D2 = some (.lst (bs.map V.ref)) ∧
        Rows H3 bs (((List.range i).map fun k => (plainL z o hm c r (k : Nat)).map fun u => ((z.cps.size : Int) + (k : Nat)) :: u).flatten) ∧ ∀ b ∈ bs, H' b = none ∧ b ≠ D2)
      ⟨same_upd s2 nD2', by rw [upd_ne nqtD]; exact upd_same, by decide, [], upd_same, True.intro, fun b hb => nomatch hb⟩ (fun i H3 _ p => SqT.of p.2.1) (fun i x H3 hx p => ?_) (fun H3 p => ?_)
    · obtain ⟨sm3, eqt, hi2, bs, eD2, rows, nbs⟩ := p
      obtain ⟨rfl, hi, h01⟩ : x = .int (i : Nat) ∧ i < 2 ∧ (((i : Nat) : Int) = 0 ∨ ((i : Nat) : Int) = 1) := by
        match i, hx with
        | 0, hx => exact ⟨(Option.some.inj hx).symm, by decide, .inl rfl⟩
        | 1, hx => exact ⟨(Option.some.inj hx).symm, by decide, .inr rfl⟩
        | i + 2, hx => simp at hx
      obtain ⟨pI, asI, ha, hb, hc, hd⟩ := at0 ((i : Nat) : Int) h01
      refine ⟨rfl, lc_yes ?_⟩
      refine ⟨.ref D, rfl, .int (i : Nat), rfl, D, _, (i : Nat), .ref pI, rfl, rfl, SqL.of (sm3 _ _ eD), ha, pI, rfl, ⟨_, SqL.of (sm3 _ _ hb)⟩, ?_⟩
      have elen := hc.len
      have pl := (plain_len (z := z) (o := o) (hm := hm) (c := c) sr ((i : Nat) : Int))
      refine walk_l (K := K) (a := pI) (xs := asI.map V.ref) (fun j H4 => Same H' H4 ∧ H4 qt = some (.tup [V.int 0, V.int 1]) ∧ ∃ bs : List Addr, H4 D2 = some (.lst (bs.map V.ref)) ∧
          Rows H4 bs ((((List.range i).map fun k => (plainL z o hm c r (k : Nat)).map fun u => ((z.cps.size : Int) + (k : Nat)) :: u).flatten) ++ ((plainL z o hm c r (i : Nat)).take j).map fun u => ((z.cps.size : Int) + (i : Nat)) :: u) ∧ (∀ b ∈ bs, H' b = none ∧ b ≠ D2) ∧ bs.length ≤ 500 + j)
        ⟨sm3, eqt, bs, eD2, ?_, nbs, ?_⟩ (fun j H4 _ p => SqL.of (p.1 _ _ hb)) (fun j x H4 hx p => ?_) (fun H4 p => ?_)
      · rw [List.take_zero, List.map_nil, List.append_nil]; exact rows
      · have e9 := rows.len
        have p0' := (plain_len (z := z) (o := o) (hm := hm) (c := c) sr 0).1
        rcases (show i = 0 ∨ i = 1 by omega) with e8 | e8 <;> subst e8
        · rw [e9]; exact Nat.zero_le _
        · rw [e9]
          show ((plainL z o hm c r 0).map (fun u => ((z.cps.size : Int) + 0) :: u) ++ []).length ≤ _
          rw [List.append_nil, List.length_map]; omega
      · obtain ⟨sm4, eqt4, bs4, eD4, rows4, nbs4, l4⟩ := p
        obtain ⟨a, hai, rfl⟩ := at_map hx
        obtain ⟨u, hu, eu⟩ := hc.get hai
        have hj : j < (plainL z o hm c r (i : Nat)).length := (List.getElem?_eq_some_iff.mp hu).1
        refine ⟨rfl, lc_yes ?_⟩
        refine ⟨.int (z.length : Nat), rfl, .int (i : Nat), rfl, _, _, rfl, rfl, by show 1 ≤ sizeLine; decide, fun p1 np1 => ?_⟩
        have ul := pl.2 u (List.mem_of_getElem? hu)
        refine ⟨.ref a, rfl, p1, a, _, _, rfl, rfl, upd_same, same_new np1 _ _ (sm4 _ _ eu), by
          rw [List.length_map]
          exact Nat.le_of_lt (small1000 (by simp only [List.length_cons, List.length_nil]; omega)), fun p2 np2 => ?_⟩
        have s6 := same_new (o := HO.lst [V.int ((z.length : Nat) + ((i : Nat) : Int))]) np1
        have s7 := s6.trans (same_new (o := HO.lst ([V.int ((z.length : Nat) + ((i : Nat) : Int))] ++ u.map V.int)) np2)
        have eD6 := s6 _ _ eD4
        have n2 : D2 ≠ p2 := ne_of_none eD6 np2
        refine ⟨bs4.map V.ref, s7 _ _ eD4, by rw [List.length_map]; exact small1000 (by omega), same_upd (sm4.trans s7) nD2', by rw [upd_ne nqtD]; exact s7 _ _ eqt4, bs4 ++ [p2], by rw [upd_same, List.map_append]; rfl, ?_, fun b hb => ?_, by rw [List.length_append]; simp only [List.length_cons, List.length_nil]; omega⟩
        · rw [List.take_add_one, hu, List.map_append, ← List.append_assoc]
          refine Rows.app ((rows4.same s7).upd fun b hb => (nbs4 b hb).2) ⟨?_, True.intro⟩
          rw [upd_ne n2.symm]
          exact upd_same
        · rcases List.mem_append.mp hb with k | k
          · exact nbs4 b k
          · rw [List.mem_singleton.mp k]
            exact ⟨(sm4.trans s6).free np2, n2.symm⟩
      · obtain ⟨sm4, eqt4, bs4, eD4, rows4, nbs4, _⟩ := p
        refine ⟨sm4, eqt4, by omega, bs4, eD4, ?_, nbs4⟩
        rw [List.length_map, elen, List.take_length] at rows4
        rw [List.range_succ, List.map_append, List.flatten_append]
        rw [show (([i].map fun k => (plainL z o hm c r (k : Nat)).map fun u => ((z.cps.size : Int) + (k : Nat)) :: u).flatten) = (plainL z o hm c r (i : Nat)).map fun u => ((z.cps.size : Int) + (i : Nat)) :: u by simp]
        exact rows4
    · obtain ⟨sm3, _, _, bs2, eD2, rows2, nbs2⟩ := p
      have eS : (((List.range 2).map fun k => (plainL z o hm c r (k : Nat)).map fun u => ((z.cps.size : Int) + (k : Nat)) :: u).flatten) = shiftL z o hm c r := by
        unfold shiftL
        show (plainL z o hm c r 0).map (fun u => ((z.cps.size : Int) + 0) :: u) ++ ((plainL z o hm c r 1).map (fun u => ((z.cps.size : Int) + 1) :: u) ++ []) = _
        rw [List.append_nil]
      have rows2 : Rows H3 bs2 (shiftL z o hm c r) := eS ▸ rows2
      have sm' := sm2.trans sm3
      have tw3 := tw.same sm'
      have eD3 := sm3 _ _ eD
      have sl := shift_len (z := z) (o := o) (hm := hm) (c := c) sr
      refine ⟨.ref D, rfl, D, rfl, ⟨_, SqL.of eD3⟩, fun D3 nD3 => ?_⟩
      refine lc_list (K := K) (a := D) (xs := [V.ref p0, V.ref p1, V.ref p2]) (fun i H4 => Kq T.t_are_signs T.t_first_of q2 H3 H4 ∧ ∃ bs : List Addr, bs.length = i ∧ i ≤ 3 ∧ H4 D3 = some (.lst (bs.map V.ref)) ∧
          ∀ j b, bs[j]? = some b → ∃ u : List Int, H3 b = some (.lst (u.map V.int)) ∧ IsFirst (plainL z o hm c r (j : Nat) ++ shiftL z o hm c r) u ∧ H b = none)
        ⟨Kq.same tw3 (same_new nD3), [], rfl, by decide, upd_same, fun j b e => by simp at e⟩ (fun i H4 _ p => SqL.of (p.1.lst tw3 eD3)) (fun i x H4 hx p => ?_) (fun H4 p => ?_)
      · obtain ⟨k, bs, hbl, hi3, e3, hbs⟩ := p
        obtain ⟨p, as, rfl, hi, ep, rp, np⟩ : ∃ p as, x = .ref p ∧ i < 3 ∧ H' p = some (.lst (as.map V.ref)) ∧ Rows H' as (plainL z o hm c r (i : Nat)) ∧ ∀ a ∈ as, H a = none := by
          match i, hx with
          | 0, hx => exact ⟨p0, as0, (Option.some.inj hx).symm, by decide, e0, r0, fun a ha => (n0 a ha).1⟩
          | 1, hx => exact ⟨p1, as1, (Option.some.inj hx).symm, by decide, e1, r1, fun a ha => (n1 a ha).1⟩
          | 2, hx => exact ⟨p2, as2, (Option.some.inj hx).symm, by decide, e2, r2, fun a ha => (n2 a ha).1⟩
          | i + 3, hx => simp at hx
        have pl := (plain_len (z := z) (o := o) (hm := hm) (c := c) sr ((i : Nat) : Int))
        have rp3 := rp.same sm3
        have rall := rp3.app rows2
        have e10 := rp.len
        have e11 := rows2.len
        refine ⟨rfl, lc_yes ?_⟩
        refine ⟨.ref p, rfl, .ref D2, rfl, p, D2, _, _, rfl, rfl, k.lst tw3 (sm3 _ _ ep), k.lst tw3 eD2, by
          rw [List.length_map, List.length_map]
          exact Nat.le_of_lt (small1000 (by omega)), fun p4 np4 => ?_⟩
        have s4 := same_new (o := HO.lst (as.map V.ref ++ bs2.map V.ref)) np4
        have k4 := k.trans (Kq.same k.tw s4)
        refine ⟨p4, as ++ bs2, plainL z o hm c r (i : Nat) ++ shiftL z o hm c r, rfl, by rw [upd_same, List.map_append], rall.mono fun a u e => k4.lst tw3 e, fun e => shift_ne ins (List.append_eq_nil_iff.mp e).2, fun u hu => ?_, k4.tw.t2, fun a u H5 bt t2 ha ea first => ?_⟩
        · rcases List.mem_append.mp hu with m | m
          · have := pl.2 u m; omega
          · have := sl.2 u m; omega
        · have k5 := Kq.but ne k4.tw bt t2
          have k6 := k4.trans k5
          have e5 : H5 D3 = some (.lst (bs.map V.ref)) := k5.lst k4.tw (s4 _ _ e3)
          refine ⟨bs.map V.ref, e5, by rw [List.length_map, hbl]; exact small1000 (by omega), k6.upd nD3 e5, bs ++ [a], by rw [List.length_append, hbl]; rfl, hi, by rw [upd_same, List.map_append]; rfl, fun j b e => ?_⟩
          rcases Nat.lt_or_ge j bs.length with hj | hj
          · rw [List.getElem?_append_left hj] at e
            exact hbs j b e
          · rw [List.getElem?_append_right hj] at e
            have hj0 : j - bs.length = 0 := by
              have := (List.getElem?_eq_some_iff.mp e).1
              simp at this; omega
            rw [hj0] at e
            obtain rfl : a = b := by simpa using e
            obtain rfl : j = i := by omega
            obtain ⟨n, hn, en⟩ := List.mem_iff_getElem.mp ha
            obtain ⟨u', hu', eu'⟩ := rall.get (i := n) (a := a) (by rw [List.getElem?_eq_getElem hn, en])
            have e12 : HO.lst (u'.map V.int) = HO.lst (u.map V.int) := Option.some.inj ((k4.lst tw3 eu').symm.trans ea)
            refine ⟨u, by rw [eu', e12], first, ?_⟩
            rcases List.mem_append.mp ha with m | m
            · exact np a m
            · exact sm2.free (nbs2 a m).1
      · obtain ⟨k, bs, hbl, _, e3, hbs⟩ := p
        obtain ⟨b0, b1, b2, rfl⟩ : ∃ b0 b1 b2, bs = [b0, b1, b2] := by
          match bs, hbl with
          | [b0, b1, b2], _ => exact ⟨b0, b1, b2, rfl⟩
        obtain ⟨u0, x0, y0, w0⟩ := hbs 0 b0 rfl
        obtain ⟨u1, x1, y1, w1⟩ := hbs 1 b1 rfl
        obtain ⟨u2, x2, y2, w2⟩ := hbs 2 b2 rfl
        refine q D3 b0 b1 b2 ⟨u0, u1, u2⟩ H4 ((Kq.same tw sm').trans k) w0 w1 w2 ⟨e3, k.lst tw3 x0, k.lst tw3 x1, k.lst tw3 x2⟩ ?_
        rintro b (rfl | rfl | rfl)
        · exact y0
        · exact y1
        · exact y2
theorem ok_best_tapes (T : Txt K mg) (TB : GxR.TabB base mg T.c_are_signs T.t_are_signs) (TB2 : LamX.TabB base mg T.c_first_of T.t_first_of) (ne : T.t_are_signs ≠ T.t_first_of) : FnOk P w K mg base CX0 4 T.d_best_tapes.f T.d_best_tapes.fd ["sheet", "text"] (spBestTapes T.t_are_signs T.t_first_of q2) := by
  refine T.d_best_tapes.F.ok sc_best_tapes (fun vs H Q E h => ?_) (fun cdv A outer s H vs Q E hr h => ?_)
  · obtain ⟨t, z, o, hm, x, rfl, _⟩ := h
    rfl
  · obtain ⟨t, z, o, hm, x, rfl, gd, sh, hx, hin, tw, q⟩ := h
    refine ⟨_, (pss_cons (ps_set (i := 2) sc_best_tapes.nd rfl (.inl rfl) (pe_lst (pa_cons (pe_lst pa_nil) (pa_cons (pe_lst pa_nil) (pa_cons (pe_lst pa_nil) pa_nil)))))
  (pss_cons (ps_for PassesOwn.never rfl (Kt.pi_revS (by rfl) T.n_reversed (pv 1)) (pg_name (i := 3) sc_best_tapes.nd rfl (.inl rfl))
  (pss_one (ps_set (i := 2) sc_best_tapes.nd rfl (.inl rfl) (pe_call (ok_with_sign T TB TB2 ne) (hr.mono (by decide)) (by rfl) T.d_with_sign.g T.d_with_sign.F.kp T.d_with_sign.b .nil pass0 (pa_cons (pv 0) (pa_cons (pv 3) (pa_cons (pv 2) pa_nil)))))))
  (pss_one (ps_ret (pv 2))))), ?_⟩
    refine ⟨Nat.zero_le _, fun a0 n0 => ⟨Nat.zero_le _, fun a1 n1 => ⟨Nat.zero_le _, fun a2 n2 => ⟨by show 3 ≤ sizeLine; decide, fun rs nrs => ?_⟩⟩⟩⟩
    have s0 := same_new (o := HO.lst []) n0
    have s1 := same_new (o := HO.lst []) n1
    have s2 := same_new (o := HO.lst []) n2
    have s3 := same_new (o := HO.lst [V.ref a0, V.ref a1, V.ref a2]) nrs
    have m1 := s0.free n1
    have m2 := s0.free (s1.free n2)
    have sA := s0.trans (s1.trans (s2.trans s3))
    have th : Three _ rs a0 a1 a2 ⟨[], [], []⟩ := ⟨upd_same, s3 _ _ (s2 _ _ (s1 _ _ upd_same)), s3 _ _ (s2 _ _ upd_same), s3 _ _ upd_same⟩
    refine ⟨.str x, rfl, x, rfl, Nat.le_trans hx (by decide), ?_⟩
    refine ⟨fun i m σ H' => m = x.cps.size - i ∧ i ≤ x.cps.size ∧ Kq T.t_are_signs T.t_first_of q2 H H' ∧ ∃ rs a0 a1 a2 R, ∃ y : Option V, H a0 = none ∧ H a1 = none ∧ H a2 = none ∧ Three H' rs a0 a1 a2 R ∧ Tells z o hm (x.cps.toList.drop (x.cps.size - i)) R ∧ σ = [some (.ref t), some (.str x), some (.ref rs), y],
      ⟨x.cps.size, by omega, Nat.zero_le _, Kq.same tw sA, rs, a0, a1, a2, _, none, n0, m1, m2, th, ?_, rfl⟩, fun i m σ H' hW => ?_⟩
    · rw [List.drop_of_length_le (by rw [Array.length_toList]; omega)]
      exact .nil
    obtain ⟨em, hi, k, rs, a0, a1, a2, R, y, f0, f1, f2, th, tl, rfl⟩ := hW
    by_cases hlt : i < x.cps.size
    · refine .inr ⟨hlt, fun σ' H2 => Kq T.t_are_signs T.t_first_of q2 H H2 ∧ ∃ rs a0 a1 a2 R, ∃ y : Option V, H a0 = none ∧ H a1 = none ∧ H a2 = none ∧ Three H2 rs a0 a1 a2 R ∧ Tells z o hm (x.cps.toList.drop (x.cps.size - (i + 1))) R ∧ σ' = [some (.ref t), some (.str x), some (.ref rs), y],
        fun σ' H2 p => ⟨m - 1, by omega, by omega, hlt, p⟩, fun v H2 hy => ?_⟩
      obtain ⟨rfl, c, hc, rfl⟩ := hy
      have hc' : x.cps.toList[x.cps.size - 1 - i]? = some c := by rw [Array.getElem?_toList]; exact hc
      have hmem : c ∈ x.cps.toList := List.mem_of_getElem? hc'
      have ed : x.cps.toList.drop (x.cps.size - (i + 1)) = c :: x.cps.toList.drop (x.cps.size - i) := by
        have hl : x.cps.size - (i + 1) < x.cps.toList.length := by rw [Array.length_toList]; omega
        rw [List.drop_eq_getElem_cons hl]
        have e2 : x.cps.size - (i + 1) + 1 = x.cps.size - i := by omega
        rw [e2]
        congr 1
        have e3 := (List.getElem?_eq_some_iff.mp hc').2
        rw [← e3]
        congr 1
        omega
      have sr : Short3 R := fun b => by
        have e1 := (Tells.short gd tl b).1
        have e2 : (x.cps.toList.drop (x.cps.size - i)).length ≤ 32 := by
          rw [List.length_drop]
          refine Nat.le_trans (Nat.sub_le _ _) ?_
          rw [Array.length_toList]; exact hx
        exact Nat.le_trans e1 (by omega)
      refine ⟨.ref t, rfl, .str (sg c), rfl, .ref rs, rfl, t, z, o, hm, c, rs, a0, a1, a2, R, rfl, gd, k.sh tw sh, th, sr, hin c hmem, k.tw, fun p b0 b1 b2 R' H5 k5 g0 g1 g2 th5 first => ?_⟩
      exact ⟨k.trans k5, p, b0, b1, b2, R', _, k.new g0, k.new g1, k.new g2, th5, ed ▸ Tells.cons tl (first 0 (.inl rfl)) (first 1 (.inr (.inl rfl))) (first 2 (.inr (.inr rfl))), rfl⟩
    · have e : x.cps.size - i = 0 := by omega
      rw [e, List.drop_zero] at tl
      exact .inl ⟨by show x.cps.size ≤ i; omega, .ref rs, rfl, q rs a0 a1 a2 R H' k f0 f1 f2 th tl⟩
theorem ok_shortest (T : Txt K mg) (TB : GxR.TabB base mg T.c_are_signs T.t_are_signs) (TB2 : LamX.TabB base mg T.c_first_of T.t_first_of) (ne : T.t_are_signs ≠ T.t_first_of) : FnOk P w K mg base CX0 5 T.d_shortest.f T.d_shortest.fd ["sheet", "text", "begin"] (spShortest T.t_are_signs T.t_first_of q2) := by
  refine T.d_shortest.F.ok sc_shortest (fun vs H Q E h => ?_) (fun cdv A outer s H vs Q E hr h => ?_)
  · obtain ⟨t, z, o, hm, x, b, rfl, _⟩ := h
    rfl
  · obtain ⟨t, z, o, hm, x, b, rfl, gd, sh, hx, hin, hb, tw, q⟩ := h
    refine ⟨_, (pss_cons (ps_expr (pe_call (ok_check_sheet T TB) (hr.mono (by decide)) (by rfl) T.d_check_sheet.g T.d_check_sheet.F.kp T.d_check_sheet.b .nil pass0 (pa_cons (pv 0) pa_nil)))
  (pss_cons (ps_expr (pe_call (ok_check_text T) (hr.mono (by decide)) (by rfl) T.d_check_text.g T.d_check_text.F.kp T.d_check_text.b .nil pass0 (pa_cons (pv 0) (pa_cons (pv 1) pa_nil))))
  (pss_cons (ps_expr (pe_call (ok_check_set T) (hr.mono (by decide)) (by rfl) T.d_check_set.g T.d_check_set.F.kp T.d_check_set.b .nil pass0 (pa_cons (pv 2) pa_nil)))
  (pss_one (ps_ret (pe_ix ix_list (pe_call (ok_best_tapes T TB TB2 ne) (hr.mono (by decide)) (by rfl) T.d_best_tapes.g T.d_best_tapes.F.kp T.d_best_tapes.b .nil pass0 (pa_cons (pv 0) (pa_cons (pv 1) pa_nil))) (pv 2) (fun _ _ => rfl))))))), ?_⟩
    refine ⟨.ref t, rfl, t, z, o, hm, rfl, gd, sh, tw.t1, fun H1 k1 => ?_⟩
    have k1 := Kq.kp ne tw k1
    refine ⟨.ref t, rfl, .str x, rfl, t, z, o, hm, x, rfl, gd, k1.sh tw sh, hx, hin, fun H2 s2 => ?_⟩
    have k2 := k1.trans (Kq.same k1.tw s2)
    refine ⟨.int b, rfl, b, rfl, hb, ?_⟩
    refine ⟨.ref t, rfl, .str x, rfl, t, z, o, hm, x, rfl, gd, k2.sh tw sh, hx, hin, k2.tw, fun p b0 b1 b2 R H3 k3 g0 g1 g2 th tl => ?_⟩
    obtain ⟨a, ha1, ha2, ha3⟩ := th.at (show Is012 b from hb.elim .inl fun e => .inr (.inl e))
    refine ⟨.int b, rfl, p, _, b, .ref a, rfl, rfl, SqL.of th.1, ha1, q a R H3 (k2.trans k3) ?_ tl ha2⟩
    rcases ha3 with e | e | e <;> rw [e]
    · exact k2.new g0
    · exact k2.new g1
    · exact k2.new g2
theorem ok_either (T : Txt K mg) (TB : GxR.TabB base mg T.c_are_signs T.t_are_signs) (TB2 : LamX.TabB base mg T.c_first_of T.t_first_of) (ne : T.t_are_signs ≠ T.t_first_of) : FnOk P w K mg base CX0 5 T.d_either.f T.d_either.fd ["sheet", "text"] (spEither T.t_are_signs T.t_first_of q2) := by
  refine T.d_either.F.ok sc_either (fun vs H Q E h => ?_) (fun cdv A outer s H vs Q E hr h => ?_)
  · obtain ⟨t, z, o, hm, x, rfl, _⟩ := h
    rfl
  · obtain ⟨t, z, o, hm, x, rfl, gd, sh, hx, hin, tw, q⟩ := h
    refine ⟨_, (pss_cons (ps_expr (pe_call (ok_check_sheet T TB) (hr.mono (by decide)) (by rfl) T.d_check_sheet.g T.d_check_sheet.F.kp T.d_check_sheet.b .nil pass0 (pa_cons (pv 0) pa_nil)))
  (pss_cons (ps_expr (pe_call (ok_check_text T) (hr.mono (by decide)) (by rfl) T.d_check_text.g T.d_check_text.F.kp T.d_check_text.b .nil pass0 (pa_cons (pv 0) (pa_cons (pv 1) pa_nil))))
  (pss_one (ps_ret (pe_ix ix_list (pe_call (ok_best_tapes T TB TB2 ne) (hr.mono (by decide)) (by rfl) T.d_best_tapes.g T.d_best_tapes.F.kp T.d_best_tapes.b .nil pass0 (pa_cons (pv 0) (pa_cons (pv 1) pa_nil))) (pe_glob (v := .int 2) (by rfl) T.c_EITHER.choose_spec ⟨_, rfl⟩) (fun _ _ => rfl)))))), ?_⟩
    refine ⟨.ref t, rfl, t, z, o, hm, rfl, gd, sh, tw.t1, fun H1 k1 => ?_⟩
    have k1 := Kq.kp ne tw k1
    refine ⟨.ref t, rfl, .str x, rfl, t, z, o, hm, x, rfl, gd, k1.sh tw sh, hx, hin, fun H2 s2 => ?_⟩
    have k2 := k1.trans (Kq.same k1.tw s2)
    refine ⟨.ref t, rfl, .str x, rfl, t, z, o, hm, x, rfl, gd, k2.sh tw sh, hx, hin, k2.tw, fun p b0 b1 b2 R H3 k3 g0 g1 g2 th tl => ?_⟩
    exact ⟨p, _, 2, .ref b2, rfl, rfl, SqL.of th.1, atI_nat (j := 2) rfl, q b2 R H3 (k2.trans k3) (k2.new g2) tl th.2.2.2⟩
end
end K04
namespace K04
open PySem PySem.Spec PyProof.Rows L2 Kt
section
variable {P : Program} {w : World} {K : PySem.W.Frag} {mg : Str → Option Value} {base : Heap}
theorem ok_l_read (T : Txt K mg) : FnOk P w K mg base CX0 1 T.d_l_read.f T.d_l_read.fd ["_law_sheet_here", "_law_tape_here", "_law_begin"] (spRd K) := by
  refine T.d_l_read.F.ok sc_l_read (fun vs H Q E h => ?_) (fun cdv A outer s H vs Q E hr h => ?_)
  · obtain ⟨t, a, z, o, hm, cs, b, rfl, _⟩ := h
    rfl
  · obtain ⟨t, a, z, o, hm, cs, b, rfl, gd, sh, hS, hc, hl, hb, q⟩ := h
    refine ⟨_, (pss_cons (ps_set (i := 3) sc_l_read.nd rfl (.inl rfl) (pe_callB call_len_str (by rfl) T.n_len PySem.boot_len (pa_cons (pe_ix ix_tup (pv 0) pe_int (fun _ _ => rfl)) pa_nil)))
  (pss_cons (ps_set (i := 4) sc_l_read.nd rfl (.inl rfl) pe_str)
  (pss_cons (ps_for PassesOwn.never rfl (pi_list (pv 1)) (pg_name (i := 5) sc_l_read.nd rfl (.inl rfl))
  (pss_one (ps_if (pt_cmpR op_ge (pv 5) (pv 3) (nomark _))
  (pss_one (ps_set (i := 2) sc_l_read.nd rfl (.inl rfl) (pe_op op_sub (pv 5) (pv 3))))
  (pss_cons (ps_set (i := 4) sc_l_read.nd rfl (.inl rfl) (pe_op op_add_str (pv 4) (pe_ix ix_str (pe_ix ix_list (pe_lst (pa_cons (pe_ix ix_tup (pv 0) pe_int (fun _ _ => rfl)) (pa_cons (pe_ix ix_tup (pv 0) pe_int (fun _ _ => rfl)) pa_nil))) (pv 2) (fun _ _ => rfl)) (pv 5) (fun _ _ => rfl))))
  (pss_one (ps_set (i := 2) sc_l_read.nd rfl (.inl rfl) (pe_ifExp (pt_cmpR op_eq (pv 5) (pe_ix ix_tup (pv 0) pe_int (fun _ _ => rfl)) (nomark _)) pe_int (pv 2))))))))
  (pss_one (ps_ret (pe_tup (pa_cons (pv 4) (pa_cons (pv 2) pa_nil)))))))), ?_⟩
    have z2 := gd.le
    have big : z.length ≤ sizeLine := Nat.le_trans z2 (by decide)
    have bigo : o.length ≤ sizeLine := Nat.le_trans (Nat.le_of_eq gd.len) big
    refine ⟨.ref t, rfl, t, _, 0, _, rfl, rfl, SqT.of sh, atI_nat (j := 0) rfl, z, rfl, big, ?_⟩
    refine ⟨.ref a, rfl, a, rfl, ⟨_, hS⟩, for_list (K := K) (a := a) (xs := cs.map V.int) (fun i σ H' => Same H H' ∧ ∃ y : Option V, σ = [some (.ref t), some (.ref a), some (.int (rd z o hm (cs.take i) b).2), some (.int (z.length : Nat)), some (.str (rd z o hm (cs.take i) b).1), y])
      ⟨Same.refl _, none, rfl⟩ (fun i σ H' _ p => p.1.seq hS) (fun i x σ H' hx p => ?_) (fun σ H' p => ?_)⟩
    · obtain ⟨sm, y, rfl⟩ := p
      obtain ⟨c, hci, rfl⟩ := at_map hx
      have c01 := hc c (List.mem_of_getElem? hci)
      have ok := rd_ok (z := z) (o := o) (hm := hm) hb hc i
      have hil : i < cs.length := (List.getElem?_eq_some_iff.mp hci).1
      have st := rd_take (z := z) (o := o) (hm := hm) (b := b) hci
      have sh' : Sh H' t z o hm := sm _ _ sh
      rw [st]
      generalize rd z o hm (cs.take i) b = r at ok
      obtain ⟨tx, nw⟩ := r
      obtain ⟨ok1, ok2⟩ := ok
      have ok1 : nw = 0 ∨ nw = 1 := ok1
      have ok2 : tx.length ≤ i := ok2
      refine ⟨.int c, rfl, .int (z.length : Nat), rfl, c, _, rfl, rfl, _, rfl, ?_⟩
      have hz : (z.length : Int) = (z.cps.size : Int) := rfl
      by_cases h : (z.cps.size : Int) ≤ c
      · have e1 : rdStep z o hm (tx, nw) c = (tx, c - z.cps.size) := by unfold rdStep; rw [if_pos h]
        rw [e1]
        refine iteTd h ?_
        exact ⟨.int c, rfl, .int (z.length : Nat), rfl, c, _, rfl, rfl, sm, _, rfl⟩
      · have e1 : rdStep z o hm (tx, nw) c = (tx ++ sg ((if nw = 0 then z else o).cps.toList.getD c.toNat 0), if V.int c = hm then 0 else nw) := by unfold rdStep; rw [if_neg h]
        rw [e1]
        refine iteFd h ?_
        refine ⟨.str tx, rfl, .ref t, rfl, t, _, 0, _, rfl, rfl, SqT.of sh', atI_nat (j := 0) rfl, .ref t, rfl, t, _, 1, _, rfl, rfl, SqT.of sh', atI_nat (j := 1) rfl, by show 2 ≤ sizeLine; decide, fun p np => ?_⟩
        have sm2 : Same H (upd H' p (.lst [.str z, .str o])) := sm.trans (same_new np)
        refine ⟨.int nw, rfl, p, _, nw, .str (if nw = 0 then z else o), rfl, rfl, SqL.of upd_same, ?_, .int c, rfl, _, c, _, rfl, rfl, ?_, atI_nd ?_, _, _, rfl, rfl, ?_, ?_⟩
        · rcases ok1 with e | e <;> rw [e]
          · exact atI_nat (j := 0) rfl
          · exact atI_nat (j := 1) rfl
        · split
          · exact big
          · exact bigo
        · refine ⟨c01.1, ?_⟩
          have hlen := gd.len
          split <;> rw [Array.length_toList] <;> omega
        · show tx.length + 1 ≤ sizeLine
          exact Nat.le_of_lt (small1000 (by omega))
        · refine ⟨.int c, rfl, .ref t, rfl, t, _, 2, _, rfl, rfl, SqT.of (sm2 _ _ sh), atI_nat (j := 2) rfl, ?_, _, rfl, ?_⟩
          · rcases gd.home with e | ⟨h, e, _⟩ <;> rw [e] <;> rfl
          · by_cases e : V.int c = hm
            · rw [if_pos e, decide_eq_true e]
              exact iteT ⟨sm2, _, rfl⟩
            · rw [if_neg e, decide_eq_false e]
              exact iteF ⟨.int nw, rfl, sm2, _, rfl⟩
    · obtain ⟨sm, y, rfl⟩ := p
      rw [List.length_map, List.take_length]
      exact ⟨.str _, rfl, .int _, rfl, by show 2 ≤ sizeLine; decide, fun p np => q p _ (sm.trans (same_new np)) (sm.free np) upd_same⟩
theorem ok_l_text (T : Txt K mg) : FnOk P w K mg base CX0 2 T.d_l_text.f T.d_l_text.fd ["_law_box", "_law_sheet_here", "_law_most"] spText := by
  refine T.d_l_text.F.ok sc_l_text (fun vs H Q E h => ?_) (fun cdv A outer s H vs Q E hr h => ?_)
  · obtain ⟨b, l, t, z, o, hm, m, rfl, _⟩ := h
    rfl
  · obtain ⟨b, l, t, z, o, hm, most, rfl, bx, gd, sh, m1, q⟩ := h
    refine ⟨_, (pss_cons (ps_set (i := 3) sc_l_text.nd rfl (.inl rfl) pe_str)
  (pss_cons (ps_set (i := 4) sc_l_text.nd rfl (.inl rfl) pe_int)
  (pss_cons (ps_set (i := 5) sc_l_text.nd rfl (.inl rfl) (pe_op op_add pe_int (pe_call (ok_l_take T) (hr.mono (by decide)) (by rfl) T.d_l_take.g T.d_l_take.F.kp T.d_l_take.b .nil pass0 (pa_cons (pv 0) (pa_cons pe_int pa_nil)))))
  (pss_cons (ps_for PassesOwn.never rfl (pi_range1 (by rfl) T.n_range (pa_cons (pe_call (ok_l_take T) (hr.mono (by decide)) (by rfl) T.d_l_take.g T.d_l_take.F.kp T.d_l_take.b .nil pass0 (pa_cons (pv 0) (pa_cons (pe_op op_add (pv 2) pe_int) pa_nil))) pa_nil)) (pg_name (i := 6) sc_l_text.nd rfl (.inl rfl))
  (pss_cons (ps_if (pt_cmpR op_eq (pe_call (ok_l_take T) (hr.mono (by decide)) (by rfl) T.d_l_take.g T.d_l_take.F.kp T.d_l_take.b .nil pass0 (pa_cons (pv 0) (pa_cons (pv 5) pa_nil))) pe_int (nomark _))
  (pss_one (ps_set (i := 4) sc_l_text.nd rfl (.inl rfl) (pe_op op_sub pe_int (pv 4))))
  pss_nil)
  (pss_one (ps_set (i := 3) sc_l_text.nd rfl (.inl rfl) (pe_op op_add_str (pv 3) (pe_ix ix_str (pe_ix ix_tup (pv 1) (pv 4) (fun _ _ => rfl)) (pe_call (ok_l_take T) (hr.mono (by decide)) (by rfl) T.d_l_take.g T.d_l_take.F.kp T.d_l_take.b .nil pass0 (pa_cons (pv 0) (pa_cons (pe_callB call_len_str (by rfl) T.n_len PySem.boot_len (pa_cons (pe_ix ix_tup (pv 1) pe_int (fun _ _ => rfl)) pa_nil)) pa_nil))) (fun _ _ => rfl)))))))
  (pss_one (ps_ret (pv 3))))))), ?_⟩
    have z1 := gd.pos
    have z2 := gd.le
    have hz : (z.length : Int) = (z.cps.size : Int) := rfl
    have big : z.length ≤ sizeLine := Nat.le_trans gd.le (by decide)
    have pick : ∀ nb : Int, Is01 nb → atI [V.str z, V.str o, hm] nb = some (.str (at01 z o nb)) := by
      rintro nb (rfl | rfl)
      · exact atI_nat (j := 0) rfl
      · exact atI_nat (j := 1) rfl
    refine ⟨.ref b, rfl, b, l, 4, rfl, bx, by decide, by decide, fun v H1 v0 v1 bd1 => ⟨2, v, rfl, rfl, ?_⟩⟩
    refine ⟨.ref b, rfl, .int most, rfl, most, 1, rfl, rfl, b, l, _, rfl, bd1.box, by omega, Nat.lt_of_le_of_lt (show ((most : Int) + 1).natAbs ≤ 33 by omega) (by decide), fun m H2 w0 w1 bd3 => ?_⟩
    refine ⟨m, rfl, by omega, by omega, for_range (lo := 0) (n := m.toNat) (fun i σ H' => ∃ (x : Str) (nb : Int) (y : Option V), x.cps.size = i ∧ (∀ c ∈ x.cps.toList, InSet z o c) ∧ Is01 nb ∧ Bxd b l H H' ∧
      σ = [some (.ref b), some (.ref t), some (.int most), some (.str x), some (.int nb), some (.int (2 + v)), y]) ?_ (fun i σ H' hi p => ?_) (fun σ H' p => ?_)⟩
    · have e : (Str.ofString "").cps.toList = [] := by decide +kernel
      exact ⟨Str.ofString "", 0, none, rfl, (fun c hc => by rw [e] at hc; cases hc), .inl rfl, bd1.trans bd3, rfl⟩
    · obtain ⟨x, nb, y, hl, hin, hnb, bd, rfl⟩ := p
      refine ⟨.ref b, rfl, .int (2 + v), rfl, b, l, 2 + v, rfl, bd.box, by omega, Nat.lt_of_le_of_lt (show (2 + v).natAbs ≤ 6 by omega) (by decide), fun u H3 u0 u1 bdu => ⟨rfl, _, rfl, ?_⟩⟩
      have bdu' := bd.trans bdu
      have sh3 : Sh H3 t z o hm := bdu'.tup bx sh
      have fin : ∀ NB : Int, Is01 NB → ∀ k : Int, 0 ≤ k → k < (z.length : Nat) → ∀ H4, Bxd b l H3 H4 → rIxS (.str (at01 z o NB)) (.int k) H4 fun y H5 => ∃ i1 j1, V.str x = .str i1 ∧ y = .str j1 ∧ i1.length + j1.length ≤ sizeLine ∧
          ∃ (x' : Str) (nb' : Int) (y' : Option V), x'.cps.size = i + 1 ∧ (∀ c ∈ x'.cps.toList, InSet z o c) ∧ Is01 nb' ∧ Bxd b l H H5 ∧
            [some (V.ref b), some (.ref t), some (.int most), some (.str (i1 ++ j1)), some (.int NB), some (.int (2 + v)), some (.int (0 + (i : Int)))] = [some (.ref b), some (.ref t), some (.int most), some (.str x'), some (.int nb'), some (.int (2 + v)), y'] := by
        intro NB hN k k0 k1 H4 bd4
        have sz : (at01 z o NB).cps.size = z.cps.size := at01_size gd NB
        have kb : 0 ≤ k ∧ k < ((at01 z o NB).cps.toList.length : Int) := ⟨k0, by rw [Array.length_toList, sz]; exact k1⟩
        refine ⟨_, k, _, rfl, rfl, by show (at01 z o NB).cps.size ≤ _; rw [sz]; exact big, atI_nd kb, _, _, rfl, rfl, ?_, _, NB, _, ?_, fun c hc => ?_, hN, bdu'.trans bd4, rfl⟩
        · show x.cps.size + 1 ≤ sizeLine
          exact Nat.le_of_lt (small1000 (by omega))
        · rw [Str.cps_append, Array.size_append, hl]; rfl
        · rw [Str.cps_append, Array.toList_append] at hc
          rcases List.mem_append.mp hc with e | e
          · exact hin c e
          · have e : c = (at01 z o NB).cps.toList.getD k.toNat 0 := by simpa [sg] using e
            have hk : k.toNat < (at01 z o NB).cps.toList.length := by omega
            have e2 : c ∈ (at01 z o NB).cps.toList := by
              rw [e, List.getD_eq_getElem?_getD, List.getElem?_eq_getElem hk]
              exact List.getElem_mem hk
            unfold at01 at e2
            split at e2
            · exact .inl e2
            · exact .inr e2
      cases decide (V.int u = V.int 1) with
      | true =>
        have hN := is01_other hnb
        refine iteT ⟨.int nb, rfl, 1, nb, rfl, rfl, ?_⟩
        refine ⟨.str x, rfl, .ref t, rfl, .int (1 - nb), rfl, t, _, (1 - nb), .str (at01 z o (1 - nb)), rfl, rfl, SqT.of sh3, pick (1 - nb) hN, .ref b, rfl, .ref t, rfl, t, _, 0, _, rfl, rfl, SqT.of sh3, atI_nat (j := 0) rfl, z, rfl, big, b, l, (z.length : Nat), rfl, bdu'.box, by omega, Nat.lt_of_le_of_lt (show ((z.length : Nat) : Int).natAbs ≤ 26 by omega) (by decide), fun k H4 k0 k1 bd4 => ?_⟩
        exact fin _ hN k k0 k1 H4 bd4
      | false =>
        have hN := hnb
        refine iteF ?_
        refine ⟨.str x, rfl, .ref t, rfl, .int nb, rfl, t, _, nb, .str (at01 z o nb), rfl, rfl, SqT.of sh3, pick nb hN, .ref b, rfl, .ref t, rfl, t, _, 0, _, rfl, rfl, SqT.of sh3, atI_nat (j := 0) rfl, z, rfl, big, b, l, (z.length : Nat), rfl, bdu'.box, by omega, Nat.lt_of_le_of_lt (show ((z.length : Nat) : Int).natAbs ≤ 26 by omega) (by decide), fun k H4 k0 k1 bd4 => ?_⟩
        exact fin _ hN k k0 k1 H4 bd4
    · obtain ⟨x, nb, y, hl, hin, hnb, bd, rfl⟩ := p
      exact ⟨.str x, rfl, q x H' (by omega) hin bd⟩
set_option maxHeartbeats 1000000 in
theorem ok_l_alike (T : Txt K mg) : ∀ n : Nat, FnOk P w K mg base CX0 (n + 1) T.d_l_alike.f T.d_l_alike.fd ["_law_found", "_law_due"] (spAl n)
  | 0 => by
    refine T.d_l_alike.F.ok sc_l_alike (fun vs H Q E h => ?_) (fun cdv A outer s H vs Q E hr h => ?_)
    · obtain ⟨a, b, rfl, _⟩ := h
      rfl
    · obtain ⟨a, b, rfl, al, q⟩ := h
      refine ⟨_, (pss_cons (ps_if (pt_cmp (pc_isN (pv 1)))
  (pss_one (ps_ret (pe_cmp (pc_isN (pv 0)) rfl)))
  pss_nil)
  (pss_cons (ps_if (pt_val (pe_callB call_isi (by rfl) T.n_isinstance (by decide +kernel) (pa_cons (pv 1) (pa_cons (pe_bltn (v := .ty "bool") (by rfl) T.n_bool (by decide +kernel) rfl) pa_nil))))
  (pss_one (ps_ret (pe_and (pe_callB call_isi (by rfl) T.n_isinstance (by decide +kernel) (pa_cons (pv 0) (pa_cons (pe_bltn (v := .ty "bool") (by rfl) T.n_bool (by decide +kernel) rfl) pa_nil))) (pe_one (pe_cmpR op_eq (pv 0) (pv 1) (nomark _))))))
  pss_nil)
  (pss_cons (ps_if (pt_val (pe_callB call_isi (by rfl) T.n_isinstance (by decide +kernel) (pa_cons (pv 1) (pa_cons (pe_bltn (v := .ty "int") (by rfl) T.n_int (by decide +kernel) rfl) pa_nil))))
  (pss_one (ps_ret (pe_and (pe_callB call_isi (by rfl) T.n_isinstance (by decide +kernel) (pa_cons (pv 0) (pa_cons (pe_bltn (v := .ty "int") (by rfl) T.n_int (by decide +kernel) rfl) pa_nil))) (pe_and (pe_not (pe_callB call_isi (by rfl) T.n_isinstance (by decide +kernel) (pa_cons (pv 0) (pa_cons (pe_bltn (v := .ty "bool") (by rfl) T.n_bool (by decide +kernel) rfl) pa_nil)))) (pe_one (pe_cmpR op_eq (pv 0) (pv 1) (nomark _)))))))
  pss_nil)
  (pss_cons (ps_if (pt_val (pe_callB call_isi (by rfl) T.n_isinstance (by decide +kernel) (pa_cons (pv 1) (pa_cons (pe_bltn (v := .ty "str") (by rfl) T.n_str (by decide +kernel) rfl) pa_nil))))
  (pss_one (ps_ret (pe_and (pe_callB call_isi (by rfl) T.n_isinstance (by decide +kernel) (pa_cons (pv 0) (pa_cons (pe_bltn (v := .ty "str") (by rfl) T.n_str (by decide +kernel) rfl) pa_nil))) (pe_one (pe_cmpR op_eq (pv 0) (pv 1) (nomark _))))))
  pss_nil)
  pss_never)))), ?_⟩
      cases al with
      | non =>
        refine ⟨.non, rfl, true, rfl, iteT ⟨.non, rfl, ?_⟩⟩
        exact q
      | bl _ i =>
        refine ⟨.bl i, rfl, false, dec_f (fun e => nomatch e), iteF ?_⟩
        refine ⟨.bl i, rfl, .bl i, .ty "bool", .type "bool", .type "bool", true, rfl, .ty _, .base (.bl i), kit_ty (by decide +kernel), true, rfl, iteT ?_⟩
        refine ⟨.bl i, rfl, .bl i, .ty "bool", .type "bool", .type "bool", true, rfl, .ty _, .base (.bl i), kit_ty (by decide +kernel), true, rfl, iteT ?_⟩
        refine ⟨.bl i, rfl, .bl i, rfl, rfl, ?_⟩
        rw [decide_eq_true rfl]
        exact q
      | int _ i =>
        refine ⟨.int i, rfl, false, dec_f (fun e => nomatch e), iteF ?_⟩
        refine ⟨.int i, rfl, .int i, .ty "bool", .type "int", .type "bool", false, rfl, .ty _, .base (.int i), kit_ty (by decide +kernel), false, rfl, iteF ?_⟩
        refine ⟨.int i, rfl, .int i, .ty "int", .type "int", .type "int", true, rfl, .ty _, .base (.int i), kit_ty (by decide +kernel), true, rfl, iteT ?_⟩
        refine ⟨.int i, rfl, .int i, .ty "int", .type "int", .type "int", true, rfl, .ty _, .base (.int i), kit_ty (by decide +kernel), true, rfl, iteT ?_⟩
        refine ⟨.int i, rfl, .int i, .ty "bool", .type "int", .type "bool", false, rfl, .ty _, .base (.int i), kit_ty (by decide +kernel), false, rfl, true, rfl, iteT ?_⟩
        refine ⟨.int i, rfl, .int i, rfl, rfl, ?_⟩
        rw [decide_eq_true rfl]
        exact q
      | str _ s =>
        refine ⟨.str s, rfl, false, dec_f (fun e => nomatch e), iteF ?_⟩
        refine ⟨.str s, rfl, .str s, .ty "bool", .type "str", .type "bool", false, rfl, .ty _, .base (.str s), kit_ty (by decide +kernel), false, rfl, iteF ?_⟩
        refine ⟨.str s, rfl, .str s, .ty "int", .type "str", .type "int", false, rfl, .ty _, .base (.str s), kit_ty (by decide +kernel), false, rfl, iteF ?_⟩
        refine ⟨.str s, rfl, .str s, .ty "str", .type "str", .type "str", true, rfl, .ty _, .base (.str s), kit_ty (by decide +kernel), true, rfl, iteT ?_⟩
        refine ⟨.str s, rfl, .str s, .ty "str", .type "str", .type "str", true, rfl, .ty _, .base (.str s), kit_ty (by decide +kernel), true, rfl, iteT ?_⟩
        refine ⟨.str s, rfl, .str s, rfl, rfl, ?_⟩
        rw [decide_eq_true rfl]
        exact q
  | n + 1 => by
    have ih := ok_l_alike T n
    refine T.d_l_alike.F.ok sc_l_alike (fun vs H Q E h => ?_) (fun cdv A outer s H vs Q E hr h => ?_)
    · obtain ⟨a, b, rfl, _⟩ := h
      rfl
    · obtain ⟨a, b, rfl, al, q⟩ := h
      refine ⟨_, (pss_cons (ps_if (pt_cmp (pc_isN (pv 1)))
  (pss_one (ps_ret (pe_cmp (pc_isN (pv 0)) rfl)))
  pss_nil)
  (pss_cons (ps_if (pt_val (pe_callB call_isi (by rfl) T.n_isinstance (by decide +kernel) (pa_cons (pv 1) (pa_cons (pe_bltn (v := .ty "bool") (by rfl) T.n_bool (by decide +kernel) rfl) pa_nil))))
  (pss_one (ps_ret (pe_and (pe_callB call_isi (by rfl) T.n_isinstance (by decide +kernel) (pa_cons (pv 0) (pa_cons (pe_bltn (v := .ty "bool") (by rfl) T.n_bool (by decide +kernel) rfl) pa_nil))) (pe_one (pe_cmpR op_eq (pv 0) (pv 1) (nomark _))))))
  pss_nil)
  (pss_cons (ps_if (pt_val (pe_callB call_isi (by rfl) T.n_isinstance (by decide +kernel) (pa_cons (pv 1) (pa_cons (pe_bltn (v := .ty "int") (by rfl) T.n_int (by decide +kernel) rfl) pa_nil))))
  (pss_one (ps_ret (pe_and (pe_callB call_isi (by rfl) T.n_isinstance (by decide +kernel) (pa_cons (pv 0) (pa_cons (pe_bltn (v := .ty "int") (by rfl) T.n_int (by decide +kernel) rfl) pa_nil))) (pe_and (pe_not (pe_callB call_isi (by rfl) T.n_isinstance (by decide +kernel) (pa_cons (pv 0) (pa_cons (pe_bltn (v := .ty "bool") (by rfl) T.n_bool (by decide +kernel) rfl) pa_nil)))) (pe_one (pe_cmpR op_eq (pv 0) (pv 1) (nomark _)))))))
  pss_nil)
  (pss_cons (ps_if (pt_val (pe_callB call_isi (by rfl) T.n_isinstance (by decide +kernel) (pa_cons (pv 1) (pa_cons (pe_bltn (v := .ty "str") (by rfl) T.n_str (by decide +kernel) rfl) pa_nil))))
  (pss_one (ps_ret (pe_and (pe_callB call_isi (by rfl) T.n_isinstance (by decide +kernel) (pa_cons (pv 0) (pa_cons (pe_bltn (v := .ty "str") (by rfl) T.n_str (by decide +kernel) rfl) pa_nil))) (pe_one (pe_cmpR op_eq (pv 0) (pv 1) (nomark _))))))
  pss_nil)
  (pss_cons (ps_if (PW.pt (pw_or (pt_cmpR op_ne (pe_callB call_isi (by rfl) T.n_isinstance (by decide +kernel) (pa_cons (pv 1) (pa_cons (pe_bltn (v := .ty "tuple") (by rfl) T.n_tuple (by decide +kernel) rfl) pa_nil))) (pe_callB call_isi (by rfl) T.n_isinstance (by decide +kernel) (pa_cons (pv 0) (pa_cons (pe_bltn (v := .ty "tuple") (by rfl) T.n_tuple (by decide +kernel) rfl) pa_nil))) (nomark _)) (pw_or1 (pt_cmpR op_ne (pe_callB call_isi (by rfl) T.n_isinstance (by decide +kernel) (pa_cons (pv 1) (pa_cons (pe_bltn (v := .ty "list") (by rfl) T.n_list (by decide +kernel) rfl) pa_nil))) (pe_callB call_isi (by rfl) T.n_isinstance (by decide +kernel) (pa_cons (pv 0) (pa_cons (pe_bltn (v := .ty "list") (by rfl) T.n_list (by decide +kernel) rfl) pa_nil))) (nomark _)))))
  (pss_one (ps_ret pe_bl))
  pss_nil)
  (pss_cons (ps_if (pt_cmpR op_ne (pe_callB call_len_seq (by rfl) T.n_len PySem.boot_len (pa_cons (pv 0) pa_nil)) (pe_callB call_len_seq (by rfl) T.n_len PySem.boot_len (pa_cons (pv 1) pa_nil)) (nomark _))
  (pss_one (ps_ret pe_bl))
  pss_nil)
  (pss_cons (ps_for PassesOwn.never rfl (pi_range1 (by rfl) T.n_range (pa_cons (pe_callB call_len_seq (by rfl) T.n_len PySem.boot_len (pa_cons (pv 1) pa_nil)) pa_nil)) (pg_name (i := 2) sc_l_alike.nd rfl (.inl rfl))
  (pss_one (ps_if (pt_not (pt_val (pe_call ih hr (by rfl) T.d_l_alike.g T.d_l_alike.F.kp T.d_l_alike.b .nil pass0 (pa_cons (pe_ix ix_seq (pv 0) (pv 2) (fun _ _ => rfl)) (pa_cons (pe_ix ix_seq (pv 1) (pv 2) (fun _ _ => rfl)) pa_nil)))))
  (pss_one (ps_ret pe_bl))
  pss_nil)))
  (pss_one (ps_ret pe_bl))))))))), ?_⟩
      cases al with
      | non =>
        refine ⟨.non, rfl, true, rfl, iteT ⟨.non, rfl, ?_⟩⟩
        exact q
      | bl _ i =>
        refine ⟨.bl i, rfl, false, dec_f (fun e => nomatch e), iteF ?_⟩
        refine ⟨.bl i, rfl, .bl i, .ty "bool", .type "bool", .type "bool", true, rfl, .ty _, .base (.bl i), kit_ty (by decide +kernel), true, rfl, iteT ?_⟩
        refine ⟨.bl i, rfl, .bl i, .ty "bool", .type "bool", .type "bool", true, rfl, .ty _, .base (.bl i), kit_ty (by decide +kernel), true, rfl, iteT ?_⟩
        refine ⟨.bl i, rfl, .bl i, rfl, rfl, ?_⟩
        rw [decide_eq_true rfl]
        exact q
      | int _ i =>
        refine ⟨.int i, rfl, false, dec_f (fun e => nomatch e), iteF ?_⟩
        refine ⟨.int i, rfl, .int i, .ty "bool", .type "int", .type "bool", false, rfl, .ty _, .base (.int i), kit_ty (by decide +kernel), false, rfl, iteF ?_⟩
        refine ⟨.int i, rfl, .int i, .ty "int", .type "int", .type "int", true, rfl, .ty _, .base (.int i), kit_ty (by decide +kernel), true, rfl, iteT ?_⟩
        refine ⟨.int i, rfl, .int i, .ty "int", .type "int", .type "int", true, rfl, .ty _, .base (.int i), kit_ty (by decide +kernel), true, rfl, iteT ?_⟩
        refine ⟨.int i, rfl, .int i, .ty "bool", .type "int", .type "bool", false, rfl, .ty _, .base (.int i), kit_ty (by decide +kernel), false, rfl, true, rfl, iteT ?_⟩
        refine ⟨.int i, rfl, .int i, rfl, rfl, ?_⟩
        rw [decide_eq_true rfl]
        exact q
      | str _ s =>
        refine ⟨.str s, rfl, false, dec_f (fun e => nomatch e), iteF ?_⟩
        refine ⟨.str s, rfl, .str s, .ty "bool", .type "str", .type "bool", false, rfl, .ty _, .base (.str s), kit_ty (by decide +kernel), false, rfl, iteF ?_⟩
        refine ⟨.str s, rfl, .str s, .ty "int", .type "str", .type "int", false, rfl, .ty _, .base (.str s), kit_ty (by decide +kernel), false, rfl, iteF ?_⟩
        refine ⟨.str s, rfl, .str s, .ty "str", .type "str", .type "str", true, rfl, .ty _, .base (.str s), kit_ty (by decide +kernel), true, rfl, iteT ?_⟩
        refine ⟨.str s, rfl, .str s, .ty "str", .type "str", .type "str", true, rfl, .ty _, .base (.str s), kit_ty (by decide +kernel), true, rfl, iteT ?_⟩
        refine ⟨.str s, rfl, .str s, rfl, rfl, ?_⟩
        rw [decide_eq_true rfl]
        exact q
      | lst ha hb hl hz hh =>
        rename_i a b xs ys
        refine ⟨.ref b, rfl, false, dec_f (fun e => nomatch e), iteF ?_⟩
        refine ⟨.ref b, rfl, .ref b, .ty "bool", .type "list", .type "bool", false, rfl, .ty _, .base (.lst hb), kit_ty (by decide +kernel), false, rfl, iteF ?_⟩
        refine ⟨.ref b, rfl, .ref b, .ty "int", .type "list", .type "int", false, rfl, .ty _, .base (.lst hb), kit_ty (by decide +kernel), false, rfl, iteF ?_⟩
        refine ⟨.ref b, rfl, .ref b, .ty "str", .type "list", .type "str", false, rfl, .ty _, .base (.lst hb), kit_ty (by decide +kernel), false, rfl, iteF ?_⟩
        refine ⟨.ref b, rfl, .ref b, .ty "tuple", .type "list", .type "tuple", false, rfl, .ty _, .base (.lst hb), kit_ty (by decide +kernel), .ref a, rfl, .ref a, .ty "tuple", .type "list", .type "tuple", false, rfl, .ty _, .base (.lst ha), kit_ty (by decide +kernel), rfl, false, rfl, iteF ?_⟩
        refine ⟨.ref b, rfl, .ref b, .ty "list", .type "list", .type "list", true, rfl, .ty _, .base (.lst hb), kit_ty (by decide +kernel), .ref a, rfl, .ref a, .ty "list", .type "list", .type "list", true, rfl, .ty _, .base (.lst ha), kit_ty (by decide +kernel), rfl, false, rfl, iteF ?_⟩
        refine ⟨.ref a, rfl, a, _, rfl, .inl (SqL.of ha), .ref b, rfl, b, _, rfl, .inl (SqL.of hb), rfl, _, rfl, iteNS (by rw [hl]) ?_⟩
        refine ⟨.ref b, rfl, b, _, rfl, .inl (SqL.of hb), _, rfl, by omega, by omega, for_range (lo := 0) (n := ((ys.length : Nat) : Int).toNat) (fun i σ H' => H' = H ∧ ∃ y : Option V, σ = [some (.ref a), some (.ref b), y]) ⟨rfl, _, rfl⟩ (fun i σ H' hi p => ?_) (fun σ H' p => ?_)⟩
        · obtain ⟨rfl, y, rfl⟩ := p
          have h1 : i < ys.length := by omega
          have h2 : i < xs.length := by omega
          refine ⟨.ref a, rfl, .int (0 + (i : Int)), rfl, .inl ⟨a, _, _, _, rfl, rfl, SqL.of ha, at_of (by omega) (List.getElem?_eq_getElem h2), .ref b, rfl, .int (0 + (i : Int)), rfl, .inl ⟨b, _, _, _, rfl, rfl, SqL.of hb, at_of (by omega) (List.getElem?_eq_getElem h1), ?_⟩⟩⟩
          refine ⟨_, _, rfl, hh i _ _ (List.getElem?_eq_getElem h2) (List.getElem?_eq_getElem h1), true, rfl, iteF ⟨rfl, _, rfl⟩⟩
        · obtain ⟨rfl, y, rfl⟩ := p
          exact q
      | tup ha hb hl hz hh =>
        rename_i a b xs ys
        refine ⟨.ref b, rfl, false, dec_f (fun e => nomatch e), iteF ?_⟩
        refine ⟨.ref b, rfl, .ref b, .ty "bool", .type "tuple", .type "bool", false, rfl, .ty _, .base (.tup hb), kit_ty (by decide +kernel), false, rfl, iteF ?_⟩
        refine ⟨.ref b, rfl, .ref b, .ty "int", .type "tuple", .type "int", false, rfl, .ty _, .base (.tup hb), kit_ty (by decide +kernel), false, rfl, iteF ?_⟩
        refine ⟨.ref b, rfl, .ref b, .ty "str", .type "tuple", .type "str", false, rfl, .ty _, .base (.tup hb), kit_ty (by decide +kernel), false, rfl, iteF ?_⟩
        refine ⟨.ref b, rfl, .ref b, .ty "tuple", .type "tuple", .type "tuple", true, rfl, .ty _, .base (.tup hb), kit_ty (by decide +kernel), .ref a, rfl, .ref a, .ty "tuple", .type "tuple", .type "tuple", true, rfl, .ty _, .base (.tup ha), kit_ty (by decide +kernel), rfl, false, rfl, iteF ?_⟩
        refine ⟨.ref b, rfl, .ref b, .ty "list", .type "tuple", .type "list", false, rfl, .ty _, .base (.tup hb), kit_ty (by decide +kernel), .ref a, rfl, .ref a, .ty "list", .type "tuple", .type "list", false, rfl, .ty _, .base (.tup ha), kit_ty (by decide +kernel), rfl, false, rfl, iteF ?_⟩
        refine ⟨.ref a, rfl, a, _, rfl, .inr (SqT.of ha), .ref b, rfl, b, _, rfl, .inr (SqT.of hb), rfl, _, rfl, iteNS (by rw [hl]) ?_⟩
        refine ⟨.ref b, rfl, b, _, rfl, .inr (SqT.of hb), _, rfl, by omega, by omega, for_range (lo := 0) (n := ((ys.length : Nat) : Int).toNat) (fun i σ H' => H' = H ∧ ∃ y : Option V, σ = [some (.ref a), some (.ref b), y]) ⟨rfl, _, rfl⟩ (fun i σ H' hi p => ?_) (fun σ H' p => ?_)⟩
        · obtain ⟨rfl, y, rfl⟩ := p
          have h1 : i < ys.length := by omega
          have h2 : i < xs.length := by omega
          refine ⟨.ref a, rfl, .int (0 + (i : Int)), rfl, (.inr (.inl ⟨a, _, _, _, rfl, rfl, SqT.of ha, at_of (by omega) (List.getElem?_eq_getElem h2), .ref b, rfl, .int (0 + (i : Int)), rfl, (.inr (.inl ⟨b, _, _, _, rfl, rfl, SqT.of hb, at_of (by omega) (List.getElem?_eq_getElem h1), ?_⟩))⟩))⟩
          refine ⟨_, _, rfl, hh i _ _ (List.getElem?_eq_getElem h2) (List.getElem?_eq_getElem h1), true, rfl, iteF ⟨rfl, _, rfl⟩⟩
        · obtain ⟨rfl, y, rfl⟩ := p
          exact q
end
end K04
namespace K04
open PySem PySem.Spec PyProof.Rows L2 Kt
/-- the heap without one thing -/
def off (H : Hp) (F : Addr) : Hp := fun b => if b = F then none else H b
theorem off_ne {H : Hp} {F b : Addr} (h : b ≠ F) : off H F b = H b := if_neg h
theorem off_upd (H : Hp) (F : Addr) (o : HO) : off (upd H F o) F = off H F := by
  funext b
  unfold off
  by_cases h : b = F
  · rw [if_pos h, if_pos h]
  · rw [if_neg h, if_neg h, upd_ne h]
theorem off_sub {H : Hp} {F b : Addr} {o : HO} (h : off H F b = some o) : H b = some o := by
  unfold off at h
  split at h
  · cases h
  · exact h
theorem off_same {H H' : Hp} {F : Addr} (s : Same H H') : Same (off H F) (off H' F) := fun b o e => by
  have n : b ≠ F := fun c => by rw [c] at e; unfold off at e; rw [if_pos rfl] at e; cases e
  rw [off_ne n]; exact s b o (off_sub e)
section
variable {P : Program} {w : World} {K : PySem.W.Frag} {mg : Str → Option Value} {base : Heap}
set_option maxHeartbeats 4000000 in
theorem ok_l_grown (T : Txt K mg) : FnOk P w K mg base CX0 2 T.d_l_grown.f T.d_l_grown.fd ["_law_sheet_here", "_law_text_here", "_law_tapes"] spGrown := by
  refine T.d_l_grown.F.ok sc_l_grown (fun vs H Q E h => ?_) (fun cdv A outer s H vs Q E hr h => ?_)
  · obtain ⟨t, l, z, o, hm, x, pas, Tl, d, n, rfl, _⟩ := h
    rfl
  · obtain ⟨t, l, z, o, hm, x, pas, Tl, d, n, rfl, gd, sh, hx, hs, el, lv, fit, hd, hn, tl, q⟩ := h
    refine ⟨_, (pss_cons (ps_set (i := 3) sc_l_grown.nd rfl (.inl rfl) (pe_lst pa_nil))
  (pss_cons (ps_for PassesOwn.never rfl (pi_list (pv 2)) (pg_tup rfl (pgs_cons (pg_name (i := 4) sc_l_grown.nd rfl (.inl rfl)) (pgs_cons (pg_name (i := 5) sc_l_grown.nd rfl (.inl rfl)) pgs_nil)))
  (pss_one (ps_for PassesOwn.never rfl (pi_range1 (by rfl) T.n_range (pa_cons (pe_op op_add (pe_callB call_len_str (by rfl) T.n_len PySem.boot_len (pa_cons (pe_ix ix_tup (pv 0) pe_int (fun _ _ => rfl)) pa_nil)) pe_int) pa_nil)) (pg_name (i := 6) sc_l_grown.nd rfl (.inl rfl))
  (pss_cons (ps_set (i := 7) sc_l_grown.nd rfl (.inl rfl) (pe_lst pa_nil))
  (pss_cons (ps_for PassesOwn.never rfl (pi_list (pv 5)) (pg_tup rfl (pgs_cons (pg_name (i := 8) sc_l_grown.nd rfl (.inl rfl)) (pgs_cons (pg_name (i := 9) sc_l_grown.nd rfl (.inl rfl)) pgs_nil)))
  (pss_cons (ps_asg (pe_call (ok_l_read T) (hr.mono (by decide)) (by rfl) T.d_l_read.g T.d_l_read.F.kp T.d_l_read.b .nil pass0 (pa_cons (pv 0) (pa_cons (pe_lst (pa_cons (pv 6) pa_nil)) (pa_cons (pv 9) pa_nil)))) (pg_tup rfl (pgs_cons (pg_name (i := 10) sc_l_grown.nd rfl (.inl rfl)) (pgs_cons (pg_name (i := 9) sc_l_grown.nd rfl (.inl rfl)) pgs_nil))))
  (pss_one (ps_expr (pe_bm PySem.F.plainAttrs_list PySem.F.slot_list_append PySem.F.type_list_append mt_append (pv 7) (pa_cons (pe_tup (pa_cons (pe_op op_add_str (pv 8) (pv 10)) (pa_cons (pv 9) pa_nil))) pa_nil))))))
  (pss_one (ps_if (pt_cmpR (op_eqD hr.units) (pe_lc (own := [("_law_one", 11)]) (g := gName 11) (tt := (tTest (tOp _ (tSl _ _ tNoPart (tPart (tCB _ (tCons (tOp (rIxT K) _ _) tNil)))) (tOp (rIxT K) _ _)))) (te := _) rfl sc_l_grown.nd (pi_list (pv 7)) (blkOk_by (own := [("_law_one", 11)]) (N := ["_law_sheet_here", "_law_text_here", "_law_tapes", "_law_found", "_law_tape_here", "_law_ends", "_law_code", "_law_told", "_law_some", "_law_number", "_law_more", "_law_one"]) (sc := defScope s_l_grown) (by decide +kernel)) (by exact fun _ _ _ _ _ => pg_name (i := 11) sc_l_grown.nd rfl (Or.inl rfl)) (by exact fun _ _ _ _ _ => (pts_one (pt_cmpR op_ne (pe_slice sl_str (pv 1) po_none (po_some (pe_callB call_len_str (by rfl) T.n_len PySem.boot_len (pa_cons (pe_ix ix_tup (pv 11) pe_int (fun _ _ => rfl)) pa_nil)))) (pe_ix ix_tup (pv 11) pe_int (fun _ _ => rfl)) (nomark _)))) (by exact fun _ _ _ _ _ => (pv 11))) (pe_lst pa_nil) (nomark _))
  (pss_one (ps_expr (pe_bm PySem.F.plainAttrs_list PySem.F.slot_list_append PySem.F.type_list_append mt_append (pv 3) (pa_cons (pe_tup (pa_cons (pe_op op_cat (pv 4) (pe_lst (pa_cons (pv 6) pa_nil))) (pa_cons (pv 7) pa_nil))) pa_nil))))
  pss_nil)))))))
  (pss_one (ps_ret (pv 3))))), ?_⟩
    have big : z.length ≤ sizeLine := Nat.le_trans gd.le (by decide)
    have bigX : x.length ≤ sizeLine := Nat.le_trans hx (by decide)
    have ll := lv.len
    have z26 := gd.le
    refine ⟨Nat.zero_le _, fun F nF => ?_⟩
    have sF := same_new (o := HO.lst []) nF
    refine ⟨.ref l, rfl, l, rfl, ⟨_, SqL.of (sF _ _ el)⟩, for_list (K := K) (a := l) (xs := pas.map V.ref) (fun i σ H' => i ≤ pas.length ∧ Same H H' ∧ ∃ (gs : List Addr) (y4 y5 y6 y7 y8 y9 y10 y11 : Option V), H' F = some (.lst (gs.map V.ref)) ∧ LvsAt (off H' F) gs (grown z o hm x (Tl.take i)) ∧
        σ = [some (.ref t), some (.str x), some (.ref l), some (.ref F), y4, y5, y6, y7, y8, y9, y10, y11])
      ⟨Nat.zero_le _, sF, [], _, _, _, _, _, _, _, _, upd_same, True.intro, rfl⟩ (fun i σ H' _ p => SqL.of (p.2.1 _ _ el)) (fun i v σ H' hv p => ?_) (fun σ H' p => ?_)⟩
    · obtain ⟨_, sm, gs, y4, y5, y6, y7, y8, y9, y10, y11, eF, lg, rfl⟩ := p
      obtain ⟨pa, hpa, rfl⟩ := at_map hv
      obtain ⟨p, hp, ta, ea, as, h1, h2, h3, h4⟩ := lv.get hpa
      have hil := (List.getElem?_eq_some_iff.mp hpa).1
      have ft := fit p (List.mem_of_getElem? hp)
      have lgl := lg.len
      have lgb := grown_len z o hm x (Tl.take i)
      have ltk : (Tl.take i).length ≤ 4356 := by rw [List.length_take]; omega
      have gsl : gs.length ≤ 4356 * 28 := by
        rw [lgl]
        exact Nat.le_trans lgb (Nat.mul_le_mul ltk (by omega))
      refine ⟨pa, _, rfl, SqT.of (sm _ _ h1), rfl, _, _, rfl, _, _, rfl, rfl, ?_⟩
      refine ⟨.ref t, rfl, t, _, 0, _, rfl, rfl, SqT.of (sm _ _ sh), atI_nat (j := 0) rfl, z, rfl, big, _, _, rfl, rfl, _, rfl, by omega, by show ((z.cps.size : Nat) : Int) + 2 < _; omega, for_range (lo := 0) (n := (((z.length : Nat) : Int) + 2).toNat) (fun j σ H2 => j ≤ z.cps.size + 2 ∧ Same H H2 ∧ ∃ (gs : List Addr) (y6 y7 y8 y9 y10 y11 : Option V), H2 F = some (.lst (gs.map V.ref)) ∧ gs.length ≤ 4356 * 28 + j ∧ LvsAt (off H2 F) gs (grown z o hm x (Tl.take i) ++ grownTo z o hm x p j) ∧
          σ = [some (.ref t), some (.str x), some (.ref l), some (.ref F), some (.ref ta), some (.ref ea), y6, y7, y8, y9, y10, y11])
        ⟨Nat.zero_le _, sm, gs, _, _, _, _, _, _, eF, by omega, by rw [show grownTo z o hm x p 0 = [] from rfl, List.append_nil]; exact lg, rfl⟩ (fun j σ H2 hj p' => ?_) (fun σ H2 p' => ?_)⟩
      · obtain ⟨_, s2, gs, y6, y7, y8, y9, y10, y11, eF, gsl, lg, rfl⟩ := p'
        have hj : j < z.cps.size + 2 := by
          have : j < (((z.cps.size : Nat) : Int) + 2).toNat := hj
          omega
        generalize hkk : (0 + (j : Int)) = kk
        have hkj : kk = (j : Int) := by omega
        have hc : Codes z.cps.size [kk] := fun c hc => by rw [List.mem_singleton.mp hc]; omega
        have sms := step_small gd (show 0 ≤ kk ∧ kk < (z.cps.size : Int) + 2 by omega) ft.small (hm := hm)
        refine ⟨Nat.zero_le _, fun D nD => ?_⟩
        have sD := same_new (o := HO.lst []) nD
        have nDH := s2.free nD
        have al := h4.len
        have al2 : as.length ≤ 2 := by rw [al, ft.len]; exact hn
        refine ⟨.ref ea, rfl, ea, rfl, ⟨_, SqL.of (sD _ _ (s2 _ _ h3))⟩, for_list (K := K) (a := ea) (xs := as.map V.ref) (fun m σ H3 => m ≤ as.length ∧ Same H2 H3 ∧ ∃ (bs : List Addr) (y8 y9 y10 y11 : Option V), H3 D = some (.lst (bs.map V.ref)) ∧ EndsT H3 bs ((stepE z o hm p.2 kk).take m) ∧
            σ = [some (.ref t), some (.str x), some (.ref l), some (.ref F), some (.ref ta), some (.ref ea), some (.int kk), some (.ref D), y8, y9, y10, y11])
          ⟨Nat.zero_le _, sD, [], _, _, _, _, upd_same, by rw [List.take_zero]; exact True.intro, rfl⟩ (fun m σ H3 _ p' => SqL.of (p'.2.1 _ _ (s2 _ _ h3))) (fun m v σ H3 hv p' => ?_) (fun σ H3 p' => ?_)⟩
        · obtain ⟨_, s3, bs, y8, y9, y10, y11, eD, et, rfl⟩ := p'
          obtain ⟨a, ha, rfl⟩ := at_map hv
          obtain ⟨⟨sx, nb⟩, he, ea1⟩ := h4.get ha
          have hml := (List.getElem?_eq_some_iff.mp ha).1
          have mem := List.mem_of_getElem? he
          obtain ⟨sm1, nb01⟩ := ft.small _ mem
          have sl := ok_len ft.ok _ mem
          have s23 := s2.trans s3
          have bl := et.len
          have bl2 : bs.length ≤ 2 := by rw [bl, List.length_take]; omega
          refine ⟨a, _, rfl, SqT.of (s23 _ _ ea1), rfl, _, _, rfl, _, _, rfl, rfl, ?_⟩
          refine ⟨.ref t, rfl, .int kk, rfl, by show 1 ≤ sizeLine; decide, fun pl npl => ?_⟩
          have u1 := same_new (o := HO.lst [V.int kk]) npl
          refine ⟨.int nb, rfl, t, pl, z, o, hm, [kk], nb, rfl, gd, u1 _ _ (s23 _ _ sh), SqL.of upd_same, hc, by show 1 ≤ 1000; decide, nb01, fun pr H4 s4 npr epr => ?_⟩
          have u2 := u1.trans s4
          have er := step_read (z := z) (o := o) (hm := hm) (sx, nb) kk
          have el1 : (rd z o hm [kk] nb).1.length ≤ 1 := rd_signs z o hm [kk] nb
          generalize rd z o hm [kk] nb = r at epr er el1
          obtain ⟨mo, nb'⟩ := r
          refine ⟨pr, _, rfl, SqT.of epr, rfl, _, _, rfl, _, _, rfl, rfl, ?_⟩
          have sl : sx.length ≤ 32 := Nat.le_trans sl hx
          have el1 : mo.length ≤ 1 := el1
          refine ⟨.ref D, rfl, .inl ⟨rfl, _, SqL.of (u2 _ _ eD)⟩, .str sx, rfl, .str mo, rfl, _, _, rfl, rfl, Nat.le_of_lt (small1000 (by omega)), .int nb', rfl, by show 2 ≤ sizeLine; decide, fun pt npt => ?_⟩
          have u3 := u2.trans (same_new (o := HO.tup [V.str (sx ++ mo), V.int nb']) npt)
          refine ⟨D, _, _, rfl, rfl, u3 _ _ eD, by rw [List.length_map]; exact small1000 (by omega), ?_⟩
          have kt : ∀ (ys : List V) a xs, upd H4 pt (HO.tup [V.str (sx ++ mo), V.int nb']) a = some (HO.tup xs) → upd (upd H4 pt (HO.tup [V.str (sx ++ mo), V.int nb'])) D (.lst ys) a = some (HO.tup xs) := fun ys a xs h => by
            rw [upd_ne (ne_of h (u3 _ _ eD) fun e => nomatch e)]; exact h
          refine ⟨hml, sameD (s3.trans u3) nD, bs ++ [pt], _, _, _, _, by rw [upd_same, List.map_append]; rfl, ?_, rfl⟩
          have st : (stepE z o hm p.2 kk)[m]? = some (sx ++ mo, nb') := by unfold stepE; rw [List.getElem?_map, he]; exact congrArg some er
          rw [List.take_add_one, st]
          exact EndsT.app ((et.mono fun a xs h => u3 _ _ h).mono (kt _)) ⟨kt _ _ _ upd_same, True.intro⟩
        · obtain ⟨_, s3, bs, y8, y9, y10, y11, eD, et, rfl⟩ := p'
          rw [List.length_map, al, show (stepE z o hm p.2 kk).take p.2.length = stepE z o hm p.2 kk from by rw [List.take_of_length_le]; unfold stepE; rw [List.length_map]; exact Nat.le_refl _] at et
          generalize hE : stepE z o hm p.2 kk = Eb at et sms
          have bl := et.len
          have s23 := s2.trans s3
          have eF3 := s3 _ _ eF
          have lg3 := lg.same (off_same (F := F) s3)
          have lenE : ∀ r ∈ Eb, r.1.length ≤ 33 := fun r hr => by
            rw [← hE] at hr
            obtain ⟨p0, hp0, rfl⟩ := List.mem_map.mp hr
            have a1 := ok_len ft.ok p0 hp0
            have a2 := (rdStep_ok (hm := hm) (o := o) (z := z) p0 (ft.small p0 hp0).2 (show 0 ≤ kk ∧ kk < (z.cps.size : Int) + 2 by omega)).2
            have a1 : p0.1.length ≤ 32 := Nat.le_trans a1 hx
            omega
          have nDF : D ≠ F := fun c => by rw [c, eF] at nD; cases nD
          refine ⟨.ref D, rfl, D, rfl, ⟨_, SqL.of eD⟩, fun D2 nD2 => ?_⟩
          refine lc_list (K := K) (a := D) (xs := bs.map V.ref) (fun m H4 => m ≤ bs.length ∧ Same H3 H4 ∧ ∃ cs : List Addr, H4 D2 = some (.lst (cs.map V.ref)) ∧ EndsT H4 cs ((Eb.take m).filter fun r => decide (¬ cutS x none (some ((r.1.length : Nat) : Int)) = r.1)))
            ⟨Nat.zero_le _, same_new nD2, [], upd_same, by rw [List.take_zero]; exact True.intro⟩ (fun m H4 _ p' => SqL.of (p'.2.1 _ _ eD)) (fun m v H4 hv p' => ?_) (fun H4 p' => ?_)
          · obtain ⟨_, s4, cs, eD2, ec⟩ := p'
            obtain ⟨a, ha, rfl⟩ := at_map hv
            obtain ⟨⟨sx, nb⟩, he, ea1⟩ := et.get ha
            have hml := (List.getElem?_eq_some_iff.mp ha).1
            have bS : sx.length ≤ sizeLine := Nat.le_of_lt (small1000 (by have := lenE _ (List.mem_of_getElem? he); show sx.length ≤ 1000; have : sx.length ≤ 33 := this; omega))
            have ha4 := s4 _ _ ea1
            have cl := ec.len
            have cl2 : cs.length ≤ 1000 := by
              rw [cl]
              refine Nat.le_trans (List.length_filter_le _ _) ?_
              rw [List.length_take, ← bl]
              have : bs.length ≤ 2 := by rw [bl, ← hE]; unfold stepE; rw [List.length_map, ft.len]; exact hn
              omega
            refine ⟨rfl, ?_⟩
            refine ⟨.str x, rfl, .ref a, rfl, a, _, 0, _, rfl, rfl, SqT.of ha4, atI_nat (j := 0) rfl, sx, rfl, bS, _, rfl, x, rfl, bigX, .ref a, rfl, a, _, 0, _, rfl, rfl, SqT.of ha4, atI_nat (j := 0) rfl, rfl, _, rfl, ?_⟩
            rw [List.take_add_one, he] at *
            by_cases hp : cutS x none (some ((sx.length : Nat) : Int)) = sx
            · rw [show decide (V.str (cutS x none (some ((sx.length : Nat) : Int))) = V.str sx) = true from decide_eq_true (by rw [hp])]
              refine iteF ⟨hml, s4, cs, eD2, ?_⟩
              rw [List.filter_append]
              have : (Option.toList (some (sx, nb))).filter (fun r : Str × Int => decide (¬ cutS x none (some ((r.1.length : Nat) : Int)) = r.1)) = [] := by simp [hp]
              rw [this, List.append_nil]; exact ec
            · rw [show decide (V.str (cutS x none (some ((sx.length : Nat) : Int))) = V.str sx) = false from decide_eq_false fun c => hp (V.str.inj c)]
              refine iteT ⟨.ref a, rfl, _, eD2, by rw [List.length_map]; exact small1000 cl2, hml, sameD s4 nD2, cs ++ [a], by rw [upd_same, List.map_append]; rfl, ?_⟩
              rw [List.filter_append]
              have e1 : (Option.toList (some (sx, nb))).filter (fun r : Str × Int => decide (¬ cutS x none (some ((r.1.length : Nat) : Int)) = r.1)) = [(sx, nb)] := by simp [hp]
              rw [e1]
              have kt : ∀ (ys : List V) a xs, H4 a = some (HO.tup xs) → upd H4 D2 (.lst ys) a = some (HO.tup xs) := fun ys a xs h => by
                rw [upd_ne (ne_of h eD2 fun e => nomatch e)]; exact h
              exact EndsT.app (ec.mono (kt _)) ⟨kt _ _ _ ha4, True.intro⟩
          · obtain ⟨_, s4, cs, eD2, ec⟩ := p'
            rw [List.length_map, bl, List.take_length] at ec
            refine ⟨Nat.zero_le _, fun p0 np0 => ?_⟩
            have u1 := s4.trans (same_new (o := HO.lst []) np0)
            have smf : SmallE (Eb.filter fun r => decide (¬ cutS x none (some ((r.1.length : Nat) : Int)) = r.1)) := fun r hr => sms r (List.mem_filter.mp hr).1
            refine ⟨_, _, .lst (SqL.of (same_new np0 _ _ eD2)) (ec.mono fun a xs h => same_new np0 _ _ h).dp, .lst (SqL.of upd_same) .nil, shaped_e smf, rfl, _, rfl, ?_⟩
            rw [eqv_nil_e]
            have eF4 := u1 _ _ eF3
            have lg4 := lg3.same (off_same (F := F) u1)
            have smx := s23.trans u1
            generalize upd H4 p0 (HO.lst []) = H5 at u1 eF4 lg4 smx
            by_cases hok : OkE x Eb
            · have fe : (Eb.filter fun r => decide (¬ cutS x none (some ((r.1.length : Nat) : Int)) = r.1)) = [] := by
                rw [List.filter_eq_nil_iff]
                intro r hr c
                exact of_decide_eq_true c (cut_pre.mpr (hok r hr))
              refine iteTd fe ?_
              refine ⟨.ref F, rfl, .inl ⟨rfl, _, SqL.of eF4⟩, .ref ta, rfl, .int kk, rfl, by show 1 ≤ sizeLine; decide, fun p1 n1 => ?_⟩
              have v1 := same_new (o := HO.lst [V.int kk]) n1
              refine ⟨ta, p1, _, _, rfl, rfl, v1 _ _ (smx _ _ h2), upd_same, by rw [List.length_map, ft.tape]; exact Nat.le_of_lt (small1000 (by show d + 1 ≤ 1000; omega)), fun p2 n2 => ?_⟩
              have v2 := v1.trans (same_new (o := HO.lst (p.1.map V.int ++ [V.int kk])) n2)
              refine ⟨.ref D, rfl, by show 2 ≤ sizeLine; decide, fun p3 n3 => ?_⟩
              have v3' := same_new (o := HO.tup [V.ref p2, V.ref D]) n3
              have v3 := v2.trans v3'
              have e2 : upd (upd (upd H5 p1 (HO.lst [V.int kk])) p2 (HO.lst (p.1.map V.int ++ [V.int kk]))) p3 (HO.tup [V.ref p2, V.ref D]) p2 = _ := v3' _ _ upd_same
              have e3 : upd (upd (upd H5 p1 (HO.lst [V.int kk])) p2 (HO.lst (p.1.map V.int ++ [V.int kk]))) p3 (HO.tup [V.ref p2, V.ref D]) p3 = _ := upd_same
              have nFp2 : p2 ≠ F := fun c => by rw [c, v1 _ _ eF4] at n2; cases n2
              have eD6 := v3 _ _ (u1 _ _ eD)
              have et6 := (et.mono fun a xs h => u1 _ _ h).mono fun a xs h => v3 _ _ h
              have eF6 := v3 _ _ eF4
              have lg6 := lg4.same (off_same (F := F) v3)
              have sm6 := smx.trans v3
              generalize upd (upd (upd H5 p1 (HO.lst [V.int kk])) p2 (HO.lst (p.1.map V.int ++ [V.int kk]))) p3 (HO.tup [V.ref p2, V.ref D]) = H6 at e2 e3 eD6 et6 eF6 lg6 sm6
              have nFp3 : p3 ≠ F := fun c => by rw [c, eF6] at e3; cases e3
              refine ⟨F, _, _, rfl, rfl, eF6, by rw [List.length_map]; exact Nat.lt_of_le_of_lt (show gs.length ≤ 200000 by omega) (by decide), ?_⟩
              rw [hkj] at hE e2
              refine ⟨hj, sameD sm6 nF, gs ++ [p3], _, _, _, _, _, _, by rw [upd_same, List.map_append]; rfl, by rw [List.length_append]; show gs.length + 1 ≤ _; omega, ?_, rfl⟩
              rw [off_upd, grownTo_pos (by rw [hE]; exact hok), ← List.append_assoc, hE]
              refine LvsAt.app lg6 ⟨⟨p2, D, bs, by rw [off_ne nFp3]; exact e3, by rw [off_ne nFp2, List.map_append]; exact e2, by rw [off_ne nDF]; exact eD6, et6.mono fun a xs h => ?_⟩, True.intro⟩
              rw [off_ne (ne_of h eF6 fun e => nomatch e)]; exact h
            · have fe : ¬ (Eb.filter fun r => decide (¬ cutS x none (some ((r.1.length : Nat) : Int)) = r.1)) = [] := fun c => hok fun r hr => by
                rw [List.filter_eq_nil_iff] at c
                have := c r hr
                exact cut_pre.mp (Classical.byContradiction fun nc => this (decide_eq_true nc))
              rw [hkj] at hE
              refine iteFd fe ⟨hj, smx, gs, _, _, _, _, _, _, eF4, by omega, ?_, rfl⟩
              rw [grownTo_neg (by rw [hE]; exact hok)]
              exact lg4
      · obtain ⟨_, s2, gs, y6, y7, y8, y9, y10, y11, eF, gsl, lg, rfl⟩ := p'
        refine ⟨hil, s2, gs, _, _, _, _, _, _, _, _, eF, ?_, rfl⟩
        rw [grown_take hp]
        have e : (((z.length : Nat) : Int) + 2).toNat = z.cps.size + 2 := by show (((z.cps.size : Nat) : Int) + 2).toNat = _; omega
        rw [e] at lg
        exact lg
    · obtain ⟨_, sm, gs, y4, y5, y6, y7, y8, y9, y10, y11, eF, lg, rfl⟩ := p
      rw [List.length_map, ll, List.take_length] at lg
      refine ⟨.ref F, rfl, q F gs H' sm nF eF (lg.mono (fun a xs h => off_sub h) fun a xs h => off_sub h)⟩
theorem same_unlk {H H4 H5 : Hp} {N : Addr} {fr u : HO} (n : H N = none) (s : Same H H4) (s5 : Same (upd H4 N fr) H5) : Same H (upd H5 N u) := fun b o e => by
  have nb : b ≠ N := ne_of_none e n
  rw [upd_ne nb]
  exact s5 _ _ (by rw [upd_ne nb]; exact s _ _ e)
set_option maxHeartbeats 4000000 in
theorem ok_l_first (T : Txt K mg) : FnOk P w K mg base CX0 3 T.d_l_first.f T.d_l_first.fd ["_law_sheet_here", "_law_text_here", "_law_begins"] spFirst4 := by
  refine T.d_l_first.F.ok sc_l_first (fun vs H Q E h => ?_) (fun cdv A outer s H vs Q E hr h => ?_)
  · obtain ⟨t, l, z, o, hm, x, Bs, u, rfl, _⟩ := h
    rfl
  · obtain ⟨t, l, z, o, hm, x, Bs, u, rfl, gd, sh, hx, hs, el, hB, hB1, hu, ul, q⟩ := h
    refine ⟨_, (pss_cons (ps_set (i := 3) sc_l_first.nd rfl (.inl rfl) (pe_lst (pa_cons (pe_tup (pa_cons (pe_lst pa_nil) (pa_cons (pe_lc (own := [("_law_begin", 7)]) (g := gName 7) (tt := tYes) (te := _) rfl sc_l_first.nd (pi_list (pv 2)) (blkOk_by (own := [("_law_begin", 7)]) (N := ["_law_sheet_here", "_law_text_here", "_law_begins", "_law_tapes", "_law_tape_here", "_law_ends", "_law_known", "_law_begin", "_law_one"]) (sc := defScope s_l_first) (by decide +kernel)) (by exact fun _ _ _ _ _ => pg_name (i := 7) sc_l_first.nd rfl (Or.inl rfl)) (by exact fun _ _ _ _ _ => pts_nil) (by exact fun _ _ _ _ _ => (pe_tup (pa_cons pe_str (pa_cons (pv 7) pa_nil))))) pa_nil))) pa_nil)))
  (pss_one (ps_while PassesOwn.never (pt_val pe_bl)
  (pss_cons (ps_for PassesOwn.never rfl (pi_list (pv 3)) (pg_tup rfl (pgs_cons (pg_name (i := 4) sc_l_first.nd rfl (.inl rfl)) (pgs_cons (pg_name (i := 5) sc_l_first.nd rfl (.inl rfl)) pgs_nil)))
  (pss_one (ps_if (pt_cmpR (op_eqD hr.units) (pe_lc (own := [("_law_one", 8)]) (g := gName 8) (tt := (tTest (tOp _ (tOp (rIxT K) _ _) _))) (te := _) rfl sc_l_first.nd (pi_list (pv 5)) (blkOk_by (own := [("_law_one", 8)]) (N := ["_law_sheet_here", "_law_text_here", "_law_begins", "_law_tapes", "_law_tape_here", "_law_ends", "_law_known", "_law_begin", "_law_one"]) (sc := defScope s_l_first) (by decide +kernel)) (by exact fun _ _ _ _ _ => pg_name (i := 8) sc_l_first.nd rfl (Or.inl rfl)) (by exact fun _ _ _ _ _ => (pts_one (pt_cmpR op_ne (pe_ix ix_tup (pv 8) pe_int (fun _ _ => rfl)) (pv 1) (nomark _)))) (by exact fun _ _ _ _ _ => (pv 8))) (pe_lst pa_nil) (nomark _))
  (pss_one (ps_ret (pv 4)))
  pss_nil)))
  (pss_cons (ps_set (i := 6) sc_l_first.nd rfl (.inr rfl) Kt.pe_newN)
  (pss_cons (ps_for PassesOwn.never rfl (pi_list (pe_call (ok_l_grown T) (hr.mono (by decide)) (by rfl) T.d_l_grown.g T.d_l_grown.F.kp T.d_l_grown.b .nil pass0 (pa_cons (pv 0) (pa_cons (pv 1) (pa_cons (pv 3) pa_nil))))) (pg_tup rfl (pgs_cons (pg_name (i := 4) sc_l_first.nd rfl (.inl rfl)) (pgs_cons (pg_name (i := 5) sc_l_first.nd rfl (.inl rfl)) pgs_nil)))
  (pss_one (ps_if (pt_cmp (Kt.pc_notinN hr.units (pe_callTy call_tuple_of (by rfl) T.n_tuple (by decide +kernel) (pa_cons (pv 5) pa_nil)) (pv 6)))
  (pss_one (Kt.ps_putN hr.units (pv 6) (pe_callTy call_tuple_of (by rfl) T.n_tuple (by decide +kernel) (pa_cons (pv 5) pa_nil)) (pv 4) rfl))
  pss_nil)))
  (pss_one (ps_lock (ps_setLc (i := 3) (own := [("_law_ends", 5)]) (g := gName 5) (tt := tYes) (te := (tTup (tCons (Kt.tGetN w (tVar 6) (tVar 5)) (tCons (tCB (Kt.rListQ K) (tCons (tVar 5) tNil)) tNil)))) rfl sc_l_first.nd rfl rfl (sw_true rfl rfl rfl (by decide +kernel)) (Kt.pi_keysN (pv 6)) (blkOk_by (own := [("_law_ends", 5)]) (N := ["_law_sheet_here", "_law_text_here", "_law_begins", "_law_tapes", "_law_tape_here", "_law_ends", "_law_known", "_law_begin", "_law_one"]) (sc := defScope s_l_first) (by decide +kernel)) (by exact fun _ _ _ _ _ => pg_name (i := 5) sc_l_first.nd rfl (Or.inl rfl)) (by exact fun _ _ _ _ _ => pts_nil) (by exact fun _ _ _ _ _ => (pe_tup (pa_cons (Kt.pe_getN hr.units (pv 6) (pv 5) (fun _ _ => rfl)) (pa_cons (pe_callTy call_list_of (by rfl) T.n_list (by decide +kernel) (pa_cons (pv 5) pa_nil)) pa_nil))))))))))))), ?_⟩
    have x126 : ∀ c ∈ x.cps.toList, c ≤ 126 := fun c hc => by
      rcases hs c hc with m | m
      · exact (gd.pz c m).2
      · exact (gd.po c m).2
    refine ⟨Nat.zero_le _, fun e0 ne0 => ?_⟩
    have s1 := same_new (o := HO.lst []) ne0
    have e01 : upd H e0 (HO.lst []) e0 = some (.lst []) := upd_same
    generalize upd H e0 (HO.lst []) = H1 at s1 e01
    refine ⟨.ref l, rfl, l, rfl, ⟨_, SqL.of (s1 _ _ el)⟩, fun D nD => ?_⟩
    refine lc_list (K := K) (a := l) (xs := Bs.map V.int) (fun i H' => i ≤ Bs.length ∧ Same H1 H' ∧ ∃ bs : List Addr, H' D = some (.lst (bs.map V.ref)) ∧ EndsT H' bs ((Bs.take i).map fun b => (Str.ofString "", b)))
      ⟨Nat.zero_le _, same_new nD, [], upd_same, by rw [List.take_zero]; exact True.intro⟩ (fun i H' _ p => SqL.of (p.2.1 _ _ (s1 _ _ el))) (fun i v H' hv p => ?_) (fun H' p => ?_)
    · obtain ⟨_, sm, bs, eD, et⟩ := p
      obtain ⟨b, hb, rfl⟩ := at_map hv
      have hil := (List.getElem?_eq_some_iff.mp hb).1
      refine ⟨rfl, lc_yes ⟨.int b, rfl, by show 2 ≤ sizeLine; decide, fun p np => ?_⟩⟩
      have u1 := same_new (o := HO.tup [V.str (Str.ofString ""), V.int b]) np
      have bl := et.len
      refine ⟨_, u1 _ _ eD, by rw [List.length_map, bl, List.length_map, List.length_take]; exact small1000 (by omega), hil, sameD (sm.trans u1) nD, bs ++ [p], by rw [upd_same, List.map_append]; rfl, ?_⟩
      have kt : ∀ (ys : List V) a xs, upd H' p (HO.tup [V.str (Str.ofString ""), V.int b]) a = some (HO.tup xs) → upd (upd H' p (HO.tup [V.str (Str.ofString ""), V.int b])) D (.lst ys) a = some (HO.tup xs) := fun ys a xs h => by
        rw [upd_ne (ne_of h (u1 _ _ eD) fun e => nomatch e)]; exact h
      rw [List.take_add_one, hb, List.map_append]
      exact EndsT.app ((et.mono fun a xs h => u1 _ _ h).mono (kt _)) ⟨kt _ _ _ upd_same, True.intro⟩
    obtain ⟨_, sm, bs, eD, et⟩ := p
    rw [List.length_map, List.take_length] at et
    refine ⟨by show 2 ≤ sizeLine; decide, fun pa npa => ⟨by show 1 ≤ sizeLine; decide, fun l0 nl0 => ?_⟩⟩
    have u1 := same_new (o := HO.tup [V.ref e0, V.ref D]) npa
    have u2' := same_new (o := HO.lst [V.ref pa]) nl0
    have u2 := u1.trans u2'
    have smH := s1.trans (sm.trans u2)
    have lv0 : LvsAt (upd (upd H' pa (HO.tup [V.ref e0, V.ref D])) l0 (HO.lst [V.ref pa])) [pa] [(([] : List Int), endsOf z o hm Bs [])] :=
      ⟨⟨e0, D, bs, u2' _ _ upd_same, u2 _ _ (sm _ _ e01), u2 _ _ eD, et.mono fun a xs h => u2 _ _ h⟩, True.intro⟩
    have el0 : upd (upd H' pa (HO.tup [V.ref e0, V.ref D])) l0 (HO.lst [V.ref pa]) l0 = some (.lst ([pa].map V.ref)) := upd_same
    generalize upd (upd H' pa (HO.tup [V.ref e0, V.ref D])) l0 (HO.lst [V.ref pa]) = H2 at smH lv0 el0
    clear u1 u2 u2' sm s1 eD et e01 nD npa nl0
    have lz := Lev.zero z o hm x Bs
    have fit0 : ∀ p ∈ [(([] : List Int), endsOf z o hm Bs [])], Fit x 0 Bs.length p := fun p hp => by
      obtain ⟨_, _, _, h4⟩ := lz.each p hp
      rw [List.mem_singleton.mp hp] at h4 ⊢
      refine ⟨h4, fun r hr => ?_, by show (endsOf z o hm Bs []).length = _; unfold endsOf; rw [List.length_map], rfl⟩
      obtain ⟨b, hb, rfl⟩ := List.mem_map.mp hr
      exact ⟨fun c hc => (by rw [show (rd z o hm [] b).1 = Str.ofString "" from rfl, nil_list] at hc; cases hc), hB1 b hb⟩
    obtain ⟨W, hW⟩ : ∃ W : Nat → L2.St → Hp → Prop, W = fun m σ H' => ∃ (d : Nat) (lT : Addr) (pas : List Addr) (Tl : List Lv) (y4 y5 y6 : Option V), m + d = u.length ∧ Same H H' ∧ H' lT = some (.lst (pas.map V.ref)) ∧ LvsAt H' pas Tl ∧ Lev z o hm x Bs d Tl ∧ (Tl.map (·.2)).Nodup ∧ (∀ p ∈ Tl, Fit x d Bs.length p) ∧
        σ = [some (.ref t), some (.str x), some (.ref l), some (.ref lT), y4, y5, y6, none, none] := ⟨_, rfl⟩
    refine ⟨W, ⟨u.length, ?_⟩, fun m σ H' p => ?_⟩
    · rw [hW]
      exact ⟨0, l0, [pa], _, none, none, none, rfl, smH, el0, lv0, lz, List.pairwise_singleton _ _, fit0, rfl⟩
    rw [hW] at p
    obtain ⟨d, lT, pas, Tl, y4, y5, y6, hmd, sm, eT, lv, lev, nd, fit, rfl⟩ := p
    have tl := level_len hx hB nd fit
    have ll := lv.len
    refine ⟨true, rfl, iteT ⟨fun σ' H2 => ∃ m', m' < m ∧ W m' σ' H2, fun σ' H2 n => n, ?_⟩⟩
    refine ⟨.ref lT, rfl, lT, rfl, ⟨_, SqL.of eT⟩, for_list (K := K) (a := lT) (xs := pas.map V.ref) (fun i σ H2 => i ≤ pas.length ∧ Same H' H2 ∧ (∀ j p, j < i → Tl[j]? = some p → ¬ Full x p.2) ∧ ∃ y4 y5 : Option V, σ = [some (.ref t), some (.str x), some (.ref l), some (.ref lT), y4, y5, y6, none, none])
      ⟨Nat.zero_le _, Same.refl _, (fun j p hj => absurd hj (Nat.not_lt_zero _)), _, _, rfl⟩ (fun i σ H2 _ p => SqL.of (p.2.1 _ _ eT)) (fun i v σ H2 hv p => ?_) (fun σ H2 p => ?_)⟩
    · obtain ⟨_, s2, no, y4, y5, rfl⟩ := p
      obtain ⟨pa, hpa, rfl⟩ := at_map hv
      obtain ⟨p, hp, ta, ea, as, h1, h2, h3, h4⟩ := lv.get hpa
      have hil := (List.getElem?_eq_some_iff.mp hpa).1
      have mem := List.mem_of_getElem? hp
      have ft := fit p mem
      refine ⟨pa, _, rfl, SqT.of (s2 _ _ h1), rfl, _, _, rfl, _, _, rfl, rfl, ?_⟩
      refine ⟨.ref ea, rfl, ea, rfl, ⟨_, SqL.of (s2 _ _ h3)⟩, fun D nD => ?_⟩
      have al := h4.len
      refine lc_list (K := K) (a := ea) (xs := as.map V.ref) (fun m H3 => m ≤ as.length ∧ Same H2 H3 ∧ ∃ cs : List Addr, H3 D = some (.lst (cs.map V.ref)) ∧ EndsT H3 cs ((p.2.take m).filter fun r => decide (¬ r.1 = x)))
        ⟨Nat.zero_le _, same_new nD, [], upd_same, by rw [List.take_zero]; exact True.intro⟩ (fun m H3 _ p => SqL.of (p.2.1 _ _ (s2 _ _ h3))) (fun m v H3 hv p' => ?_) (fun H3 p' => ?_)
      · obtain ⟨_, s3, cs, eD, ec⟩ := p'
        obtain ⟨a, ha, rfl⟩ := at_map hv
        obtain ⟨⟨sx, nb⟩, he, ea1⟩ := h4.get ha
        have hml := (List.getElem?_eq_some_iff.mp ha).1
        have ha3 := s3 _ _ (s2 _ _ ea1)
        have cl := ec.len
        have cl2 : cs.length ≤ 1000 := by
          rw [cl]
          refine Nat.le_trans (List.length_filter_le _ _) ?_
          rw [List.length_take, ft.len]; omega
        refine ⟨rfl, ?_⟩
        refine ⟨.ref a, rfl, a, _, 0, _, rfl, rfl, SqT.of ha3, atI_nat (j := 0) rfl, .str x, rfl, rfl, _, rfl, ?_⟩
        rw [List.take_add_one, he]
        by_cases hp : sx = x
        · rw [show decide (V.str sx = V.str x) = true from decide_eq_true (by rw [hp])]
          refine iteF ⟨hml, s3, cs, eD, ?_⟩
          rw [List.filter_append]
          have : (Option.toList (some (sx, nb))).filter (fun r : Str × Int => decide (¬ r.1 = x)) = [] := by simp [hp]
          rw [this, List.append_nil]; exact ec
        · rw [show decide (V.str sx = V.str x) = false from decide_eq_false fun c => hp (V.str.inj c)]
          refine iteT ⟨.ref a, rfl, _, eD, by rw [List.length_map]; exact small1000 cl2, hml, sameD s3 nD, cs ++ [a], by rw [upd_same, List.map_append]; rfl, ?_⟩
          rw [List.filter_append]
          have e1 : (Option.toList (some (sx, nb))).filter (fun r : Str × Int => decide (¬ r.1 = x)) = [(sx, nb)] := by simp [hp]
          rw [e1]
          have kt : ∀ (ys : List V) a xs, H3 a = some (HO.tup xs) → upd H3 D (.lst ys) a = some (HO.tup xs) := fun ys a xs h => by
            rw [upd_ne (ne_of h eD fun e => nomatch e)]; exact h
          exact EndsT.app (ec.mono (kt _)) ⟨kt _ _ _ ha3, True.intro⟩
      · obtain ⟨_, s3, cs, eD, ec⟩ := p'
        rw [List.length_map, al, List.take_length] at ec
        refine ⟨Nat.zero_le _, fun p0 np0 => ?_⟩
        have u1 := s3.trans (same_new (o := HO.lst []) np0)
        have smf : SmallE (p.2.filter fun r => decide (¬ r.1 = x)) := fun r hr => ft.small r (List.mem_filter.mp hr).1
        refine ⟨_, _, .lst (SqL.of (same_new np0 _ _ eD)) (ec.mono fun a xs h => same_new np0 _ _ h).dp, .lst (SqL.of upd_same) .nil, shaped_e smf, rfl, _, rfl, ?_⟩
        rw [eqv_nil_e]
        have sF := s2.trans u1
        by_cases hf : Full x p.2
        · have fe : (p.2.filter fun r => decide (¬ r.1 = x)) = [] := by
            rw [List.filter_eq_nil_iff]
            intro r hr c
            exact of_decide_eq_true c (hf r hr)
          refine iteTd fe ⟨.ref ta, rfl, ?_⟩
          have eu : p.1 = u := by
            rcases Nat.lt_or_ge d u.length with g | g
            · exact absurd hf (lev.none hu g p mem)
            · obtain rfl : d = u.length := by omega
              exact lev.hit hu hp hf no
          exact q ta _ (sm.trans sF) (by rw [← eu]; exact sF _ _ h2)
        · have fe : ¬ (p.2.filter fun r => decide (¬ r.1 = x)) = [] := fun c => hf fun r hr => by
            rw [List.filter_eq_nil_iff] at c
            exact Classical.byContradiction fun nc => c r hr (decide_eq_true nc)
          refine iteFd fe ⟨hil, sF, fun j p' hj e => ?_, _, _, rfl⟩
          rcases Nat.lt_or_ge j i with g | g
          · exact no j p' g e
          · obtain rfl : j = i := by omega
            rw [hp] at e; cases e; exact hf
    · obtain ⟨_, s2, no, y4, y5, rfl⟩ := p
      rw [List.length_map, ll] at no
      have hlt : d < u.length := by
        rcases Nat.lt_or_ge d u.length with g | g
        · exact g
        · obtain rfl : d = u.length := by omega
          obtain ⟨p, hp, hf⟩ := lev.some hu
          obtain ⟨j, hj⟩ := List.mem_iff_getElem?.mp hp
          exact absurd hf (no j p (List.getElem?_eq_some_iff.mp hj).1 hj)
      refine fun N nN => ?_
      have nN' := s2.free nN
      have u1 : Same H2 (upd H2 N (ndO w N [])) := same_new nN
      have eN0 : upd H2 N (ndO w N []) N = some (ndO w N []) := upd_same
      have s3 := s2.trans u1
      refine ⟨.ref t, rfl, .str x, rfl, .ref lT, rfl, t, lT, z, o, hm, x, pas, Tl, d, Bs.length, rfl, gd, s3 _ _ (sm _ _ sh), hx, x126, s3 _ _ eT, lv.same s3, fit, by omega, hB, tl, fun pg gs H4 s4 npg epg lg => ⟨pg, rfl, ⟨_, SqL.of epg⟩, ?_⟩⟩
      have gfit := grown_fit gd fit
      have lgl := lg.len
      have lgb := grown_len z o hm x Tl
      have gsl : gs.length ≤ 4356 * 28 := by
        rw [lgl]
        have := gd.le
        exact Nat.le_trans lgb (Nat.mul_le_mul tl (by omega))
      have eN4 := s4 _ _ eN0
      have s24 := u1.trans s4
      have levN := lev.next
      generalize grown z o hm x Tl = G at lg gfit lgl levN
      refine for_list (K := K) (a := pg) (xs := gs.map V.ref) (fun i σ H5 => i ≤ gs.length ∧ Same H2 H5 ∧ (∀ a xs, H4 a = some (HO.lst xs) → H5 a = some (.lst xs)) ∧ (∀ a xs, H4 a = some (HO.tup xs) → H5 a = some (.tup xs)) ∧ ∃ (L : List Ent) (y4 y5 : Option V), H5 N = some (ndO w N L) ∧ EntsAt H5 L (ded (G.take i)) ∧ L.length ≤ i ∧
          σ = [some (.ref t), some (.str x), some (.ref l), some (.ref lT), y4, y5, some (.ref N), none, none])
        ⟨Nat.zero_le _, s24, fun a xs h => h, fun a xs h => h, [], _, _, eN4, by rw [List.take_zero]; exact True.intro, Nat.zero_le _, rfl⟩ (fun i σ H5 _ p => SqL.of (p.2.2.1 _ _ epg)) (fun i v σ H5 hv p => ?_) (fun σ H5 p => ?_)
      · obtain ⟨_, s5, kl, kt, L, y4, y5, eN, ents, Ll, rfl⟩ := p
        obtain ⟨ga, hga, rfl⟩ := at_map hv
        obtain ⟨p, hp, ta, ea, as, h1, h2, h3, h4⟩ := lg.get hga
        have hil := (List.getElem?_eq_some_iff.mp hga).1
        have ndi := ded_nodup (G.take i)
        have h35 := kl _ _ h3
        have h45 := h4.mono kt
        refine ⟨ga, _, rfl, SqT.of (kt _ _ h1), rfl, _, _, rfl, _, _, rfl, rfl, ?_⟩
        refine ⟨.ref ea, rfl, ea, _, rfl, .inl ⟨SqL.of h35, fun tt ntt => ?_⟩⟩
        have v1 := same_new (o := HO.tup (as.map V.ref)) ntt
        have ents1 : EntsAt (upd H5 tt (HO.tup (as.map V.ref))) L (ded (G.take i)) := ents.mono (fun a xs h => v1 _ _ h) fun a xs h => v1 _ _ h
        refine ⟨.ref N, rfl, N, tt, L, p.2, rfl, rfl, .inl (v1 _ _ eN), ents1.nkeys ndi, ⟨as, upd_same, h45.mono fun a xs h => v1 _ _ h⟩, _, rfl, ?_⟩
        have stp : ded (G.take (i + 1)) = dedS (ded (G.take i)) p := dedS_take hp
        by_cases hv : ∃ q ∈ ded (G.take i), q.2 = p.2
        · have hsome : (valN L p.2).isSome = true := by
            cases e : valN L p.2 with
            | none => exact absurd hv ((ents_none ents p.2).mp e)
            | some _ => rfl
          rw [hsome]
          refine iteF ⟨hil, s5.trans v1, fun a xs h => v1 _ _ (kl _ _ h), fun a xs h => v1 _ _ (kt _ _ h), L, _, _, v1 _ _ eN, ?_, by omega, rfl⟩
          rw [stp]; unfold dedS; rw [if_pos hv]; exact ents1
        · have hnone : valN L p.2 = none := (ents_none ents p.2).mpr hv
          rw [hnone]
          refine iteT ?_
          refine ⟨.ref ta, rfl, .ref N, rfl, .ref ea, rfl, ea, _, rfl, .inl ⟨SqL.of (v1 _ _ h35), fun t2 nt2 => ?_⟩⟩
          have v2' := same_new (o := HO.tup (as.map V.ref)) nt2
          have v2 := v1.trans v2'
          have ents2 : EntsAt (upd (upd H5 tt (HO.tup (as.map V.ref))) t2 (HO.tup (as.map V.ref))) L (ded (G.take i)) := ents1.mono (fun a xs h => v2' _ _ h) fun a xs h => v2' _ _ h
          have et2 : upd (upd H5 tt (HO.tup (as.map V.ref))) t2 (HO.tup (as.map V.ref)) t2 = some (HO.tup (as.map V.ref)) := upd_same
          have eN6 := v2 _ _ eN
          have h46 := h45.mono fun a xs h => v2 _ _ h
          have h26 := v2 _ _ (kl _ _ h2)
          have s6 := s5.trans v2
          have kl6 : ∀ a xs, H4 a = some (HO.lst xs) → upd (upd H5 tt (HO.tup (as.map V.ref))) t2 (HO.tup (as.map V.ref)) a = some (HO.lst xs) := fun a xs h => v2 _ _ (kl _ _ h)
          have kt6 : ∀ a xs, H4 a = some (HO.tup xs) → upd (upd H5 tt (HO.tup (as.map V.ref))) t2 (HO.tup (as.map V.ref)) a = some (HO.tup xs) := fun a xs h => v2 _ _ (kt _ _ h)
          generalize upd (upd H5 tt (HO.tup (as.map V.ref))) t2 (HO.tup (as.map V.ref)) = H6 at ents2 et2 eN6 h46 h26 s6 kl6 kt6
          refine ⟨N, t2, L, p.2, ta, rfl, rfl, rfl, eN6, ents2.nkeys ndi, ⟨as, et2, h46⟩, hnone, Nat.lt_of_le_of_lt (show L.length ≤ 200000 by omega) (by decide), ?_⟩
          have nl : ∀ (o : HO) a xs, H6 a = some (HO.lst xs) → upd H6 N o a = some (.lst xs) := fun o a xs h => by
            rw [upd_ne (ne_of h eN6 fun e => by unfold ndO at e; cases e)]; exact h
          have nt : ∀ (o : HO) a xs, H6 a = some (HO.tup xs) → upd H6 N o a = some (.tup xs) := fun o a xs h => by
            rw [upd_ne (ne_of h eN6 fun e => by unfold ndO at e; cases e)]; exact h
          refine ⟨hil, sameD s6 nN, fun a xs h => nl _ _ _ (kl6 _ _ h), fun a xs h => nt _ _ _ (kt6 _ _ h), L ++ [(p.2, t2, ta)], _, _, upd_same, ?_, by rw [List.length_append]; show L.length + 1 ≤ _; omega, rfl⟩
          rw [stp]; unfold dedS; rw [if_neg hv]
          exact EntsAt.app (ents2.mono (nl _) (nt _)) ⟨⟨rfl, ⟨as, nt _ _ _ et2, h46.mono (nt _)⟩, nl _ _ _ h26⟩, True.intro⟩
      · obtain ⟨_, s5, kl, kt, L, y4, y5, eN, ents, Ll, rfl⟩ := p
        rw [List.length_map, lgl, List.take_length] at ents
        rw [List.length_map] at Ll
        have ndG := ded_nodup G
        have fitD : ∀ p ∈ ded G, Fit x (d + 1) Bs.length p := fun p hp => gfit p (ded_sub G p hp)
        generalize ded G = R at ents ndG fitD levN
        refine ⟨N, _, eN, trivial, fun od => ?_⟩
        have eNL : upd H5 N (.frz od (ndO w N L)) N = some (.frz od (ndO w N L)) := upd_same
        have nl : ∀ a xs, H5 a = some (HO.lst xs) → upd H5 N (.frz od (ndO w N L)) a = some (.lst xs) := fun a xs h => by
          rw [upd_ne (ne_of h eN fun e => by unfold ndO at e; cases e)]; exact h
        have nt : ∀ a xs, H5 a = some (HO.tup xs) → upd H5 N (.frz od (ndO w N L)) a = some (.tup xs) := fun a xs h => by
          rw [upd_ne (ne_of h eN fun e => by unfold ndO at e; cases e)]; exact h
        have entsL := ents.mono nl nt
        have un : ∀ {H6 : Hp} {o : HO}, Same (upd H5 N (.frz od (ndO w N L))) H6 → Same H (upd H6 N o) := fun s6 => same_unlk (sm.free nN') (sm.trans (s2.trans s5)) s6
        generalize upd H5 N (.frz od (ndO w N L)) = HL at eNL entsL un
        refine ⟨.ref N, rfl, N, od, L, rfl, eNL, fun D nD => ?_⟩
        have nDN : D ≠ N := fun c => by rw [c, eNL] at nD; cases nD
        refine lc_it (n := L.length) walk_keysN (fun i H6 => i ≤ L.length ∧ Same HL H6 ∧ ∃ ps : List Addr, H6 D = some (.lst (ps.map V.ref)) ∧ LvsAt (off H6 D) ps (R.take i))
          ⟨Nat.zero_le _, same_new nD, [], upd_same, by rw [List.take_zero]; exact True.intro⟩ (fun i H6 _ p => p.2.1 _ _ eNL) (fun i v H6 H6' hi p y => ?_) (fun H6 p => ?_)
        · obtain ⟨_, s6, ps, eD, lp⟩ := p
          obtain ⟨e3, y, hy, rfl⟩ := y
          subst e3
          obtain ⟨r, hr, e1, ⟨as, k1, k2⟩, k3⟩ := entsL.get hy
          have pl := lp.len
          have ents6 : EntsAt H6' L R := entsL.mono (fun a xs h => s6 _ _ h) fun a xs h => s6 _ _ h
          refine ⟨rfl, lc_yes ?_⟩
          refine ⟨.ref N, rfl, .ref y.2.1, rfl, N, y.2.1, L, y.1, y.2.2, rfl, rfl, .inr ⟨od, s6 _ _ eNL⟩, ents6.nkeys ndG, ⟨as, s6 _ _ k1, k2.mono fun a xs h => s6 _ _ h⟩, valN_mem (ents6.nkeys ndG).nd (List.mem_of_getElem? hy), .ref y.2.1, rfl, y.2.1, _, rfl, .inr (SqT.of (s6 _ _ k1)), fun e2 ne2 => ?_⟩
          have v1 := same_new (o := HO.lst (as.map V.ref)) ne2
          refine ⟨by show 2 ≤ sizeLine; decide, fun pp npp => ?_⟩
          have v2' := same_new (o := HO.tup [V.ref y.2.2, V.ref e2]) npp
          have v2 := v1.trans v2'
          have e2e := v2' _ _ (upd_same (H := H6') (a := e2) (o := HO.lst (as.map V.ref)))
          have epp : upd (upd H6' e2 (HO.lst (as.map V.ref))) pp (HO.tup [V.ref y.2.2, V.ref e2]) pp = some (HO.tup [V.ref y.2.2, V.ref e2]) := upd_same
          have s7 := s6.trans v2
          have eD7 := v2 _ _ eD
          have lp7 := lp.same (off_same (F := D) v2)
          have n1 : e2 ≠ D := fun c => by rw [c, eD] at ne2; cases ne2
          generalize upd (upd H6' e2 (HO.lst (as.map V.ref))) pp (HO.tup [V.ref y.2.2, V.ref e2]) = H7 at e2e epp s7 eD7 lp7
          have n2 : pp ≠ D := fun c => by rw [c, eD7] at epp; cases epp
          have n3 : y.2.2 ≠ D := fun c => by rw [c, nD] at k3; cases k3
          refine ⟨_, eD7, by rw [List.length_map, pl, List.length_take]; exact Nat.lt_of_le_of_lt (show min i R.length ≤ 200000 by omega) (by decide), hi, sameD s7 nD, ps ++ [pp], by rw [upd_same, List.map_append]; rfl, ?_⟩
          rw [off_upd, List.take_add_one, hr]
          refine LvsAt.app lp7 ⟨⟨y.2.2, e2, as, by rw [off_ne n2]; exact epp, by rw [off_ne n3]; exact s7 _ _ k3, by rw [off_ne n1]; exact e2e, ?_⟩, True.intro⟩
          rw [← e1]
          exact (k2.mono fun a xs h => s7 _ _ h).mono fun a xs h => by rw [off_ne (ne_of h eD7 fun e => nomatch e)]; exact h
        · obtain ⟨_, s6, ps, eD, lp⟩ := p
          rw [ents.len, List.take_length] at lp
          refine ⟨s6 _ _ eNL, u.length - (d + 1), by omega, ?_⟩
          have eN6 := s6 _ _ eNL
          rw [hW]
          refine ⟨d + 1, D, ps, R, _, _, _, by omega, un s6, by rw [upd_ne nDN]; exact eD, lp.mono (fun a xs h => ?_) (fun a xs h => ?_), levN, ndG, fitD, rfl⟩
          · have h := off_sub h
            rw [upd_ne (ne_of h eN6 fun e => nomatch e)]; exact h
          · have h := off_sub h
            rw [upd_ne (ne_of h eN6 fun e => nomatch e)]; exact h
theorem kzq {T : Txt K mg} {H H' : Hp} (ne : T.t_are_signs ≠ T.t_first_of) (t : Tb (tws T) H) (k : Kq T.t_are_signs T.t_first_of q2 H H') : Kz (tws T) H H' :=
  Kz.kq t (by simp [tws]) (by simp [tws]) (fun P h => by rw [List.mem_singleton.mp h]; exact ne) (fun p h => List.mem_singleton.mp h) k
theorem twq {T : Txt K mg} {H : Hp} (t : Tb (tws T) H) : Tw T.t_are_signs T.t_first_of q2 H := t.tw (by simp [tws]) (by simp [tws])
def spLaw (K : PySem.W.Frag) (W : TWs) : Sp := fun vs H Q _ => ∃ (a : Addr) (ns : List Int), vs = [.ref a] ∧ SqL K H a (ns.map V.int) ∧ ns.length ≤ 63 ∧ Tb W H ∧ ∀ H', Q (.bl true) H'
set_option maxHeartbeats 2000000 in
theorem ok_law (T : Txt K mg) (TB : GxR.TabB base mg T.c_are_signs T.t_are_signs) (TB2 : LamX.TabB base mg T.c_first_of T.t_first_of) (ne : T.t_are_signs ≠ T.t_first_of) : FnOk P w K mg base CX0 6 T.d_law.f T.d_law.fd ["_law_script"] (spLaw K (tws T)) := by
  refine T.d_law.F.ok sc_law (fun vs H Q E h => ?_) (fun cdv A outer s H vs Q E hr h => ?_)
  · obtain ⟨a, ns, rfl, _⟩ := h
    rfl
  · obtain ⟨a, ns, rfl, hS, hlen, tw, q⟩ := h
    refine ⟨_, (pss_cons (ps_set (i := 1) sc_law.nd rfl (.inl rfl) (pe_call (ok_l_begun T) (hr.mono (by decide)) (by rfl) T.d_l_begun.g T.d_l_begun.F.kp T.d_l_begun.b .nil pass0 (pa_cons (pv 0) pa_nil)))
  (pss_cons (ps_for PassesOwn.never rfl (pi_range1 (by rfl) T.n_range (pa_cons pe_int pa_nil)) (pg_name (i := 2) sc_law.nd rfl (.inl rfl))
  (pss_cons (ps_set (i := 3) sc_law.nd rfl (.inl rfl) (pe_call (ok_l_sheet T) (hr.mono (by decide)) (by rfl) T.d_l_sheet.g T.d_l_sheet.F.kp T.d_l_sheet.b .nil pass0 (pa_cons (pv 1) (pa_cons (pe_ix ix_list (pe_lst (pa_cons pe_int (pa_cons pe_int (pa_cons pe_int pa_nil)))) (pe_call (ok_l_take T) (hr.mono (by decide)) (by rfl) T.d_l_take.g T.d_l_take.F.kp T.d_l_take.b .nil pass0 (pa_cons (pv 1) (pa_cons pe_int pa_nil))) (fun _ _ => rfl)) pa_nil))))
  (pss_cons (ps_set (i := 4) sc_law.nd rfl (.inl rfl) (pe_call (ok_l_text T) (hr.mono (by decide)) (by rfl) T.d_l_text.g T.d_l_text.F.kp T.d_l_text.b .nil pass0 (pa_cons (pv 1) (pa_cons (pv 3) (pa_cons (pe_ix ix_list (pe_lst (pa_cons pe_int (pa_cons pe_int (pa_cons pe_int pa_nil)))) (pe_call (ok_l_take T) (hr.mono (by decide)) (by rfl) T.d_l_take.g T.d_l_take.F.kp T.d_l_take.b .nil pass0 (pa_cons (pv 1) (pa_cons pe_int pa_nil))) (fun _ _ => rfl)) pa_nil)))))
  (pss_cons (ps_for PassesOwn.never rfl (pi_range1 (by rfl) T.n_range (pa_cons pe_int pa_nil)) (pg_name (i := 5) sc_law.nd rfl (.inl rfl))
  (pss_one (ps_if (pt_not (pt_val (pe_call (ok_l_alike T 2) (hr.mono (by decide)) (by rfl) T.d_l_alike.g T.d_l_alike.F.kp T.d_l_alike.b .nil pass0 (pa_cons (pe_call (ok_shortest T TB TB2 ne) (hr.mono (by decide)) (by rfl) T.d_shortest.g T.d_shortest.F.kp T.d_shortest.b .nil pass0 (pa_cons (pv 3) (pa_cons (pv 4) (pa_cons (pv 5) pa_nil)))) (pa_cons (pe_call (ok_l_first T) (hr.mono (by decide)) (by rfl) T.d_l_first.g T.d_l_first.F.kp T.d_l_first.b .nil pass0 (pa_cons (pv 3) (pa_cons (pv 4) (pa_cons (pe_lst (pa_cons (pv 5) pa_nil)) pa_nil)))) pa_nil)))))
  (pss_one (ps_ret pe_bl))
  pss_nil)))
  (pss_one (ps_if (pt_not (pt_val (pe_call (ok_l_alike T 2) (hr.mono (by decide)) (by rfl) T.d_l_alike.g T.d_l_alike.F.kp T.d_l_alike.b .nil pass0 (pa_cons (pe_call (ok_either T TB TB2 ne) (hr.mono (by decide)) (by rfl) T.d_either.g T.d_either.F.kp T.d_either.b .nil pass0 (pa_cons (pv 3) (pa_cons (pv 4) pa_nil))) (pa_cons (pe_call (ok_l_first T) (hr.mono (by decide)) (by rfl) T.d_l_first.g T.d_l_first.F.kp T.d_l_first.b .nil pass0 (pa_cons (pv 3) (pa_cons (pv 4) (pa_cons (pe_lst (pa_cons pe_int (pa_cons pe_int pa_nil))) pa_nil)))) pa_nil)))))
  (pss_one (ps_ret pe_bl))
  pss_nil))))))
  (pss_one (ps_ret pe_bl)))), ?_⟩
    refine ⟨.ref a, rfl, a, ns, rfl, hS, hlen, fun b l H1 s1 bx1 nb nl => ?_⟩
    have tw1 := tw.same s1
    refine ⟨3, rfl, by decide, by decide, for_range (lo := 0) (n := 3) (fun i σ H' => BoxAt H' b l ∧ Tb (tws T) H' ∧ ∃ y2 y3 y4 y5 : Option V, σ = [some (.ref a), some (.ref b), y2, y3, y4, y5])
      ⟨bx1, tw1, _, _, _, _, rfl⟩ (fun i σ H' hi p => ?_) (fun σ H' p => ?_)⟩
    · obtain ⟨bx, tw, y2, y3, y4, y5, rfl⟩ := p
      have box : ∀ {H : Hp} {p : Addr} {u : List V}, BoxAt H b l → H p = none → Bxd b l H (upd H p (HO.lst u)) := fun bx np => Bxd.same bx (same_new np)
      refine ⟨.ref b, rfl, by show 3 ≤ sizeLine; decide, fun p np => ?_⟩
      have npb := bx.fresh np
      have bd3 := box (u := [V.int 4, V.int 10, V.int 26]) bx np
      refine ⟨.ref b, rfl, b, l, 3, rfl, bd3.box, by decide, by decide, fun v H3 v0 v1 bd4 => ?_⟩
      obtain ⟨m, hm0, hm1, hm2⟩ : ∃ m : Nat, 1 ≤ m ∧ m ≤ 26 ∧ atI [V.int 4, V.int 10, V.int 26] v = some (.int m) := by
        rcases (show v = 0 ∨ v = 1 ∨ v = 2 by omega) with e | e | e <;> rw [e]
        · exact ⟨4, by decide, by decide, atI_nat (j := 0) rfl⟩
        · exact ⟨10, by decide, by decide, atI_nat (j := 1) rfl⟩
        · exact ⟨26, by decide, by decide, atI_nat (j := 2) rfl⟩
      have bd5 := bd3.trans bd4
      have tw3 := bd5.tb bx tw
      refine ⟨p, _, v, _, rfl, rfl, SqL.of (bd4.at' p _ npb.1 npb.2 upd_same), hm2, b, l, m, rfl, bd5.box, hm0, hm1, fun t z o hm H4 gd hz bd6 nt sh4 => ?_⟩
      have tw4 := bd6.tb bd5.box tw3
      refine ⟨.ref b, rfl, .ref t, rfl, by show 3 ≤ sizeLine; decide, fun p2 np2 => ?_⟩
      have npb2 := bd6.box.fresh np2
      have bd7 := box (u := [V.int 5, V.int 14, V.int 32]) bd6.box np2
      refine ⟨.ref b, rfl, b, l, 3, rfl, bd7.box, by decide, by decide, fun v' H5 v0' v1' bd8 => ?_⟩
      obtain ⟨m', hm1', hm2'⟩ : ∃ m : Nat, m ≤ 32 ∧ atI [V.int 5, V.int 14, V.int 32] v' = some (.int m) := by
        rcases (show v' = 0 ∨ v' = 1 ∨ v' = 2 by omega) with e | e | e <;> rw [e]
        · exact ⟨5, by decide, atI_nat (j := 0) rfl⟩
        · exact ⟨14, by decide, atI_nat (j := 1) rfl⟩
        · exact ⟨32, by decide, atI_nat (j := 2) rfl⟩
      have bd9 := bd7.trans bd8
      have tw5 := bd9.tb bd6.box tw4
      have sh5 : Sh H5 t z o hm := bd9.tup bd6.box sh4
      refine ⟨p2, _, v', _, rfl, rfl, SqL.of (bd8.at' p2 _ npb2.1 npb2.2 upd_same), hm2', b, l, t, z, o, hm, m', rfl, bd9.box, gd, sh5, hm1', fun x H6 hxm hin bdx => ?_⟩
      have hx : x.cps.size ≤ 32 := Nat.le_trans hxm hm1'
      have xl : x.cps.toList.length = x.cps.size := Array.length_toList
      have tw6 := bdx.tb bd9.box tw5
      have sh6 : Sh H6 t z o hm := bdx.tup bd9.box sh5
      refine ⟨2, rfl, by decide, by decide, for_range (lo := 0) (n := 2) (fun j σ H7 => BoxAt H7 b l ∧ Sh H7 t z o hm ∧ Tb (tws T) H7 ∧ ∃ y2 y5 : Option V, σ = [some (.ref a), some (.ref b), y2, some (.ref t), some (.str x), y5])
        ⟨bdx.box, sh6, tw6, _, _, rfl⟩ (fun j σ H7 hj p => ?_) (fun σ H7 p => ?_)⟩
      · obtain ⟨bx7, sh7, tw7, y2, y5, rfl⟩ := p
        have h01 : Is01 (0 + (j : Int)) := by unfold Is01; omega
        generalize (0 + (j : Int)) = bg at h01
        refine ⟨.ref t, rfl, .str x, rfl, .int bg, rfl, t, z, o, hm, x, bg, rfl, gd, sh7, hx, hin, h01, twq tw7, fun fa R H8 k8 nfa tl efa => ?_⟩
        have kz8 := kzq ne tw7 k8
        have shrt := (Tells.short gd tl bg).1
        refine ⟨.ref t, rfl, .str x, rfl, .int bg, rfl, by show 1 ≤ sizeLine; decide, fun lb nlb => ?_⟩
        have u1 := same_new (o := HO.lst [V.int bg]) nlb
        refine ⟨t, lb, z, o, hm, x, [bg], R.at bg, rfl, gd, u1 _ _ (kz8.sh sh7), hx, hin, upd_same, by show 1 ≤ 2; decide, (fun c hc => by rw [List.mem_singleton.mp hc]; exact h01), told_least gd tl hin h01, by omega, fun fb H9 s9 efb => ?_⟩
        refine ⟨.ref fa, .ref fb, rfl, Al.ints (s9 _ _ (u1 _ _ efa)) efb (by omega), true, rfl, iteF ?_⟩
        have kf := kz8.trans (Kz.same kz8.tb (u1.trans s9))
        exact ⟨bx7.kz kf, kf.sh sh7, kf.tb, _, _, rfl⟩
      · obtain ⟨bx7, sh7, tw7, y2, y5, rfl⟩ := p
        refine ⟨.ref t, rfl, .str x, rfl, t, z, o, hm, x, rfl, gd, sh7, hx, hin, twq tw7, fun fa R H8 k8 nfa tl efa => ?_⟩
        have kz8 := kzq ne tw7 k8
        have shrt : R.t2.length ≤ 2 * x.cps.toList.length := (Tells.short gd tl 2).1
        refine ⟨.ref t, rfl, .str x, rfl, by show 2 ≤ sizeLine; decide, fun lb nlb => ?_⟩
        have u1 := same_new (o := HO.lst [V.int 0, V.int 1]) nlb
        refine ⟨t, lb, z, o, hm, x, [0, 1], R.t2, rfl, gd, u1 _ _ (kz8.sh sh7), hx, hin, upd_same, by show 2 ≤ 2; decide, (fun c hc => by unfold Is01; simpa using hc), told_least2 gd tl hin, by omega, fun fb H9 s9 efb => ?_⟩
        refine ⟨.ref fa, .ref fb, rfl, Al.ints (s9 _ _ (u1 _ _ efa)) efb (by omega), true, rfl, iteF ?_⟩
        have kf := kz8.trans (Kz.same kz8.tb (u1.trans s9))
        exact ⟨bx7.kz kf, kf.tb, _, _, _, _, rfl⟩
    · obtain ⟨bx, tw, y2, y3, y4, y5, rfl⟩ := p
      exact q H'
theorem all_ok {h : Heap} {fa : Addr} (hmg : mg "law" = some (.ref fa)) (T : Txt K mg) (hT : PySem.W.CodeHd h T.c_are_signs T.t_are_signs ∧ h.get? T.t_are_signs = some (PySem.W.tabObj #[])) (nT : K.lookup T.t_are_signs = none)
    (hT2 : PySem.W.CodeHd h T.c_first_of T.t_first_of ∧ h.get? T.t_first_of = some (PySem.W.tabObj #[])) (nT2 : K.lookup T.t_first_of = none) (ne : T.t_are_signs ≠ T.t_first_of)
    (hb : ∀ (s : Shared) (u : Value), BindsTo s T.d_law.fd ⟨[u], []⟩ [("_law_script", u)]) :
    LamX.LawAtS PySem.Challenge.rw_shifttape_k04_whole_no_shorter_at_all w K CX0 6 63 "_law_script" mg fa h := by
  have e := hmg.symm.trans T.d_law.g
  cases e
  have two : ∀ {R : Addr × Addr → Prop}, R (T.c_are_signs, T.t_are_signs) → R (T.c_first_of, T.t_first_of) → ∀ p ∈ [(T.c_are_signs, T.t_are_signs), (T.c_first_of, T.t_first_of)], R p := fun r r' p hp => by
    rcases List.mem_cons.mp hp with e | e
    · rw [e]; exact r
    · rw [List.mem_singleton.mp e]; exact r'
  refine ⟨T.d_law.fd, [(T.c_are_signs, T.t_are_signs), (T.c_first_of, T.t_first_of)], spLaw K (tws T), two hT.2 hT2.2, two nT nT2, two hT.1 hT2.1, hb, fun H a ns hl _ hH hS => ?_,
    fun base k1 k2 tb => ok_law T (gx_of (tb _ List.mem_cons_self)) (tb _ (List.mem_cons_of_mem _ List.mem_cons_self)) ne⟩
  refine ⟨a, ns, rfl, hS, hl, ⟨fun P hP => ?_, fun p hp => ?_⟩, fun _ => rfl⟩
  · rw [List.mem_singleton.mp hP]; exact ⟨#[], hH _ List.mem_cons_self, trivial⟩
  · rw [List.mem_singleton.mp hp]; exact LamX.TabS.nil (hH _ (List.mem_cons_of_mem _ List.mem_cons_self))
end
set_option maxHeartbeats 0 in
def txt_mk {K : PySem.W.Frag} {h : Heap} {mg : Str → Option Value} {f0 tb0 f1 f2 f3 f4 f5 f6 f7 f8 tb8 f9 f10 f11 f12 f13 f14 f15 f16 f17 f18 f19 f20 f21 f22 : Addr} (X : K.In h) (G : h.Ns mainGlobals mg)
    {oc0 : Value} {od0 an0 : Option Addr} {sl0 : Array (Option Value)} {kV0 dc0 pm0 ct0 : Value} {cd0 : Addr}
    (a0 : PySem.W.nsIn K mainGlobals "are_signs" = some (some (.ref f0))) (l0 : K.lookup f0 = some ⟨oc0, od0, .func (PySem.W.fnOf "are_signs" "are_signs" (defArgs s_are_signs) (defBody s_are_signs) (defScope s_are_signs) .none kV0 dc0 pm0 an0 (.ref cd0) ct0), sl0⟩) (c0 : PySem.W.codeIn K (.ref cd0) "are_signs" = true) (k0 : PySem.W.keepIn K (.ref f0) = true)
    {oc1 : Value} {od1 an1 : Option Addr} {sl1 : Array (Option Value)} {kV1 dc1 pm1 ct1 : Value} {cd1 : Value}
    (a1 : PySem.W.nsIn K mainGlobals "_can_be_a_set" = some (some (.ref f1))) (l1 : K.lookup f1 = some ⟨oc1, od1, .func (PySem.W.fnOf "_can_be_a_set" "_can_be_a_set" (defArgs s_can_be_a_set) (defBody s_can_be_a_set) (defScope s_can_be_a_set) .none kV1 dc1 pm1 an1 cd1 ct1), sl1⟩) (c1 : PySem.W.codeIn K cd1 "_can_be_a_set" = true) (k1 : PySem.W.keepIn K (.ref f1) = true)
    {oc2 : Value} {od2 an2 : Option Addr} {sl2 : Array (Option Value)} {kV2 dc2 pm2 ct2 : Value} {cd2 : Value}
    (a2 : PySem.W.nsIn K mainGlobals "check_sheet" = some (some (.ref f2))) (l2 : K.lookup f2 = some ⟨oc2, od2, .func (PySem.W.fnOf "check_sheet" "check_sheet" (defArgs s_check_sheet) (defBody s_check_sheet) (defScope s_check_sheet) .none kV2 dc2 pm2 an2 cd2 ct2), sl2⟩) (c2 : PySem.W.codeIn K cd2 "check_sheet" = true) (k2 : PySem.W.keepIn K (.ref f2) = true)
    {oc3 : Value} {od3 an3 : Option Addr} {sl3 : Array (Option Value)} {kV3 dc3 pm3 ct3 : Value} {cd3 : Value}
    (a3 : PySem.W.nsIn K mainGlobals "check_set" = some (some (.ref f3))) (l3 : K.lookup f3 = some ⟨oc3, od3, .func (PySem.W.fnOf "check_set" "check_set" (defArgs s_check_set) (defBody s_check_set) (defScope s_check_set) .none kV3 dc3 pm3 an3 cd3 ct3), sl3⟩) (c3 : PySem.W.codeIn K cd3 "check_set" = true) (k3 : PySem.W.keepIn K (.ref f3) = true)
    {oc4 : Value} {od4 an4 : Option Addr} {sl4 : Array (Option Value)} {kV4 dc4 pm4 ct4 : Value} {cd4 : Value}
    (a4 : PySem.W.nsIn K mainGlobals "check_text" = some (some (.ref f4))) (l4 : K.lookup f4 = some ⟨oc4, od4, .func (PySem.W.fnOf "check_text" "check_text" (defArgs s_check_text) (defBody s_check_text) (defScope s_check_text) .none kV4 dc4 pm4 an4 cd4 ct4), sl4⟩) (c4 : PySem.W.codeIn K cd4 "check_text" = true) (k4 : PySem.W.keepIn K (.ref f4) = true)
    {oc5 : Value} {od5 an5 : Option Addr} {sl5 : Array (Option Value)} {kV5 dc5 pm5 ct5 : Value} {cd5 : Value}
    (a5 : PySem.W.nsIn K mainGlobals "set_behind" = some (some (.ref f5))) (l5 : K.lookup f5 = some ⟨oc5, od5, .func (PySem.W.fnOf "set_behind" "set_behind" (defArgs s_set_behind) (defBody s_set_behind) (defScope s_set_behind) .none kV5 dc5 pm5 an5 cd5 ct5), sl5⟩) (c5 : PySem.W.codeIn K cd5 "set_behind" = true) (k5 : PySem.W.keepIn K (.ref f5) = true)
    {oc6 : Value} {od6 an6 : Option Addr} {sl6 : Array (Option Value)} {kV6 dc6 pm6 ct6 : Value} {cd6 : Value}
    (a6 : PySem.W.nsIn K mainGlobals "_code_of" = some (some (.ref f6))) (l6 : K.lookup f6 = some ⟨oc6, od6, .func (PySem.W.fnOf "_code_of" "_code_of" (defArgs s_code_of) (defBody s_code_of) (defScope s_code_of) .none kV6 dc6 pm6 an6 cd6 ct6), sl6⟩) (c6 : PySem.W.codeIn K cd6 "_code_of" = true) (k6 : PySem.W.keepIn K (.ref f6) = true)
    {oc7 : Value} {od7 an7 : Option Addr} {sl7 : Array (Option Value)} {kV7 dc7 pm7 ct7 : Value} {cd7 : Value}
    (a7 : PySem.W.nsIn K mainGlobals "_without_shift" = some (some (.ref f7))) (l7 : K.lookup f7 = some ⟨oc7, od7, .func (PySem.W.fnOf "_without_shift" "_without_shift" (defArgs s_without_shift) (defBody s_without_shift) (defScope s_without_shift) .none kV7 dc7 pm7 an7 cd7 ct7), sl7⟩) (c7 : PySem.W.codeIn K cd7 "_without_shift" = true) (k7 : PySem.W.keepIn K (.ref f7) = true)
    {oc8 : Value} {od8 an8 : Option Addr} {sl8 : Array (Option Value)} {kV8 dc8 pm8 ct8 : Value} {cd8 : Addr}
    (a8 : PySem.W.nsIn K mainGlobals "_first_of" = some (some (.ref f8))) (l8 : K.lookup f8 = some ⟨oc8, od8, .func (PySem.W.fnOf "_first_of" "_first_of" (defArgs s_first_of) (defBody s_first_of) (defScope s_first_of) .none kV8 dc8 pm8 an8 (.ref cd8) ct8), sl8⟩) (c8 : PySem.W.codeIn K (.ref cd8) "_first_of" = true) (k8 : PySem.W.keepIn K (.ref f8) = true)
    {oc9 : Value} {od9 an9 : Option Addr} {sl9 : Array (Option Value)} {kV9 dc9 pm9 ct9 : Value} {cd9 : Value}
    (a9 : PySem.W.nsIn K mainGlobals "_with_sign" = some (some (.ref f9))) (l9 : K.lookup f9 = some ⟨oc9, od9, .func (PySem.W.fnOf "_with_sign" "_with_sign" (defArgs s_with_sign) (defBody s_with_sign) (defScope s_with_sign) .none kV9 dc9 pm9 an9 cd9 ct9), sl9⟩) (c9 : PySem.W.codeIn K cd9 "_with_sign" = true) (k9 : PySem.W.keepIn K (.ref f9) = true)
    {oc10 : Value} {od10 an10 : Option Addr} {sl10 : Array (Option Value)} {kV10 dc10 pm10 ct10 : Value} {cd10 : Value}
    (a10 : PySem.W.nsIn K mainGlobals "_best_tapes" = some (some (.ref f10))) (l10 : K.lookup f10 = some ⟨oc10, od10, .func (PySem.W.fnOf "_best_tapes" "_best_tapes" (defArgs s_best_tapes) (defBody s_best_tapes) (defScope s_best_tapes) .none kV10 dc10 pm10 an10 cd10 ct10), sl10⟩) (c10 : PySem.W.codeIn K cd10 "_best_tapes" = true) (k10 : PySem.W.keepIn K (.ref f10) = true)
    {oc11 : Value} {od11 an11 : Option Addr} {sl11 : Array (Option Value)} {kV11 dc11 pm11 ct11 : Value} {cd11 : Value}
    (a11 : PySem.W.nsIn K mainGlobals "shortest" = some (some (.ref f11))) (l11 : K.lookup f11 = some ⟨oc11, od11, .func (PySem.W.fnOf "shortest" "shortest" (defArgs s_shortest) (defBody s_shortest) (defScope s_shortest) .none kV11 dc11 pm11 an11 cd11 ct11), sl11⟩) (c11 : PySem.W.codeIn K cd11 "shortest" = true) (k11 : PySem.W.keepIn K (.ref f11) = true)
    {oc12 : Value} {od12 an12 : Option Addr} {sl12 : Array (Option Value)} {kV12 dc12 pm12 ct12 : Value} {cd12 : Value}
    (a12 : PySem.W.nsIn K mainGlobals "either" = some (some (.ref f12))) (l12 : K.lookup f12 = some ⟨oc12, od12, .func (PySem.W.fnOf "either" "either" (defArgs s_either) (defBody s_either) (defScope s_either) .none kV12 dc12 pm12 an12 cd12 ct12), sl12⟩) (c12 : PySem.W.codeIn K cd12 "either" = true) (k12 : PySem.W.keepIn K (.ref f12) = true)
    {oc13 : Value} {od13 an13 : Option Addr} {sl13 : Array (Option Value)} {kV13 dc13 pm13 ct13 : Value} {cd13 : Value}
    (a13 : PySem.W.nsIn K mainGlobals "_law_begun" = some (some (.ref f13))) (l13 : K.lookup f13 = some ⟨oc13, od13, .func (PySem.W.fnOf "_law_begun" "_law_begun" (defArgs s_l_begun) (defBody s_l_begun) (defScope s_l_begun) .none kV13 dc13 pm13 an13 cd13 ct13), sl13⟩) (c13 : PySem.W.codeIn K cd13 "_law_begun" = true) (k13 : PySem.W.keepIn K (.ref f13) = true)
    {oc14 : Value} {od14 an14 : Option Addr} {sl14 : Array (Option Value)} {kV14 dc14 pm14 ct14 : Value} {cd14 : Value}
    (a14 : PySem.W.nsIn K mainGlobals "_law_take" = some (some (.ref f14))) (l14 : K.lookup f14 = some ⟨oc14, od14, .func (PySem.W.fnOf "_law_take" "_law_take" (defArgs s_l_take) (defBody s_l_take) (defScope s_l_take) .none kV14 dc14 pm14 an14 cd14 ct14), sl14⟩) (c14 : PySem.W.codeIn K cd14 "_law_take" = true) (k14 : PySem.W.keepIn K (.ref f14) = true)
    {oc15 : Value} {od15 an15 : Option Addr} {sl15 : Array (Option Value)} {kV15 dc15 pm15 ct15 : Value} {cd15 : Value}
    (a15 : PySem.W.nsIn K mainGlobals "_law_alike" = some (some (.ref f15))) (l15 : K.lookup f15 = some ⟨oc15, od15, .func (PySem.W.fnOf "_law_alike" "_law_alike" (defArgs s_l_alike) (defBody s_l_alike) (defScope s_l_alike) .none kV15 dc15 pm15 an15 cd15 ct15), sl15⟩) (c15 : PySem.W.codeIn K cd15 "_law_alike" = true) (k15 : PySem.W.keepIn K (.ref f15) = true)
    {oc16 : Value} {od16 an16 : Option Addr} {sl16 : Array (Option Value)} {kV16 dc16 pm16 ct16 : Value} {cd16 : Value}
    (a16 : PySem.W.nsIn K mainGlobals "_law_picked" = some (some (.ref f16))) (l16 : K.lookup f16 = some ⟨oc16, od16, .func (PySem.W.fnOf "_law_picked" "_law_picked" (defArgs s_l_picked) (defBody s_l_picked) (defScope s_l_picked) .none kV16 dc16 pm16 an16 cd16 ct16), sl16⟩) (c16 : PySem.W.codeIn K cd16 "_law_picked" = true) (k16 : PySem.W.keepIn K (.ref f16) = true)
    {oc17 : Value} {od17 an17 : Option Addr} {sl17 : Array (Option Value)} {kV17 dc17 pm17 ct17 : Value} {cd17 : Value}
    (a17 : PySem.W.nsIn K mainGlobals "_law_sheet" = some (some (.ref f17))) (l17 : K.lookup f17 = some ⟨oc17, od17, .func (PySem.W.fnOf "_law_sheet" "_law_sheet" (defArgs s_l_sheet) (defBody s_l_sheet) (defScope s_l_sheet) .none kV17 dc17 pm17 an17 cd17 ct17), sl17⟩) (c17 : PySem.W.codeIn K cd17 "_law_sheet" = true) (k17 : PySem.W.keepIn K (.ref f17) = true)
    {oc18 : Value} {od18 an18 : Option Addr} {sl18 : Array (Option Value)} {kV18 dc18 pm18 ct18 : Value} {cd18 : Value}
    (a18 : PySem.W.nsIn K mainGlobals "_law_text" = some (some (.ref f18))) (l18 : K.lookup f18 = some ⟨oc18, od18, .func (PySem.W.fnOf "_law_text" "_law_text" (defArgs s_l_text) (defBody s_l_text) (defScope s_l_text) .none kV18 dc18 pm18 an18 cd18 ct18), sl18⟩) (c18 : PySem.W.codeIn K cd18 "_law_text" = true) (k18 : PySem.W.keepIn K (.ref f18) = true)
    {oc19 : Value} {od19 an19 : Option Addr} {sl19 : Array (Option Value)} {kV19 dc19 pm19 ct19 : Value} {cd19 : Value}
    (a19 : PySem.W.nsIn K mainGlobals "_law_read" = some (some (.ref f19))) (l19 : K.lookup f19 = some ⟨oc19, od19, .func (PySem.W.fnOf "_law_read" "_law_read" (defArgs s_l_read) (defBody s_l_read) (defScope s_l_read) .none kV19 dc19 pm19 an19 cd19 ct19), sl19⟩) (c19 : PySem.W.codeIn K cd19 "_law_read" = true) (k19 : PySem.W.keepIn K (.ref f19) = true)
    {oc20 : Value} {od20 an20 : Option Addr} {sl20 : Array (Option Value)} {kV20 dc20 pm20 ct20 : Value} {cd20 : Value}
    (a20 : PySem.W.nsIn K mainGlobals "_law_grown" = some (some (.ref f20))) (l20 : K.lookup f20 = some ⟨oc20, od20, .func (PySem.W.fnOf "_law_grown" "_law_grown" (defArgs s_l_grown) (defBody s_l_grown) (defScope s_l_grown) .none kV20 dc20 pm20 an20 cd20 ct20), sl20⟩) (c20 : PySem.W.codeIn K cd20 "_law_grown" = true) (k20 : PySem.W.keepIn K (.ref f20) = true)
    {oc21 : Value} {od21 an21 : Option Addr} {sl21 : Array (Option Value)} {kV21 dc21 pm21 ct21 : Value} {cd21 : Value}
    (a21 : PySem.W.nsIn K mainGlobals "_law_first" = some (some (.ref f21))) (l21 : K.lookup f21 = some ⟨oc21, od21, .func (PySem.W.fnOf "_law_first" "_law_first" (defArgs s_l_first) (defBody s_l_first) (defScope s_l_first) .none kV21 dc21 pm21 an21 cd21 ct21), sl21⟩) (c21 : PySem.W.codeIn K cd21 "_law_first" = true) (k21 : PySem.W.keepIn K (.ref f21) = true)
    {oc22 : Value} {od22 an22 : Option Addr} {sl22 : Array (Option Value)} {kV22 dc22 pm22 ct22 : Value} {cd22 : Value}
    (a22 : PySem.W.nsIn K mainGlobals "law" = some (some (.ref f22))) (l22 : K.lookup f22 = some ⟨oc22, od22, .func (PySem.W.fnOf "law" "law" (defArgs s_law) (defBody s_law) (defScope s_law) .none kV22 dc22 pm22 an22 cd22 ct22), sl22⟩) (c22 : PySem.W.codeIn K cd22 "law" = true) (k22 : PySem.W.keepIn K (.ref f22) = true)
    (z_all : PySem.W.nsIn K mainGlobals "all" = some none)
    (z_bool : PySem.W.nsIn K mainGlobals "bool" = some none)
    (z_enumerate : PySem.W.nsIn K mainGlobals "enumerate" = some none)
    (z_int : PySem.W.nsIn K mainGlobals "int" = some none)
    (z_isinstance : PySem.W.nsIn K mainGlobals "isinstance" = some none)
    (z_len : PySem.W.nsIn K mainGlobals "len" = some none)
    (z_list : PySem.W.nsIn K mainGlobals "list" = some none)
    (z_min : PySem.W.nsIn K mainGlobals "min" = some none)
    (z_range : PySem.W.nsIn K mainGlobals "range" = some none)
    (z_reversed : PySem.W.nsIn K mainGlobals "reversed" = some none)
    (z_set : PySem.W.nsIn K mainGlobals "set" = some none)
    (z_str : PySem.W.nsIn K mainGlobals "str" = some none)
    (z_tuple : PySem.W.nsIn K mainGlobals "tuple" = some none)
    {t_EITHER : Tok} (y_EITHER : PySem.W.nsIn K mainGlobals "EITHER" = some (some (.int 2 t_EITHER)))
    {t_MOST_PLACES : Tok} (y_MOST_PLACES : PySem.W.nsIn K mainGlobals "MOST_PLACES" = some (some (.int 26 t_MOST_PLACES)))
    {t_MOST_SIGNS : Tok} (y_MOST_SIGNS : PySem.W.nsIn K mainGlobals "MOST_SIGNS" = some (some (.int 32 t_MOST_SIGNS))) : Txt K mg where
  d_are_signs := ⟨f0, _, fun_mk (st := s_are_signs) l0 c0 k0, (fun_mk (st := s_are_signs) l0 c0 k0).binds fun _ _ _ _ _ _ us hl => match us, hl with | [_], _ => rfl, PySem.W.mg_of X G a0⟩
  c_are_signs := cd0
  t_are_signs := tb0
  k_are_signs := ⟨⟨oc0, od0, kV0, dc0, pm0, an0, ct0, sl0, rfl, l0, c0⟩⟩
  d_can_be_a_set := ⟨f1, _, fun_mk (st := s_can_be_a_set) l1 c1 k1, (fun_mk (st := s_can_be_a_set) l1 c1 k1).binds fun _ _ _ _ _ _ us hl => match us, hl with | [_], _ => rfl, PySem.W.mg_of X G a1⟩
  d_check_sheet := ⟨f2, _, fun_mk (st := s_check_sheet) l2 c2 k2, (fun_mk (st := s_check_sheet) l2 c2 k2).binds fun _ _ _ _ _ _ us hl => match us, hl with | [_], _ => rfl, PySem.W.mg_of X G a2⟩
  d_check_set := ⟨f3, _, fun_mk (st := s_check_set) l3 c3 k3, (fun_mk (st := s_check_set) l3 c3 k3).binds fun _ _ _ _ _ _ us hl => match us, hl with | [_], _ => rfl, PySem.W.mg_of X G a3⟩
  d_check_text := ⟨f4, _, fun_mk (st := s_check_text) l4 c4 k4, (fun_mk (st := s_check_text) l4 c4 k4).binds fun _ _ _ _ _ _ us hl => match us, hl with | [_, _], _ => rfl, PySem.W.mg_of X G a4⟩
  d_set_behind := ⟨f5, _, fun_mk (st := s_set_behind) l5 c5 k5, (fun_mk (st := s_set_behind) l5 c5 k5).binds fun _ _ _ _ _ _ us hl => match us, hl with | [_, _, _], _ => rfl, PySem.W.mg_of X G a5⟩
  d_code_of := ⟨f6, _, fun_mk (st := s_code_of) l6 c6 k6, (fun_mk (st := s_code_of) l6 c6 k6).binds fun _ _ _ _ _ _ us hl => match us, hl with | [_, _, _], _ => rfl, PySem.W.mg_of X G a6⟩
  d_without_shift := ⟨f7, _, fun_mk (st := s_without_shift) l7 c7 k7, (fun_mk (st := s_without_shift) l7 c7 k7).binds fun _ _ _ _ _ _ us hl => match us, hl with | [_, _, _, _], _ => rfl, PySem.W.mg_of X G a7⟩
  d_first_of := ⟨f8, _, fun_mk (st := s_first_of) l8 c8 k8, (fun_mk (st := s_first_of) l8 c8 k8).binds fun _ _ _ _ _ _ us hl => match us, hl with | [_], _ => rfl, PySem.W.mg_of X G a8⟩
  c_first_of := cd8
  t_first_of := tb8
  k_first_of := ⟨⟨oc8, od8, kV8, dc8, pm8, an8, ct8, sl8, rfl, l8, c8⟩⟩
  d_with_sign := ⟨f9, _, fun_mk (st := s_with_sign) l9 c9 k9, (fun_mk (st := s_with_sign) l9 c9 k9).binds fun _ _ _ _ _ _ us hl => match us, hl with | [_, _, _], _ => rfl, PySem.W.mg_of X G a9⟩
  d_best_tapes := ⟨f10, _, fun_mk (st := s_best_tapes) l10 c10 k10, (fun_mk (st := s_best_tapes) l10 c10 k10).binds fun _ _ _ _ _ _ us hl => match us, hl with | [_, _], _ => rfl, PySem.W.mg_of X G a10⟩
  d_shortest := ⟨f11, _, fun_mk (st := s_shortest) l11 c11 k11, (fun_mk (st := s_shortest) l11 c11 k11).binds fun _ _ _ _ _ _ us hl => match us, hl with | [_, _, _], _ => rfl, PySem.W.mg_of X G a11⟩
  d_either := ⟨f12, _, fun_mk (st := s_either) l12 c12 k12, (fun_mk (st := s_either) l12 c12 k12).binds fun _ _ _ _ _ _ us hl => match us, hl with | [_, _], _ => rfl, PySem.W.mg_of X G a12⟩
  d_l_begun := ⟨f13, _, fun_mk (st := s_l_begun) l13 c13 k13, (fun_mk (st := s_l_begun) l13 c13 k13).binds fun _ _ _ _ _ _ us hl => match us, hl with | [_], _ => rfl, PySem.W.mg_of X G a13⟩
  d_l_take := ⟨f14, _, fun_mk (st := s_l_take) l14 c14 k14, (fun_mk (st := s_l_take) l14 c14 k14).binds fun _ _ _ _ _ _ us hl => match us, hl with | [_, _], _ => rfl, PySem.W.mg_of X G a14⟩
  d_l_alike := ⟨f15, _, fun_mk (st := s_l_alike) l15 c15 k15, (fun_mk (st := s_l_alike) l15 c15 k15).binds fun _ _ _ _ _ _ us hl => match us, hl with | [_, _], _ => rfl, PySem.W.mg_of X G a15⟩
  d_l_picked := ⟨f16, _, fun_mk (st := s_l_picked) l16 c16 k16, (fun_mk (st := s_l_picked) l16 c16 k16).binds fun _ _ _ _ _ _ us hl => match us, hl with | [_, _, _], _ => rfl, PySem.W.mg_of X G a16⟩
  d_l_sheet := ⟨f17, _, fun_mk (st := s_l_sheet) l17 c17 k17, (fun_mk (st := s_l_sheet) l17 c17 k17).binds fun _ _ _ _ _ _ us hl => match us, hl with | [_, _], _ => rfl, PySem.W.mg_of X G a17⟩
  d_l_text := ⟨f18, _, fun_mk (st := s_l_text) l18 c18 k18, (fun_mk (st := s_l_text) l18 c18 k18).binds fun _ _ _ _ _ _ us hl => match us, hl with | [_, _, _], _ => rfl, PySem.W.mg_of X G a18⟩
  d_l_read := ⟨f19, _, fun_mk (st := s_l_read) l19 c19 k19, (fun_mk (st := s_l_read) l19 c19 k19).binds fun _ _ _ _ _ _ us hl => match us, hl with | [_, _, _], _ => rfl, PySem.W.mg_of X G a19⟩
  d_l_grown := ⟨f20, _, fun_mk (st := s_l_grown) l20 c20 k20, (fun_mk (st := s_l_grown) l20 c20 k20).binds fun _ _ _ _ _ _ us hl => match us, hl with | [_, _, _], _ => rfl, PySem.W.mg_of X G a20⟩
  d_l_first := ⟨f21, _, fun_mk (st := s_l_first) l21 c21 k21, (fun_mk (st := s_l_first) l21 c21 k21).binds fun _ _ _ _ _ _ us hl => match us, hl with | [_, _, _], _ => rfl, PySem.W.mg_of X G a21⟩
  d_law := ⟨f22, _, fun_mk (st := s_law) l22 c22 k22, (fun_mk (st := s_law) l22 c22 k22).binds fun _ _ _ _ _ _ us hl => match us, hl with | [_], _ => rfl, PySem.W.mg_of X G a22⟩
  n_all := PySem.W.mg_none_of X G z_all
  n_bool := PySem.W.mg_none_of X G z_bool
  n_enumerate := PySem.W.mg_none_of X G z_enumerate
  n_int := PySem.W.mg_none_of X G z_int
  n_isinstance := PySem.W.mg_none_of X G z_isinstance
  n_len := PySem.W.mg_none_of X G z_len
  n_list := PySem.W.mg_none_of X G z_list
  n_min := PySem.W.mg_none_of X G z_min
  n_range := PySem.W.mg_none_of X G z_range
  n_reversed := PySem.W.mg_none_of X G z_reversed
  n_set := PySem.W.mg_none_of X G z_set
  n_str := PySem.W.mg_none_of X G z_str
  n_tuple := PySem.W.mg_none_of X G z_tuple
  c_EITHER := ⟨_, PySem.W.mg_of X G y_EITHER⟩
  c_MOST_PLACES := ⟨_, PySem.W.mg_of X G y_MOST_PLACES⟩
  c_MOST_SIGNS := ⟨_, PySem.W.mg_of X G y_MOST_SIGNS⟩
set_option maxHeartbeats 0 in
theorem law_at {w : World} {K : PySem.W.Frag} {h : Heap} {mg : Str → Option Value} {q : Program} {fa f0 tb0 f1 f2 f3 f4 f5 f6 f7 f8 tb8 f9 f10 f11 f12 f13 f14 f15 f16 f17 f18 f19 f20 f21 f22 : Addr} (X : K.In h) (G : h.Ns mainGlobals mg) (hmg : mg "law" = some (.ref fa))
    (tabs : ∀ (y : Str) (c P : Addr), ((recsOf q).any fun r => r.name == y) = true → PySem.W.tabIn K y = some (c, P) → PySem.W.CodeHd h c P ∧ h.get? P = some (PySem.W.tabObj #[]))
    {oc0 : Value} {od0 an0 : Option Addr} {sl0 : Array (Option Value)} {kV0 dc0 pm0 ct0 : Value} {cd0 : Addr}
    (a0 : PySem.W.nsIn K mainGlobals "are_signs" = some (some (.ref f0))) (l0 : K.lookup f0 = some ⟨oc0, od0, .func (PySem.W.fnOf "are_signs" "are_signs" (defArgs s_are_signs) (defBody s_are_signs) (defScope s_are_signs) .none kV0 dc0 pm0 an0 (.ref cd0) ct0), sl0⟩) (c0 : PySem.W.codeIn K (.ref cd0) "are_signs" = true) (k0 : PySem.W.keepIn K (.ref f0) = true)
    {oc1 : Value} {od1 an1 : Option Addr} {sl1 : Array (Option Value)} {kV1 dc1 pm1 ct1 : Value} {cd1 : Value}
    (a1 : PySem.W.nsIn K mainGlobals "_can_be_a_set" = some (some (.ref f1))) (l1 : K.lookup f1 = some ⟨oc1, od1, .func (PySem.W.fnOf "_can_be_a_set" "_can_be_a_set" (defArgs s_can_be_a_set) (defBody s_can_be_a_set) (defScope s_can_be_a_set) .none kV1 dc1 pm1 an1 cd1 ct1), sl1⟩) (c1 : PySem.W.codeIn K cd1 "_can_be_a_set" = true) (k1 : PySem.W.keepIn K (.ref f1) = true)
    {oc2 : Value} {od2 an2 : Option Addr} {sl2 : Array (Option Value)} {kV2 dc2 pm2 ct2 : Value} {cd2 : Value}
    (a2 : PySem.W.nsIn K mainGlobals "check_sheet" = some (some (.ref f2))) (l2 : K.lookup f2 = some ⟨oc2, od2, .func (PySem.W.fnOf "check_sheet" "check_sheet" (defArgs s_check_sheet) (defBody s_check_sheet) (defScope s_check_sheet) .none kV2 dc2 pm2 an2 cd2 ct2), sl2⟩) (c2 : PySem.W.codeIn K cd2 "check_sheet" = true) (k2 : PySem.W.keepIn K (.ref f2) = true)
    {oc3 : Value} {od3 an3 : Option Addr} {sl3 : Array (Option Value)} {kV3 dc3 pm3 ct3 : Value} {cd3 : Value}
    (a3 : PySem.W.nsIn K mainGlobals "check_set" = some (some (.ref f3))) (l3 : K.lookup f3 = some ⟨oc3, od3, .func (PySem.W.fnOf "check_set" "check_set" (defArgs s_check_set) (defBody s_check_set) (defScope s_check_set) .none kV3 dc3 pm3 an3 cd3 ct3), sl3⟩) (c3 : PySem.W.codeIn K cd3 "check_set" = true) (k3 : PySem.W.keepIn K (.ref f3) = true)
    {oc4 : Value} {od4 an4 : Option Addr} {sl4 : Array (Option Value)} {kV4 dc4 pm4 ct4 : Value} {cd4 : Value}
    (a4 : PySem.W.nsIn K mainGlobals "check_text" = some (some (.ref f4))) (l4 : K.lookup f4 = some ⟨oc4, od4, .func (PySem.W.fnOf "check_text" "check_text" (defArgs s_check_text) (defBody s_check_text) (defScope s_check_text) .none kV4 dc4 pm4 an4 cd4 ct4), sl4⟩) (c4 : PySem.W.codeIn K cd4 "check_text" = true) (k4 : PySem.W.keepIn K (.ref f4) = true)
    {oc5 : Value} {od5 an5 : Option Addr} {sl5 : Array (Option Value)} {kV5 dc5 pm5 ct5 : Value} {cd5 : Value}
    (a5 : PySem.W.nsIn K mainGlobals "set_behind" = some (some (.ref f5))) (l5 : K.lookup f5 = some ⟨oc5, od5, .func (PySem.W.fnOf "set_behind" "set_behind" (defArgs s_set_behind) (defBody s_set_behind) (defScope s_set_behind) .none kV5 dc5 pm5 an5 cd5 ct5), sl5⟩) (c5 : PySem.W.codeIn K cd5 "set_behind" = true) (k5 : PySem.W.keepIn K (.ref f5) = true)
    {oc6 : Value} {od6 an6 : Option Addr} {sl6 : Array (Option Value)} {kV6 dc6 pm6 ct6 : Value} {cd6 : Value}
    (a6 : PySem.W.nsIn K mainGlobals "_code_of" = some (some (.ref f6))) (l6 : K.lookup f6 = some ⟨oc6, od6, .func (PySem.W.fnOf "_code_of" "_code_of" (defArgs s_code_of) (defBody s_code_of) (defScope s_code_of) .none kV6 dc6 pm6 an6 cd6 ct6), sl6⟩) (c6 : PySem.W.codeIn K cd6 "_code_of" = true) (k6 : PySem.W.keepIn K (.ref f6) = true)
    {oc7 : Value} {od7 an7 : Option Addr} {sl7 : Array (Option Value)} {kV7 dc7 pm7 ct7 : Value} {cd7 : Value}
    (a7 : PySem.W.nsIn K mainGlobals "_without_shift" = some (some (.ref f7))) (l7 : K.lookup f7 = some ⟨oc7, od7, .func (PySem.W.fnOf "_without_shift" "_without_shift" (defArgs s_without_shift) (defBody s_without_shift) (defScope s_without_shift) .none kV7 dc7 pm7 an7 cd7 ct7), sl7⟩) (c7 : PySem.W.codeIn K cd7 "_without_shift" = true) (k7 : PySem.W.keepIn K (.ref f7) = true)
    {oc8 : Value} {od8 an8 : Option Addr} {sl8 : Array (Option Value)} {kV8 dc8 pm8 ct8 : Value} {cd8 : Addr}
    (a8 : PySem.W.nsIn K mainGlobals "_first_of" = some (some (.ref f8))) (l8 : K.lookup f8 = some ⟨oc8, od8, .func (PySem.W.fnOf "_first_of" "_first_of" (defArgs s_first_of) (defBody s_first_of) (defScope s_first_of) .none kV8 dc8 pm8 an8 (.ref cd8) ct8), sl8⟩) (c8 : PySem.W.codeIn K (.ref cd8) "_first_of" = true) (k8 : PySem.W.keepIn K (.ref f8) = true)
    {oc9 : Value} {od9 an9 : Option Addr} {sl9 : Array (Option Value)} {kV9 dc9 pm9 ct9 : Value} {cd9 : Value}
    (a9 : PySem.W.nsIn K mainGlobals "_with_sign" = some (some (.ref f9))) (l9 : K.lookup f9 = some ⟨oc9, od9, .func (PySem.W.fnOf "_with_sign" "_with_sign" (defArgs s_with_sign) (defBody s_with_sign) (defScope s_with_sign) .none kV9 dc9 pm9 an9 cd9 ct9), sl9⟩) (c9 : PySem.W.codeIn K cd9 "_with_sign" = true) (k9 : PySem.W.keepIn K (.ref f9) = true)
    {oc10 : Value} {od10 an10 : Option Addr} {sl10 : Array (Option Value)} {kV10 dc10 pm10 ct10 : Value} {cd10 : Value}
    (a10 : PySem.W.nsIn K mainGlobals "_best_tapes" = some (some (.ref f10))) (l10 : K.lookup f10 = some ⟨oc10, od10, .func (PySem.W.fnOf "_best_tapes" "_best_tapes" (defArgs s_best_tapes) (defBody s_best_tapes) (defScope s_best_tapes) .none kV10 dc10 pm10 an10 cd10 ct10), sl10⟩) (c10 : PySem.W.codeIn K cd10 "_best_tapes" = true) (k10 : PySem.W.keepIn K (.ref f10) = true)
    {oc11 : Value} {od11 an11 : Option Addr} {sl11 : Array (Option Value)} {kV11 dc11 pm11 ct11 : Value} {cd11 : Value}
    (a11 : PySem.W.nsIn K mainGlobals "shortest" = some (some (.ref f11))) (l11 : K.lookup f11 = some ⟨oc11, od11, .func (PySem.W.fnOf "shortest" "shortest" (defArgs s_shortest) (defBody s_shortest) (defScope s_shortest) .none kV11 dc11 pm11 an11 cd11 ct11), sl11⟩) (c11 : PySem.W.codeIn K cd11 "shortest" = true) (k11 : PySem.W.keepIn K (.ref f11) = true)
    {oc12 : Value} {od12 an12 : Option Addr} {sl12 : Array (Option Value)} {kV12 dc12 pm12 ct12 : Value} {cd12 : Value}
    (a12 : PySem.W.nsIn K mainGlobals "either" = some (some (.ref f12))) (l12 : K.lookup f12 = some ⟨oc12, od12, .func (PySem.W.fnOf "either" "either" (defArgs s_either) (defBody s_either) (defScope s_either) .none kV12 dc12 pm12 an12 cd12 ct12), sl12⟩) (c12 : PySem.W.codeIn K cd12 "either" = true) (k12 : PySem.W.keepIn K (.ref f12) = true)
    {oc13 : Value} {od13 an13 : Option Addr} {sl13 : Array (Option Value)} {kV13 dc13 pm13 ct13 : Value} {cd13 : Value}
    (a13 : PySem.W.nsIn K mainGlobals "_law_begun" = some (some (.ref f13))) (l13 : K.lookup f13 = some ⟨oc13, od13, .func (PySem.W.fnOf "_law_begun" "_law_begun" (defArgs s_l_begun) (defBody s_l_begun) (defScope s_l_begun) .none kV13 dc13 pm13 an13 cd13 ct13), sl13⟩) (c13 : PySem.W.codeIn K cd13 "_law_begun" = true) (k13 : PySem.W.keepIn K (.ref f13) = true)
    {oc14 : Value} {od14 an14 : Option Addr} {sl14 : Array (Option Value)} {kV14 dc14 pm14 ct14 : Value} {cd14 : Value}
    (a14 : PySem.W.nsIn K mainGlobals "_law_take" = some (some (.ref f14))) (l14 : K.lookup f14 = some ⟨oc14, od14, .func (PySem.W.fnOf "_law_take" "_law_take" (defArgs s_l_take) (defBody s_l_take) (defScope s_l_take) .none kV14 dc14 pm14 an14 cd14 ct14), sl14⟩) (c14 : PySem.W.codeIn K cd14 "_law_take" = true) (k14 : PySem.W.keepIn K (.ref f14) = true)
    {oc15 : Value} {od15 an15 : Option Addr} {sl15 : Array (Option Value)} {kV15 dc15 pm15 ct15 : Value} {cd15 : Value}
    (a15 : PySem.W.nsIn K mainGlobals "_law_alike" = some (some (.ref f15))) (l15 : K.lookup f15 = some ⟨oc15, od15, .func (PySem.W.fnOf "_law_alike" "_law_alike" (defArgs s_l_alike) (defBody s_l_alike) (defScope s_l_alike) .none kV15 dc15 pm15 an15 cd15 ct15), sl15⟩) (c15 : PySem.W.codeIn K cd15 "_law_alike" = true) (k15 : PySem.W.keepIn K (.ref f15) = true)
    {oc16 : Value} {od16 an16 : Option Addr} {sl16 : Array (Option Value)} {kV16 dc16 pm16 ct16 : Value} {cd16 : Value}
    (a16 : PySem.W.nsIn K mainGlobals "_law_picked" = some (some (.ref f16))) (l16 : K.lookup f16 = some ⟨oc16, od16, .func (PySem.W.fnOf "_law_picked" "_law_picked" (defArgs s_l_picked) (defBody s_l_picked) (defScope s_l_picked) .none kV16 dc16 pm16 an16 cd16 ct16), sl16⟩) (c16 : PySem.W.codeIn K cd16 "_law_picked" = true) (k16 : PySem.W.keepIn K (.ref f16) = true)
    {oc17 : Value} {od17 an17 : Option Addr} {sl17 : Array (Option Value)} {kV17 dc17 pm17 ct17 : Value} {cd17 : Value}
    (a17 : PySem.W.nsIn K mainGlobals "_law_sheet" = some (some (.ref f17))) (l17 : K.lookup f17 = some ⟨oc17, od17, .func (PySem.W.fnOf "_law_sheet" "_law_sheet" (defArgs s_l_sheet) (defBody s_l_sheet) (defScope s_l_sheet) .none kV17 dc17 pm17 an17 cd17 ct17), sl17⟩) (c17 : PySem.W.codeIn K cd17 "_law_sheet" = true) (k17 : PySem.W.keepIn K (.ref f17) = true)
    {oc18 : Value} {od18 an18 : Option Addr} {sl18 : Array (Option Value)} {kV18 dc18 pm18 ct18 : Value} {cd18 : Value}
    (a18 : PySem.W.nsIn K mainGlobals "_law_text" = some (some (.ref f18))) (l18 : K.lookup f18 = some ⟨oc18, od18, .func (PySem.W.fnOf "_law_text" "_law_text" (defArgs s_l_text) (defBody s_l_text) (defScope s_l_text) .none kV18 dc18 pm18 an18 cd18 ct18), sl18⟩) (c18 : PySem.W.codeIn K cd18 "_law_text" = true) (k18 : PySem.W.keepIn K (.ref f18) = true)
    {oc19 : Value} {od19 an19 : Option Addr} {sl19 : Array (Option Value)} {kV19 dc19 pm19 ct19 : Value} {cd19 : Value}
    (a19 : PySem.W.nsIn K mainGlobals "_law_read" = some (some (.ref f19))) (l19 : K.lookup f19 = some ⟨oc19, od19, .func (PySem.W.fnOf "_law_read" "_law_read" (defArgs s_l_read) (defBody s_l_read) (defScope s_l_read) .none kV19 dc19 pm19 an19 cd19 ct19), sl19⟩) (c19 : PySem.W.codeIn K cd19 "_law_read" = true) (k19 : PySem.W.keepIn K (.ref f19) = true)
    {oc20 : Value} {od20 an20 : Option Addr} {sl20 : Array (Option Value)} {kV20 dc20 pm20 ct20 : Value} {cd20 : Value}
    (a20 : PySem.W.nsIn K mainGlobals "_law_grown" = some (some (.ref f20))) (l20 : K.lookup f20 = some ⟨oc20, od20, .func (PySem.W.fnOf "_law_grown" "_law_grown" (defArgs s_l_grown) (defBody s_l_grown) (defScope s_l_grown) .none kV20 dc20 pm20 an20 cd20 ct20), sl20⟩) (c20 : PySem.W.codeIn K cd20 "_law_grown" = true) (k20 : PySem.W.keepIn K (.ref f20) = true)
    {oc21 : Value} {od21 an21 : Option Addr} {sl21 : Array (Option Value)} {kV21 dc21 pm21 ct21 : Value} {cd21 : Value}
    (a21 : PySem.W.nsIn K mainGlobals "_law_first" = some (some (.ref f21))) (l21 : K.lookup f21 = some ⟨oc21, od21, .func (PySem.W.fnOf "_law_first" "_law_first" (defArgs s_l_first) (defBody s_l_first) (defScope s_l_first) .none kV21 dc21 pm21 an21 cd21 ct21), sl21⟩) (c21 : PySem.W.codeIn K cd21 "_law_first" = true) (k21 : PySem.W.keepIn K (.ref f21) = true)
    {oc22 : Value} {od22 an22 : Option Addr} {sl22 : Array (Option Value)} {kV22 dc22 pm22 ct22 : Value} {cd22 : Value}
    (a22 : PySem.W.nsIn K mainGlobals "law" = some (some (.ref f22))) (l22 : K.lookup f22 = some ⟨oc22, od22, .func (PySem.W.fnOf "law" "law" (defArgs s_law) (defBody s_law) (defScope s_law) .none kV22 dc22 pm22 an22 cd22 ct22), sl22⟩) (c22 : PySem.W.codeIn K cd22 "law" = true) (k22 : PySem.W.keepIn K (.ref f22) = true)
    (z_all : PySem.W.nsIn K mainGlobals "all" = some none)
    (z_bool : PySem.W.nsIn K mainGlobals "bool" = some none)
    (z_enumerate : PySem.W.nsIn K mainGlobals "enumerate" = some none)
    (z_int : PySem.W.nsIn K mainGlobals "int" = some none)
    (z_isinstance : PySem.W.nsIn K mainGlobals "isinstance" = some none)
    (z_len : PySem.W.nsIn K mainGlobals "len" = some none)
    (z_list : PySem.W.nsIn K mainGlobals "list" = some none)
    (z_min : PySem.W.nsIn K mainGlobals "min" = some none)
    (z_range : PySem.W.nsIn K mainGlobals "range" = some none)
    (z_reversed : PySem.W.nsIn K mainGlobals "reversed" = some none)
    (z_set : PySem.W.nsIn K mainGlobals "set" = some none)
    (z_str : PySem.W.nsIn K mainGlobals "str" = some none)
    (z_tuple : PySem.W.nsIn K mainGlobals "tuple" = some none)
    {t_EITHER : Tok} (y_EITHER : PySem.W.nsIn K mainGlobals "EITHER" = some (some (.int 2 t_EITHER)))
    {t_MOST_PLACES : Tok} (y_MOST_PLACES : PySem.W.nsIn K mainGlobals "MOST_PLACES" = some (some (.int 26 t_MOST_PLACES)))
    {t_MOST_SIGNS : Tok} (y_MOST_SIGNS : PySem.W.nsIn K mainGlobals "MOST_SIGNS" = some (some (.int 32 t_MOST_SIGNS)))
    {xc0 : Value} {xd0 : Option Addr} {vs0 : Array Value} {xs0 : Array (Option Value)} (lc0 : K.lookup cd0 = some ⟨xc0, xd0, .fields vs0, xs0⟩) (hv0 : (vs0[11]? : Option Value) = some (.ref tb0)) (nt0 : K.lookup tb0 = none)
    (rc0 : ((recsOf q).any fun r => r.name == "are_signs") = true)
    {xc8 : Value} {xd8 : Option Addr} {vs8 : Array Value} {xs8 : Array (Option Value)} (lc8 : K.lookup cd8 = some ⟨xc8, xd8, .fields vs8, xs8⟩) (hv8 : (vs8[11]? : Option Value) = some (.ref tb8)) (nt8 : K.lookup tb8 = none)
    (rc8 : ((recsOf q).any fun r => r.name == "_first_of") = true)
    (ne01 : tb0 ≠ tb8) : LamX.LawAtS PySem.Challenge.rw_shifttape_k04_whole_no_shorter_at_all w K CX0 6 63 "_law_script" mg fa h :=
  all_ok hmg (txt_mk X G (tb0 := tb0) (tb8 := tb8) a0 l0 c0 k0 a1 l1 c1 k1 a2 l2 c2 k2 a3 l3 c3 k3 a4 l4 c4 k4 a5 l5 c5 k5 a6 l6 c6 k6 a7 l7 c7 k7 a8 l8 c8 k8 a9 l9 c9 k9 a10 l10 c10 k10 a11 l11 c11 k11 a12 l12 c12 k12 a13 l13 c13 k13 a14 l14 c14 k14 a15 l15 c15 k15 a16 l16 c16 k16 a17 l17 c17 k17 a18 l18 c18 k18 a19 l19 c19 k19 a20 l20 c20 k20 a21 l21 c21 k21 a22 l22 c22 k22 z_all z_bool z_enumerate z_int z_isinstance z_len z_list z_min z_range z_reversed z_set z_str z_tuple y_EITHER y_MOST_PLACES y_MOST_SIGNS) (tabs "are_signs" _ _ rc0 (Kt.tabIn_of a0 l0 rfl lc0 hv0)) nt0 (tabs "_first_of" _ _ rc8 (Kt.tabIn_of a8 l8 rfl lc8 hv8)) nt8 ne01 fun s u => .of_eq rfl
end K04
open PySem PySem.W PyProof.Rows
set_option pp.maxSteps 400 in
set_option maxHeartbeats 0 in
theorem PySem.Challenge.cw_shifttape_k04_whole_no_shorter_at_all_holds : PySem.Challenge.rw_shifttape_k04_whole_no_shorter_at_all.Holds := by
  w_on; o_law; k_head; (case hw => w_witness2)
  k_fill
  refine Kt.end_tab (l := PySem.Challenge.rw_shifttape_k04_whole_no_shorter_at_all) (n := 63) (k := 6) (x := "_law_script") (CX := fun _ => L2.CX0) rfl (by decide) rfl ⟨rfl, by decide, by decide⟩ (by first | exact fun w h Y => PySem.W.kIn_of Y | exact fun w h Y => PySem.W.km_in_of Y) ?F (fun _ _ _ _ _ h => h)
  case F =>
    intro w mg fa h Y KX G hmg0 tabs
    have hmg : mg ("law" : PySem.Str) = some (.ref fa) := hmg0
    clear hmg0
    refine' K04.law_at KX G hmg tabs ?a0 ?l0 ?c0 ?k0 ?a1 ?l1 ?c1 ?k1 ?a2 ?l2 ?c2 ?k2 ?a3 ?l3 ?c3 ?k3 ?a4 ?l4 ?c4 ?k4 ?a5 ?l5 ?c5 ?k5 ?a6 ?l6 ?c6 ?k6 ?a7 ?l7 ?c7 ?k7 ?a8 ?l8 ?c8 ?k8 ?a9 ?l9 ?c9 ?k9 ?a10 ?l10 ?c10 ?k10 ?a11 ?l11 ?c11 ?k11 ?a12 ?l12 ?c12 ?k12 ?a13 ?l13 ?c13 ?k13 ?a14 ?l14 ?c14 ?k14 ?a15 ?l15 ?c15 ?k15 ?a16 ?l16 ?c16 ?k16 ?a17 ?l17 ?c17 ?k17 ?a18 ?l18 ?c18 ?k18 ?a19 ?l19 ?c19 ?k19 ?a20 ?l20 ?c20 ?k20 ?a21 ?l21 ?c21 ?k21 ?a22 ?l22 ?c22 ?k22 ?z_all ?z_bool ?z_enumerate ?z_int ?z_isinstance ?z_len ?z_list ?z_min ?z_range ?z_reversed ?z_set ?z_str ?z_tuple ?y_EITHER ?y_MOST_PLACES ?y_MOST_SIGNS ?lc0 ?hv0 ?nt0 ?rc0 ?lc8 ?hv8 ?nt8 ?rc8 ?ne01
    (case a0 => k_is); (case l0 => k_is); (case c0 => k_is); (case k0 => k_is); (case a1 => k_is); (case l1 => k_is); (case c1 => k_is); (case k1 => k_is); (case a2 => k_is); (case l2 => k_is); (case c2 => k_is); (case k2 => k_is); (case a3 => k_is); (case l3 => k_is); (case c3 => k_is); (case k3 => k_is); (case a4 => k_is); (case l4 => k_is); (case c4 => k_is); (case k4 => k_is); (case a5 => k_is); (case l5 => k_is); (case c5 => k_is); (case k5 => k_is); (case a6 => k_is); (case l6 => k_is); (case c6 => k_is); (case k6 => k_is); (case a7 => k_is); (case l7 => k_is); (case c7 => k_is); (case k7 => k_is); (case a8 => k_is); (case l8 => k_is); (case c8 => k_is); (case k8 => k_is); (case a9 => k_is); (case l9 => k_is); (case c9 => k_is); (case k9 => k_is); (case a10 => k_is); (case l10 => k_is); (case c10 => k_is); (case k10 => k_is); (case a11 => k_is); (case l11 => k_is); (case c11 => k_is); (case k11 => k_is); (case a12 => k_is); (case l12 => k_is); (case c12 => k_is); (case k12 => k_is); (case a13 => k_is); (case l13 => k_is); (case c13 => k_is); (case k13 => k_is); (case a14 => k_is); (case l14 => k_is); (case c14 => k_is); (case k14 => k_is); (case a15 => k_is); (case l15 => k_is); (case c15 => k_is); (case k15 => k_is); (case a16 => k_is); (case l16 => k_is); (case c16 => k_is); (case k16 => k_is); (case a17 => k_is); (case l17 => k_is); (case c17 => k_is); (case k17 => k_is); (case a18 => k_is); (case l18 => k_is); (case c18 => k_is); (case k18 => k_is); (case a19 => k_is); (case l19 => k_is); (case c19 => k_is); (case k19 => k_is); (case a20 => k_is); (case l20 => k_is); (case c20 => k_is); (case k20 => k_is); (case a21 => k_is); (case l21 => k_is); (case c21 => k_is); (case k21 => k_is); (case a22 => k_is); (case l22 => k_is); (case c22 => k_is); (case k22 => k_is); (case z_all => k_is); (case z_bool => k_is); (case z_enumerate => k_is); (case z_int => k_is); (case z_isinstance => k_is); (case z_len => k_is); (case z_list => k_is); (case z_min => k_is); (case z_range => k_is); (case z_reversed => k_is); (case z_set => k_is); (case z_str => k_is); (case z_tuple => k_is); (case y_EITHER => k_is); (case y_MOST_PLACES => k_is); (case y_MOST_SIGNS => k_is)
    (case lc0 => k_is); (case hv0 => rfl); (case nt0 => kernel_rfl); (case rc0 => decide +kernel); (case lc8 => k_is); (case hv8 => rfl); (case nt8 => kernel_rfl); (case rc8 => decide +kernel); (case ne01 => decide)
