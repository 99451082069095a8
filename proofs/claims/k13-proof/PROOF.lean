import PyProof.Rows.All
import Wide.All
import OpenK.AllK
import Wide.FinOn
import HandS.ForMost
import HandS.IsInst
import HandS.AnyAll
import HandS.EndTab
import HandS.EndBits
import HandS.Wide
import HandS.Conv
import HandS.Strs
import PyProof.ListStr
import PyProof.Rows.SetFrom
import KE.DataCmp
import KE.KMinKey
import KE.KLam
import HandS.Lambda
import HandS.More
import HandS.RevTup
import HandS.Rev
import HandS.NoneIn
import HandS.ExcInit
import HandS.ExcOwn
import HandS.ExcField
import HandS.HotCalls
import HandS.FStr
import HandS.WordsExc
import HandS.ClsMeth
import HandS.SetFor
import KE.KExcIs
import HandS.Walk
import HandS.Style
import HandS.ExcIs
import PySem.Challenge.RW_shifttape_k13_texts_refused
set_option Elab.async false
set_option linter.all false
set_option maxRecDepth 100000
namespace Kt
open PySem PySem.Spec PyProof.Rows L2
/-- one sign as a text -/
def sg (c : Nat) : Str := ⟨#[c]⟩
theorem sg_inj {a b : Nat} (h : sg a = sg b) : a = b := by
  have h1 : (#[a] : Array Nat) = #[b] := congrArg Str.cps h
  simpa using h1
def signs (z : Str) : List Str := z.cps.toList.map sg
/-- the distinct ones, as they come -/
def uqs (l : List Nat) (c : Nat) : List Nat := if c ∈ l then l else l ++ [c]
def uq (l : List Nat) : List Nat := l.foldl uqs []
theorem uq_snoc (l : List Nat) (c : Nat) : uq (l ++ [c]) = uqs (uq l) c := by
  unfold uq; rw [List.foldl_append]; rfl
theorem uq_le (l : List Nat) : (uq l).length ≤ l.length := by
  suffices h : ∀ (r : List Nat) (a : List Nat), (r.foldl uqs a).length ≤ a.length + r.length by
    have := h l []; simpa [uq] using this
  intro r
  induction r with
  | nil => intro a; simp
  | cons x r ih =>
    intro a
    have h1 := ih (uqs a x)
    have h2 : (uqs a x).length ≤ a.length + 1 := by unfold uqs; split <;> simp
    simp only [List.foldl_cons, List.length_cons]; omega
theorem uq_nodup {l : List Nat} (h : l.Nodup) : uq l = l := by
  suffices g : ∀ (r a : List Nat), (a ++ r).Nodup → r.foldl uqs a = a ++ r by
    simpa [uq] using g l [] (by simpa using h)
  intro r
  induction r with
  | nil => intro a _; simp
  | cons x r ih =>
    intro a hn
    have hx : x ∉ a := fun hm => by
      have := List.nodup_append.mp hn
      exact this.2.2 x hm x (by simp) rfl
    have e : uqs a x = a ++ [x] := by unfold uqs; rw [if_neg hx]
    rw [List.foldl_cons, e, ih (a ++ [x]) (by simpa using hn)]; simp

section
variable {X : Cx}
/-- list(s), s a text -/
theorem call_listS (hc : X.calm = true) : CallR X (.type "list") (fun xs H Q => ∃ z : Str, xs = [.str z] ∧ z.length ≤ 1000 ∧ ∀ p, H p = none → Q (.ref p) (upd H p (.lst ((signs z).map V.str)))) := by
  intro pins s σ H xs us Q I r h
  obtain ⟨z, rfl, hz, q⟩ := h
  obtain ⟨u, rfl, ru⟩ := r.one
  obtain ⟨t, rfl⟩ := ru
  have hz2 : z.cps.size ≤ 1000 := hz
  have hln : ((signs z).map V.str).length = z.cps.size := by simp [signs]
  have hbig : (1000 : Nat) ≤ sizeLine := by decide
  refine PySem.call_list_str (hn := Nat.le_trans hz2 hbig) (I.ok.hd hc) z t fun h' tk acc c' hk hS hacc => ?_
  refine ⟨.ref s.heap.objs.size, _, I.laid hk (Nat.le_refl _) (show ObjOk X.prog X.w _ _ _ (.lst ((signs z).map V.str)) from ⟨?_, acc.toList, c', ?_, ?_⟩), rfl, q _ (I.hok.fresh (Nat.le_refl _))⟩
  · rw [hln]; exact Nat.le_trans hz2 hbig
  · refine vals_of_at (by rw [hln, Array.length_toList, hacc.1]) fun j x v h1 h2 => ?_
    obtain ⟨c, k, e1, rfl⟩ := hacc.2 j v (by rw [← Array.getElem?_toList]; exact h2)
    have e2 : ((signs z).map V.str)[j]? = some (.str (sg c)) := by
      simp [signs, e1]
    rw [e2] at h1
    cases h1
    exact ⟨k, rfl⟩
  · rw [Array.toArray_toList]; exact hS
/-- x += y of texts -/
theorem ip_addS : PIp X .Add (fun x y H Q => ∃ i j : Str, x = .str i ∧ y = .str j ∧ i.length + j.length ≤ sizeLine ∧ Q (.str (i ++ j)) H) :=
  fun pins s σ H x y v u Q I r1 r2 h => iop_add_str pins s σ H x y v u Q I r1 r2 h
end

/-! ### len(set(s)), s a text -/
section
variable {prog : Program} {w : World} {A : Around} {R : Result → Shared → Prop} {J : Addr} {fp wr : List Addr} {G : Array GenState → Array GenState → Prop} {St : Nat → Shared → Prop}
/-- what stands in the set behind i signs -/
def InU (prog : Program) (w : World) (h : Heap) (D : Addr) (z : Str) (i : Nat) : Prop :=
  h.SetOf (PySem.strKind prog w) D (fun k => decide (k ∈ (uq (z.cps.toList.take i)).map sg)) (uq (z.cps.toList.take i)).length
theorem InU.at' {h h' : Heap} {D : Addr} {z : Str} {i : Nat} (u : InU prog w h D z i) (k : ∀ o, h.get? D = some o → h'.get? D = some o) : InU prog w h' D z i := by
  obtain ⟨o, es, ep, t, ho, rest⟩ := u
  exact ⟨o, es, ep, t, k o ho, rest⟩
theorem loopSigns {z : Str} (W : WalksS prog w A.in1 J fp wr G z.cps.size (SignAt z) St) (D : Addr) (hD : D ∉ fp) (hz : z.cps.size ≤ 1000) :
    ∀ (k i : Nat) (s : Shared), z.cps.size - i = k → i ≤ z.cps.size → St i s → InU prog w s.heap D z i →
      (∀ s', Moved (D :: wr) G s s' → InU prog w s'.heap D z z.cps.size → R (.ok (.ret .none)) s') →
      codeAny (model prog w) A (.builtin "set.update.loop" ⟨[.ref D, .ref J], []⟩) R s := by
  have out : D ∉ wr := fun q => hD (W.sub _ q)
  have sub : ∀ b ∈ wr, b ∈ D :: wr := fun b hb => List.mem_cons_of_mem _ hb
  intro k
  induction k with
  | zero =>
    intro i s hk hi st u fin
    obtain rfl : i = z.cps.size := by omega
    refine codeAny_builtin PyProof.Rows.F.entry_set_update_loop ?_
    rw [Around.under_plainId PyProof.Rows.F.plain_set_update_loop _]
    refine wpAny_bind (m := pyNext (.ref J)) (W.done s _ _ st fun s' mv => ?_)
    exact wpAny_pure (fin s' (mv.mono sub) (u.at' fun o e => mv.heap D o out e))
  | succ k ih =>
    intro i s hk hi st u fin
    have lt : i < z.cps.size := by omega
    refine codeAny_builtin PyProof.Rows.F.entry_set_update_loop ?_
    rw [Around.under_plainId PyProof.Rows.F.plain_set_update_loop _]
    refine wpAny_bind (m := pyNext (.ref J)) (W.item i s _ _ lt st fun v s' hv st' mv => ?_)
    obtain ⟨c, t, hc, rfl⟩ := hv
    have u1 := u.at' fun o e => mv.heap D o out e
    refine wpAny_bind (m := holding [Value.str (sg c) t] (setAdd D (.str (sg c) t))) (wpAny_holding ?_)
    unfold setAdd
    refine wpAny_holding (wpAny_bind ((PySem.strKind prog w).pyHash (k := sg c) (strKind_is _ _ _ _) ?_))
    have room : (uq (z.cps.toList.take i)).length + 1 < scanBound := by
      have h1 := uq_le (z.cps.toList.take i)
      have h2 : (z.cps.toList.take i).length ≤ i := by rw [List.length_take]; exact Nat.min_le_left _ _
      unfold scanBound; omega
    refine wpAny_setAddHashed_of (knd := PySem.strKind prog w) (s := { s' with toks := s'.toks + 1 }) (strKind_is _ _ _ _) rfl u1 room fun h' sb u2 => ?_
    have u3 : InU prog w h' D z (i + 1) := by
      have e0 : z.cps.toList.take (i + 1) = z.cps.toList.take i ++ [c] := by
        rw [List.take_add_one, Array.getElem?_toList, hc]; rfl
      unfold InU
      rw [e0, uq_snoc]
      refine SetOf_congr u2 (fun q => ?_) ?_
      · unfold uqs
        by_cases hm : c ∈ uq (z.cps.toList.take i)
        · rw [if_pos hm]
          by_cases e : q = sg c
          · subst e
            have : sg c ∈ (uq (z.cps.toList.take i)).map sg := List.mem_map.mpr ⟨c, hm, rfl⟩
            simp [this]
          · simp [e]
        · rw [if_neg hm, List.map_append]
          simp [List.mem_append, Bool.decide_or]
      · unfold uqs
        by_cases hm : c ∈ uq (z.cps.toList.take i)
        · have : sg c ∈ (uq (z.cps.toList.take i)).map sg := List.mem_map.mpr ⟨c, hm, rfl⟩
          rw [if_pos hm, if_pos (decide_eq_true this)]
        · have : ¬ sg c ∈ (uq (z.cps.toList.take i)).map sg := fun h => by
            obtain ⟨d, h1, h2⟩ := List.mem_map.mp h
            rw [sg_inj h2] at h1
            exact hm h1
          rw [if_neg hm, if_neg (by simpa using this), List.length_append]; rfl
    refine wpAny_pure ⟨plainId_quiet PyProof.Rows.F.plain_set_update_loop _, ih (i + 1) _ (by omega) lt (W.frame _ s' _ _ st' (Nat.le_succ _) fun b hb o e => ?_) u3 fun s2 mv2 u4 => ?_⟩
    · exact (sb.2 b (fun q => hD (q ▸ hb))).trans e
    · refine fin s2 (Moved.trans W.gtrans ((mv.mono sub).then_heap (Nat.le_succ _) fun b o hb e => ?_) mv2) u4
      exact (sb.2 b (fun q => hb (q ▸ List.mem_cons_self))).trans e
end
section
variable {prog : Program} {w : World} {A : Around} {E : Value → Shared → Prop} {s : Shared}
set_option maxHeartbeats 3200000 in
theorem call_setS {z : Str} {t : Tok} {Q : Value → Shared → Prop} (hh : A.handled = none) (hz : z.cps.size ≤ 1000)
    (h : ∀ (h' : Heap) (tk : Nat), InU prog w h' s.heap.objs.size z z.cps.size → (∀ b o, b < s.heap.objs.size → s.heap.get? b = some o → h'.get? b = some o) →
      Q (.ref s.heap.objs.size) { s with heap := h', toks := tk }) : wpAny (model prog w) A (call (.type "set") [.str z t]) Q E s := by
  obtain ⟨c, tl, hmro⟩ := PySem.F.called_set.mro
  have q1 := PySem.F.called_set.made
  have q2 := PySem.F.called_set.sub
  refine wpAny_call (codeAny_of_tree ?_)
  show wpAny _ _ (callAny (.type "set") _) _ _ _
  refine wpAny_pure ⟨Code.quiet_builtin _ (by decide +kernel), codeAny_builtin PySem.F.entry_type_call ?_⟩
  rw [Around.under_plain (weight_type_call_type "set" [.str z t] []) rfl]
  have q3 := PySem.F.called_set.notType
  have q4 := PySem.F.called_set.canCreate
  have q5 := PySem.F.typeCall_set_1 (.str z t)
  repeat (any_goals (first | assumption | wp_step))
  refine codeAny_mono (code_set_new_1 (.str z t) (E := E) (Q₁ := fun ob s₁ => ∃ led : Bool, ob = .ref s.heap.objs.size ∧ s₁ = { s with heap := s.heap.push { cls := .type "set", dict := none, data := .set #[] 0 (.fresh 0 0 led) } }) fun led => ⟨led, rfl, rfl⟩) fun r s₁ hr => ?_
  cases r with
  | error e => exact hr
  | ok fl =>
    cases fl with
    | ret ob =>
      obtain ⟨led, rfl, rfl⟩ := hr
      have gS : (s.heap.push { cls := .type "set", dict := none, data := .set #[] 0 (.fresh 0 0 led) }).get? s.heap.objs.size =
          some { cls := .type "set", dict := none, data := .set #[] 0 (.fresh 0 0 led) } := Heap.get?_push_size _ rfl
      have gT : Shared.TypeIs { s with heap := s.heap.push { cls := .type "set", dict := none, data := .set #[] 0 (.fresh 0 0 led) } }
          (.ref s.heap.objs.size) "set" := ⟨_, gS, rfl⟩
      have q6 := PySem.F.called_set.init.lookup
      have q7 := PySem.F.called_set.init.bind (.ref s.heap.objs.size)
      repeat (any_goals (first | assumption | wp_step))
      refine codeAny_mono (codeAny_call_builtin (R := wants (fun r s₂ => r = .none ∧ ∃ h' tk, s₂ = { s with heap := h', toks := tk } ∧ InU prog w h' s.heap.objs.size z z.cps.size ∧
          (∀ b o, b < s.heap.objs.size → s.heap.get? b = some o → h'.get? b = some o)) E) PySem.F.called_set.init.plain PySem.F.entry_set_init (check_set_init_1 gT ?_)) fun r₂ s₂ hr₂ => ?_
      · have q8 := PySem.F.sub_str_set
        have q9 := PySem.F.sub_str_frozenset
        have qa : (Value.type "str" == Value.type "dict") = false := by decide
        unfold Builtin.«set.__init__» noKeywords Builtin.Frozenset.updateFrom
        generalize hPI : pyIter = PI
        wp_walk
        subst hPI
        generalize hso : ({ cls := .type "set", dict := none, data := .set #[] 0 (.fresh 0 0 led) } : Obj) = so at gS ⊢
        refine wpAny_pyIter_str fun o St W hst => ?_
        refine wpAny_bind (wpAny_runValue ?_)
        have sz : (s.heap.push so).objs.size = s.heap.objs.size + 1 := Heap.size_push ..
        have nI : s.heap.objs.size ∉ [(s.heap.push so).objs.size] := by
          rw [sz]; simp only [List.mem_singleton]; exact Nat.ne_of_lt (Nat.lt_succ_self _)
        refine loopSigns (W A.in1.in1.in1 (by simp [hh])).toS s.heap.objs.size nI hz (z.cps.size - 0) 0 _ (by omega) (Nat.zero_le _) hst ?hU ?hR
        case hU =>
          have g2 : ((s.heap.push so).push o).get? s.heap.objs.size = some so := Heap.get?_push_of_some _ gS
          unfold InU
          subst hso
          exact SetOf_congr ((setObjOf_fresh (knd := PySem.strKind prog w) led).setOf g2 (by unfold scanBound; omega)) (fun _ => by simp [uq]) (by simp [uq])
        case hR =>
          intro s' mv u
          obtain ⟨h', g', d', tk', os'⟩ := s'
          obtain rfl : g' = s.gens := mv.gens
          obtain rfl : d' = s.drawn := mv.drawn
          obtain rfl : os' = s.os := mv.os
          show wpAny _ _ _ _ _ _
          refine wpAny_pure ?_
          show wpAny _ _ (ret Value.none) _ _ _
          refine wpAny_pure ⟨rfl, h', tk', rfl, u, fun b o hb e => mv.heap b o (fun hm => ?_) (Heap.get?_push_of_some _ (Heap.get?_push_of_some _ e))⟩
          rcases List.mem_cons.mp hm with e1 | e1
          · exact Nat.ne_of_lt hb e1
          · rw [List.mem_singleton.mp e1, sz] at hb
            omega
      · cases r₂ with
        | error e => exact hr₂
        | ok fl₂ =>
          cases fl₂ with
          | ret r =>
            obtain ⟨rfl, h', tk, rfl, u, hk⟩ := hr₂
            repeat (any_goals (first | assumption | wp_step))
            exact h _ _ u hk
          | _ => exact hr₂.elim
    | _ => exact hr.elim
end
section
variable {X : Cx}
def tLenSetS (ta : TE) : TE := fun σ H Q => ta σ H fun x H1 => ∃ z : Str, x = .str z ∧ z.cps.size ≤ 1000 ∧ Q (.int ((uq z.cps.toList).length : Nat)) H1
theorem pe_lenSetS {a : Expr} {ta : TE} {p p2 q pos : Pos} (hc : X.calm = true) (hg : Gl X "len") (hm : X.mg "len" = none) (hg2 : Gl X "set") (hm2 : X.mg "set" = none) (ha : PE X a ta)
    (na : starEach [a] X.env = (false, eval a X.env) :: starEach [] X.env := by rfl) : PE X (.Call (.Name "len" p) [.Call (.Name "set" p2) [a] [] q] [] pos) (tLenSetS ta) := by
  refine ⟨fun pins s σ H Q I h => ?_⟩
  refine Call_ (ld_blt I hg hm PySem.boot_len ?_)
  refine callWith_builtin1 (args_cons ?_ rfl) rfl rfl
  refine Call_ (ld_blt I hg2 hm2 PyProof.Rows.boot_set ?_)
  refine callWith_type1 (args_cons (thn (ha.run pins s σ H _ I h) fun v s1 k => args_nil ?_) na) na rfl
  obtain ⟨x, H1, I1, r1, z, rfl, hz, q1⟩ := k
  obtain ⟨t, rfl⟩ := r1
  refine call_setS (I1.ok.hd hc) hz fun h' tk u hk => args_nil ?_
  unfold InU at u
  have ef : z.cps.toList.take z.cps.size = z.cps.toList := List.take_of_length_le (by rw [Array.length_toList]; exact Nat.le_refl _)
  rw [ef] at u
  have hl := uq_le z.cps.toList
  rw [Array.length_toList] at hl
  obtain ⟨o, es, ep, tb, ho, hex, hd, _, _, _, hf, hn⟩ := u
  have I2 : Inv X pins σ H1 { s1 with heap := h', toks := tk } := I1.kept fun b o e => hk b o (Heap.lt_size e) e
  exact call_len_set ho hex hd hf (by rw [hn]; exact Int.lt_of_le_of_lt (Int.ofNat_le.mpr (Nat.le_trans hl hz)) (by decide)) ⟨.int ((uq z.cps.toList).length : Nat), H1, I2.tok _, ⟨_, by rw [hn]⟩, q1⟩
end
end Kt
namespace Kt
open PySem PySem.Spec PyProof.Rows L2

/-! ### the test of a sign between two bounds -/
def pbIn (k1 k2 : Str) (c : Nat) : Bool := !decide ([c] < k1.cps.toList) && !decide (k2.cps.toList < [c])
theorem elt_in {prog : Program} {w : World} {scope : Scope} {x k1 k2 : Str} {j1 j2 : Nat} {p0 p1 p2 p3 : Pos} (hk : scope.kind = .function) (hl : scope.names.lookup x = some .local) (hd : (x == ("__debug__" : Str)) = false := by decide) :
    GxR.EltP prog w scope x (.Compare (.Constant (.str k1) j1 p0) [.LtE, .LtE] [.Name x p1, .Constant (.str k2) j2 p2] p3) (pbIn k1 k2) := by
  intro cenv A' E' c t s₂ m₂ hs hn hm
  refine Compare_chain (Calls.Constant_str (chain_link (wpAny_Name (wpAny_loadName_local (by rw [hs]; exact hk) (show cenv.scope.names.lookup x = some .local by rw [hs]; exact hl) ?_ hm ?_) hd))) (by rfl)
  · exact hn
  refine PySem.P.le_str (wpAny_truthy_bool ?_)
  show (if _ then _ else _)
  unfold pbIn
  cases h : decide ([c] < k1.cps.toList) with
  | true =>
    simp only [Bool.not_true, Bool.false_and]
    rw [if_neg Bool.false_ne_true]
    exact ⟨trivial, GxR.keeps_tok _ _⟩
  | false =>
    simp only [Bool.not_false, Bool.true_and]
    rw [if_pos trivial]
    refine chain_last (Calls.Constant_str (PySem.P.le_str ?_))
    exact ⟨rfl, ⟨_, _, rfl, fun _ _ e => e⟩⟩
theorem pbIn_32_126 (c : Nat) : pbIn " " "~" c = decide (32 ≤ c ∧ c ≤ 126) := by
  have e1 : (" " : Str).cps.toList = [32] := by decide
  have e2 : ("~" : Str).cps.toList = [126] := by decide
  unfold pbIn
  rw [e1, e2]
  by_cases h1 : c < 32
  · simp [List.cons_lt_cons_iff, h1]; omega
  · by_cases h2 : 126 < c
    · simp [List.cons_lt_cons_iff, h1, h2]
      try omega
    · simp [List.cons_lt_cons_iff, h1, h2]
      omega

/-! ### what stays, but for a table -/
/-- H' has all of H, the table at P may have grown -/
structure Kp (P : Addr) (H H' : Hp) : Prop where
  tab : GxR.TabG H' P
  at' : ∀ b o, b ≠ P → H b = some o → H' b = some o
theorem Kp.refl {P : Addr} {H : Hp} (t : GxR.TabG H P) : Kp P H H := ⟨t, fun _ _ _ h => h⟩
theorem Kp.trans {P : Addr} {H H1 H2 : Hp} (a : Kp P H H1) (b : Kp P H1 H2) : Kp P H H2 := ⟨b.tab, fun c o n h => b.at' c o n (a.at' c o n h)⟩
theorem Kp.of_tabbed {P : Addr} {H H' : Hp} (t : GxR.Tabbed P H H') : Kp P H H' := ⟨t.1, fun b o n h => by rw [t.2 b n]; exact h⟩
theorem tab_same {P : Addr} {H H' : Hp} (t : GxR.TabG H P) (k : ∀ o, H P = some o → H' P = some o) : GxR.TabG H' P := by
  obtain ⟨ps, h1, h2⟩ := t
  exact ⟨ps, k _ h1, h2⟩
theorem Kp.same {P : Addr} {H H' : Hp} (t : GxR.TabG H P) (s : Same H H') : Kp P H H' := ⟨tab_same t fun o e => s P o e, fun b o _ h => s b o h⟩
theorem tab_ne {P b : Addr} {H : Hp} {o : HO} (t : GxR.TabG H P) (h : H b = some o) (n : ∀ ps, o ≠ .tbl ps) : b ≠ P := fun e => by
  obtain ⟨ps, h1, _⟩ := t
  rw [e, h1] at h
  exact n ps (Option.some.inj h).symm
theorem tab_new {P b : Addr} {H : Hp} (t : GxR.TabG H P) (h : H b = none) : b ≠ P := fun e => by
  obtain ⟨ps, h1, _⟩ := t
  rw [e, h1] at h
  cases h
/-- what is no table stays -/
theorem Kp.get {P b : Addr} {H H' : Hp} {o : HO} (k : Kp P H H') (t : GxR.TabG H P) (h : H b = some o) (n : ∀ ps, o ≠ .tbl ps) : H' b = some o := k.at' b o (tab_ne t h n) h
theorem Kp.new {P b : Addr} {H H' : Hp} (k : Kp P H H') (t : GxR.TabG H P) (h : H' b = none) : H b = none := by
  cases q : H b with
  | none => rfl
  | some o =>
    by_cases e : b = P
    · exact absurd e (tab_new k.tab h)
    · rw [k.at' b o e q] at h
      cases h
theorem Kp.upd {P p : Addr} {H : Hp} {o : HO} (t : GxR.TabG H P) (n : H p = none) : Kp P H (upd H p o) :=
  Kp.same t fun b u e => by rw [upd_ne (ne_of_none e n)]; exact e
theorem same_new {H : Hp} {p : Addr} {o : HO} (h : H p = none) : Same H (upd H p o) := fun b x e => by
  rw [upd_ne (ne_of_none e h)]; exact e
/-- a list, a tuple that is read -/
theorem Kp.seqL {P a : Addr} {K : PySem.W.Frag} {H H' : Hp} {xs : List V} (k : Kp P H H') (t : GxR.TabG H P) (h : SqL K H a xs) : SqL K H' a xs := by
  rcases h with (h | ⟨o, h⟩) | h
  · exact .inl (.inl (k.get t h fun ps e => nomatch e))
  · exact .inl (.inr ⟨o, k.get t h fun ps e => nomatch e⟩)
  · exact .inr h
theorem Kp.seqT {P a : Addr} {K : PySem.W.Frag} {H H' : Hp} {xs : List V} (k : Kp P H H') (t : GxR.TabG H P) (h : SqT K H a xs) : SqT K H' a xs := by
  rcases h with (h | ⟨o, h⟩) | h
  · exact .inl (.inl (k.get t h fun ps e => nomatch e))
  · exact .inl (.inr ⟨o, k.get t h fun ps e => nomatch e⟩)
  · exact .inr h

/-! ### the end: the tables of the text's defs are empty where the law begins -/
theorem end_tab {l : PySem.W.OpenLaw} {n k : Nat} {q : Program} {loose : List Str} {XP : (Str → Option Value) → Heap → Prop} {YP : World → Heap → Prop} {d : DefRec} {K : Params → PySem.W.Frag} {CX : World → CXT} {x : Str}
    (hn : l.most = some n) (hn2 : n ≤ sizeLine) (hdf : d.params.defaults = []) (hr : Room k callerA) (hY : ∀ (w : World) (h : Heap), YP w h → (K w.params).In h)
    (F : ∀ (w : World) (mg : Str → Option Value) (fa : Addr) (h : Heap), YP w h → (K w.params).In h → h.Ns mainGlobals mg → mg d.name = some (.ref fa) →
      (∀ (y : Str) (c P : Addr), ((recsOf q).any fun r => r.name == y) = true → PySem.W.tabIn (K w.params) y = some (c, P) → PySem.W.CodeHd h c P ∧ h.get? P = some (PySem.W.tabObj #[])) →
      LamX.LawAtS l w (K w.params) (CX w) k n x mg fa h)
    (hC : ∀ (w : World) (H : Hp) (s : Shared) (e : Value) (s' : Shared), CX w [] H s (fun _ _ _ => False) e s' → False) :
    PySem.W.WalkO q loose XP YP l.row.toRowW d [] (fun f vs => PySem.call f vs) := by
  refine Att.attach_callB hn hdf fun w s0 s1 mg mb fa ob p1 p2 p3 a vs ns G Y h1 h2 h3 hmg hl hi hlen hbit hgen => ?_
  have KX := hY w _ Y
  have tabs : ∀ (y : Str) (c P : Addr), ((recsOf q).any fun r => r.name == y) = true → PySem.W.tabIn (K w.params) y = some (c, P) → PySem.W.CodeHd s1.heap c P ∧ s1.heap.get? P = some (PySem.W.tabObj #[]) := fun y c P u1 u2 => by
    have u3 : ((recsOf q).find? fun r => r.name == y).isSome = true := by
      rw [List.find?_isSome]
      obtain ⟨r, h1, h2⟩ := List.any_eq_true.mp u1
      exact ⟨r, h1, h2⟩
    obtain ⟨e, he⟩ := Option.isSome_iff_exists.mp u3
    exact PySem.W.tab_of G.T KX he u2
  obtain ⟨fd, cs, sp, t1, t2, t3, t4, t5, t6⟩ := F w mg fa _ Y KX G.T.g hmg tabs
  refine LamX.law_callTs KX G.T.g G.T.b G.T.builtins G.T.nolimit hgen t1 t2 t3 G.T.bmain hl hi (Nat.le_trans hlen hn2) hr t6 t4 (fun H u1 u2 => t5 H a ns hlen hbit u1 u2) ?_
  exact fun H e s' => hC w H s1 e s'
theorem gx_of {base : Heap} {mg : Str → Option Value} {c P : Addr} (t : LamX.TabB base mg c P) : GxR.TabB base mg c P := ⟨t.code, t.bm, t.gP⟩
end Kt
namespace Kt
open PySem PySem.Spec PyProof.Rows L2

/-! ### a def of the text -/
structure Df (K : PySem.W.Frag) (mg : Str → Option Value) (x : Str) (st : Stmt) (ps : List Str) (y : Str := x) where
  f : Addr
  fd : FuncData
  F : Fun K x x st f fd
  b : Binds K fd ps []
  g : mg y = some (.ref f)
/-- its code object is known -/
structure Coded (K : PySem.W.Frag) (x : Str) (st : Stmt) (f : Addr) (fd : FuncData) (c : Addr) : Prop where
  ex : ∃ (oc : Value) (od : Option Addr) (kV doc pm : Value) (an : Option Addr) (ct : Value) (osl : Array (Option Value)),
    fd = PySem.W.fnOf x x (defArgs st) (defBody st) (defScope st) .none kV doc pm an (.ref c) ct ∧ K.lookup f = some ⟨oc, od, .func fd, osl⟩ ∧ PySem.W.codeIn K (.ref c) x = true
section
variable {P : Program} {w : World} {K : PySem.W.Frag} {mg : Str → Option Value} {base : Heap}
theorem Coded.ok {x : Str} {st : Stmt} {f c : Addr} {fd : FuncData} {N ps : List Str} {k : Nat} {sp : Sp} (C : Coded K x st f fd c) (S : FnScope N ps (defScope st)) (len : ∀ vs H Q E, sp vs H Q E → vs.length = ps.length)
    (hb : ∀ (A : Around) (outer : List Env) (s : Shared) (H : Hp) (vs : List V) (Q : VK) (E : XK), Room k (A.deeper (envOfC x (defScope st) s.heap.objs.size f (.ref c))) → sp vs H Q E →
      ∃ t, PSs (cxOf CX0 P w K mg base N x (defScope st) f (.ref c) A outer s H E).nox (defBody st) t ∧
        t { nx := fun _ H' => Q .non H', rt := Q } (start N vs) H) : FnOk P w K mg base CX0 (k + 1) f fd ps sp := by
  obtain ⟨oc, od, kV, doc, pm, an, ct, osl, e, lk, hcd⟩ := C.ex
  subst e
  refine fn_of lk hcd S len fun A outer s H vs Q E room h => ?_
  obtain ⟨t, h1, h2⟩ := hb A outer s H vs Q E room h
  exact ⟨t, h1.nox, h2⟩
end

/-! ### lists of ints compared -/
theorem dpInts (K : PySem.W.Frag) (H : Hp) : ∀ ns : List Int, DpAll K H (ns.map V.int) (ns.map PyData.int)
  | [] => .nil
  | n :: r => .cons (.int n) (dpInts K H r)
theorem eqv_ints (ns ms : List Int) : PyData.eqv (.list (ns.map PyData.int)) (.list (ms.map PyData.int)) = decide (ns = ms) := by
  rw [← PySem.SeqAt.same_eq_eqv _ _ (by simp only [PySem.SeqAt.noMix]; exact PySem.W.noMix_ints ns ms), PySem.Spec.same]
  exact PySem.W.same_ints ns ms
section
variable {X : Cx}
def rEqI (K : PySem.W.Frag) (g : Bool → Bool) : R2 := fun x y H Q => ∃ (a b : Addr) (ns ms : List Int), x = .ref a ∧ y = .ref b ∧ SqL K H a (ns.map V.int) ∧ SqL K H b (ms.map V.int) ∧ Q (.bl (g (decide (ns = ms)))) H
theorem op_eqI (hu : X.A.units + 64 < cLine) : OpR X (compareOp .Eq) (rEqI X.K id) := by
  intro pins s σ H x y v u Q I rx ry h
  obtain ⟨a, b, ns, ms, rfl, rfl, h1, h2, q⟩ := h
  exact op_eqD hu pins s σ H _ _ v u Q I rx ry ⟨_, _, .lst h1 (dpInts _ _ ns), .lst h2 (dpInts _ _ ms), PySem.W.shaped_ints ns, PySem.W.shaped_ints ms, by rw [eqv_ints]; exact q⟩
theorem op_neI (hu : X.A.units + 64 < cLine) : OpR X (compareOp .NotEq) (rEqI X.K not) := by
  intro pins s σ H x y v u Q I rx ry h
  obtain ⟨a, b, ns, ms, rfl, rfl, h1, h2, q⟩ := h
  exact op_neD hu pins s σ H _ _ v u Q I rx ry ⟨_, _, .lst h1 (dpInts _ _ ns), .lst h2 (dpInts _ _ ms), PySem.W.shaped_ints ns, PySem.W.shaped_ints ms, by rw [eqv_ints]; exact q⟩
end

theorem ix_ok {n j : Nat} {z : Int} (e : z = (j : Int)) (h : j < n) : ixN n z = some j := by
  subst e
  unfold ixN
  rw [if_pos (by omega), if_pos (by omega)]
  rfl

theorem at_map {α β : Type} {f : α → β} {xs : List α} {i : Nat} {y : β} (h : (xs.map f)[i]? = some y) : ∃ x, xs[i]? = some x ∧ y = f x := by
  rw [List.getElem?_map] at h
  obtain ⟨x, h1, h2⟩ := Option.map_eq_some_iff.mp h
  exact ⟨x, h1, h2.symm⟩
theorem map_at {α β : Type} {f : α → β} {xs : List α} {i : Nat} {x : α} (h : xs[i]? = some x) : (xs.map f)[i]? = some (f x) := by
  rw [List.getElem?_map, h]; rfl
theorem dec_f {p : Prop} [Decidable p] (h : ¬ p) : V.bl (decide p) = V.bl false := by rw [decide_eq_false h]
theorem dec_t {p : Prop} [Decidable p] (h : p) : V.bl (decide p) = V.bl true := by rw [decide_eq_true h]

/-- the readings of len, list, by the written part alone -/
def rLenQ (K : PySem.W.Frag) : List V → Hp → VK → Prop := fun xs H Q => ∃ p ys, xs = [.ref p] ∧ (SqL K H p ys ∨ SqT K H p ys) ∧ Q (.int ys.length) H

theorem lc_yes {σ : L2.St} {H : Hp} {A B : Hp → Prop} (h : A H) : tYes σ H (fun b H3 => if b = true then A H3 else B H3) := by
  show (if true = true then A H else B H)
  rw [if_pos rfl]
  exact h

theorem perm_erase {α : Type} {x : α} : ∀ {l : List α} {k : Nat}, l[k]? = some x → ([x] ++ l.eraseIdx k).Perm l
  | [], k, h => by simp at h
  | a :: r, 0, h => by
    simp at h; subst h; simp
  | a :: r, k + 1, h => by
    have ih := perm_erase (l := r) (k := k) (by simpa using h)
    rw [List.eraseIdx_cons_succ]
    exact (List.Perm.swap a x _).trans (ih.cons a)
theorem erase_map {α β : Type} (f : α → β) : ∀ (l : List α) (k : Nat), (l.map f).eraseIdx k = (l.eraseIdx k).map f
  | [], k => by simp
  | a :: r, 0 => by simp
  | a :: r, k + 1 => by simp [erase_map f r k]

/-! ### the law's box -/
def BoxAt (H : Hp) (b l : Addr) : Prop := ∃ (ns : List Int) (st : Int), H b = some (.lst [.ref l, .int st]) ∧ H l = some (.lst (ns.map V.int))
theorem BoxAt.ne {H : Hp} {b l : Addr} (x : BoxAt H b l) : b ≠ l := by
  obtain ⟨ns, st, h1, h2⟩ := x
  refine ne_of h1 h2 fun e => ?_
  injection e with e
  cases ns with
  | nil => cases e
  | cons n r => injection e with e _; cases e
/-- the box was drawn from; what else stood, stands -/
structure Bxd (b l : Addr) (H H' : Hp) : Prop where
  box : BoxAt H' b l
  at' : ∀ a o, a ≠ b → a ≠ l → H a = some o → H' a = some o
theorem Bxd.refl {b l : Addr} {H : Hp} (x : BoxAt H b l) : Bxd b l H H := ⟨x, fun _ _ _ _ h => h⟩
theorem Bxd.trans {b l : Addr} {H H1 H2 : Hp} (x : Bxd b l H H1) (y : Bxd b l H1 H2) : Bxd b l H H2 := ⟨y.box, fun a o h1 h2 h => y.at' a o h1 h2 (x.at' a o h1 h2 h)⟩
theorem BoxAt.kp {b l : Addr} {H H' : Hp} (x : BoxAt H b l) (k1 : ∀ o, H b = some o → H' b = some o) (k2 : ∀ o, H l = some o → H' l = some o) : BoxAt H' b l := by
  obtain ⟨ns, st, h1, h2⟩ := x
  exact ⟨ns, st, k1 _ h1, k2 _ h2⟩
theorem BoxAt.same {b l : Addr} {H H' : Hp} (x : BoxAt H b l) (s : Same H H') : BoxAt H' b l := x.kp (fun o => s b o) fun o => s l o
theorem Bxd.same {b l : Addr} {H H' : Hp} (x : BoxAt H b l) (s : Same H H') : Bxd b l H H' := ⟨x.same s, fun a o _ _ h => s a o h⟩
theorem Bxd.new {b l p : Addr} {H H' : Hp} (x : Bxd b l H H') (bx : BoxAt H b l) (h : H' p = none) : H p = none := by
  cases q : H p with
  | none => rfl
  | some o =>
    obtain ⟨ns, st, h1, h2⟩ := x.box
    by_cases e1 : p = b
    · rw [e1, h1] at h; cases h
    · by_cases e2 : p = l
      · rw [e2, h2] at h; cases h
      · rw [x.at' p o e1 e2 q] at h; cases h
/-- a tuple stays, a list of other things too -/
theorem BoxAt.tup {H : Hp} {b l t : Addr} {xs : List V} (x : BoxAt H b l) (h : H t = some (.tup xs)) : t ≠ b ∧ t ≠ l := by
  obtain ⟨ns, st, h1, h2⟩ := x
  exact ⟨ne_of h h1 (fun e => nomatch e), ne_of h h2 (fun e => nomatch e)⟩
theorem Bxd.tup {H H' : Hp} {b l t : Addr} {xs : List V} (x : Bxd b l H H') (bx : BoxAt H b l) (h : H t = some (.tup xs)) : H' t = some (.tup xs) := x.at' t _ (bx.tup h).1 (bx.tup h).2 h
theorem Bxd.tab {H H' : Hp} {b l P : Addr} (x : Bxd b l H H') (bx : BoxAt H b l) (t : GxR.TabG H P) : GxR.TabG H' P := by
  obtain ⟨ps, h1, h2⟩ := t
  obtain ⟨ns, st, q1, q2⟩ := bx
  exact ⟨ps, x.at' P _ (ne_of h1 q1 fun e => nomatch e) (ne_of h1 q2 fun e => nomatch e) h1, h2⟩
theorem BoxAt.kpP {b l P : Addr} {H H' : Hp} (x : BoxAt H b l) (t : GxR.TabG H P) (k : Kp P H H') : BoxAt H' b l := by
  obtain ⟨ns, st, h1, h2⟩ := x
  exact ⟨ns, st, k.get t h1 (fun _ e => nomatch e), k.get t h2 (fun _ e => nomatch e)⟩

/-! ### the promises of the law's own helpers -/
def spTake : Sp := fun vs H Q _ => ∃ (b l : Addr) (m : Int), vs = [.ref b, .int m] ∧ BoxAt H b l ∧ 0 < m ∧ m.natAbs < 2 ^ 250 ∧
  ∀ v H', 0 ≤ v → v < m → Bxd b l H H' → Q (.int v) H'
def spBegun (K : PySem.W.Frag) : Sp := fun vs H Q _ => ∃ (a : Addr) (ns : List Int), vs = [.ref a] ∧ SqL K H a (ns.map V.int) ∧ ns.length ≤ 63 ∧
  ∀ b l H', Same H H' → BoxAt H' b l → H b = none → H l = none → Q (.ref b) H'
def spAlike : Sp := fun vs H Q _ => ((∃ s : Str, vs = [.str s, .str s]) ∨ ∃ i : Int, vs = [.int i, .int i]) ∧ Q (.bl true) H
/-- the list of one-sign texts -/
def sgs (ps : List Nat) : List V := (ps.map sg).map V.str
def spPicked : Sp := fun vs H Q _ => ∃ (b l : Addr) (z : Str) (m : Nat), vs = [.ref b, .str z, .int m] ∧ BoxAt H b l ∧ z.cps.size ≤ 1000 ∧ m ≤ z.cps.size ∧
  ∀ (D : Addr) (ps rest : List Nat) H', (ps ++ rest).Perm z.cps.toList → ps.length = m → Bxd b l H H' → H D = none → H' D = some (.lst (sgs ps)) → Q (.ref D) H'
/-- a sheet that can be -/
structure Good (z o : Str) (hm : V) : Prop where
  len : o.cps.size = z.cps.size
  pos : 1 ≤ z.cps.size
  le : z.cps.size ≤ 26
  nz : z.cps.toList.Nodup
  no : o.cps.toList.Nodup
  pz : ∀ c ∈ z.cps.toList, 32 ≤ c ∧ c ≤ 126
  po : ∀ c ∈ o.cps.toList, 32 ≤ c ∧ c ≤ 126
  home : hm = .non ∨ ∃ h : Nat, hm = .int h ∧ h < z.cps.size
/-- the sheet stands at t -/
def Sh (H : Hp) (t : Addr) (z o : Str) (hm : V) : Prop := H t = some (.tup [.str z, .str o, hm])
def spSheet : Sp := fun vs H Q _ => ∃ (b l : Addr) (most : Nat), vs = [.ref b, .int most] ∧ BoxAt H b l ∧ 1 ≤ most ∧ most ≤ 26 ∧
  ∀ t z o hm H', Good z o hm → z.cps.size ≤ most → Bxd b l H H' → H t = none → Sh H' t z o hm → Q (.ref t) H'
/-- codes of a sheet of n -/
def Codes (n : Nat) (cs : List Int) : Prop := ∀ c ∈ cs, 0 ≤ c ∧ c < (n : Int) + 2
def spTape : Sp := fun vs H Q _ => ∃ (b l t : Addr) (z o : Str) (hm : V) (most : Nat), vs = [.ref b, .ref t, .int most] ∧ BoxAt H b l ∧ Good z o hm ∧ Sh H t z o hm ∧ most ≤ 100 ∧
  ∀ (D : Addr) (cs : List Int) H', cs.length ≤ most → Codes z.cps.size cs → Bxd b l H H' → H D = none → H' D = some (.lst (cs.map V.int)) → Q (.ref D) H'

/-! ### reading -/
def rdStep (z o : Str) (hm : V) (s : Str × Int) (c : Int) : Str × Int :=
  if (z.cps.size : Int) ≤ c then (s.1, c - z.cps.size)
  else (s.1 ++ sg ((if s.2 = 0 then z else o).cps.toList.getD c.toNat 0), if V.int c = hm then 0 else s.2)
def rd (z o : Str) (hm : V) (cs : List Int) (b : Int) : Str × Int := cs.foldl (rdStep z o hm) (Str.ofString "", b)
def Is01 (b : Int) : Prop := b = 0 ∨ b = 1
theorem rd_snoc (z o : Str) (hm : V) (cs : List Int) (b c : Int) : rd z o hm (cs ++ [c]) b = rdStep z o hm (rd z o hm cs b) c := by
  unfold rd; rw [List.foldl_append]; rfl
theorem rd_take {z o : Str} {hm : V} {cs : List Int} {b c : Int} {i : Nat} (h : cs[i]? = some c) : rd z o hm (cs.take (i + 1)) b = rdStep z o hm (rd z o hm (cs.take i) b) c := by
  rw [List.take_add_one, h]; exact rd_snoc ..
theorem sg_len (c : Nat) : (sg c).length = 1 := rfl
theorem rdStep_ok {z o : Str} {hm : V} (s : Str × Int) {c : Int} (h1 : Is01 s.2) (h2 : 0 ≤ c ∧ c < (z.cps.size : Int) + 2) :
    Is01 (rdStep z o hm s c).2 ∧ (rdStep z o hm s c).1.length ≤ s.1.length + 1 := by
  unfold rdStep
  by_cases h : (z.cps.size : Int) ≤ c
  · rw [if_pos h]
    refine ⟨?_, Nat.le_succ _⟩
    show c - z.cps.size = 0 ∨ c - z.cps.size = 1
    omega
  · rw [if_neg h]
    refine ⟨?_, ?_⟩
    · show Is01 (if V.int c = hm then 0 else s.2)
      split
      · exact .inl rfl
      · exact h1
    · show (s.1 ++ sg _).length ≤ _
      rw [Str.length_append, sg_len]; exact Nat.le_refl _
theorem rd_ok {z o : Str} {hm : V} {b : Int} (hb : Is01 b) : ∀ {cs : List Int}, Codes z.cps.size cs → ∀ i, Is01 (rd z o hm (cs.take i) b).2 ∧ (rd z o hm (cs.take i) b).1.length ≤ i := by
  intro cs hc i
  induction i with
  | zero => exact ⟨hb, by rw [List.take_zero]; exact Nat.le_refl _⟩
  | succ i ih =>
    cases h : cs[i]? with
    | none =>
      have e : cs.take (i + 1) = cs.take i := by
        rw [List.take_add_one, h]; simp
      rw [e]; exact ⟨ih.1, Nat.le_succ_of_le ih.2⟩
    | some c =>
      rw [rd_take h]
      have := rdStep_ok (hm := hm) (o := o) (rd z o hm (cs.take i) b) ih.1 (hc c (List.mem_of_getElem? h))
      exact ⟨this.1, Nat.le_trans this.2 (Nat.succ_le_succ ih.2)⟩
/-- the law's own read, and the program's before its checks -/
def spRd (K : PySem.W.Frag) : Sp := fun vs H Q _ => ∃ (t a : Addr) (z o : Str) (hm : V) (cs : List Int) (b : Int), vs = [.ref t, .ref a, .int b] ∧ Good z o hm ∧ Sh H t z o hm ∧ SqL K H a (cs.map V.int) ∧ Codes z.cps.size cs ∧ cs.length ≤ 1000 ∧ Is01 b ∧
  ∀ p H', Same H H' → H p = none → H' p = some (.tup [.str (rd z o hm cs b).1, .int (rd z o hm cs b).2]) → Q (.ref p) H'
end Kt
namespace Kt
open PySem PySem.Spec PyProof.Rows L2
theorem joinL_one : ∀ ps : List Nat, TL.joinL [] (ps.map fun c => [c]) = ps
  | [] => rfl
  | [c] => rfl
  | c :: d :: r => by
    have ih := joinL_one (d :: r)
    show [c] ++ ([] ++ TL.joinL [] ((d :: r).map fun c => [c])) = c :: d :: r
    rw [ih]; rfl
theorem join_sg (ps : List Nat) : Txt.join (Str.ofString "") (ps.map sg) = ⟨ps.toArray⟩ := by
  rw [TL.join_eq]
  have e := TL.tl_join (Str.ofString "") (ps.map sg)
  have e0 : TL.tl (Str.ofString "") = [] := by decide +kernel
  have e1 : (ps.map sg).map TL.tl = ps.map fun c => [c] := by
    rw [List.map_map]; rfl
  rw [e0, e1, joinL_one] at e
  generalize Str.join (Str.ofString "") (ps.map sg) = s at e
  obtain ⟨a⟩ := s
  have e2 : a.toList = ps := e
  rw [← e2]
/-- the signs that a sheet's set is picked from -/
def SOk (s : Str) : Bool := decide (s.cps.toList.Nodup) && s.cps.toList.all (fun c => decide (32 ≤ c) && decide (c ≤ 126)) && decide (26 ≤ s.cps.size) && decide (s.cps.size ≤ 1000)
theorem SOk.elim {s : Str} (h : SOk s = true) : s.cps.toList.Nodup ∧ (∀ c ∈ s.cps.toList, 32 ≤ c ∧ c ≤ 126) ∧ 26 ≤ s.cps.size ∧ s.cps.size ≤ 1000 := by
  unfold SOk at h
  simp only [Bool.and_eq_true, decide_eq_true_eq, List.all_eq_true] at h
  exact ⟨h.1.1.1, h.1.1.2, h.1.2, h.2⟩
theorem picked_ok {s : Str} {ps rest : List Nat} (h : SOk s = true) (p : (ps ++ rest).Perm s.cps.toList) : ps.Nodup ∧ ∀ c ∈ ps, 32 ≤ c ∧ c ≤ 126 := by
  obtain ⟨h1, h2, _⟩ := SOk.elim h
  refine ⟨(List.nodup_append.mp (p.nodup_iff.mpr h1)).1, fun c hc => h2 c (p.mem_iff.mp (List.mem_append_left _ hc))⟩
theorem sgs_len (ps : List Nat) : (sgs ps).length = ps.length := by simp [sgs]
theorem sgs_at {ps : List Nat} {i : Nat} {c : Nat} (h : ps[i]? = some c) : (sgs ps)[i]? = some (.str (sg c)) := map_at (map_at h)
theorem sgs_flat (ps : List Nat) : (sgs ps).all flatV = true := by
  unfold sgs
  rw [List.all_eq_true]
  intro v hv
  obtain ⟨s, _, rfl⟩ := List.mem_map.mp hv
  rfl
theorem sgs_in (c : Nat) (ps : List Nat) : inV (.str (sg c)) (sgs ps) = decide (c ∈ ps) := by
  unfold inV sgs
  rw [Bool.eq_iff_iff, List.any_eq_true, decide_eq_true_eq]
  constructor
  · rintro ⟨v, hv, e⟩
    obtain ⟨s, hs, rfl⟩ := List.mem_map.mp hv
    obtain ⟨d, hd, rfl⟩ := List.mem_map.mp hs
    have e1 : (sg d == sg c) = true := e
    rw [← sg_inj (eq_of_beq e1)]
    exact hd
  · intro h
    refine ⟨.str (sg c), List.mem_map.mpr ⟨_, List.mem_map.mpr ⟨c, h, rfl⟩, rfl⟩, ?_⟩
    show (sg c == sg c) = true
    exact beq_self_eq_true _
theorem sgs_set (ps : List Nat) (i c : Nat) : (sgs ps).set i (.str (sg c)) = sgs (ps.set i c) := by
  unfold sgs; rw [List.map_set, List.map_set]
theorem nodup_set : ∀ {ps : List Nat} {i c : Nat}, ps.Nodup → c ∉ ps → (ps.set i c).Nodup
  | [], _, _, h, _ => h
  | a :: r, 0, c, h, hc => by
    rw [List.set_cons_zero]
    exact List.nodup_cons.mpr ⟨fun m => hc (List.mem_cons_of_mem _ m), (List.nodup_cons.mp h).2⟩
  | a :: r, i + 1, c, h, hc => by
    rw [List.set_cons_succ]
    obtain ⟨h1, h2⟩ := List.nodup_cons.mp h
    refine List.nodup_cons.mpr ⟨fun m => ?_, nodup_set h2 fun m => hc (List.mem_cons_of_mem _ m)⟩
    rcases List.mem_or_eq_of_mem_set m with q | q
    · exact h1 q
    · exact hc (q ▸ List.mem_cons_self)
theorem mem_set_or {α : Type} {ps : List α} {i : Nat} {c d : α} (h : d ∈ ps.set i c) : d ∈ ps ∨ d = c := List.mem_or_eq_of_mem_set h
theorem ix_pick {K : PySem.W.Frag} {H : Hp} {p : Addr} {s0 s1 : Str} {x : Int} {Q : VK} (hx : x = 0 ∨ x = 1) (hs : SqL K H p [.str s0, .str s1]) (k0 : SOk s0 = true) (k1 : SOk s1 = true)
    (h : ∀ s, SOk s = true → Q (.str s) H) : rIxL K (.ref p) (.int x) H Q := by
  rcases hx with e | e <;> rw [e]
  · exact ⟨p, _, 0, _, rfl, rfl, hs, atI_nat (j := 0) rfl, h s0 k0⟩
  · exact ⟨p, _, 1, _, rfl, rfl, hs, atI_nat (j := 1) rfl, h s1 k1⟩
theorem atI_nd {l : List Nat} {c : Int} (h : 0 ≤ c ∧ c < (l.length : Int)) : atI l c = some (l.getD c.toNat 0) := by
  obtain ⟨j, rfl⟩ := Int.eq_ofNat_of_zero_le h.1
  refine atI_nat ?_
  have hj : j < l.length := by omega
  rw [Int.toNat_natCast, List.getD_eq_getElem?_getD, List.getElem?_eq_getElem hj]
  rfl
theorem iteTd {p A B : Prop} [Decidable p] (h : p) (a : A) : if decide p = true then A else B := by rw [if_pos (decide_eq_true h)]; exact a
theorem iteFd {p A B : Prop} [Decidable p] (h : ¬ p) (a : B) : if decide p = true then A else B := by rw [if_neg (by simpa using h)]; exact a
end Kt
namespace Kt
open PySem PySem.Spec PyProof.Rows L2
theorem genS_by {env : Env} {scope : Scope} {x : Str} (h1 : scope.kind = .function) (h2 : scope.isCoroutine = false) (h3 : (scope.names.all fun y => !decide (y.2 = .cell) && !decide (y.2 = .free)) = true)
    (h4 : scope.names.lookup (".0" : Str) = some NameKind.local) (h5 : scope.names.lookup x = some .local) : GxR.GenS env scope x := by
  rw [List.all_eq_true] at h3
  refine ⟨h1, h2, fun y hy e => ?_, h4, h5, fun y hy e => ?_⟩
  · have := h3 y hy; rw [e] at this; simp at this
  · have := h3 y hy; rw [e] at this; simp at this
theorem tabbed_refl {P : Addr} {H : Hp} (t : GxR.TabG H P) : GxR.Tabbed P H H := ⟨t, fun _ _ => rfl⟩
/-- whether all signs are between the blank and the tilde -/
def spSigns (P : Addr) : Sp := fun vs H Q _ => ∃ z : Str, vs = [.str z] ∧ GxR.TabG H P ∧ ∀ H', GxR.Tabbed P H H' → Q (.bl (z.cps.toList.all fun c => decide (32 ≤ c ∧ c ≤ 126))) H'
/-- a set of signs that can be -/
def spCan (P : Addr) : Sp := fun vs H Q _ => ∃ z : Str, vs = [.str z] ∧ z.cps.size ≤ 1000 ∧ z.cps.toList.Nodup ∧ (∀ c ∈ z.cps.toList, 32 ≤ c ∧ c ≤ 126) ∧ GxR.TabG H P ∧ ∀ H', GxR.Tabbed P H H' → Q (.bl true) H'
def spCheckSheet (P : Addr) : Sp := fun vs H Q _ => ∃ (t : Addr) (z o : Str) (hm : V), vs = [.ref t] ∧ Good z o hm ∧ Sh H t z o hm ∧ GxR.TabG H P ∧ ∀ H', Kp P H H' → Q .non H'
def spCheckTape (K : PySem.W.Frag) : Sp := fun vs H Q _ => ∃ (t a : Addr) (z o : Str) (hm : V) (cs : List Int), vs = [.ref t, .ref a] ∧ Good z o hm ∧ Sh H t z o hm ∧ SqL K H a (cs.map V.int) ∧ Codes z.cps.size cs ∧ cs.length ≤ 100 ∧ ∀ H', Same H H' → Q .non H'
def spCheckSet : Sp := fun vs H Q _ => ∃ b : Int, vs = [.int b] ∧ Is01 b ∧ Q .non H
def behind (z : Str) (hm : V) (c nw : Int) : Int := if (z.cps.size : Int) ≤ c then c - z.cps.size else if V.int c = hm then 0 else nw
def spBehind : Sp := fun vs H Q _ => ∃ (t : Addr) (z o : Str) (hm : V) (c nw : Int), vs = [.ref t, .int c, .int nw] ∧ Good z o hm ∧ Sh H t z o hm ∧ Q (.int (behind z hm c nw)) H
def spBegun3 (K : PySem.W.Frag) (P : Addr) : Sp := fun vs H Q _ => ∃ (t a : Addr) (z o : Str) (hm : V) (cs : List Int) (b : Int), vs = [.ref t, .ref a, .int b] ∧ Good z o hm ∧ Sh H t z o hm ∧ SqL K H a (cs.map V.int) ∧ Codes z.cps.size cs ∧ cs.length ≤ 100 ∧ Is01 b ∧ GxR.TabG H P ∧
  ∀ H', Kp P H H' → Q .non H'
def spRead (K : PySem.W.Frag) (P : Addr) (last : Bool) : Sp := fun vs H Q _ => ∃ (t a : Addr) (z o : Str) (hm : V) (cs : List Int) (b : Int), vs = [.ref t, .ref a, .int b] ∧ Good z o hm ∧ Sh H t z o hm ∧ SqL K H a (cs.map V.int) ∧ Codes z.cps.size cs ∧ cs.length ≤ 100 ∧ Is01 b ∧ GxR.TabG H P ∧
  ∀ H', Kp P H H' → Q (if last then .int (rd z o hm cs b).2 else .str (rd z o hm cs b).1) H'
theorem rdStep_snd (z o : Str) (hm : V) (s : Str × Int) (c : Int) : (rdStep z o hm s c).2 = behind z hm c s.2 := by
  unfold rdStep behind
  by_cases h : (z.cps.size : Int) ≤ c
  · rw [if_pos h, if_pos h]
  · rw [if_neg h, if_neg h]
theorem tabIn_of {K : PySem.W.Frag} {x : Str} {f c P : Addr} {oc oc' : Value} {od od' : Option Addr} {fd : FuncData} {sl sl' : Array (Option Value)} {vs : Array Value} (a : PySem.W.nsIn K mainGlobals x = some (some (.ref f)))
    (l : K.lookup f = some ⟨oc, od, .func fd, sl⟩) (hc : fd.code = .ref c) (lc : K.lookup c = some ⟨oc', od', .fields vs, sl'⟩) (hv : (vs[11]? : Option Value) = some (.ref P)) : PySem.W.tabIn K x = some (c, P) := by
  unfold PySem.W.tabIn
  rw [a]
  simp only [l, hc, lc, hv]
end Kt
namespace Kt
open PySem PySem.Spec PyProof.Rows L2
/-! ### tapes in order: by length, then as lists ascend -/
def lx : List Int → List Int → Bool
  | _, [] => false
  | [], _ :: _ => true
  | x :: a, y :: b => if x = y then lx a b else decide (x < y)
/-- the datum of the key -/
def keyD (a : List Int) : PyData := .tuple [.int (a.length : Nat), .list (a.map PyData.int)]
def ltK (a b : List Int) : Bool := if a.length = b.length then lx a b else decide (a.length < b.length)
theorem alikeAll_ints : ∀ a b : List Int, PySem.W.alikeAll (a.map PyData.int) (b.map PyData.int) = true
  | [], b => by simp [PySem.W.alikeAll]
  | x :: a, [] => by simp [PySem.W.alikeAll]
  | x :: a, y :: b => by simp [PySem.W.alikeAll, PySem.W.alike, alikeAll_ints a b]
theorem dl_nil_cons (y : PyData) (ys : List PyData) : PyProof.Rows.lexLt PyProof.Rows.itemOrd (PySem.W.keyToksAll []) (PySem.W.keyToksAll (y :: ys)) = true := by
  simp only [PySem.W.keyToksAll]
  rw [PySem.W.lex_atom (by intro h; injection h with h; exact absurd h (by decide))]
  exact (PySem.W.dataLt_int 0 1).trans (by decide)
theorem dl_cons_nil (y : PyData) (ys : List PyData) : PyProof.Rows.lexLt PyProof.Rows.itemOrd (PySem.W.keyToksAll (y :: ys)) (PySem.W.keyToksAll []) = false := by
  simp only [PySem.W.keyToksAll]
  rw [PySem.W.lex_atom (by intro h; injection h with h; exact absurd h (by decide))]
  exact (PySem.W.dataLt_int 1 0).trans (by decide)
theorem dl_nil_nil : PyProof.Rows.lexLt PyProof.Rows.itemOrd (PySem.W.keyToksAll []) (PySem.W.keyToksAll []) = false := (PySem.W.dataLt_list [] []).symm.trans (PyProof.Rows.lex_irrefl _)
theorem dl_ints : ∀ a b : List Int, PyProof.Rows.lexLt PyProof.Rows.itemOrd (PySem.W.keyToksAll (a.map PyData.int)) (PySem.W.keyToksAll (b.map PyData.int)) = lx a b
  | [], [] => dl_nil_nil
  | [], y :: b => dl_nil_cons _ _
  | x :: a, [] => dl_cons_nil _ _
  | x :: a, y :: b => by
    have ih := dl_ints a b
    rw [List.map_cons, List.map_cons]
    unfold lx
    by_cases e : x = y
    · rw [if_pos e, PySem.W.dataLt_all_yes (by simp [PySem.W.alike]) (by simp [PyData.eqv, e])]
      exact ih
    · rw [if_neg e, PySem.W.dataLt_all_no (by simp [PySem.W.alike]) (by simp [PyData.eqv, e])]
      exact PySem.W.dataLt_int x y
theorem lx_irrefl : ∀ a : List Int, lx a a = false
  | [] => rfl
  | x :: a => by
    unfold lx
    rw [if_pos rfl]; exact lx_irrefl a
theorem keyD_lt (a b : List Int) : PySem.W.dataLt (keyD a) (keyD b) = ltK a b := by
  unfold keyD ltK
  rw [PySem.W.dataLt_tuple]
  by_cases e : a.length = b.length
  · rw [if_pos e, PySem.W.dataLt_all_yes (by simp [PySem.W.alike]) (by simp [PyData.eqv, e])]
    cases h : PyData.eqv (.list (a.map PyData.int)) (.list (b.map PyData.int)) with
    | true =>
      rw [PySem.W.dataLt_all_yes (by simp only [PySem.W.alike]; exact alikeAll_ints a b) h, dl_nil_nil]
      rw [eqv_ints] at h
      rw [of_decide_eq_true h, lx_irrefl]
    | false =>
      rw [PySem.W.dataLt_all_no (by simp only [PySem.W.alike]; exact alikeAll_ints a b) h, PySem.W.dataLt_list]
      exact dl_ints a b
  · rw [if_neg e, PySem.W.dataLt_all_no (by simp [PySem.W.alike]) (by simp [PyData.eqv]; omega), PySem.W.dataLt_int]
    exact decide_eq_decide.mpr (by omega)
theorem keyD_alike (a b : List Int) : PySem.W.alike (keyD a) (keyD b) = true := by
  unfold keyD
  simp [PySem.W.alike, PySem.W.alikeAll, alikeAll_ints]
theorem keyD_depth (a : List Int) : PyData.depth (keyD a) ≤ 3 := by
  have h := PySem.W.depthAll_ints a
  unfold keyD
  simp only [PyData.depth, PyData.depthAll]
  omega

/-! ### min(tapes, key = ..) over the heap -/
/-- all that stood stands -/
def Ext (h h' : Heap) : Prop := ∀ b o, h.get? b = some o → h'.get? b = some o
/-- the key of the tape ns, that stands at a -/
def KeyAt (h : Heap) (a : Addr) (ns : List Int) (v : Value) : Prop := ∃ T t n, v = .ref T ∧ h.get? T = some (seqObj "tuple" #[.int (ns.length : Nat) t, .ref a] n)
def TapeAt (h : Heap) (a : Addr) (ns : List Int) : Prop := ∃ vs, h.IsList a vs ∧ IntsAre vs.toList ns
theorem TapeAt.ext {h h' : Heap} {a : Addr} {ns : List Int} (x : TapeAt h a ns) (e : Ext h h') : TapeAt h' a ns := let ⟨vs, l, i⟩ := x; ⟨vs, l.at fun o q => e _ o q, i⟩
theorem KeyAt.ext {h h' : Heap} {a : Addr} {ns : List Int} {v : Value} (x : KeyAt h a ns v) (e : Ext h h') : KeyAt h' a ns v := let ⟨T, t, n, q, k⟩ := x; ⟨T, t, n, q, e _ _ k⟩
theorem KeyAt.reads {h : Heap} {a : Addr} {ns : List Int} {v : Value} (x : KeyAt h a ns v) (y : TapeAt h a ns) : ∃ as, Reads h v (keyD ns) as := by
  obtain ⟨T, t, n, rfl, k⟩ := x
  obtain ⟨vs, ⟨o, ho, hc, m, hd⟩, hi⟩ := y
  exact ⟨_, Reads.tuple k rfl rfl (.cons (.int _ _) (.cons (.list ho hc hd (PySem.W.readsAll_of_ints (h := h) hi)) .nil))⟩
end Kt
namespace Kt
open PySem PySem.Spec PyProof.Rows L2
theorem lx_trans : ∀ {a b c : List Int}, lx a b = true → lx b c = true → lx a c = true
  | _, [], _, h, _ => by unfold lx at h; cases h
  | _, _ :: _, [], _, h => by unfold lx at h; cases h
  | [], y :: b, z :: c, _, _ => rfl
  | x :: a, y :: b, z :: c, h1, h2 => by
    unfold lx at h1 h2 ⊢
    by_cases e1 : x = y
    · subst e1
      rw [if_pos rfl] at h1
      by_cases e2 : x = z
      · rw [if_pos e2] at h2 ⊢
        exact lx_trans h1 h2
      · rw [if_neg e2] at h2 ⊢
        exact h2
    · rw [if_neg e1] at h1
      have h1 := of_decide_eq_true h1
      by_cases e2 : y = z
      · subst e2
        rw [if_neg e1]; exact decide_eq_true h1
      · rw [if_neg e2] at h2
        have h2 := of_decide_eq_true h2
        rw [if_neg (by omega)]
        exact decide_eq_true (by omega)
theorem lx_tri : ∀ {a b : List Int}, lx a b = false → a = b ∨ lx b a = true
  | [], [], _ => .inl rfl
  | x :: a, [], _ => .inr rfl
  | [], y :: b, h => by unfold lx at h; cases h
  | x :: a, y :: b, h => by
    unfold lx at h ⊢
    by_cases e : x = y
    · subst e
      rw [if_pos rfl] at h ⊢
      rcases lx_tri h with q | q
      · exact .inl (by rw [q])
      · exact .inr q
    · rw [if_neg e] at h
      rw [if_neg (Ne.symm e)]
      have := of_decide_eq_false h
      exact .inr (decide_eq_true (by omega))
theorem ltK_trans {a b c : List Int} (h1 : ltK a b = true) (h2 : ltK b c = true) : ltK a c = true := by
  unfold ltK at h1 h2 ⊢
  by_cases e1 : a.length = b.length <;> by_cases e2 : b.length = c.length
  · rw [if_pos e1] at h1; rw [if_pos e2] at h2; rw [if_pos (e1.trans e2)]; exact lx_trans h1 h2
  · rw [if_neg e2] at h2; rw [if_neg (by omega)]; have := of_decide_eq_true h2; exact decide_eq_true (by omega)
  · rw [if_neg e1] at h1; rw [if_neg (by omega)]; have := of_decide_eq_true h1; exact decide_eq_true (by omega)
  · rw [if_neg e1] at h1; rw [if_neg e2] at h2
    have := of_decide_eq_true h1; have := of_decide_eq_true h2
    rw [if_neg (by omega)]; exact decide_eq_true (by omega)
theorem ltK_tri {a b : List Int} (h : ltK a b = false) : a = b ∨ ltK b a = true := by
  unfold ltK at h ⊢
  by_cases e : a.length = b.length
  · rw [if_pos e] at h; rw [if_pos e.symm]; exact lx_tri h
  · rw [if_neg e] at h; rw [if_neg (Ne.symm e)]
    have := of_decide_eq_false h
    exact .inr (decide_eq_true (by omega))
theorem ltK_irrefl (a : List Int) : ltK a a = false := by
  unfold ltK; rw [if_pos rfl]; exact lx_irrefl a

section
variable {prog : Program} {w : World} {A : Around} {E : Value → Shared → Prop} {s : Shared} {R : Result → Shared → Prop}
/-- the i-th tape is the first least of those up to j -/
def Best (tp : Nat → List Int) (i j : Nat) : Prop := i ≤ j ∧ ∀ k, k ≤ j → ltK (tp k) (tp i) = false ∧ (k < i → ltK (tp i) (tp k) = true)
theorem Best.keep {tp : Nat → List Int} {i j : Nat} (b : Best tp i j) (h : ltK (tp (j + 1)) (tp i) = false) : Best tp i (j + 1) := by
  refine ⟨Nat.le_succ_of_le b.1, fun k hk => ?_⟩
  by_cases e : k = j + 1
  · subst e
    exact ⟨h, fun q => absurd b.1 (by omega)⟩
  · exact b.2 k (by omega)
theorem Best.next {tp : Nat → List Int} {i j : Nat} (b : Best tp i j) (h : ltK (tp (j + 1)) (tp i) = true) : Best tp (j + 1) (j + 1) := by
  have all : ∀ k, k ≤ j → ltK (tp (j + 1)) (tp k) = true := fun k hk => by
    rcases ltK_tri (b.2 k hk).1 with e | e
    · rw [e]; exact h
    · exact ltK_trans h e
  refine ⟨Nat.le_refl _, fun k hk => ?_⟩
  by_cases e : k = j + 1
  · subst e
    exact ⟨ltK_irrefl _, fun q => absurd q (Nat.lt_irrefl _)⟩
  · have q := all k (by omega)
    refine ⟨?_, fun _ => q⟩
    cases z : ltK (tp k) (tp (j + 1)) with
    | false => rfl
    | true => rw [← ltK_irrefl (tp k), ltK_trans z q]
/-- what the loop of min over tapes knows: the heap at its start, the list, the key, the iterator, the best so far -/
structure MinW (prog : Program) (w : World) (A : Around) (s : Shared) (h0 : Heap) (l f J S : Addr) (as : List Addr) (tp : Nat → List Int) : Prop where
  hh : A.handled = none
  hu : A.units + 80 < cLine
  list : h0.IsList l (as.map Value.ref).toArray
  tapes : ∀ i a, as[i]? = some a → TapeAt h0 a (tp i)
  lJ : l ≠ J
  SJ : S ≠ J
  nJ : h0.get? J = none
  nS : h0.get? S = none
  key : ∀ i a, as[i]? = some a → ∀ h tk, Ext h0 h → wpAny (model prog w) A.in1 (call (.ref f) [.ref a]) (fun v s' => ∃ h' tk', s' = { s with heap := h', toks := tk' } ∧ Ext h h' ∧ KeyAt h' a (tp i) v) (fun _ _ => False) { s with heap := h, toks := tk }
set_option maxHeartbeats 4000000 in
theorem minLoop {h0 : Heap} {l f J S : Addr} {as : List Addr} {tp : Nat → List Int} (M : MinW prog w A s h0 l f J S as tp)
    (fin : ∀ i a h' tk', as[i]? = some a → Best tp i (as.length - 1) → Ext h0 h' → R (.ok (.ret (.ref a))) { s with heap := h', toks := tk' }) :
    ∀ (r j i : Nat) (h : Heap) (tk : Nat) (b : Addr) (kv : Value) (c : Nat), as.length - (j + 1) = r → j + 1 ≤ as.length → Ext h0 h → h.get? S = some (seqObj "list" #[.ref b, kv] c) → h.IsListIter J l (j + 1) → KeyAt h b (tp i) kv → as[i]? = some b → Best tp i j →
      codeAny (model prog w) A (.builtin "min.loop" ⟨[.ref J, .ref f, .ref S], []⟩) R { s with heap := h, toks := tk } := by
  have nm : (toString "min" ++ toString ".loop" : String) = "min.loop" := by decide
  have W := Walks.list (prog := prog) (w := w) (A := A.in1) M.hh J l M.lJ (as.map Value.ref).toArray
  have size : (as.map Value.ref).toArray.size = as.length := by simp
  have keepJ : ∀ {h h' : Heap}, Ext h0 h → (∀ b o, b ∉ [J] → h.get? b = some o → h'.get? b = some o) → Ext h0 h' := fun e k b o q => k b o (fun z => by
    rw [List.mem_singleton.mp z, M.nJ] at q; cases q) (e b o q)
  have keepS : ∀ {h h' : Heap}, Ext h0 h → Heap.SameBut S h h' → Ext h0 h' := fun e k b o q => (k.2 b (fun z => by
    rw [z, M.nS] at q; cases q)).trans (e b o q)
  intro r
  induction r with
  | zero =>
    intro j i h tk b kv c hr hj e hS hit hk hb best
    obtain rfl : j = as.length - 1 := by omega
    refine codeAny_builtin PySem.F.entry_min_loop ?_
    rw [Around.under_plainId PySem.F.plain_min_loop _]
    refine wpAny_bind (m := seqItems? (.ref S)) (wpAny_seqItems hS rfl ?_)
    refine wpAny_bind (wpAny_tryCatch (W.done _ _ _ ⟨by rw [size, ← show as.length - 1 + 1 = as.length by omega]; exact hit, M.list.at fun o q => e _ o q⟩ fun h' tk' k => ?_))
    have S' := k S _ (by simpa using M.SJ) hS
    have sb := Heap.SameBut.update h' S (Obj.mapSeq fun _ => (#[] : Array Value))
    refine wpAny_bind (m := updateSeq S (fun _ => #[])) ?_
    refine wpAny_updateSeq S' rfl (wpAny_bind (wpAny_letGo (wpAny_pure ?_)))
    exact fin i b _ _ hb best (keepS (keepJ e k) sb)
  | succ r ih =>
    intro j i h tk b kv c hr hj e hS hit hk hb best
    have lt : j + 1 < as.length := by omega
    refine codeAny_builtin PySem.F.entry_min_loop ?_
    rw [Around.under_plainId PySem.F.plain_min_loop _]
    refine wpAny_bind (m := seqItems? (.ref S)) (wpAny_seqItems hS rfl ?_)
    refine wpAny_bind (wpAny_tryCatch (W.item (j + 1) _ _ _ (by rw [size]; exact lt) ⟨hit, M.list.at fun o q => e _ o q⟩ fun v h1 tk1 hv st k => ?_))
    obtain ⟨d, hd, rfl⟩ : ∃ d, as[j + 1]? = some d ∧ v = .ref d := by
      have q : (as.map Value.ref)[j + 1]? = some v := by simpa using hv
      obtain ⟨d, q1, q2⟩ := at_map q
      exact ⟨d, q1, q2⟩
    have e1 := keepJ e k
    have S1 := k S _ (by simpa using M.SJ) hS
    have k1 : KeyAt h1 b (tp i) kv := by
      obtain ⟨T, t, n, q, z⟩ := hk
      refine ⟨T, t, n, q, k T _ (fun y => ?_) z⟩
      obtain ⟨oJ, y1, y2, _⟩ := hit
      rw [List.mem_singleton.mp y, y1] at z
      rw [Option.some.inj z] at y2
      exact absurd y2 (by show ¬ Value.type "tuple" = Value.type "list_iterator"; decide)
    refine wpAny_bind (m := tryCatch (holding [Value.ref d] (call (.ref f) [.ref d])) _) (wpAny_tryCatch (wpAny_holding (wpAny_mono (M.key (j + 1) d hd h1 tk1 e1) (fun x s2 he => ?_) fun _ _ z => z.elim)))
    obtain ⟨h2, tk2, rfl, g, k2⟩ := he
    have e2 : Ext h0 h2 := fun b o q => g b o (e1 b o q)
    have S2 := g _ _ S1
    have k3 := k1.ext g
    obtain ⟨as1, r1⟩ := k2.reads ((M.tapes _ _ hd).ext e2)
    obtain ⟨as2, r2⟩ := k3.reads ((M.tapes _ _ hb).ext e2)
    have nN : keyD (tp (j + 1)) ≠ .none := fun z => by cases z
    have room : A.in1.units + min (keyD (tp (j + 1))).depth (keyD (tp i)).depth < cLine := by
      have q1 := keyD_depth (tp (j + 1))
      have q2 := M.hu
      have q3 : min (keyD (tp (j + 1))).depth (keyD (tp i)).depth ≤ (keyD (tp (j + 1))).depth := Nat.min_le_left _ _
      have q4 : A.in1.units ≤ A.units + 8 := by simp [Around.in1, Around.units]
      omega
    refine wpAny_bind (wpAny_tryCatch (wpAny_holding (wpAny_bind (m := compareOp .Lt x kv) (PySem.W.lt_data r1 r2 (keyD_alike _ _) nN room ?_))))
    rw [keyD_lt]
    refine wpAny_bind (wpAny_holding (wpAny_truthy_bool ?_))
    refine wpAny_bind (wpAny_letGo (wpAny_pure ?_))
    have it2 : h2.IsListIter J l (j + 1 + 1) := let ⟨o, y1, y2⟩ := st.1; ⟨o, g _ _ y1, y2⟩
    cases z : ltK (tp (j + 1)) (tp i) with
    | true =>
      rw [if_pos rfl]
      have sb := Heap.SameBut.update h2 S (Obj.mapSeq fun _ => #[Value.ref d, x])
      obtain ⟨c2, hc2⟩ : ∃ c2, (h2.update S (Obj.mapSeq fun _ => #[Value.ref d, x])).get? S = some (seqObj "list" #[Value.ref d, x] c2) := ⟨_, get?_update_seq S2 fun _ => #[Value.ref d, x]⟩
      refine wpAny_bind (m := updateSeq S (fun _ => #[Value.ref d, x])) ?_
      refine wpAny_updateSeq S2 rfl (wpAny_bind (wpAny_letGo ?_))
      rw [nm]
      refine wpAny_pure ⟨plainId_quiet PySem.F.plain_min_loop _, ih (j + 1) (j + 1) _ _ d x c2 (by omega) lt (keepS e2 sb) hc2 ?_ ?_ hd (best.next z)⟩
      · obtain ⟨o, y1, y2⟩ := it2
        exact ⟨o, (sb.2 J M.SJ.symm).trans y1, y2⟩
      · obtain ⟨T, t, n, q, y⟩ := k2
        refine ⟨T, t, n, q, (sb.2 T fun q2 => ?_).trans y⟩
        rw [q2, S2] at y
        have q3 : Value.type "list" = Value.type "tuple" := congrArg Obj.cls (Option.some.inj y)
        exact absurd q3 (by decide)
    | false =>
      rw [if_neg Bool.false_ne_true]
      refine wpAny_bind (wpAny_letGo ?_)
      rw [nm]
      exact wpAny_pure ⟨plainId_quiet PySem.F.plain_min_loop _, ih (j + 1) i _ _ b kv c (by omega) lt e2 S2 it2 k3 hb (best.keep z)⟩
end
end Kt
namespace Kt
open PySem PySem.Spec PyProof.Rows L2
section
variable {prog : Program} {w : World} {A : Around} {E : Value → Shared → Prop} {s : Shared} {Q : Value → Shared → Prop}
set_option maxHeartbeats 4000000 in
theorem minTapes {l f : Addr} {as : List Addr} {tp : Nat → List Int} (hh : A.handled = none) (hu : A.units + 80 < cLine) (hl : s.heap.IsList l (as.map Value.ref).toArray) (ht : ∀ i a, as[i]? = some a → TapeAt s.heap a (tp i)) (hne : 0 < as.length)
    (key : ∀ i a, as[i]? = some a → ∀ h tk, Ext s.heap h → wpAny (model prog w) A.in1 (call (.ref f) [.ref a]) (fun v s' => ∃ h' tk', s' = { s with heap := h', toks := tk' } ∧ Ext h h' ∧ KeyAt h' a (tp i) v) (fun _ _ => False) { s with heap := h, toks := tk })
    (hQ : ∀ i a h' tk', as[i]? = some a → Best tp i (as.length - 1) → Ext s.heap h' → Q (.ref a) { s with heap := h', toks := tk' }) :
    wpAny (model prog w) A (call (.builtin "min") [.ref l] [(Str.ofString "key", .ref f)]) Q E s := by
  have nm : (toString "min" ++ toString ".loop" : String) = "min.loop" := by decide
  obtain ⟨ol, hol, hlr⟩ := id hl
  have ll : l < s.heap.objs.size := Heap.lt_size hol
  refine kmk_tree PySem.F.kind_min PySem.F.plain_min PySem.F.entry_min (kmk_min_key _ _) ?_
  refine wpAny_bind (m := Builtin.Builtins.bindParams "min" ["key", "default"] 0 ⟨[], [(Str.ofString "key", .ref f)]⟩) (wpAny_of_eq (a := [some (.ref f), none]) rfl ?_)
  refine wpAny_bind (wpAny_pure ?_)
  refine wpAny_bind (wpAny_pyIter_list hl ?_)
  refine wpAny_bind (wpAny_newList ?_ (Nat.zero_le _))
  rw [nm]
  generalize hJo : ({ cls := .type "list_iterator", data := .fields #[.ref l, .int 0 0] } : Obj) = oJ
  have fJ : oJ.isFreed = false := by rw [← hJo] <;> rfl
  have zS : (s.heap.push oJ).objs.size = s.heap.objs.size + 1 := Heap.size_push ..
  generalize hH : (s.heap.push oJ).push { cls := .type "list", data := .seq ([] : List Value).toArray } = H
  have eH : Ext s.heap H := fun b o q => by rw [← hH]; exact Heap.get?_push_of_some _ (Heap.get?_push_of_some _ q)
  have gJ : H.get? s.heap.objs.size = some oJ := by rw [← hH]; exact Heap.get?_push_of_some _ (Heap.get?_push_size _ fJ)
  have gS : H.get? (s.heap.push oJ).objs.size = some (seqObj "list" #[] 0) := by rw [← hH]; exact Heap.get?_push_size _ rfl
  have zJ : s.heap.get? s.heap.objs.size = none := Heap.get?_none_of_le (Nat.le_refl _)
  have zS0 : s.heap.get? (s.heap.push oJ).objs.size = none := Heap.get?_none_of_le (by rw [zS]; exact Nat.le_succ _)
  have lJ : l ≠ s.heap.objs.size := Nat.ne_of_lt ll
  have SJ : (s.heap.push oJ).objs.size ≠ s.heap.objs.size := by rw [zS]; exact Nat.ne_of_gt (Nat.lt_succ_self _)
  generalize (s.heap.push oJ).objs.size = S at gS zS0 SJ
  generalize hJ : s.heap.objs.size = J at gJ zJ lJ SJ
  refine wpAny_pure ⟨plainId_quiet PySem.F.plain_min_loop _, ?_⟩
  have M : MinW prog w A s s.heap l f J S as tp := ⟨hh, hu, hl, ht, lJ, SJ, zJ, zS0, key⟩
  have W := Walks.list (prog := prog) (w := w) (A := A.in1) hh J l lJ (as.map Value.ref).toArray
  have size : (as.map Value.ref).toArray.size = as.length := by simp
  refine codeAny_builtin PySem.F.entry_min_loop ?_
  rw [Around.under_plainId PySem.F.plain_min_loop _]
  refine wpAny_bind (m := seqItems? (.ref S)) (wpAny_seqItems gS rfl ?_)
  refine wpAny_bind (wpAny_tryCatch (W.item 0 _ _ _ (by rw [size]; exact hne) ⟨⟨oJ, gJ, by rw [← hJo], by rw [← hJo] <;> rfl⟩, hl.at fun o q => eH _ o q⟩ fun v h1 tk1 hv st k => ?_))
  obtain ⟨d, hd, rfl⟩ : ∃ d, as[0]? = some d ∧ v = .ref d := by
    have q : (as.map Value.ref)[0]? = some v := by simpa using hv
    obtain ⟨d, q1, q2⟩ := at_map q
    exact ⟨d, q1, q2⟩
  have e1 : Ext s.heap h1 := fun b o q => k b o (fun z => by
    rw [List.mem_singleton.mp z, zJ] at q; cases q) (eH b o q)
  have S1 := k S _ (by simpa using SJ) gS
  refine wpAny_bind (m := tryCatch (holding [Value.ref d] (call (.ref f) [.ref d])) _) (wpAny_tryCatch (wpAny_holding (wpAny_mono (key 0 d hd h1 tk1 e1) (fun x s2 he => ?_) fun _ _ z => z.elim)))
  obtain ⟨h2, tk2, rfl, g, k2⟩ := he
  have S2 := g _ _ S1
  have sb := Heap.SameBut.update h2 S (Obj.mapSeq fun _ => #[Value.ref d, x])
  obtain ⟨c2, hc2⟩ : ∃ c2, (h2.update S (Obj.mapSeq fun _ => #[Value.ref d, x])).get? S = some (seqObj "list" #[Value.ref d, x] c2) := ⟨_, get?_update_seq S2 fun _ => #[Value.ref d, x]⟩
  refine wpAny_bind (m := updateSeq S (fun _ => #[Value.ref d, x])) ?_
  refine wpAny_updateSeq S2 rfl ?_
  rw [nm]
  refine wpAny_pure ⟨plainId_quiet PySem.F.plain_min_loop _, minLoop M (fun i a h' tk' ha b e => hQ i a h' tk' ha b e) _ 0 0 _ _ d x c2 rfl hne (fun b o q => (sb.2 b fun z => by rw [z, zS0] at q; cases q).trans (g b o (e1 b o q))) hc2 ?_ ?_ hd ?_⟩
  · obtain ⟨o, y1, y2⟩ := st.1
    exact ⟨o, (sb.2 J SJ.symm).trans (g _ _ y1), y2⟩
  · obtain ⟨T, t, n, q, y⟩ := k2
    refine ⟨T, t, n, q, (sb.2 T fun q2 => ?_).trans y⟩
    rw [q2, S2] at y
    have q3 : Value.type "list" = Value.type "tuple" := congrArg Obj.cls (Option.some.inj y)
    exact absurd q3 (by decide)
  · refine ⟨Nat.le_refl _, fun k hk => ?_⟩
    obtain rfl : k = 0 := by omega
    exact ⟨ltK_irrefl _, fun q => absurd q (Nat.lt_irrefl _)⟩
end
end Kt
namespace Kt
open PySem PySem.Spec PyProof.Rows L2
section
variable {prog : Program} {w : World} {A : Around} {E : Value → Shared → Prop} {s : Shared}
/-- x ↦ (len(x), x) of a tape -/
theorem lamKey {f a c' : Addr} {name qual x : Str} {params : Arguments} {scope : Scope} {cl : List (Str × Addr)} {pm ctv : Value} {p1 p2 p3 p4 p5 : Pos} {k : Nat} {ns : List Int} {mg mb : Str → Option Value}
    (hf : s.heap.get? f = some (PySem.W.kla_obj name qual params (.Tuple [.Call (.Name ("len" : Str) p1) [.Name x p2] [] p3, .Name x p4] k p5) scope cl pm c' ctv)) (hcd : s.heap.CodeRec (.ref c') qual)
    (hd : A.depth < recursionLimit) (hk : scope.kind = .function) (hco : scope.isCoroutine = false) (hgen : scope.isGenerator = false) (cell : ∀ y ∈ scope.names, y.2 ≠ .cell) (hx : scope.names.lookup x = some .local) (hlen : scope.names.lookup ("len" : Str) = some .globalImplicit)
    (hbind : bindArgs (PySem.W.kla_fn name qual params (.Tuple [.Call (.Name ("len" : Str) p1) [.Name x p2] [] p3, .Name x p4] k p5) scope cl pm (.ref c') ctv) ⟨[.ref a], []⟩ = pure [(x, .ref a)])
    (glob : s.heap.Ns mainGlobals mg) (hm : mg ("len" : Str) = none) (blt : s.heap.Ns builtinsNs mb) (hb : mb ("len" : Str) = some (.builtin "len")) (lim : s.heap.NoLimit) (ha : TapeAt s.heap a ns) (hz : ns.length ≤ 1000000) (hdb : (x == ("__debug__" : Str)) = false) :
    wpAny (model prog w) A (call (.ref f) [.ref a]) (fun v s' => ∃ h' tk', s' = { s with heap := h', toks := tk' } ∧ Ext s.heap h' ∧ KeyAt h' a ns v) E s := by
  refine wpAny_call (codeAny_mono (R := fun r s' => ∃ v, r = .ok (.ret v) ∧ ∃ h' tk', s' = { s with heap := h', toks := tk' } ∧ Ext s.heap h' ∧ KeyAt h' a ns v) (PySem.W.kla_callFunE hd hf rfl hco hgen rfl hcd ?_) fun r s' h => ?_)
  · rw [hbind]
    refine wpAny_pure (wpAny_newFunctionEnv cell (fun y hy => ?_) (fun h1 hns hsb => ⟨lim.fresh _ hsb, ?_⟩) hk)
    · rw [List.mem_singleton.mp hy]; exact hx
    have g1 : Ext s.heap h1 := fun b o q => (hsb.2 b (Nat.ne_of_lt (Heap.lt_size q))).trans (Heap.get?_push_of_some _ q)
    generalize hL : s.heap.objs.size = L at hns hsb ⊢
    show codeAny _ _ (.expr _ (PySem.W.envX qual scope L f (.ref c') cl)) _ _
    refine PySem.W.kla_codeExpr ?_
    have nm : ([((x, .ref a) : Str × Value)].reverse.lookup x) = some (.ref a) := by simp
    refine Tuple_ (args_cons (Call_ (Calls.Name_function_global hk (show Env.kindOf _ _ = _ from hlen) (Calls.loadGlobal_builtin (glob.keeps g1) hm (blt.keeps g1) hb ?_) (by decide)) rfl) rfl)
    refine callWith_builtin1 (args_cons (wpAny_Name (wpAny_loadName_local hk hx hns nm ?_) hdb) rfl) rfl rfl
    refine args_nil ?_
    obtain ⟨vs, hl, hi⟩ := ha.ext g1
    have hlen2 : vs.size = ns.length := by rw [← Array.length_toList]; exact hi.length
    refine Calls.call_len_list hl (by rw [hlen2]; omega) ?_
    refine args_cons (wpAny_Name (wpAny_loadName_local hk hx hns nm ?_) hdb) rfl
    refine args_nil ?_
    refine wpAny_newTuple ?_ (by show 2 ≤ sizeLine; decide)
    rw [hlen2]
    exact ⟨_, rfl, _, _, rfl, fun b o q => Heap.get?_push_of_some _ (g1 b o q), _, _, 0, rfl, Heap.get?_push_size _ rfl⟩
  · obtain ⟨v, rfl, q⟩ := h
    exact q
end
end Kt
namespace Kt
open PySem PySem.Spec PyProof.Rows L2
theorem vals_refs_inv : ∀ {as : List Addr} {us : List Value}, Vals (as.map V.ref) us → us = as.map Value.ref
  | [], _, .nil => rfl
  | a :: r, _, .cons h t => by
    have e : _ = Value.ref a := h
    rw [e, vals_refs_inv t]; rfl
section
variable {X : Cx} {pins : List (Addr × Obj)} {σ : L2.St} {H : Hp} {s : Shared}
/-- a lambda is made: all but the table of the def stays as it is -/
theorem lam3 {c P : Addr} {params : Arguments} {body : Expr} {scope : Scope} {pos : Pos} {E : Value → Shared → Prop} {Q : Value → Shared → Prop} (I : Inv X pins σ H s) (TB : LamX.TabB X.base X.mg c P) (hcode : X.env.code = .ref c)
    (hT : LamX.TabS H P (X.env.qual ++ "<lambda>")) (hdef : defaultsOf params X.env = ([], [])) (hfree : ∀ y ∈ scope.names, y.2 = .free → ∃ c, X.env.cells.lookup y.1 = some c)
    (h : ∀ (f c' : Addr) (pm ctv : Value) (H1 : Hp) (s' : Shared), Inv X pins σ H1 s' → (∀ b o, b ≠ P → H b = some o → H1 b = some o) → LamX.TabS H1 P (X.env.qual ++ "<lambda>") →
      s'.heap.get? f = some (PySem.W.kla_obj "<lambda>" (X.env.qual ++ "<lambda>") params body scope (cloFrom X.env.cells scope.names []) pm c' ctv) → H1 c' = some (LamX.CodeO c' (X.env.qual ++ "<lambda>")) → Q (.ref f) s') :
    wpAny (model X.prog X.w) X.A (eval (.Lambda params body scope pos) X.env) Q E s := by
  obtain ⟨ps, hP, ht, ha⟩ := hT
  refine PySem.W.kla_eval hdef ?_
  have bm := TB.bm.keeps I.bk
  have oP : s.heap.get? P = some { cls := .none, data := .fields ps } := I.hok P _ hP
  cases hc : codeAmong pos ps.toList with
  | none =>
    refine PySem.W.kla_makeFunction (mg := X.mg) (c := c) (P := P) (ps := ps) (closure_ok hfree) I.ok.glob (I.mod.glob.keeps I.bk) hcode (TB.code.keeps I.bk) oP ht hc TB.gP bm fun c' ctv h' tk hx hge hlt hrec htb => ?_
    obtain ⟨c2, oc, vs, t, e2, hoc, hd, hv⟩ := hrec
    cases e2
    have nC : H c' = none := I.hok.fresh hge
    have J := LamX.inv_table (t' := tk) (more := #[rawInt pos.line, rawInt pos.col, .ref c']) (h' := h'.push (PySem.W.kla_obj "<lambda>" (X.env.qual ++ "<lambda>") params body scope (cloFrom X.env.cells scope.names []) ((X.mg "__name__").getD .none) c' ctv)) I hP
      (fun b o hb e => Heap.get?_push_of_some _ (hx b o hb e)) (Heap.get?_push_of_some _ htb) hge ⟨oc, vs, t, Heap.get?_push_of_some _ hoc, hd, hv⟩
    have stay : ∀ b o, b ≠ P → H b = some o → upd (upd H P (.tbl (ps ++ #[rawInt pos.line, rawInt pos.col, .ref c']))) c' (LamX.CodeO c' (X.env.qual ++ "<lambda>")) b = some o := fun b o n e => by
      rw [upd_ne (ne_of_none e nC), upd_ne n]; exact e
    have eL : (ps ++ #[rawInt pos.line, rawInt pos.col, .ref c']).toList = ps.toList ++ [rawInt pos.line, rawInt pos.col, .ref c'] := by simp
    refine h h'.objs.size c' ((X.mg "__name__").getD .none) ctv _ _ J stay ⟨_, by rw [upd_ne (ne_of_none hP nC), upd_same], by rw [eL]; exact PySem.TriplesOk_snoc _ _ _ _ ht, fun p' cv hcv => ?_⟩ (Heap.get?_push_size _ rfl) upd_same
    rw [eL] at hcv
    rcases LamX.among_app _ ht hcv with z | z
    · obtain ⟨c0, e1, e2⟩ := ha p' cv z
      refine ⟨c0, e1, stay _ _ (fun q => ?_) e2⟩
      rw [q, hP] at e2
      exact LamX.codeO_ne ps (Option.some.inj e2).symm
    · exact ⟨c', z, upd_same⟩
  | some cv =>
    obtain ⟨c', rfl, hco⟩ := ha pos cv hc
    refine PySem.W.kla_makeFunctionHit (mg := X.mg) (c := c) (P := P) (ps := ps) (closure_ok hfree) I.ok.glob (I.mod.glob.keeps I.bk) hcode (TB.code.keeps I.bk) oP ht hc bm fun ctv h' tk hx hsz => ?_
    exact h h'.objs.size c' ((X.mg "__name__").getD .none) ctv H _ (I.kept fun b o e => Heap.get?_push_of_some _ (hx b o e)) (fun _ _ _ e => e) ⟨ps, hP, ht, ha⟩ (Heap.get?_push_size _ rfl) hco
end
/-- what stays where only the table at P may grow -/
def But (P : Addr) (H H' : Hp) : Prop := ∀ b o, b ≠ P → H b = some o → H' b = some o
theorem seqL_but {K : PySem.W.Frag} {P a : Addr} {H H' : Hp} {xs : List V} {ps : Array Value} (e : But P H H') (hP : H P = some (.tbl ps)) (h : SqL K H a xs) : SqL K H' a xs := by
  rcases h with (h | ⟨o, h⟩) | h
  · exact .inl (.inl (e _ _ (ne_of h hP (fun q => nomatch q)) h))
  · exact .inl (.inr ⟨o, e _ _ (ne_of h hP (fun q => nomatch q)) h⟩)
  · exact .inr h
/-- what the reading of min(.., key = lambda x: (len(x), x)) asks -/
def tMinK (K : PySem.W.Frag) (P : Addr) (q : Str) (ta : TE) : TE := fun σ H Q => ta σ H fun x H1 => ∃ (l : Addr) (as : List Addr) (tp : Nat → List Int), x = .ref l ∧ SqL K H1 l (as.map V.ref) ∧ 0 < as.length ∧
  (∀ i a, as[i]? = some a → SqL K H1 a ((tp i).map V.int) ∧ (tp i).length ≤ 1000000) ∧ LamX.TabS H1 P q ∧
  ∀ i a H2, as[i]? = some a → Best tp i (as.length - 1) → But P H1 H2 → LamX.TabS H2 P q → Q (.ref a) H2
section
variable {X : Cx}
theorem pe_minKey {c P : Addr} {k j : Nat} {x : Str} {params : Arguments} {scope : Scope} {a : Expr} {ta : TE} {p p1 p2 p3 p4 p5 lpos kpos pos : Pos} (hc : X.calm = true) (hr : Room j X.A) (hg : Gl X "min") (hm : X.mg "min" = none) (hml : X.mg "len" = none)
    (TB : LamX.TabB X.base X.mg c P) (hcode : X.env.code = .ref c) (ha : PE X a ta) (hk : scope.kind = .function) (hco : scope.isCoroutine = false) (hgen : scope.isGenerator = false) (cell : (scope.names.all fun y => !decide (y.2 = .cell) && !decide (y.2 = .free)) = true)
    (hx : scope.names.lookup x = some .local) (hlen : scope.names.lookup ("len" : Str) = some .globalImplicit) (hdef : defaultsOf params X.env = ([], []))
    (hbind : ∀ (q : Str) (cl : List (Str × Addr)) (pm cv ctv u : Value), bindArgs (PySem.W.kla_fn "<lambda>" q params (.Tuple [.Call (.Name ("len" : Str) p1) [.Name x p2] [] p3, .Name x p4] k p5) scope cl pm cv ctv) ⟨[u], []⟩ = pure [(x, u)])
    (hdb : (x == ("__debug__" : Str)) = false)
    (h1 : starEach [a] X.env = (false, eval a X.env) :: starEach [] X.env := by rfl) :
    PE X (.Call (.Name "min" p) [a] [⟨some "key", .Lambda params (.Tuple [.Call (.Name ("len" : Str) p1) [.Name x p2] [] p3, .Name x p4] k p5) scope lpos, kpos⟩] pos) (tMinK X.K P (X.env.qual ++ "<lambda>") ta) := by
  refine ⟨fun pins s σ H Q I h => ?_⟩
  have hfree : ∀ y ∈ scope.names, y.2 = .free → ∃ c, X.env.cells.lookup y.1 = some c := fun y hy e => by
    have := List.all_eq_true.mp cell y hy
    rw [e] at this; simp at this
  have hcell : ∀ y ∈ scope.names, y.2 ≠ .cell := fun y hy e => by
    have := List.all_eq_true.mp cell y hy
    rw [e] at this; simp at this
  refine wpAny_Call_Name_kw (ld_blt I hg hm PyProof.Rows.boot_min ?_)
  refine callWith_kw (args_cons (thn (ha.run pins s σ H _ I h) fun v s1 q => args_nil ?_) h1) (by rw [h1]; rfl) (by rw [h1]; rfl) rfl rfl
  · obtain ⟨x1, H1, I1, r1, l, as, tp, rfl, hl, hne, ht, hT, q⟩ := q
    cases r1
    show wpAny _ _ (evalAll ((do let v ← eval _ X.env; standAt pos; pure v) :: [])) _ _ s1
    have hP := hT
    obtain ⟨ps0, hP, _⟩ := hP
    refine wpAny_evalAll_cons (wpAny_bind (lam3 I1 TB hcode hT hdef hfree fun f c' pm ctv H2 s2 I2 eN T2 hf hcod => wpAny_bind (wpAny_standAt (wpAny_pure (wpAny_evalAll_nil ?_)))))
    show wpAny _ _ (call (.builtin "min") [.ref l] [(Str.ofString "key", .ref f)]) _ _ s2
    obtain ⟨its, rv, pl, hz⟩ := I2.list (seqL_but eN hP hl)
    have ei := vals_refs_inv rv
    subst ei
    have hlim := I2.nolimit
    have hgl := I2.mod.glob.keeps I2.bk
    obtain ⟨mb, hb1, hb2⟩ := I2.mod.blt
    have hb3 := hb1.keeps I2.bk
    obtain ⟨⟨oc, vs, t, y1, y2, y3⟩, _, _⟩ := I2.hok c' _ hcod
    have un := hr.un
    have tapes : ∀ i d, as[i]? = some d → TapeAt s2.heap d (tp i) := fun i d hd => by
      obtain ⟨its2, rv2, pl2, _⟩ := I2.list (seqL_but eN hP (ht i d hd).1)
      exact ⟨its2.toArray, pl2.isList, by simpa using ints_of_vals rv2⟩
    refine minTapes (I2.ok.hd hc) (by omega) pl.isList tapes hne (fun i d hd h tk e => ?_) fun i d h' tk' hd best e => ?_
    · have hf2 := e _ _ hf
      refine lamKey (s := { s2 with heap := h, toks := tk }) hf2 ⟨c', oc, vs, t, rfl, e _ _ y1, y2, y3⟩ ?_ hk hco hgen hcell hx hlen (hbind _ _ _ _ _ _) (hgl.keeps e) hml (hb3.keeps e) ((hb2 _ (by decide)).trans PySem.boot_len) (hlim.keeps e) ((tapes i d hd).ext e) (ht i d hd).2 hdb
      show X.A.depth < recursionLimit
      have := hr.dp; omega
    · exact ⟨.ref d, H2, I2.kept e, rfl, q i d H2 hd best eN T2⟩
end
end Kt
namespace Kt
open PySem PySem.Spec PyProof.Rows L2
/-! ### reversed(s), s a text -/
theorem str_norev : typeLookup (.type "str") "__reversed__" = pure none := by
  rw [typeLookup_type, builtinLookup_eq_fast]; kernel_rfl
theorem str_item : typeLookup (.type "str") "__getitem__" = pure (some (.builtin "str.__getitem__")) := by
  rw [typeLookup_type, builtinLookup_eq_fast]; kernel_rfl
/-- the iterator it over x from its end, the next place i -/
def RevS (h : Heap) (it : Addr) (x : Str) (u : Tok) (i : Int) : Prop := ∃ o, h.get? it = some o ∧ o.cls = .type "reversed" ∧ o.data = .fields #[.str x u, rawInt i]
section
variable {prog : Program} {w : World} {A : Around} {E : Value → Shared → Prop} {s : Shared}
theorem RevS.ty {it : Addr} {x : Str} {u : Tok} {i : Int} (r : RevS s.heap it x u i) : s.TypeIs (.ref it) "reversed" := let ⟨o, ho, hc, _⟩ := r; ⟨o, ho, hc⟩
set_option maxHeartbeats 1000000 in
theorem rev_new {x : Str} {u : Tok} {Q : Value → Shared → Prop} (hz : x.length ≤ sizeLine)
    (h : ∀ tk, Q (.ref s.heap.objs.size) { s with heap := s.heap.push { cls := .type "reversed", data := .fields #[.str x u, rawInt ((x.length : Int) - 1)] }, toks := tk }) : wpAny (model prog w) A (call (.type "reversed") [.str x u]) Q E s := by
  have ty : s.TypeIs (.str x u) "str" := typeIs_str s x u
  rw [sizeLine_eq] at hz
  refine callType_codes (Q₁ := fun ob s₁ => s₁.TypeIs ob "reversed" ∧ Q ob s₁) RT.called_rt (PySem.F.typeCall_reversed_1 _) PySem.F.entry_object_init (codeAny_of_tree ?_) fun ob s₁ k => ?_
  · show wpAny _ _ (do checkBuiltinCall "reversed.__new__" ⟨[.type "reversed", .str x u], []⟩; again (.builtin "reversed.__new__" ⟨[.type "reversed", .str x u], []⟩)) _ _ s
    refine wpAny_bind (wpAny_of_eq (PySem.F.newCall_reversed_1 _) (wpAny_pure ⟨plainId_quiet PySem.F.plain_reversed_new _, codeAny_builtin PySem.F.entry_reversed_new ?_⟩))
    rw [Around.under_plainId PySem.F.plain_reversed_new _]
    unfold Builtin.«reversed.__new__»
    refine wpAny_bind (wpAny_of_eq (newClass_reversed _) ?_); try dsimp only
    refine wpAny_bind (wpAny_of_eq (a := ()) (by first | rfl | kernel_rfl) ?_); try dsimp only
    refine wpAny_bind (wpAny_of_eq (a := ()) (by first | rfl | kernel_rfl) ?_); try dsimp only
    refine wpAny_bind (wpAny_specialOf ty str_norev ?_); try dsimp only
    refine wpAny_bind ?_
    wp_delta
    refine wpAny_bind (wpAny_isInstance (T := "str") (U := "dict") (b := false) ty PySem.F.sub_str_dict ?_); try dsimp only
    try rw [if_neg Bool.false_ne_true]
    try dsimp only
    refine wpAny_bind (wpAny_specialOf ty str_item ?_); try dsimp only
    try rw [if_pos (by decide +kernel)]
    refine wpAny_pure ?_
    try dsimp only
    try rw [if_neg (by decide)]
    try dsimp only
    refine wpAny_bind (PySem.P.len_str (by omega) ?_)
    refine wpAny_bind (wpAny_of_eq (a := some ((x.length : Nat) : Int)) rfl ?_); try dsimp only
    refine wpAny_bind (m := newObj (.type "reversed") (.fields #[.str x u, rawInt ((x.length : Int) - 1)])) ?_
    exact wpAny_newObj_type (wpAny_pure ⟨⟨_, Heap.get?_push_size _ rfl, rfl⟩, h _⟩)
  · exact ⟨k.1, PySem.F.args_object_init_2 ob _, object_init_meets RT.called_rt.init.lookup RT.called_rt.made (by decide) prog w A.in1 _ s₁ ⟨k.1, rfl, k.2⟩⟩
set_option maxHeartbeats 1000000 in
theorem rev_item {it : Addr} {x : Str} {u : Tok} {i c : Nat} {Q : Option Value → Shared → Prop} (r : RevS s.heap it x u (i : Int)) (hx : x.cps[i]? = some c) (hz : x.length ≤ sizeLine)
    (hQ : ∀ h' t tk, RevS h' it x u ((i : Int) - 1) → Heap.SameBut it s.heap h' → Q (some (.str (sg c) t)) { s with heap := h', toks := tk }) : wpAny (model prog w) A (pyNext (.ref it)) Q E s := by
  obtain ⟨o, ho, hc, hd⟩ := id r
  have hi : i < x.length := (Array.getElem?_eq_some_iff.mp hx).1
  have ty : s.TypeIs (.str x u) "str" := typeIs_str s x u
  rw [sizeLine_eq] at hz
  unfold pyNext
  refine wpAny_bind (wpAny_attempt (wpAny_callSpecial?_slot (name := Str.ofString "__next__") r.ty RT.slot_rt_next (wpAny_call_entry RT.slot_rt_next r.ty RT.entry_rt_next ?_ (RT.args_rt_next _))))
  unfold Builtin.«reversed.__next__»
  refine wpAny_bind (wpAny_of_eq (a := (Value.ref it, [])) rfl ?_); try dsimp only
  refine wpAny_bind (wpAny_field ho hd (x := .str x u) rfl ?_); try dsimp only
  refine wpAny_bind (wpAny_field ho hd (x := rawInt (i : Int)) rfl ?_)
  show wpAny _ _ (if (i : Int) < 0 then _ else _) _ _ s
  rw [if_neg (by omega)]
  try dsimp only
  refine wpAny_bind (wpAny_specialOf ty str_item ?_); try dsimp only
  try rw [if_neg (by decide)]
  try dsimp only
  refine wpAny_bind (wpAny_mkInt (wpAny_bind (wpAny_attempt ?_)))
  have sq : (seqIndex? (i : Int) x.length).bind (x.cps[·]?) = some c := by
    rw [(ixN_seq (ix_ok rfl hi)).1]; exact hx
  refine PySem.P.getItem_str (s := { s with toks := s.toks + 1 }) (by
    have e1 : decide ((i : Int) < -(2 ^ 63 : Int)) = false := decide_eq_false (by omega)
    have e2 : decide ((i : Int) ≥ 2 ^ 63) = false := decide_eq_false (by omega)
    rw [e1, e2] <;> rfl) sq ?_
  try dsimp only
  refine wpAny_bind (wpAny_field (s := { s with toks := s.toks + 1 + 1 }) ho hd (x := rawInt (i : Int)) rfl ?_); try dsimp only
  refine wpAny_bind (wpAny_setField (s := { s with toks := s.toks + 1 + 1 }) ho hd (by simp) ?_)
  have new : RevS (s.heap.update it (Obj.mapFields (·.setIfInBounds 1 (rawInt ((i : Int) - 1))))) it x u ((i : Int) - 1) :=
    ⟨_, Heap.get?_update_self _ ho (Obj.isFreed_of_fields (Obj.data_mapFields hd _)), (Obj.cls_mapFields ..).trans hc, by rw [Obj.data_mapFields hd]; simp⟩
  first
  | exact wpAny_pure ⟨_, rfl, wpAny_pure (hQ _ _ _ new (Heap.SameBut.update ..))⟩
  | exact wpAny_bind (wpAny_pure (wpAny_pure ⟨_, rfl, wpAny_pure (hQ _ _ _ new (Heap.SameBut.update ..))⟩))
set_option maxHeartbeats 1000000 in
theorem rev_end {it : Addr} {x : Str} {u : Tok} {Q : Option Value → Shared → Prop} (hh : A.handled = none) (r : RevS s.heap it x u (-1))
    (hQ : ∀ h', Heap.ExtBut it s.heap h' → Q none { s with heap := h' }) : wpAny (model prog w) A (pyNext (.ref it)) Q E s := by
  obtain ⟨o, ho, hc, hd⟩ := id r
  unfold pyNext
  refine wpAny_bind (wpAny_attempt (wpAny_callSpecial?_slot (name := Str.ofString "__next__") r.ty RT.slot_rt_next (wpAny_call_entry RT.slot_rt_next r.ty RT.entry_rt_next ?_ (RT.args_rt_next _))))
  unfold Builtin.«reversed.__next__»
  refine wpAny_bind (wpAny_of_eq (a := (Value.ref it, [])) rfl ?_); try dsimp only
  refine wpAny_bind (wpAny_field ho hd (x := .str x u) rfl ?_); try dsimp only
  refine wpAny_bind (wpAny_field ho hd (x := rawInt (-1)) rfl ?_)
  show wpAny _ _ (if (-1 : Int) < 0 then _ else _) _ _ s
  rw [if_pos (by decide)]
  try dsimp only
  refine wpAny_bind (wpAny_rule (wpAny_bind ?_))
  wp_delta
  refine wpAny_bind (wpAny_setField ho hd (by simp) ?_)
  have ho2 := Heap.get?_update_self (Obj.mapFields (·.setIfInBounds 1 (rawInt (-1)))) ho (Obj.isFreed_of_fields (Obj.data_mapFields hd _))
  refine wpAny_setField (s := { s with heap := s.heap.update it (Obj.mapFields (·.setIfInBounds 1 (rawInt (-1)))) }) ho2 (Obj.data_mapFields hd _) (by simp) ?_
  try dsimp only
  first
  | show wpAny _ _ (newExc (.type "StopIteration") [] >>= _) _ _ _
  | (refine wpAny_bind ?_; show wpAny _ _ (newExc (.type "StopIteration") [] >>= _) _ _ _)
  | (refine wpAny_bind ?_; wp_delta; show wpAny _ _ (newExc (.type "StopIteration") [] >>= _) _ _ _)
  refine wpAny_bind ?_
  simp only [newExc, newTuple]
  refine wpAny_bind (wpAny_newObj_type (wpAny_bind (m := firstArgMember _ _) (wpAny_of_eq (a := Value.none) (by first | rfl | (simp only [firstArgMember]; rfl)) ?_)) (by size_fits))
  refine wpAny_newObj_type ?_ (by size_fits)
  simp only [raiseNew]
  refine wpAny_bind (wpAny_handled ?_)
  first | rw [show A.in1.handled = none from hh] | rw [hh]
  refine wpAny_bind (wpAny_pure (wpAny_throw ?_))
  refine wpAny_bind (wpAny_isInstance (T := "StopIteration") (b := true) ⟨_, Heap.get?_push_size _ rfl, rfl⟩ isSubtype_stop (wpAny_pure (hQ _ ?_)))
  refine ((?_ : Heap.ExtBut it s.heap _).push _).push _
  exact fun b ob hb e => (Heap.get?_update_other _ _ (Ne.symm hb)).trans ((Heap.get?_update_other _ _ (Ne.symm hb)).trans e)
theorem rev_iter {it : Addr} {x : Str} {u : Tok} {i : Int} {Q : Value → Shared → Prop} (r : RevS s.heap it x u i) (h : Q (.ref it) s) : wpAny (model prog w) A (pyIter (.ref it)) Q E s :=
  wpAny_pyIter_slot r.ty RT.slot_rt_iter (wpAny_call_entry RT.slot_rt_iter r.ty RT.entry_rt_iter (show wpAny _ _ (ret (.ref it)) _ _ s from wpAny_pure ⟨_, rfl, "reversed", _, r.ty, RT.slot_rt_next.lookup, h⟩) (RT.args_rt_iter _))
end
/-- the signs of x from its end -/
def ItRs (x : Str) : It := ⟨fun i _ => i < x.cps.size, fun i H v H' => H' = H ∧ ∃ c, x.cps[x.cps.size - 1 - i]? = some c ∧ v = .str (sg c), fun i _ => x.cps.size ≤ i⟩
theorem turn_rs {P : Program} {w : World} {K : PySem.W.Frag} {tg : Expr} (x : Str) (u : Tok) (it : Addr) (hz : x.length ≤ sizeLine) : Turn P w K tg (ItRs x) [it] it (fun i h => i ≤ x.cps.size ∧ RevS h it x u ((x.cps.size : Int) - 1 - (i : Nat))) where
  mem := by simp
  obj := fun i h st b hb => by
    obtain rfl : b = it := by simpa using hb
    obtain ⟨_, o, e, _, d⟩ := st
    exact ⟨o, e, fun v z => by rw [d] at z; cases z⟩
  keep := fun i h h' ⟨a, o, e, r⟩ k => ⟨a, o, k it (by simp) o e, r⟩
  item := by
    intro X hP hw hK hc i pins s σ H E I hf st hg
    subst hP hw hK
    have hin : i < x.cps.size := hg
    obtain ⟨f0, f1, f2, f3, f4, f5⟩ := hf it (by simp)
    obtain ⟨_, hit⟩ := st
    rw [show (x.cps.size : Int) - 1 - ((i : Nat) : Int) = ((x.cps.size - 1 - i : Nat) : Int) by omega] at hit
    obtain ⟨c, hx⟩ : ∃ c, x.cps[x.cps.size - 1 - i]? = some c := ⟨_, Array.getElem?_eq_getElem (by omega)⟩
    refine rev_item hit hx hz fun h' t tk st' sb => ?_
    rw [show ((x.cps.size - 1 - i : Nat) : Int) - 1 = (x.cps.size : Int) - 1 - ((i + 1 : Nat) : Int) by omega] at st'
    have I1 : Inv X pins σ H { s with heap := h', toks := tk } := I.turned (t' := tk) (fun b o hb e => (sb.2 b hb).trans e) f0 f1 f3 f4 f5
    obtain ⟨o, e, y, d⟩ := id st'
    exact ⟨_, rfl, go_of (s := { s with heap := h', toks := tk }) e y d (by decide) ⟨.str (sg c), H, I1, ⟨t, rfl⟩, ⟨rfl, c, hx, rfl⟩, ⟨hin, st'⟩, fun b hb => (hf b hb).1⟩⟩
  done := by
    intro X hP hw hK hc i pins s σ H E I hf st hg
    subst hP hw hK
    obtain ⟨f0, f1, f2, f3, f4, f5⟩ := hf it (by simp)
    obtain ⟨hin, hit⟩ := st
    have hge : x.cps.size ≤ i := hg
    rw [show (x.cps.size : Int) - 1 - ((i : Nat) : Int) = -1 by omega] at hit
    exact rev_end (I.ok.hd hc) hit fun h' eb => ⟨rfl, I.turned (t' := s.toks) (fun b o hb e => eb b o hb e) f0 f1 f3 f4 f5⟩
  self := fun A i s Q E st h => rev_iter st.2 h
def iRevS (te : TE) : TI := fun σ H R => te σ H fun v H1 => ∃ x : Str, v = .str x ∧ x.length ≤ sizeLine ∧ R (ItRs x) H1
theorem pi_revS {X : Cx} {tg e : Expr} {te : TE} {p pos : Pos} (hg : Gl X "reversed") (hm : X.mg "reversed" = none) (he : PE X e te) (hs : starEach [e] X.env = (false, eval e X.env) :: starEach [] X.env := by rfl) : PI X tg (.Call (.Name "reversed" p) [e] [] pos) (iRevS te) := by
  refine ⟨fun pins s σ H R I h => ?_⟩
  refine Call_ (ld_blt I hg hm PyProof.Rows.boot_reversed (callWith_type1 (args_cons (thn (he.run pins s σ H _ I h) fun v s1 q => args_nil ?_) hs) hs rfl))
  obtain ⟨y, H1, I1, r1, x, rfl, hz, q⟩ := q
  obtain ⟨u, rfl⟩ := r1
  refine rev_new hz fun tk => rev_iter (x := x) (u := u) (i := (x.length : Int) - 1) ⟨_, Heap.get?_push_size _ rfl, rfl, rfl⟩ ?_
  refine pi_one I1 _ (turn_rs x u _ hz) ⟨Nat.zero_le _, ?_⟩ q
  exact ⟨_, Heap.get?_push_size _ rfl, rfl, by show Data.fields _ = Data.fields _; rw [show (x.cps.size : Int) - 1 - ((0 : Nat) : Int) = (x.length : Int) - 1 by show (x.cps.size : Int) - 1 - 0 = (x.cps.size : Int) - 1; omega]⟩
end Kt
namespace Kt
open PySem PySem.Spec PyProof.Rows L2
/-! ### where a sign stands -/
def fi (s : Str) (c : Nat) : Int := Txt.find s (sg c)
theorem fi_spec (s : Str) (c : Nat) : (fi s c = -1 ∧ c ∉ s.cps.toList) ∨ ∃ k : Nat, fi s c = k ∧ s.cps.toList[k]? = some c := by
  unfold fi Txt.find
  rcases PySem.StrLaws.occ_head s (sg c) 1 (Nat.le_refl _) with ⟨h1, h2⟩ | ⟨i, r, h1, h2, _⟩
  · rw [h1]
    refine .inl ⟨rfl, fun hm => ?_⟩
    obtain ⟨i, hi⟩ := List.mem_iff_getElem?.mp hm
    exact h2 i ((PySem.StrLaws.subAt_one s c i).mpr hi)
  · rw [h1]
    exact .inr ⟨i, rfl, (PySem.StrLaws.subAt_one s c i).mp h2⟩
/-- the one set, or the other -/
def at01 (z o : Str) (b : Int) : Str := if b = 0 then z else o
/-- the code of the sign c in the set now, or in both (2) -/
def cod (z o : Str) (c : Nat) (now : Int) : Int := if now ≠ 2 then fi (at01 z o now) c else if fi o c ≠ fi z c then -1 else fi z c
/-- the set behind the code -/
def bhd (hm : V) (k now : Int) : Int := if V.int k = hm then 0 else now
/-- three tapes -/
structure T3 where
  t0 : List Int
  t1 : List Int
  t2 : List Int
def T3.at (t : T3) (b : Int) : List Int := if b = 0 then t.t0 else if b = 1 then t.t1 else t.t2
/-- the tapes without a shift -/
def plainL (z o : Str) (hm : V) (c : Nat) (r : T3) (now : Int) : List (List Int) := if cod z o c now < 0 then [] else [cod z o c now :: r.at (bhd hm (cod z o c now) now)]
def shiftL (z o : Str) (hm : V) (c : Nat) (r : T3) : List (List Int) := (plainL z o hm c r 0).map (fun t => ((z.cps.size : Int) + 0) :: t) ++ (plainL z o hm c r 1).map fun t => ((z.cps.size : Int) + 1) :: t
def IsFirst (L : List (List Int)) (t : List Int) : Prop := t ∈ L ∧ ∀ u ∈ L, ltK u t = false
/-- what is told of a text, from its end on -/
inductive Tells (z o : Str) (hm : V) : List Nat → T3 → Prop
  | nil : Tells z o hm [] ⟨[], [], []⟩
  | cons {c : Nat} {cs : List Nat} {r t : T3} (h : Tells z o hm cs r) (h0 : IsFirst (plainL z o hm c r 0 ++ shiftL z o hm c r) t.t0) (h1 : IsFirst (plainL z o hm c r 1 ++ shiftL z o hm c r) t.t1)
      (h2 : IsFirst (plainL z o hm c r 2 ++ shiftL z o hm c r) t.t2) : Tells z o hm (c :: cs) t
theorem IsFirst.eq {L : List (List Int)} {t u : List Int} (h : IsFirst L t) (g : IsFirst L u) : t = u := by
  rcases ltK_tri (g.2 t h.1) with e | e
  · exact e
  · rw [h.2 u g.1] at e; cases e
theorem ltK_len {a b : List Int} (h : a.length < b.length) : ltK a b = true := by
  unfold ltK; rw [if_neg (by omega)]; exact decide_eq_true h
theorem ltK_ge {a b : List Int} (h : b.length < a.length) : ltK a b = false := by
  unfold ltK; rw [if_neg (by omega)]; exact decide_eq_false (by omega)
theorem ltK_hd {x y : Int} {a b : List Int} (h : a.length = b.length) (hx : y < x) : ltK (x :: a) (y :: b) = false := by
  unfold ltK; rw [if_pos (by simp [h])]
  unfold lx; rw [if_neg (by omega)]; exact decide_eq_false (by omega)
end Kt
namespace Kt
open PySem PySem.Spec PyProof.Rows L2
/-- the sign can be written -/
def InSet (z o : Str) (c : Nat) : Prop := c ∈ z.cps.toList ∨ c ∈ o.cps.toList
def pOf (z o : Str) (hm : V) (c : Nat) (r : T3) (b : Int) : List Int := cod z o c b :: r.at (bhd hm (cod z o c b) b)
theorem cod01 {z o : Str} {c : Nat} {b : Int} (hb : Is01 b) : cod z o c b = fi (at01 z o b) c := by
  unfold cod; rw [if_pos (by rcases hb with e | e <;> omega)]
theorem at01_size {z o : Str} {hm : V} (g : Good z o hm) (b : Int) : (at01 z o b).cps.size = z.cps.size := by
  unfold at01; split
  · rfl
  · exact g.len
theorem cod_lt {z o : Str} {hm : V} (g : Good z o hm) (c : Nat) (b : Int) : cod z o c b < z.cps.size ∧ -1 ≤ cod z o c b := by
  have one : ∀ s : Str, s.cps.size = z.cps.size → fi s c < z.cps.size ∧ -1 ≤ fi s c := fun s hs => by
    rcases fi_spec s c with ⟨e, _⟩ | ⟨k, e, hk⟩
    · rw [e]; have := g.pos; omega
    · rw [e]
      have := (List.getElem?_eq_some_iff.mp hk).1
      rw [Array.length_toList] at this
      omega
  unfold cod
  split
  · exact one _ (at01_size g b)
  · split
    · have := g.pos; omega
    · exact one z rfl
theorem cod_sign {z o : Str} {c : Nat} {b : Int} (hb : Is01 b) (h : 0 ≤ cod z o c b) : (at01 z o b).cps.toList.getD (cod z o c b).toNat 0 = c := by
  rw [cod01 hb] at h ⊢
  rcases fi_spec (at01 z o b) c with ⟨e, _⟩ | ⟨k, e, hk⟩
  · omega
  · rw [e, Int.toNat_natCast, List.getD_eq_getElem?_getD, hk]; rfl
theorem cod_some {z o : Str} {c : Nat} (h : InSet z o c) (b : Int) (hb : Is01 b) : 0 ≤ cod z o c b ∨ 0 ≤ cod z o c (1 - b) := by
  have one : ∀ s : Str, c ∈ s.cps.toList → 0 ≤ fi s c := fun s hs => by
    rcases fi_spec s c with ⟨_, e⟩ | ⟨k, e, _⟩
    · exact absurd hs e
    · omega
  rcases hb with e | e <;> subst e
  · rw [cod01 (.inl rfl), cod01 (b := 1 - 0) (.inr rfl)]
    rcases h with h | h
    · exact .inl (one z h)
    · exact .inr (one o h)
  · rw [cod01 (.inr rfl), cod01 (b := 1 - 1) (.inl rfl)]
    rcases h with h | h
    · exact .inr (one z h)
    · exact .inl (one o h)
theorem mem_plain {z o : Str} {hm : V} {c : Nat} {r : T3} {b : Int} {u : List Int} : u ∈ plainL z o hm c r b ↔ 0 ≤ cod z o c b ∧ u = pOf z o hm c r b := by
  unfold plainL pOf
  split
  · rename_i h
    constructor
    · intro h'; cases h'
    · intro h'; omega
  · rename_i h
    rw [List.mem_singleton]
    exact ⟨fun e => ⟨by omega, e⟩, fun e => e.2⟩
theorem mem_shift {z o : Str} {hm : V} {c : Nat} {r : T3} {u : List Int} : u ∈ shiftL z o hm c r ↔ ∃ b, Is01 b ∧ 0 ≤ cod z o c b ∧ u = ((z.cps.size : Int) + b) :: pOf z o hm c r b := by
  unfold shiftL
  rw [List.mem_append, List.mem_map, List.mem_map]
  constructor
  · rintro (⟨t, h, e⟩ | ⟨t, h, e⟩)
    · obtain ⟨h1, h2⟩ := mem_plain.mp h
      exact ⟨0, .inl rfl, h1, by rw [← e, h2]⟩
    · obtain ⟨h1, h2⟩ := mem_plain.mp h
      exact ⟨1, .inr rfl, h1, by rw [← e, h2]⟩
  · rintro ⟨b, hb, h1, e⟩
    rcases hb with q | q <;> subst q
    · exact .inl ⟨_, mem_plain.mpr ⟨h1, rfl⟩, e.symm⟩
    · exact .inr ⟨_, mem_plain.mpr ⟨h1, rfl⟩, e.symm⟩
/-- the sign's own code is best -/
def GoodNow (z o : Str) (hm : V) (c : Nat) (r : T3) (b : Int) : Prop := 0 ≤ cod z o c b ∧ (0 ≤ cod z o c (1 - b) → (pOf z o hm c r b).length ≤ (pOf z o hm c r (1 - b)).length + 1)
theorem Tells.first {z o : Str} {hm : V} {c : Nat} {r t : T3} {b : Int} (hb : Is01 b) (h0 : IsFirst (plainL z o hm c r 0 ++ shiftL z o hm c r) t.t0) (h1 : IsFirst (plainL z o hm c r 1 ++ shiftL z o hm c r) t.t1) :
    IsFirst (plainL z o hm c r b ++ shiftL z o hm c r) (t.at b) := by
  rcases hb with e | e <;> subst e
  · exact h0
  · exact h1
theorem first_good {z o : Str} {hm : V} (g : Good z o hm) {c : Nat} {r : T3} {b : Int} {u : List Int} (hb : Is01 b) (h : IsFirst (plainL z o hm c r b ++ shiftL z o hm c r) u) (q : GoodNow z o hm c r b) : u = pOf z o hm c r b := by
  refine h.eq ⟨List.mem_append_left _ (mem_plain.mpr ⟨q.1, rfl⟩), fun v hv => ?_⟩
  rcases List.mem_append.mp hv with k | k
  · rw [(mem_plain.mp k).2]; exact ltK_irrefl _
  · obtain ⟨e, he, k1, k2⟩ := mem_shift.mp k
    rw [k2]
    by_cases eb : e = b
    · subst eb
      exact ltK_ge (by simp)
    · obtain rfl : e = 1 - b := by rcases hb with y | y <;> rcases he with y' | y' <;> omega
      have l := q.2 k1
      by_cases l2 : (pOf z o hm c r b).length = (pOf z o hm c r (1 - b)).length + 1
      · have lt := (cod_lt g c b).1
        unfold pOf at l2 ⊢
        refine ltK_hd (by simpa using l2.symm) ?_
        rcases he with y | y <;> omega
      · exact ltK_ge (by simp only [List.length_cons] at *; omega)
theorem first_else {z o : Str} {hm : V} (g : Good z o hm) {c : Nat} {r : T3} {b : Int} {u : List Int} (hs : InSet z o c) (hb : Is01 b) (h : IsFirst (plainL z o hm c r b ++ shiftL z o hm c r) u) (q : ¬ GoodNow z o hm c r b) :
    0 ≤ cod z o c (1 - b) ∧ GoodNow z o hm c r (1 - b) ∧ (0 ≤ cod z o c b → (pOf z o hm c r (1 - b)).length + 1 < (pOf z o hm c r b).length) ∧ u = ((z.cps.size : Int) + (1 - b)) :: pOf z o hm c r (1 - b) := by
  have hb' : Is01 (1 - b) := by rcases hb with y | y <;> subst y; exact .inr rfl; exact .inl rfl
  have e2 : 1 - (1 - b) = b := by omega
  have other : 0 ≤ cod z o c (1 - b) := by
    rcases cod_some hs b hb with k | k
    · by_cases k2 : 0 ≤ cod z o c (1 - b)
      · exact k2
      · exact absurd ⟨k, fun k3 => absurd k3 k2⟩ q
    · exact k
  have far : 0 ≤ cod z o c b → (pOf z o hm c r (1 - b)).length + 1 < (pOf z o hm c r b).length := fun k => by
    by_cases l : (pOf z o hm c r b).length ≤ (pOf z o hm c r (1 - b)).length + 1
    · exact absurd ⟨k, fun _ => l⟩ q
    · omega
  refine ⟨other, ⟨other, fun k => ?_⟩, far, ?_⟩
  · rw [e2] at k ⊢
    have := far k
    omega
  refine h.eq ⟨List.mem_append_right _ (mem_shift.mpr ⟨1 - b, hb', other, rfl⟩), fun v hv => ?_⟩
  rcases List.mem_append.mp hv with k | k
  · obtain ⟨k1, k2⟩ := mem_plain.mp k
    rw [k2]
    exact ltK_ge (by have := far k1; simpa using this)
  · obtain ⟨e, he, k1, k2⟩ := mem_shift.mp k
    rw [k2]
    by_cases eb : e = b
    · subst eb
      exact ltK_ge (by have := far k1; simp only [List.length_cons]; omega)
    · obtain rfl : e = 1 - b := by rcases hb with y | y <;> rcases he with y' | y' <;> omega
      exact ltK_irrefl _
/-- all that is told is short, and of codes -/
theorem Tells.short {z o : Str} {hm : V} (g : Good z o hm) : ∀ {cs : List Nat} {t : T3}, Tells z o hm cs t → ∀ b, (t.at b).length ≤ 2 * cs.length ∧ Codes z.cps.size (t.at b) := by
  intro cs t h
  induction h with
  | nil =>
    intro b
    unfold T3.at
    split
    · exact ⟨Nat.zero_le _, fun c hc => by cases hc⟩
    · split <;> exact ⟨Nat.zero_le _, fun c hc => by cases hc⟩
  | @cons c cs r t h h0 h1 h2 ih =>
    have plain : ∀ b u, u ∈ plainL z o hm c r b → u.length ≤ 2 * cs.length + 1 ∧ Codes z.cps.size u := fun b u hu => by
      obtain ⟨k1, k2⟩ := mem_plain.mp hu
      have i := ih (bhd hm (cod z o c b) b)
      have lt := (cod_lt g c b).1
      rw [k2]
      unfold pOf
      refine ⟨by simp only [List.length_cons]; omega, fun d hd => ?_⟩
      rcases List.mem_cons.mp hd with y | y
      · rw [y]; omega
      · exact i.2 d y
    have all : ∀ b u, u ∈ plainL z o hm c r b ++ shiftL z o hm c r → u.length ≤ 2 * (c :: cs).length ∧ Codes z.cps.size u := fun b u hu => by
      rcases List.mem_append.mp hu with k | k
      · have := plain b u k
        exact ⟨by simp only [List.length_cons]; omega, this.2⟩
      · obtain ⟨e, he, k1, k2⟩ := mem_shift.mp k
        have i := plain e _ (mem_plain.mpr ⟨k1, rfl⟩)
        rw [k2]
        refine ⟨by simp only [List.length_cons]; omega, fun d hd => ?_⟩
        rcases List.mem_cons.mp hd with y | y
        · rw [y]; rcases he with y' | y' <;> omega
        · exact i.2 d y
    intro b
    unfold T3.at
    split
    · exact all 0 _ h0.1
    · split
      · exact all 1 _ h1.1
      · exact all 2 _ h2.1
end Kt
namespace Kt
open PySem PySem.Spec PyProof.Rows L2
theorem is01_bhd {hm : V} {k b : Int} (hb : Is01 b) : Is01 (bhd hm k b) := by
  unfold bhd; split
  · exact .inl rfl
  · exact hb
theorem is01_other {b : Int} (hb : Is01 b) : Is01 (1 - b) := by rcases hb with y | y <;> subst y; exact .inr rfl; exact .inl rfl
/-- s and the signs cs behind -/
def catS (s : Str) (cs : List Nat) : Str := cs.foldl (fun s c => s ++ sg c) s
theorem catS_list : ∀ (cs : List Nat) (s : Str), (catS s cs).cps.toList = s.cps.toList ++ cs
  | [], s => by simp [catS]
  | c :: cs, s => by
    have ih := catS_list cs (s ++ sg c)
    have e : (s ++ sg c).cps.toList = s.cps.toList ++ [c] := by
      rw [Str.cps_append]; simp [sg]
    show (catS (s ++ sg c) cs).cps.toList = _
    rw [ih, e]; simp
theorem catS_all (x : Str) : catS (Str.ofString "") x.cps.toList = x := by
  have h := catS_list x.cps.toList (Str.ofString "")
  have e : (Str.ofString "").cps.toList = [] := by decide +kernel
  rw [e, List.nil_append] at h
  obtain ⟨a⟩ := x
  generalize catS (Str.ofString "") a.toList = y at h
  obtain ⟨b⟩ := y
  have h2 : b.toList = a.toList := h
  rw [Array.toList_inj.mp h2]
theorem rdStep_own {z o : Str} {hm : V} (g : Good z o hm) {c : Nat} {b : Int} (s : Str) (hb : Is01 b) (h : 0 ≤ cod z o c b) : rdStep z o hm (s, b) (cod z o c b) = (s ++ sg c, bhd hm (cod z o c b) b) := by
  have lt := (cod_lt g c b).1
  unfold rdStep bhd
  rw [if_neg (by omega)]
  have e := cod_sign hb h
  unfold at01 at e
  show (s ++ sg ((if b = 0 then z else o).cps.toList.getD (cod z o c b).toNat 0), _) = _
  rw [e]
theorem rdStep_shift {z o : Str} {hm : V} {b e : Int} (s : Str) (he : Is01 e) : rdStep z o hm (s, b) ((z.cps.size : Int) + e) = (s, e) := by
  unfold rdStep
  rw [if_pos (by rcases he with y | y <;> omega)]
  show (s, (z.cps.size : Int) + e - z.cps.size) = (s, e)
  congr 1; omega
theorem Tells.read {z o : Str} {hm : V} (g : Good z o hm) : ∀ {cs : List Nat} {t : T3}, Tells z o hm cs t → (∀ c ∈ cs, InSet z o c) → ∀ b s, Is01 b → ((t.at b).foldl (rdStep z o hm) (s, b)).1 = catS s cs := by
  intro cs t h
  induction h with
  | nil =>
    intro _ b s hb
    rcases hb with e | e <;> subst e <;> rfl
  | @cons c cs r t h h0 h1 h2 ih =>
    intro hs b s hb
    have ins := hs c List.mem_cons_self
    have ih' := ih fun d hd => hs d (List.mem_cons_of_mem _ hd)
    have own : ∀ e, Is01 e → 0 ≤ cod z o c e → ((pOf z o hm c r e).foldl (rdStep z o hm) (s, e)).1 = catS s (c :: cs) := fun e he k => by
      unfold pOf
      rw [List.foldl_cons, rdStep_own g s he k, ih' _ _ (is01_bhd he)]
      rfl
    have f := Tells.first hb h0 h1
    by_cases q : GoodNow z o hm c r b
    · rw [first_good g hb f q]; exact own b hb q.1
    · obtain ⟨k, _, _, e⟩ := first_else g ins hb f q
      rw [e, List.foldl_cons, rdStep_shift s (is01_other hb)]
      exact own _ (is01_other hb) k
/-- what the law reckons: the least length by the sign's own code -/
def rowC (z o : Str) (hm : V) (c : Nat) (r : T3) (b : Int) : Int := if 0 ≤ cod z o c b then min 1000 (1 + ((r.at (bhd hm (cod z o c b) b)).length : Int)) else 1000
theorem pOf_len (z o : Str) (hm : V) (c : Nat) (r : T3) (b : Int) : ((pOf z o hm c r b).length : Int) = 1 + ((r.at (bhd hm (cod z o c b) b)).length : Int) := by
  unfold pOf; rw [List.length_cons]; omega
theorem cost_of {z o : Str} {hm : V} (g : Good z o hm) {c : Nat} {cs : List Nat} {r t : T3} {b : Int} (hr : Tells z o hm cs r) (hl : cs.length ≤ 400) (ins : InSet z o c) (hb : Is01 b) (f : IsFirst (plainL z o hm c r b ++ shiftL z o hm c r) (t.at b)) :
    ((t.at b).length : Int) = min (rowC z o hm c r b) (rowC z o hm c r (1 - b) + 1) := by
  have s1 := (Tells.short g hr (bhd hm (cod z o c b) b)).1
  have s2 := (Tells.short g hr (bhd hm (cod z o c (1 - b)) (1 - b))).1
  have l1 := pOf_len z o hm c r b
  have l2 := pOf_len z o hm c r (1 - b)
  unfold rowC
  by_cases q : GoodNow z o hm c r b
  · rw [first_good g hb f q, if_pos q.1]
    by_cases k : 0 ≤ cod z o c (1 - b)
    · have := q.2 k
      rw [if_pos k]; omega
    · rw [if_neg k]; omega
  · obtain ⟨k, _, far, e⟩ := first_else g ins hb f q
    rw [e, if_pos k, List.length_cons]
    by_cases k2 : 0 ≤ cod z o c b
    · have := far k2
      rw [if_pos k2]; omega
    · rw [if_neg k2]; omega
/-- the law's own look: the code is good where it leads to as few -/
theorem good_iff {z o : Str} {hm : V} (g : Good z o hm) {c : Nat} {cs : List Nat} {r t : T3} {b : Int} (ins : InSet z o c) (hb : Is01 b) (f : IsFirst (plainL z o hm c r b ++ shiftL z o hm c r) (t.at b)) (h : 0 ≤ cod z o c b) :
    (1 + ((r.at (bhd hm (cod z o c b) b)).length : Int) = ((t.at b).length : Int)) ↔ GoodNow z o hm c r b := by
  have l1 := pOf_len z o hm c r b
  constructor
  · intro e
    by_cases q : GoodNow z o hm c r b
    · exact q
    · obtain ⟨k, _, far, e2⟩ := first_else g ins hb f q
      have := far h
      rw [e2, List.length_cons] at e
      omega
  · intro q
    rw [first_good g hb f q]; omega
/-- the codes of a sign in a set, as the law finds them -/
def codesL (s : Str) (c : Nat) : List Int := ((List.range s.cps.size).filter fun k => decide (s.cps.toList[k]? = some c)).map fun k => ((k : Nat) : Int)
theorem filter_one {p : Nat → Bool} {k : Nat} : ∀ n, k < n → p k = true → (∀ j, j < n → p j = true → j = k) → (List.range n).filter p = [k]
  | 0, h, _, _ => absurd h (Nat.not_lt_zero _)
  | n + 1, h, hk, hu => by
    rw [List.range_succ, List.filter_append]
    by_cases e : k = n
    · subst e
      have : (List.range k).filter p = [] := List.filter_eq_nil_iff.mpr fun j hj q => by
        have hj := List.mem_range.mp hj
        have := hu j (by omega) q
        omega
      rw [this]; simp [hk]
    · rw [filter_one n (by omega) hk fun j hj q => hu j (by omega) q]
      have : p n = false := by
        cases q : p n with
        | false => rfl
        | true => exact absurd (hu n (Nat.lt_succ_self _) q) (Ne.symm e)
      simp [this]
theorem codesL_eq {s : Str} (hn : s.cps.toList.Nodup) (c : Nat) : codesL s c = if 0 ≤ fi s c then [fi s c] else [] := by
  unfold codesL
  rcases fi_spec s c with ⟨e, h⟩ | ⟨k, e, h⟩
  · rw [e, if_neg (by decide), List.filter_eq_nil_iff.mpr fun j _ q => h (List.mem_of_getElem? (of_decide_eq_true q))]; rfl
  · rw [e, if_pos (by omega)]
    have hk := (List.getElem?_eq_some_iff.mp h).1
    rw [Array.length_toList] at hk
    rw [filter_one s.cps.size hk (decide_eq_true h) fun j hj q => nd_ix hn (of_decide_eq_true q) h]; rfl
end Kt
namespace Kt
open PySem PySem.Spec PyProof.Rows L2
/-! ### enumerate(s), s a text -/
def ItEs (x : Str) : It :=
  ⟨fun i _ => i < x.cps.size, fun i H v H' => ∃ T c, v = .ref T ∧ H T = none ∧ H' = upd H T (.tup [.int (i : Nat), .str (sg c)]) ∧ x.cps[i]? = some c, fun i _ => x.cps.size ≤ i⟩
theorem turn_enumS {P : Program} {w : World} {K : PySem.W.Frag} {elts : List Expr} {kk : Nat} {tpos : Pos} (x : Str) (t : Tok) (e it : Addr) (ty : String) (hty : ty = "str_ascii_iterator" ∨ ty = "str_iterator") :
    Turn P w K (.Tuple elts kk tpos) (ItEs x) [e, it] e (fun i h => (∃ old, IsEnum h e it ((i : Nat) : Int) old) ∧ i ≤ x.cps.size ∧ h.IsStrIter it ty x t i ∧ e ≠ it) where
  mem := by simp
  obj := fun i h st b hb => by
    obtain ⟨⟨old, he⟩, _, ⟨o, ho, hc, hd⟩, _⟩ := st
    have e' : b = e ∨ b = it := by simpa using hb
    rcases e' with z | z
    · rw [z]; exact ⟨_, he, fun v q => nomatch q⟩
    · rw [z]; exact ⟨o, ho, fun v q => by rw [hd] at q; cases q⟩
  keep := fun i h h' st k => let ⟨⟨old, he⟩, hle, ⟨o, ho, r⟩, hne⟩ := st; ⟨⟨old, k e (by simp) _ he⟩, hle, ⟨o, k it (by simp) o ho, r⟩, hne⟩
  item := by
    intro X hP hw hK hc i pins s σ H E I hf st hg
    subst hP hw hK
    obtain ⟨⟨old, he⟩, _, hit, hne⟩ := st
    have hin : i < x.cps.size := hg
    have hel : e < s.heap.objs.size := Heap.lt_size he
    have hil : it < s.heap.objs.size := by obtain ⟨_, q, _⟩ := hit; exact Heap.lt_size q
    have D : Draws X.prog X.w X.A.in1 it [it] x.cps.size (fun i v => ∃ c u, x.cps[i]? = some c ∧ v = .str ⟨#[c]⟩ u) (fun i h => h.IsStrIter it ty x t i) := by
      rcases hty with z | z
      · rw [z]; exact Draws.strAscii (A := X.A.in1) (I.ok.hd hc) it x t
      · rw [z]; exact Draws.strWide (A := X.A.in1) (I.ok.hd hc) it x t
    refine wpAny_pyNext_enum_itemD D he hit hin hne (by simpa using hne) fun v h' tk hv ho hit' hT hsz hk => ?_
    obtain ⟨c, u, hcx, rfl⟩ := hv
    refine ⟨_, rfl, wpAny_letOwnedTupleGo_enum (s := { s with heap := h', toks := tk + 1 }) ho fun h'' he' sb => ?_⟩
    have hT2 : h''.get? s.heap.objs.size = some { cls := .type "tuple", data := .seq #[.int i tk, .str ⟨#[c]⟩ u] } := (sb.2 _ (Nat.ne_of_gt hel)).trans hT
    have new : ObjOk X.prog X.w (upd H s.heap.objs.size (.tup [.int (i : Nat), .str (sg c)])) h'' s.heap.objs.size (.tup [.int (i : Nat), .str (sg c)]) :=
      ⟨by show 2 ≤ sizeLine; decide, [.int i tk, .str ⟨#[c]⟩ u], .cons ⟨_, rfl⟩ (.cons ⟨_, rfl⟩ .nil), ⟨_, hT2, rfl, _, rfl⟩⟩
    have I1 : Inv X pins σ (upd H s.heap.objs.size (.tup [.int (i : Nat), .str (sg c)])) { s with heap := h'', toks := tk + 1 } :=
      I.turnedNew (ch := [e, it]) (fun b ob hb q => (sb.2 b (fun z => hb (by simp [z]))).trans (hk b ob (fun z => hb (by simp [z])) (fun z => hb (by simp [z])) q)) hf (Nat.le_refl _) new
    refine ⟨.ref s.heap.objs.size, _, I1, rfl, ⟨_, c, rfl, I.hok.fresh (Nat.le_refl _), rfl, hcx⟩, ⟨⟨.str ⟨#[c]⟩ u, ?_⟩, hin, ?_, hne⟩, fun b hb => ?_⟩
    · have e1 : ((i + 1 : Nat) : Int) = (i : Int) + 1 := by omega
      rw [e1]; exact he'
    · obtain ⟨o, q, r⟩ := hit'
      exact ⟨o, (sb.2 it (Ne.symm hne)).trans q, r⟩
    · have hb' : b < s.heap.objs.size := by
        have e' : b = e ∨ b = it := by simpa using hb
        rcases e' with z | z
        · rw [z]; exact hel
        · rw [z]; exact hil
      rw [upd_ne (Nat.ne_of_lt hb')]
      exact (hf b hb).1
  done := by
    intro X hP hw hK hc i pins s σ H E I hf st hg
    subst hP hw hK
    obtain ⟨⟨old, he⟩, hle, hit, hne⟩ := st
    have hge : x.cps.size ≤ i := hg
    obtain rfl : i = x.cps.size := Nat.le_antisymm hle hge
    obtain ⟨f0, f1, f2, f3, f4, f5⟩ := hf it (by simp)
    have D : Draws X.prog X.w X.A.in1 it [it] x.cps.size (fun i v => ∃ c u, x.cps[i]? = some c ∧ v = .str ⟨#[c]⟩ u) (fun i h => h.IsStrIter it ty x t i) := by
      rcases hty with z | z
      · rw [z]; exact Draws.strAscii (A := X.A.in1) (I.ok.hd hc) it x t
      · rw [z]; exact Draws.strWide (A := X.A.in1) (I.ok.hd hc) it x t
    exact wpAny_pyNext_enum_endD D he hit fun h' eb => ⟨rfl, I.turned (t' := s.toks) (fun b o hb q => eb b o hb q) f0 f1 f3 f4 f5⟩
  self := fun A i s Q E st h => let ⟨⟨_, he⟩, _⟩ := st; wpAny_pyIter_enum he h
def iEnumS (ta : TA) : TI := fun σ H R => ta σ H fun vs H1 => ∃ x : Str, vs = [.str x] ∧ R (ItEs x) H1
theorem pi_enumS {X : Cx} {e : Expr} {ta : TA} {p pos tpos : Pos} {elts : List Expr} {kk : Nat} (hg : Gl X "enumerate") (hm : X.mg "enumerate" = none) (ha : PA X [e] ta) (hs : starEach [e] X.env = [(false, eval e X.env)] := by rfl) :
    PI X (.Tuple elts kk tpos) (.Call (.Name "enumerate" p) [e] [] pos) (iEnumS ta) := by
  refine ⟨fun pins s σ H R I h => ?_⟩
  refine Call_ (ld_blt I hg hm boot_enumerate (PyProof.Rows.callWith_type1 (thn (ha.run pos pins s σ H _ I h) fun us s1 ⟨vs, H1, I1, r1, q1⟩ => ?_) hs rfl))
  obtain ⟨x, ex, q⟩ := q1
  subst ex
  cases r1 with
  | cons r rr =>
    cases rr
    obtain ⟨t, rfl⟩ := r
    refine call_enumerate_str fun h' he hit hsz hk => wpAny_pyIter_enum he ?_
    have I2 : Inv X pins σ H1 { s1 with heap := h' } := I1.kept (t' := s1.toks) hk
    have hty : strIterType x = "str_ascii_iterator" ∨ strIterType x = "str_iterator" := by
      unfold strIterType
      split
      · first | exact .inl rfl | exact .inr rfl
      · first | exact .inr rfl | exact .inl rfl
    refine ⟨s1.heap.objs.size + 1, [s1.heap.objs.size + 1, s1.heap.objs.size], _, _, H1, rfl, I2, turn_enumS x t (s1.heap.objs.size + 1) s1.heap.objs.size _ hty, ⟨⟨.none, he⟩, Nat.zero_le _, hit, Nat.succ_ne_self _⟩, fun b hb => ?_, q⟩
    have e' : b = s1.heap.objs.size + 1 ∨ b = s1.heap.objs.size := by simpa using hb
    have hle : s1.heap.objs.size ≤ b := by
      rcases e' with z | z
      · rw [z]; exact Nat.le_add_right _ _
      · rw [z]; exact Nat.le_refl _
    exact I1.fpOk hle (I1.hok.fresh hle)
end Kt
namespace Kt
open PySem PySem.Spec PyProof.Rows L2
/-! ### two tables -/
structure Tw (P1 P2 : Addr) (q : Str) (H : Hp) : Prop where
  t1 : GxR.TabG H P1
  t2 : LamX.TabS H P2 q
structure Kq (P1 P2 : Addr) (q : Str) (H H' : Hp) : Prop where
  tw : Tw P1 P2 q H'
  at' : ∀ b o, b ≠ P1 → b ≠ P2 → H b = some o → H' b = some o
section
variable {P1 P2 : Addr} {q : Str} {H H1 H' : Hp}
theorem tabS_ne {b : Addr} {o : HO} (t : LamX.TabS H P2 q) (h : H b = some o) (n : ∀ ps, o ≠ .tbl ps) : b ≠ P2 := fun e => by
  obtain ⟨ps, h1, _⟩ := t
  rw [e, h1] at h
  exact n ps (Option.some.inj h).symm
theorem tabS_new {b : Addr} (t : LamX.TabS H P2 q) (h : H b = none) : b ≠ P2 := fun e => by
  obtain ⟨ps, h1, _⟩ := t
  rw [e, h1] at h
  cases h
theorem Kq.refl (t : Tw P1 P2 q H) : Kq P1 P2 q H H := ⟨t, fun _ _ _ _ h => h⟩
theorem Kq.trans (a : Kq P1 P2 q H H1) (b : Kq P1 P2 q H1 H') : Kq P1 P2 q H H' := ⟨b.tw, fun c o n1 n2 h => b.at' c o n1 n2 (a.at' c o n1 n2 h)⟩
theorem Tw.same (t : Tw P1 P2 q H) (s : Same H H') : Tw P1 P2 q H' := ⟨tab_same t.t1 fun o e => s _ o e, t.t2.ext s⟩
theorem Kq.same (t : Tw P1 P2 q H) (s : Same H H') : Kq P1 P2 q H H' := ⟨t.same s, fun b o _ _ h => s b o h⟩
theorem Kq.get {b : Addr} {o : HO} (k : Kq P1 P2 q H H') (t : Tw P1 P2 q H) (h : H b = some o) (n : ∀ ps, o ≠ .tbl ps) : H' b = some o := k.at' b o (tab_ne t.t1 h n) (tabS_ne t.t2 h n) h
theorem Kq.new {b : Addr} (k : Kq P1 P2 q H H') (h : H' b = none) : H b = none := by
  cases z : H b with
  | none => rfl
  | some o =>
    rw [k.at' b o (tab_new k.tw.t1 h) (tabS_new k.tw.t2 h) z] at h
    cases h
theorem Kq.kp (ne : P1 ≠ P2) (t : Tw P1 P2 q H) (k : Kp P1 H H') : Kq P1 P2 q H H' := by
  refine ⟨⟨k.tab, ?_⟩, fun b o n1 _ h => k.at' b o n1 h⟩
  obtain ⟨ps, h1, h2, h3⟩ := t.t2
  refine ⟨ps, k.at' _ _ ne.symm h1, h2, fun pos cv hc => ?_⟩
  obtain ⟨c, e1, e2⟩ := h3 pos cv hc
  exact ⟨c, e1, k.get t.t1 e2 fun ps => LamX.codeO_ne ps⟩
theorem Kq.but (ne : P1 ≠ P2) (t : Tw P1 P2 q H) (b : But P2 H H') (t2 : LamX.TabS H' P2 q) : Kq P1 P2 q H H' :=
  ⟨⟨tab_same t.t1 fun o e => b _ o ne e, t2⟩, fun c o _ n h => b c o n h⟩
theorem Kq.sh {t : Addr} {z o : Str} {hm : V} (k : Kq P1 P2 q H H') (tw : Tw P1 P2 q H) (h : Sh H t z o hm) : Sh H' t z o hm := k.get tw h fun _ e => (nomatch e)
theorem Kq.lst {a : Addr} {xs : List V} (k : Kq P1 P2 q H H') (tw : Tw P1 P2 q H) (h : H a = some (.lst xs)) : H' a = some (.lst xs) := k.get tw h fun _ e => (nomatch e)
theorem BoxAt.kq {b l : Addr} (x : BoxAt H b l) (tw : Tw P1 P2 q H) (k : Kq P1 P2 q H H') : BoxAt H' b l := by
  obtain ⟨ns, st, h1, h2⟩ := x
  exact ⟨ns, st, k.lst tw h1, k.lst tw h2⟩
theorem Bxd.tw {b l : Addr} (x : Bxd b l H H') (bx : BoxAt H b l) (t : Tw P1 P2 q H) : Tw P1 P2 q H' := by
  refine ⟨x.tab bx t.t1, ?_⟩
  obtain ⟨ps, h1, h2, h3⟩ := t.t2
  obtain ⟨ns, st, q1, q2⟩ := bx
  have st : ∀ c (o : HO), (∀ us, o ≠ .lst us) → H c = some o → H' c = some o := fun c o n e => x.at' c o (ne_of e q1 (n _)) (ne_of e q2 (n _)) e
  refine ⟨ps, st _ _ (fun _ e => nomatch e) h1, h2, fun pos cv hc => ?_⟩
  obtain ⟨c, e1, e2⟩ := h3 pos cv hc
  exact ⟨c, e1, st _ _ (fun us e => by unfold LamX.CodeO at e; cases e) e2⟩
end
/-! ### lists of tapes -/
def Rows (H : Hp) : List Addr → List (List Int) → Prop
  | [], [] => True
  | a :: as, u :: L => H a = some (.lst (u.map V.int)) ∧ Rows H as L
  | _, _ => False
theorem Rows.mono {H H' : Hp} (k : ∀ a (u : List Int), H a = some (.lst (u.map V.int)) → H' a = some (.lst (u.map V.int))) : ∀ {as : List Addr} {L : List (List Int)}, Rows H as L → Rows H' as L
  | [], [], _ => trivial
  | a :: as, u :: L, h => ⟨k _ _ h.1, Rows.mono k h.2⟩
  | [], _ :: _, h => h.elim
  | _ :: _, [], h => h.elim
theorem Rows.same {H H' : Hp} (s : Same H H') {as : List Addr} {L : List (List Int)} (h : Rows H as L) : Rows H' as L := h.mono fun a u e => s _ _ e
theorem Rows.len {H : Hp} : ∀ {as : List Addr} {L : List (List Int)}, Rows H as L → as.length = L.length
  | [], [], _ => rfl
  | a :: as, u :: L, h => congrArg (· + 1) (Rows.len h.2)
  | [], _ :: _, h => h.elim
  | _ :: _, [], h => h.elim
theorem Rows.app {H : Hp} : ∀ {as bs : List Addr} {L M : List (List Int)}, Rows H as L → Rows H bs M → Rows H (as ++ bs) (L ++ M)
  | [], _, [], _, _, g => g
  | a :: as, _, u :: L, _, h, g => ⟨h.1, Rows.app h.2 g⟩
  | [], _, _ :: _, _, h, _ => h.elim
  | _ :: _, _, [], _, h, _ => h.elim
theorem Rows.get {H : Hp} : ∀ {as : List Addr} {L : List (List Int)}, Rows H as L → ∀ {i : Nat} {a : Addr}, as[i]? = some a → ∃ u, L[i]? = some u ∧ H a = some (.lst (u.map V.int))
  | [], [], _, i, a, e => by simp at e
  | b :: as, u :: L, h, 0, a, e => by
    simp at e; subst e
    exact ⟨u, rfl, h.1⟩
  | b :: as, u :: L, h, i + 1, a, e => by
    obtain ⟨v, e1, e2⟩ := Rows.get h.2 (i := i) (a := a) (by simpa using e)
    exact ⟨v, by simpa using e1, e2⟩
  | [], _ :: _, h, _, _, _ => h.elim
  | _ :: _, [], h, _, _, _ => h.elim
def Three (H : Hp) (rs a0 a1 a2 : Addr) (r : T3) : Prop := H rs = some (.lst [.ref a0, .ref a1, .ref a2]) ∧ H a0 = some (.lst (r.t0.map V.int)) ∧ H a1 = some (.lst (r.t1.map V.int)) ∧ H a2 = some (.lst (r.t2.map V.int))
theorem Three.mono {H H' : Hp} {rs a0 a1 a2 : Addr} {r : T3} (k : ∀ a (us : List V), H a = some (.lst us) → H' a = some (.lst us)) (h : Three H rs a0 a1 a2 r) : Three H' rs a0 a1 a2 r := ⟨k _ _ h.1, k _ _ h.2.1, k _ _ h.2.2.1, k _ _ h.2.2.2⟩
def Is012 (b : Int) : Prop := b = 0 ∨ b = 1 ∨ b = 2
theorem Three.at {H : Hp} {rs a0 a1 a2 : Addr} {r : T3} (h : Three H rs a0 a1 a2 r) {b : Int} (hb : Is012 b) : ∃ a, atI [V.ref a0, V.ref a1, V.ref a2] b = some (.ref a) ∧ H a = some (.lst ((r.at b).map V.int)) ∧ (a = a0 ∨ a = a1 ∨ a = a2) := by
  rcases hb with e | e | e <;> subst e
  · exact ⟨a0, atI_nat (j := 0) rfl, h.2.1, .inl rfl⟩
  · exact ⟨a1, atI_nat (j := 1) rfl, h.2.2.1, .inr (.inl rfl)⟩
  · exact ⟨a2, atI_nat (j := 2) rfl, h.2.2.2, .inr (.inr rfl)⟩
def Short3 (r : T3) : Prop := ∀ b, (r.at b).length ≤ 500
theorem is012_bhd {hm : V} {k b : Int} (hb : Is012 b) : Is012 (bhd hm k b) := by
  unfold bhd; split
  · exact .inl rfl
  · exact hb
theorem behind_own {z o : Str} {hm : V} (g : Good z o hm) (c : Nat) (b : Int) : behind z hm (cod z o c b) b = bhd hm (cod z o c b) b := by
  have := (cod_lt g c b).1
  unfold behind bhd
  rw [if_neg (by omega)]
theorem best_first {L : List (List Int)} {i : Nat} (h : L ≠ []) (hi : i < L.length) (b : Best (fun j => L.getD j []) i (L.length - 1)) : IsFirst L (L.getD i []) := by
  have gd : ∀ j, j < L.length → L.getD j [] = L[j]! := fun j hj => by simp [List.getD_eq_getElem?_getD, hj]
  refine ⟨?_, fun u hu => ?_⟩
  · rw [List.getD_eq_getElem?_getD, List.getElem?_eq_getElem hi]
    exact List.getElem_mem hi
  · obtain ⟨k, hk, e⟩ := List.mem_iff_getElem.mp hu
    have := (b.2 k (by omega)).1
    have e2 : L.getD k [] = u := by rw [List.getD_eq_getElem?_getD, List.getElem?_eq_getElem hk, e]; rfl
    rw [← e2]; exact this
/-! ### the promises of the program -/
def spCheckText : Sp := fun vs H Q _ => ∃ (t : Addr) (z o : Str) (hm : V) (x : Str), vs = [.ref t, .str x] ∧ Good z o hm ∧ Sh H t z o hm ∧ x.cps.size ≤ 32 ∧ (∀ c ∈ x.cps.toList, InSet z o c) ∧ ∀ H', Same H H' → Q .non H'
def spCodeOf : Sp := fun vs H Q _ => ∃ (t : Addr) (z o : Str) (hm : V) (c : Nat) (now : Int), vs = [.ref t, .str (sg c), .int now] ∧ Good z o hm ∧ Sh H t z o hm ∧ Is012 now ∧ Q (.int (cod z o c now)) H
def spWithout : Sp := fun vs H Q _ => ∃ (t : Addr) (z o : Str) (hm : V) (c : Nat) (now : Int) (rs a0 a1 a2 : Addr) (r : T3), vs = [.ref t, .str (sg c), .int now, .ref rs] ∧ Good z o hm ∧ Sh H t z o hm ∧ Is012 now ∧ Three H rs a0 a1 a2 r ∧ Short3 r ∧
  ∀ p as H', Same H H' → H p = none → H' p = some (.lst (as.map V.ref)) → Rows H' as (plainL z o hm c r now) → (∀ a ∈ as, H a = none) → Q (.ref p) H'
def spFirst (P2 : Addr) (q : Str) : Sp := fun vs H Q _ => ∃ (l : Addr) (as : List Addr) (L : List (List Int)), vs = [.ref l] ∧ H l = some (.lst (as.map V.ref)) ∧ Rows H as L ∧ L ≠ [] ∧ (∀ u ∈ L, u.length ≤ 1000000) ∧ LamX.TabS H P2 q ∧
  ∀ a u H', But P2 H H' → LamX.TabS H' P2 q → a ∈ as → H a = some (.lst (u.map V.int)) → IsFirst L u → Q (.ref a) H'
def spWith (P1 P2 : Addr) (q : Str) : Sp := fun vs H Q _ => ∃ (t : Addr) (z o : Str) (hm : V) (c : Nat) (rs a0 a1 a2 : Addr) (r : T3), vs = [.ref t, .str (sg c), .ref rs] ∧ Good z o hm ∧ Sh H t z o hm ∧ Three H rs a0 a1 a2 r ∧ Short3 r ∧ InSet z o c ∧ Tw P1 P2 q H ∧
  ∀ p b0 b1 b2 T H', Kq P1 P2 q H H' → H b0 = none → H b1 = none → H b2 = none → Three H' p b0 b1 b2 T → (∀ b, Is012 b → IsFirst (plainL z o hm c r b ++ shiftL z o hm c r) (T.at b)) → Q (.ref p) H'
def spBestTapes (P1 P2 : Addr) (q : Str) : Sp := fun vs H Q _ => ∃ (t : Addr) (z o : Str) (hm : V) (x : Str), vs = [.ref t, .str x] ∧ Good z o hm ∧ Sh H t z o hm ∧ x.cps.size ≤ 32 ∧ (∀ c ∈ x.cps.toList, InSet z o c) ∧ Tw P1 P2 q H ∧
  ∀ p b0 b1 b2 T H', Kq P1 P2 q H H' → H b0 = none → H b1 = none → H b2 = none → Three H' p b0 b1 b2 T → Tells z o hm x.cps.toList T → Q (.ref p) H'
def spShortest (P1 P2 : Addr) (q : Str) : Sp := fun vs H Q _ => ∃ (t : Addr) (z o : Str) (hm : V) (x : Str) (b : Int), vs = [.ref t, .str x, .int b] ∧ Good z o hm ∧ Sh H t z o hm ∧ x.cps.size ≤ 32 ∧ (∀ c ∈ x.cps.toList, InSet z o c) ∧ Is01 b ∧ Tw P1 P2 q H ∧
  ∀ a T H', Kq P1 P2 q H H' → H a = none → Tells z o hm x.cps.toList T → H' a = some (.lst ((T.at b).map V.int)) → Q (.ref a) H'
end Kt
namespace Kt
open PySem PySem.Spec PyProof.Rows L2
/-! ### walks in a comprehension of two fors -/
theorem walk_t {K : PySem.W.Frag} {a : Addr} {xs : List V} {H0 : Hp} {Nd : Hp → Prop} {Z : V → (Hp → Prop) → Hp → Prop} (Pv : Nat → Hp → Prop) (h0 : Pv 0 H0) (hl : ∀ i H, i ≤ xs.length → Pv i H → SqT K H a xs)
    (hs : ∀ i x H, xs[i]? = some x → Pv i H → Z x (Pv (i + 1)) H) (hd : ∀ H, Pv xs.length H → Nd H) :
    ∃ W : Nat → Nat → Hp → Prop, (∃ m, W 0 m H0) ∧ ∀ i m H, W i m H → ((Itt K a).stop i H ∧ Nd H) ∨ ((Itt K a).go i H ∧ ∃ Nx : Hp → Prop, (∀ H', Nx H' → ∃ m', m' < m ∧ W (i + 1) m' H') ∧ ∀ x H', (Itt K a).yld i H x H' → Z x Nx H') := by
  refine ⟨fun i m H => m + i = xs.length ∧ Pv i H, ⟨xs.length, rfl, h0⟩, fun i m H hW => ?_⟩
  obtain ⟨em, p⟩ := hW
  have hS := hl i H (by omega) p
  cases m with
  | zero =>
    obtain rfl : i = xs.length := by omega
    exact .inl ⟨⟨xs, hS, Nat.le_refl _⟩, hd H p⟩
  | succ m =>
    have hlt : i < xs.length := by omega
    refine .inr ⟨⟨xs, xs[i], hS, List.getElem?_eq_getElem hlt⟩, Pv (i + 1), fun H' p' => ⟨m, Nat.lt_succ_self _, by omega, p'⟩, fun x H' hy => ?_⟩
    obtain ⟨rfl, hy⟩ := hy
    exact hs i x _ (hy xs hS) p
theorem walk_l {K : PySem.W.Frag} {a : Addr} {xs : List V} {H0 : Hp} {Nd : Hp → Prop} {Z : V → (Hp → Prop) → Hp → Prop} (Pv : Nat → Hp → Prop) (h0 : Pv 0 H0) (hl : ∀ i H, i ≤ xs.length → Pv i H → SqL K H a xs)
    (hs : ∀ i x H, xs[i]? = some x → Pv i H → Z x (Pv (i + 1)) H) (hd : ∀ H, Pv xs.length H → Nd H) :
    ∃ W : Nat → Nat → Hp → Prop, (∃ m, W 0 m H0) ∧ ∀ i m H, W i m H → ((Itl K a).stop i H ∧ Nd H) ∨ ((Itl K a).go i H ∧ ∃ Nx : Hp → Prop, (∀ H', Nx H' → ∃ m', m' < m ∧ W (i + 1) m' H') ∧ ∀ x H', (Itl K a).yld i H x H' → Z x Nx H') := by
  refine ⟨fun i m H => m + i = xs.length ∧ Pv i H, ⟨xs.length, rfl, h0⟩, fun i m H hW => ?_⟩
  obtain ⟨em, p⟩ := hW
  have hS := hl i H (by omega) p
  cases m with
  | zero =>
    obtain rfl : i = xs.length := by omega
    exact .inl ⟨⟨xs, hS, Nat.le_refl _⟩, hd H p⟩
  | succ m =>
    have hlt : i < xs.length := by omega
    refine .inr ⟨⟨xs, xs[i], hS, List.getElem?_eq_getElem hlt⟩, Pv (i + 1), fun H' p' => ⟨m, Nat.lt_succ_self _, by omega, p'⟩, fun x H' hy => ?_⟩
    obtain ⟨rfl, hy⟩ := hy
    exact hs i x _ (hy xs hS) p
theorem Rows.upd {H : Hp} {D : Addr} {o : HO} {as : List Addr} {L : List (List Int)} (h : Rows H as L) (n : ∀ a ∈ as, a ≠ D) : Rows (upd H D o) as L := by
  induction as generalizing L with
  | nil => cases L with
    | nil => trivial
    | cons u L => exact h.elim
  | cons a as ih => cases L with
    | nil => exact h.elim
    | cons u L => exact ⟨by rw [upd_ne (n a List.mem_cons_self)]; exact h.1, ih h.2 fun b hb => n b (List.mem_cons_of_mem _ hb)⟩
theorem same_upd {H H' : Hp} {D : Addr} {o : HO} (s : Same H H') (n : H D = none) : Same H (upd H' D o) := fun b x e => by
  rw [upd_ne (ne_of_none e n)]; exact s b x e
/-- the tapes without a shift stand at p -/
def PlainAt (H0 : Hp) (D : Addr) (z o : Str) (hm : V) (c : Nat) (r : T3) (H : Hp) (p : Addr) (now : Int) : Prop :=
  p ≠ D ∧ ∃ as, H p = some (.lst (as.map V.ref)) ∧ Rows H as (plainL z o hm c r now) ∧ ∀ a ∈ as, H0 a = none ∧ a ≠ D
theorem PlainAt.upd {H0 : Hp} {D : Addr} {z o : Str} {hm : V} {c : Nat} {r : T3} {H H' : Hp} {p : Addr} {now : Int} {x : HO} (h : PlainAt H0 D z o hm c r H p now) (s : Same H H') : PlainAt H0 D z o hm c r (L2.upd H' D x) p now := by
  obtain ⟨n, as, e, rw', na⟩ := h
  exact ⟨n, as, by rw [upd_ne n]; exact s _ _ e, (rw'.same s).upd fun a ha => (na a ha).2, na⟩
theorem plain_len {z o : Str} {hm : V} {c : Nat} {r : T3} (sr : Short3 r) (b : Int) : (plainL z o hm c r b).length ≤ 1 ∧ ∀ u ∈ plainL z o hm c r b, u.length ≤ 501 := by
  unfold plainL
  split
  · exact ⟨Nat.zero_le _, fun u hu => nomatch hu⟩
  · refine ⟨Nat.le_refl _, fun u hu => ?_⟩
    rw [List.mem_singleton.mp hu, List.length_cons]
    have := sr (bhd hm (cod z o c b) b)
    omega
theorem shift_len {z o : Str} {hm : V} {c : Nat} {r : T3} (sr : Short3 r) : (shiftL z o hm c r).length ≤ 2 ∧ ∀ u ∈ shiftL z o hm c r, u.length ≤ 502 := by
  have a := plain_len (z := z) (o := o) (hm := hm) (c := c) sr 0
  have b := plain_len (z := z) (o := o) (hm := hm) (c := c) sr 1
  unfold shiftL
  refine ⟨by simp only [List.length_append, List.length_map]; omega, fun u hu => ?_⟩
  rcases List.mem_append.mp hu with k | k
  · obtain ⟨v, hv, rfl⟩ := List.mem_map.mp k
    have := a.2 v hv
    simp only [List.length_cons]; omega
  · obtain ⟨v, hv, rfl⟩ := List.mem_map.mp k
    have := b.2 v hv
    simp only [List.length_cons]; omega
theorem shift_ne {z o : Str} {hm : V} {c : Nat} {r : T3} (h : InSet z o c) : shiftL z o hm c r ≠ [] := by
  rcases cod_some h 0 (.inl rfl) with k | k
  · exact List.ne_nil_of_mem (mem_shift.mpr ⟨0, .inl rfl, k, rfl⟩)
  · exact List.ne_nil_of_mem (mem_shift.mpr ⟨1, .inr rfl, k, rfl⟩)
theorem Kq.upd {P1 P2 D : Addr} {q : Str} {H H' : Hp} {xs ys : List V} (k : Kq P1 P2 q H H') (n : H D = none) (e : H' D = some (.lst xs)) : Kq P1 P2 q H (L2.upd H' D (.lst ys)) := by
  have st : ∀ c (o : HO), (∀ us, o ≠ .lst us) → H' c = some o → L2.upd H' D (.lst ys) c = some o := fun c o m z => by
    rw [upd_ne (ne_of z e (m _))]; exact z
  refine ⟨⟨tab_same k.tw.t1 fun o z => ?_, ?_⟩, fun b o n1 n2 z => ?_⟩
  · obtain ⟨ps, h1, _⟩ := k.tw.t1
    rw [h1] at z
    have z := Option.some.inj z
    subst z
    exact st _ _ (fun _ e => nomatch e) h1
  · obtain ⟨ps, h1, h2, h3⟩ := k.tw.t2
    refine ⟨ps, st _ _ (fun _ e => nomatch e) h1, h2, fun pos cv hc => ?_⟩
    obtain ⟨c, e1, e2⟩ := h3 pos cv hc
    exact ⟨c, e1, st _ _ (fun us e => by unfold LamX.CodeO at e; cases e) e2⟩
  · rw [upd_ne (ne_of_none z n)]; exact k.at' b o n1 n2 z
end Kt
namespace Kt
open PySem PySem.Spec PyProof.Rows L2
/-! ### what the law reckons -/
def costRow (z o : Str) (hm : V) (c : Nat) (h : Int × Int) (b : Int) : Int := if 0 ≤ cod z o c b then min 1000 (1 + (if bhd hm (cod z o c b) b = 0 then h.1 else h.2)) else 1000
def costHd (z o : Str) (hm : V) (c : Nat) (h : Int × Int) : Int × Int := (min (costRow z o hm c h 0) (costRow z o hm c h 1 + 1), min (costRow z o hm c h 1) (costRow z o hm c h 0 + 1))
def costHead (z o : Str) (hm : V) : List Nat → Int × Int
  | [] => (0, 0)
  | c :: cs => costHd z o hm c (costHead z o hm cs)
def costs (z o : Str) (hm : V) : List Nat → List (List Int)
  | [] => [[0, 0]]
  | c :: cs => [(costHead z o hm (c :: cs)).1, (costHead z o hm (c :: cs)).2] :: costs z o hm cs
theorem costs_at (z o : Str) (hm : V) : ∀ (cs : List Nat) (j : Nat), j ≤ cs.length → (costs z o hm cs)[j]? = some [(costHead z o hm (cs.drop j)).1, (costHead z o hm (cs.drop j)).2]
  | [], 0, _ => rfl
  | [], j + 1, h => absurd h (by simp)
  | c :: cs, 0, _ => rfl
  | c :: cs, j + 1, h => by
    have := costs_at z o hm cs j (by simpa using h)
    simpa [costs] using this
theorem at_if {r : T3} {b : Int} (hb : Is01 b) : ((r.at b).length : Int) = if b = 0 then (r.t0.length : Int) else (r.t1.length : Int) := by
  rcases hb with e | e <;> subst e <;> rfl
theorem costRow_eq {z o : Str} {hm : V} {c : Nat} {r : T3} {b : Int} (hb : Is01 b) : costRow z o hm c ((r.t0.length : Int), (r.t1.length : Int)) b = rowC z o hm c r b := by
  unfold costRow rowC
  rw [at_if (r := r) (is01_bhd (hm := hm) (k := cod z o c b) hb)]
theorem costHead_eq {z o : Str} {hm : V} (g : Good z o hm) : ∀ {cs : List Nat} {t : T3}, Tells z o hm cs t → cs.length ≤ 400 → (∀ c ∈ cs, InSet z o c) → costHead z o hm cs = ((t.t0.length : Int), (t.t1.length : Int)) := by
  intro cs t h
  induction h with
  | nil => intro _ _; rfl
  | @cons c cs r t h h0 h1 h2 ih =>
    intro hl hs
    have hl' : cs.length ≤ 400 := by simp at hl; omega
    have e := ih hl' fun d hd => hs d (List.mem_cons_of_mem _ hd)
    have c0 := cost_of g (b := 0) h hl' (hs c List.mem_cons_self) (.inl rfl) h0
    have c1 := cost_of g (b := 1) h hl' (hs c List.mem_cons_self) (.inr rfl) h1
    show costHd z o hm c (costHead z o hm cs) = _
    rw [e]
    unfold costHd
    rw [costRow_eq (.inl rfl), costRow_eq (.inr rfl)]
    exact Prod.ext c0.symm c1.symm
theorem cost_len {z o : Str} {hm : V} (g : Good z o hm) {cs : List Nat} {t : T3} {b : Int} (h : Tells z o hm cs t) (hl : cs.length ≤ 400) (hs : ∀ c ∈ cs, InSet z o c) (hb : Is01 b) :
    atI [V.int (costHead z o hm cs).1, V.int (costHead z o hm cs).2] b = some (.int ((t.at b).length : Nat)) := by
  rw [costHead_eq g h hl hs]
  rcases hb with e | e <;> subst e
  · exact atI_nat (j := 0) rfl
  · exact atI_nat (j := 1) rfl
/-- the costs of the signs cs stand at p -/
def CostsAt (z o : Str) (hm : V) (H : Hp) (p : Addr) (cs : List Nat) : Prop := ∃ ps, H p = some (.lst (ps.map V.ref)) ∧ Rows H ps (costs z o hm cs)
theorem CostsAt.mono {z o : Str} {hm : V} {H H' : Hp} {p : Addr} {cs : List Nat} (k : ∀ a (us : List V), H a = some (.lst us) → H' a = some (.lst us)) (h : CostsAt z o hm H p cs) : CostsAt z o hm H' p cs := by
  obtain ⟨ps, h1, h2⟩ := h
  exact ⟨ps, k _ _ h1, h2.mono fun a u e => k _ _ e⟩
theorem CostsAt.get {z o : Str} {hm : V} {H : Hp} {p : Addr} {cs : List Nat} (h : CostsAt z o hm H p cs) {j : Nat} (hj : j ≤ cs.length) :
    ∃ (xs : List V) (a : Addr), H p = some (.lst xs) ∧ xs[j]? = some (.ref a) ∧ H a = some (.lst [V.int (costHead z o hm (cs.drop j)).1, V.int (costHead z o hm (cs.drop j)).2]) := by
  obtain ⟨ps, h1, h2⟩ := h
  have e := costs_at z o hm cs j hj
  have hl := h2.len
  have hjl : j < ps.length := by rw [hl]; exact (List.getElem?_eq_some_iff.mp e).1
  obtain ⟨u, h3, h4⟩ := h2.get (List.getElem?_eq_getElem hjl)
  rw [e] at h3
  have h3 := Option.some.inj h3
  subst h3
  exact ⟨_, ps[j], h1, map_at (List.getElem?_eq_getElem hjl), h4⟩
def spText : Sp := fun vs H Q _ => ∃ (b l t : Addr) (z o : Str) (hm : V) (most : Nat), vs = [.ref b, .ref t, .int most] ∧ BoxAt H b l ∧ Good z o hm ∧ Sh H t z o hm ∧ most ≤ 32 ∧
  ∀ x H', x.cps.size ≤ most → (∀ c ∈ x.cps.toList, InSet z o c) → Bxd b l H H' → Q (.str x) H'
def spIsTape : Sp := fun vs H Q _ => ∃ (t a : Addr) (z o : Str) (hm : V) (cs : List Int), vs = [.ref t, .ref a] ∧ Good z o hm ∧ Sh H t z o hm ∧ H a = some (.lst (cs.map V.int)) ∧ Codes z.cps.size cs ∧ cs.length ≤ 1000 ∧ ∀ H', Same H H' → Q (.bl true) H'
def spCodesL : Sp := fun vs H Q _ => ∃ (t : Addr) (z o : Str) (hm : V) (c : Nat) (b : Int), vs = [.ref t, .str (sg c), .int b] ∧ Good z o hm ∧ Sh H t z o hm ∧ Is01 b ∧
  ∀ p H', Same H H' → H p = none → H' p = some (.lst ((codesL (at01 z o b) c).map V.int)) → Q (.ref p) H'
def spBehindL : Sp := fun vs H Q _ => ∃ (t : Addr) (z o : Str) (hm : V) (c b : Int), vs = [.ref t, .int c, .int b] ∧ Good z o hm ∧ Sh H t z o hm ∧ Q (.int (bhd hm c b)) H
def spCosts : Sp := fun vs H Q _ => ∃ (t : Addr) (z o : Str) (hm : V) (x : Str), vs = [.ref t, .str x] ∧ Good z o hm ∧ Sh H t z o hm ∧ x.cps.size ≤ 32 ∧
  ∀ p H', Same H H' → H p = none → CostsAt z o hm H' p x.cps.toList → Q (.ref p) H'
def spFirstL : Sp := fun vs H Q _ => ∃ (t p : Addr) (z o : Str) (hm : V) (x : Str) (b : Int) (R : T3), vs = [.ref t, .str x, .int b, .ref p] ∧ Good z o hm ∧ Sh H t z o hm ∧ x.cps.size ≤ 32 ∧ (∀ c ∈ x.cps.toList, InSet z o c) ∧ Is01 b ∧
  CostsAt z o hm H p x.cps.toList ∧ Tells z o hm x.cps.toList R ∧ ∀ a H', Same H H' → H a = none → H' a = some (.lst ((R.at b).map V.int)) → Q (.ref a) H'
end Kt
namespace Kt
open PySem PySem.Spec PyProof.Rows L2
/-! ### alike, at any depth -/
/-- the same data stand at both, to a depth -/
inductive Al (H : Hp) : Nat → V → V → Prop
  | non (n : Nat) : Al H n .non .non
  | bl (n : Nat) (b : Bool) : Al H n (.bl b) (.bl b)
  | int (n : Nat) (i : Int) : Al H n (.int i) (.int i)
  | str (n : Nat) (s : Str) : Al H n (.str s) (.str s)
  | lst {n : Nat} {a b : Addr} {xs ys : List V} (ha : H a = some (.lst xs)) (hb : H b = some (.lst ys)) (hl : xs.length = ys.length) (hz : xs.length ≤ 1000) (h : ∀ (i : Nat) (x y : V), xs[i]? = some x → ys[i]? = some y → Al H n x y) : Al H (n + 1) (.ref a) (.ref b)
  | tup {n : Nat} {a b : Addr} {xs ys : List V} (ha : H a = some (.tup xs)) (hb : H b = some (.tup ys)) (hl : xs.length = ys.length) (hz : xs.length ≤ 1000) (h : ∀ (i : Nat) (x y : V), xs[i]? = some x → ys[i]? = some y → Al H n x y) : Al H (n + 1) (.ref a) (.ref b)
def spAl (n : Nat) : Sp := fun vs H Q _ => ∃ a b, vs = [a, b] ∧ Al H n a b ∧ Q (.bl true) H
theorem Al.ints {H : Hp} {n : Nat} {a b : Addr} {ns : List Int} (ha : H a = some (.lst (ns.map V.int))) (hb : H b = some (.lst (ns.map V.int))) (hz : ns.length ≤ 1000) : Al H (n + 1) (.ref a) (.ref b) :=
  .lst ha hb rfl (by rw [List.length_map]; exact hz) fun i x y h1 h2 => by
    obtain ⟨k, _, rfl⟩ := at_map h1
    rw [h1] at h2
    cases h2
    exact .int n k
/-- the reading of list(..), by the written part alone -/
def rListQ (K : PySem.W.Frag) : List V → Hp → VK → Prop := fun xs H Q => ∃ p ys, xs = [.ref p] ∧ (SqL K H p ys ∨ SqT K H p ys) ∧ ∀ l, H l = none → Q (.ref l) (L2.upd H l (.lst ys))
/-! ### the tables of the text -/
structure TWs where
  gs : List Addr
  ls : List (Addr × Str)
structure Tb (W : TWs) (H : Hp) : Prop where
  g : ∀ P ∈ W.gs, GxR.TabG H P
  l : ∀ p ∈ W.ls, LamX.TabS H p.1 p.2
/-- all but the tables stays -/
structure Kz (W : TWs) (H H' : Hp) : Prop where
  tb : Tb W H'
  at' : ∀ b o, (∀ ps, o ≠ .tbl ps) → H b = some o → H' b = some o
  nn : ∀ b, H' b = none → H b = none
section
variable {W : TWs} {H H1 H' : Hp}
theorem Kz.refl (t : Tb W H) : Kz W H H := ⟨t, fun _ _ _ h => h, fun _ h => h⟩
theorem Kz.trans (a : Kz W H H1) (b : Kz W H1 H') : Kz W H H' := ⟨b.tb, fun c o n h => b.at' c o n (a.at' c o n h), fun c h => a.nn c (b.nn c h)⟩
theorem tabS_same {P : Addr} {q : Str} (t : LamX.TabS H P q) (s : Same H H') : LamX.TabS H' P q := t.ext s
theorem Tb.same (t : Tb W H) (s : Same H H') : Tb W H' := ⟨fun P h => tab_same (t.g P h) fun o e => s _ o e, fun p h => tabS_same (t.l p h) s⟩
theorem Kz.same (t : Tb W H) (s : Same H H') : Kz W H H' := ⟨t.same s, fun b o _ h => s b o h, fun b h => s.free h⟩
theorem Kz.lst {a : Addr} {xs : List V} (k : Kz W H H') (h : H a = some (.lst xs)) : H' a = some (.lst xs) := k.at' a _ (fun _ e => nomatch e) h
theorem Kz.tup {a : Addr} {xs : List V} (k : Kz W H H') (h : H a = some (.tup xs)) : H' a = some (.tup xs) := k.at' a _ (fun _ e => nomatch e) h
theorem Kz.sh {t : Addr} {z o : Str} {hm : V} (k : Kz W H H') (h : Sh H t z o hm) : Sh H' t z o hm := k.tup h
theorem sameD {H H' : Hp} {D : Addr} {o : HO} (s : Same H H') (n : H D = none) : Same H (upd H' D o) := fun b x e => by
  rw [upd_ne (ne_of_none e n)]; exact s b x e
/-- a list that was new is changed -/
theorem Kz.upd {D : Addr} {xs ys : List V} (k : Kz W H H') (n : H D = none) (e : H' D = some (.lst xs)) : Kz W H (L2.upd H' D (.lst ys)) := by
  have st : ∀ c (o : HO), (∀ us, o ≠ .lst us) → H' c = some o → L2.upd H' D (.lst ys) c = some o := fun c o m z => by
    rw [upd_ne (ne_of z e (m _))]; exact z
  refine ⟨⟨fun P h => ?_, fun p h => ?_⟩, fun b o m z => ?_, fun b z => ?_⟩
  · obtain ⟨ps, h1, h2⟩ := k.tb.g P h
    exact ⟨ps, st _ _ (fun _ e => nomatch e) h1, h2⟩
  · obtain ⟨ps, h1, h2, h3⟩ := k.tb.l p h
    refine ⟨ps, st _ _ (fun _ e => nomatch e) h1, h2, fun pos cv hc => ?_⟩
    obtain ⟨c, e1, e2⟩ := h3 pos cv hc
    exact ⟨c, e1, st _ _ (fun us e => by unfold LamX.CodeO at e; cases e) e2⟩
  · rw [upd_ne (ne_of_none z n)]; exact k.at' b o m z
  · by_cases q : b = D
    · rw [q, upd_same] at z; cases z
    · rw [upd_ne q] at z; exact k.nn b z
theorem Kz.seqL {a : Addr} {K : PySem.W.Frag} {xs : List V} (k : Kz W H H') (h : SqL K H a xs) : SqL K H' a xs := by
  rcases h with (h | ⟨o, h⟩) | h
  · exact .inl (.inl (k.at' _ _ (fun ps e => nomatch e) h))
  · exact .inl (.inr ⟨o, k.at' _ _ (fun ps e => nomatch e) h⟩)
  · exact .inr h
theorem Kz.seqT {a : Addr} {K : PySem.W.Frag} {xs : List V} (k : Kz W H H') (h : SqT K H a xs) : SqT K H' a xs := by
  rcases h with (h | ⟨o, h⟩) | h
  · exact .inl (.inl (k.at' _ _ (fun ps e => nomatch e) h))
  · exact .inl (.inr ⟨o, k.at' _ _ (fun ps e => nomatch e) h⟩)
  · exact .inr h
theorem BoxAt.kz {b l : Addr} (x : BoxAt H b l) (k : Kz W H H') : BoxAt H' b l := by
  obtain ⟨ns, st, h1, h2⟩ := x
  exact ⟨ns, st, k.lst h1, k.lst h2⟩
theorem tab_kept {P P' : Addr} (t : GxR.TabG H P) (t' : GxR.TabG H P') (k : Kp P' H H') : GxR.TabG H' P := by
  by_cases e : P = P'
  · rw [e]; exact k.tab
  · exact tab_same t fun o h => k.at' P o e h
theorem tabS_kept {P P' : Addr} {q : Str} (t : LamX.TabS H P q) (t' : GxR.TabG H P') (ne : P ≠ P') (k : Kp P' H H') : LamX.TabS H' P q := by
  obtain ⟨ps, h1, h2, h3⟩ := t
  refine ⟨ps, k.at' _ _ ne h1, h2, fun pos cv hc => ?_⟩
  obtain ⟨c, e1, e2⟩ := h3 pos cv hc
  exact ⟨c, e1, k.get t' e2 fun ps => LamX.codeO_ne ps⟩
/-- a call that may have grown one generator's table -/
theorem Kz.kp {P : Addr} (t : Tb W H) (hP : P ∈ W.gs) (ne : ∀ p ∈ W.ls, p.1 ≠ P) (k : Kp P H H') : Kz W H H' :=
  ⟨⟨fun P' h => tab_kept (t.g P' h) (t.g P hP) k, fun p h => tabS_kept (t.l p h) (t.g P hP) (ne p h) k⟩, fun b o n h => k.get (t.g P hP) h n, fun b h => k.new (t.g P hP) h⟩
theorem Bxd.tb {b l : Addr} (x : Bxd b l H H') (bx : BoxAt H b l) (t : Tb W H) : Tb W H' := by
  refine ⟨fun P h => x.tab bx (t.g P h), fun p h => ?_⟩
  obtain ⟨ps, h1, h2, h3⟩ := t.l p h
  obtain ⟨ns, st, q1, q2⟩ := bx
  have st : ∀ c (o : HO), (∀ us, o ≠ .lst us) → H c = some o → H' c = some o := fun c o n e => x.at' c o (ne_of e q1 (n _)) (ne_of e q2 (n _)) e
  refine ⟨ps, st _ _ (fun _ e => nomatch e) h1, h2, fun pos cv hc => ?_⟩
  obtain ⟨c, e1, e2⟩ := h3 pos cv hc
  exact ⟨c, e1, st _ _ (fun us e => by unfold LamX.CodeO at e; cases e) e2⟩
theorem Al.mono {n : Nat} {x y : V} (k : ∀ a o, (∀ ps, o ≠ .tbl ps) → H a = some o → H' a = some o) (h : Al H n x y) : Al H' n x y := by
  induction h with
  | non n => exact .non n
  | bl n b => exact .bl n b
  | int n i => exact .int n i
  | str n s => exact .str n s
  | lst ha hb hl hz _ ih => exact .lst (k _ _ (fun _ e => nomatch e) ha) (k _ _ (fun _ e => nomatch e) hb) hl hz ih
  | tup ha hb hl hz _ ih => exact .tup (k _ _ (fun _ e => nomatch e) ha) (k _ _ (fun _ e => nomatch e) hb) hl hz ih
end
end Kt
namespace Kt
open PySem PySem.Spec PyProof.Rows L2
/-! ### sheets as texts -/
def nl : Str := Str.ofString "\n"
def homeT : V → Str
  | .int i => Str.ofString (toString i)
  | _ => Str.ofString "-"
def sheetT (z o : Str) (hm : V) : Str := Txt.join nl [z, o, homeT hm]
def figs (x : Str) : Bool := x.cps.toList.all fun c => decide (48 ≤ c ∧ c ≤ 57)
/-- one or two figures without a needless 0 -/
def figOk (x : Str) : Bool := decide (1 ≤ x.cps.size ∧ x.cps.size ≤ 2) && !(decide (x.cps.size = 2) && decide (x.cps.toList.getD 0 0 = 48)) && figs x
def signsOk (x : Str) : Bool := x.cps.toList.all fun c => decide (32 ≤ c ∧ c ≤ 126)
def goodRow (n : Int) (x : Str) : Bool := if n < 2 then signsOk x else decide (n = 2) && (decide (x = Str.ofString "-") || figOk x)
theorem pbIn_fig (c : Nat) : pbIn "0" "9" c = decide (48 ≤ c ∧ c ≤ 57) := by
  have e1 : ("0" : Str).cps.toList = [48] := by decide
  have e2 : ("9" : Str).cps.toList = [57] := by decide
  unfold pbIn
  rw [e1, e2]
  by_cases h1 : c < 48
  · simp [List.cons_lt_cons_iff, h1]; omega
  · by_cases h2 : 57 < c
    · simp [List.cons_lt_cons_iff, h1, h2]
      try omega
    · simp [List.cons_lt_cons_iff, h1, h2]
      omega
theorem home_all : ∀ h : Fin 26, goodRow 2 (homeT (.int (h.val : Nat))) = true ∧ (homeT (.int (h.val : Nat))).cps.size ≤ 2 ∧ 10 ∉ TL.tl (homeT (.int (h.val : Nat))) ∧ homeT (.int (h.val : Nat)) ≠ Str.ofString "-" ∧ PySem.intText? (homeT (.int (h.val : Nat))) = some ((h.val : Nat) : Int) ∧
    ((h.val : Nat) : Int).natAbs.log2 < 1920 := by decide +kernel
theorem home_non : goodRow 2 (homeT .non) = true ∧ (homeT .non).cps.size ≤ 2 ∧ 10 ∉ TL.tl (homeT .non) := by decide +kernel
structure HomeOk (hm : V) : Prop where
  row : goodRow 2 (homeT hm) = true
  sz : (homeT hm).cps.size ≤ 2
  nl : 10 ∉ TL.tl (homeT hm)
theorem Good.homeOk {z o : Str} {hm : V} (g : Good z o hm) : HomeOk hm := by
  rcases g.home with e | ⟨h, e, lt⟩ <;> subst e
  · exact ⟨home_non.1, home_non.2.1, home_non.2.2⟩
  · have k := home_all ⟨h, Nat.lt_of_lt_of_le lt g.le⟩
    exact ⟨k.1, k.2.1, k.2.2.1⟩
theorem nl_tl : TL.tl nl = [10] := by decide +kernel
theorem Good.split {z o : Str} {hm : V} (g : Good z o hm) : Txt.split (sheetT z o hm) nl = [z, o, homeT hm] := by
  refine TL.split_join (s := 10) (S := []) nl_tl (by decide +kernel) (by simp) fun p hp => ?_
  rcases List.mem_cons.mp hp with e | hp
  · rw [e]; exact fun h => by have := g.pz 10 h; omega
  · rcases List.mem_cons.mp hp with e | hp
    · rw [e]; exact fun h => by have := g.po 10 h; omega
    · rw [List.mem_singleton.mp hp]; exact g.homeOk.nl
theorem sheetT_eq (z o : Str) (hm : V) : z ++ nl ++ o ++ nl ++ homeT hm = sheetT z o hm := by
  unfold sheetT
  rw [TL.join_eq]
  have e := TL.tl_join nl [z, o, homeT hm]
  have e2 : TL.tl (z ++ nl ++ o ++ nl ++ homeT hm) = TL.joinL (TL.tl nl) ([z, o, homeT hm].map TL.tl) := by
    simp only [TL.tl_append, List.map_cons, List.map_nil, TL.joinL, List.append_assoc]
  have e3 := e2.trans e.symm
  generalize z ++ nl ++ o ++ nl ++ homeT hm = a at e3
  generalize Str.join nl [z, o, homeT hm] = b at e3
  obtain ⟨a⟩ := a
  obtain ⟨b⟩ := b
  have e4 : a.toList = b.toList := e3
  rw [Array.toList_inj.mp e4]
theorem sheetT_len {z o : Str} {hm : V} (g : Good z o hm) : (sheetT z o hm).length ≤ 60 := by
  rw [← sheetT_eq]
  have a := g.le
  have b := g.len
  have c := g.homeOk.sz
  have e : nl.length = 1 := by decide +kernel
  simp only [Str.length_append, e]
  show z.cps.size + 1 + o.cps.size + 1 + (homeT hm).cps.size ≤ 60
  omega
def spWritten (P : Addr) : Sp := fun vs H Q _ => ∃ (t : Addr) (z o : Str) (hm : V), vs = [.ref t] ∧ Good z o hm ∧ Sh H t z o hm ∧ GxR.TabG H P ∧ ∀ H', Kp P H H' → Q (.str (sheetT z o hm)) H'
def spFigures (P : Addr) : Sp := fun vs H Q _ => ∃ x : Str, vs = [.str x] ∧ x.cps.size ≤ 100000 ∧ GxR.TabG H P ∧ ∀ H', GxR.Tabbed P H H' → Q (.bl (figOk x)) H'
def spIsGood (P1 P3 : Addr) : Sp := fun vs H Q _ => ∃ (n : Int) (x : Str), vs = [.int n, .str x] ∧ x.cps.size ≤ 100000 ∧ GxR.TabG H P1 ∧ GxR.TabG H P3 ∧ ∀ H', (GxR.Tabbed P1 H H' ∨ GxR.Tabbed P3 H H') → Q (.bl (goodRow n x)) H'
def spRowsOk (K : PySem.W.Frag) (W : TWs) : Sp := fun vs H Q _ => ∃ (a : Addr) (r0 r1 r2 : Str), vs = [.ref a] ∧ SqL K H a [.str r0, .str r1, .str r2] ∧ signsOk r0 = true ∧ signsOk r1 = true ∧ goodRow 2 r2 = true ∧ r0.cps.size ≤ 1000 ∧ r1.cps.size ≤ 1000 ∧ r2.cps.size ≤ 1000 ∧ Tb W H ∧ ∀ H', Kz W H H' → Q .non H'
def spReadSheet (W : TWs) : Sp := fun vs H Q _ => ∃ (z o : Str) (hm : V), vs = [.str (sheetT z o hm)] ∧ Good z o hm ∧ Tb W H ∧ ∀ t H', Kz W H H' → H t = none → Sh H' t z o hm → Q (.ref t) H'
theorem Good.signs {z o : Str} {hm : V} (g : Good z o hm) : signsOk z = true ∧ signsOk o = true :=
  ⟨List.all_eq_true.mpr fun c hc => decide_eq_true (g.pz c hc), List.all_eq_true.mpr fun c hc => decide_eq_true (g.po c hc)⟩
end Kt
namespace Kt
open PySem PySem.Spec PyProof.Rows L2
/-! ### an own error's base is asked to begin it -/
section
variable {X : Cx}
theorem pe_cinit {x : Str} {B : Addr} {e : Expr} {es : List Expr} {ta : TA} {p1 p2 pos : Pos} {pl : Sem Bool} (hg : Gl X x) (hm : X.mg x = some (.ref B)) (rd : PySem.W.readsIn X.K B (.type "type") = true)
    (sg : PySem.W.specialIn X.K (.ref B) "__getattribute__" = some (some (.builtin "type.__getattribute__"))) (fc : PySem.W.findCls X.K (.ref B) (.type "type") "__init__" = some (.val (.builtin "ValueError.__init__"))) (ha : PA X (e :: es) ta) (hdb : (x == ("__debug__" : Str)) = false := by decide)
    (hc : eval (.Call (.Attribute (.Name x p1) "__init__" p2) (e :: es) [] pos) X.env = (do
      let ov ← eval (.Name x p1) X.env
      standAt p2.atName
      let (f, first) ← holding [ov] (getMethod ov "__init__" pl)
      callWith pos f first (backTo pos (starEach (e :: es) X.env)) (backToKw pos (keywordEach [] X.env))) := by rfl)
    (he : starEach (e :: es) X.env = (false, eval e X.env) :: starEach es X.env := by rfl) (hpl : (backTo pos (starEach es X.env)).any (·.1) = false := by rfl) :
    PE X (.Call (.Attribute (.Name x p1) "__init__" p2) (e :: es) [] pos) (tVeI X.K ta) := by
  refine ⟨fun pins s σ H Q I h => ?_⟩
  refine PySem.W.methodCall_KW (ld_glob I hg hm ?_ hdb) hc
  refine PySem.W.method_cls I.kIn sg (PySem.W.cls_value I.kIn rd fc (by decide +kernel) ?_)
  have I0 : Inv X pins σ H { s with toks := s.toks + 1 } := I.tok _
  show wpAny _ _ (callWith pos (Value.builtin "ValueError.__init__") [] (backTo pos (starEach (e :: es) X.env)) []) _ _ _
  refine PyProof.Rows.callWith_method1 (thn (ha.run pos pins _ σ H _ I0 h) fun us s1 hh => ?_) he hpl
  obtain ⟨vs, H1, I1, r1, a, C, ws, ev, hl, T, ea, q⟩ := hh
  subst ev
  cases r1 with
  | @cons _ u0 _ ur ra rw' =>
    obtain rfl : u0 = Value.ref a := ra
    exact oinit_ok T I1 ea (by rw [← Paired.length rw', sizeLine_eq]; omega) fun s' J => ⟨.non, H1, J, rfl, q⟩
/-! ### xs.count(y), flat things -/
theorem count_eqU {y : V} : ∀ {ys : List V} {us : List Value}, Vals ys us → ys.all flatV = true → us.countP (eqU y) = ys.countP fun z => eqV z y := by
  intro ys us r
  induction r with
  | nil => exact fun _ => rfl
  | cons h t ih =>
    intro a
    rw [List.all_cons, Bool.and_eq_true] at a
    rw [List.countP_cons, List.countP_cons, ih a.2, eqU_of h a.1]
def rCntF (K : PySem.W.Frag) : V → List V → Hp → VK → Prop := fun x xs H Q => ∃ (p : Addr) (ys : List V) (y : V), x = .ref p ∧ xs = [y] ∧ SqL K H p ys ∧ flatV y = true ∧ ys.all flatV = true ∧ Q (.int ((ys.countP fun z => eqV z y : Nat) : Int)) H
theorem mt_countF : MtR X "list.count" (rCntF X.K) := by
  intro pins s σ H x xs v us Q I rx rxs h
  obtain ⟨p, ys, y, rfl, rfl, hs, fy, fys, q⟩ := h
  cases rx
  obtain ⟨u, rfl, ry⟩ := rxs.one
  obtain ⟨its, rv, ⟨⟨cls, dd, data, sl⟩, n, ho, hc, hdn, hd⟩, hlen⟩ := I.list hs
  simp only at hc hd
  subst hc hd
  refine call_meets PySem.F.slot_list_count ⟨_, ho, rfl⟩ PySem.F.entry_list_count (PySem.F.args_list_count_2 _ _)
    (SeqAt.list_countAt p its.toArray n dd sl u (eqU y)) ⟨ho, fun u' hu' => mem_eqAt ry fy rv fys u' (by simpa using hu'), ?_⟩
  have ec : its.toArray.toList.countP (eqU y) = ys.countP fun z => eqV z y := count_eqU rv fys
  refine ⟨.int ((ys.countP fun z => eqV z y : Nat) : Int), H, I.tok _, ⟨s.toks, ?_⟩, q⟩
  show Value.int ((its.toArray.toList.countP (eqU y) : Nat) : Int) s.toks = _
  rw [ec]
end
/-! ### what a class of errors must say -/
structure ExC (K : PySem.W.Frag) (mg : Str → Option Value) (x : Str) (C : Addr) : Prop where
  g : mg x = some (.ref C)
  kp : PySem.W.keepIn K (.ref C) = true
  sb : PySem.W.subIn K (.ref C) (.type "BaseException") = some true
  ty : PySem.W.typeIn K (.ref C) = some (.type "type")
  ci : (PySem.W.clsIn K C).isSome = true
  ga : PySem.W.findIn K (.ref C) "__getattribute__" = some (some (.builtin "BaseException.__getattribute__"))
  gg : PySem.W.findIn K (.ref C) "__getattr__" = some none
  hd : PySem.W.hasDictIn K C = true
  cl : PySem.W.findIn K (.ref C) "__class__" = some (some (.builtin "object.__class__"))
  mr : PySem.W.mroIn K C (.type "object") = some true
theorem ExC.raises {X : Cx} {x : Str} {C : Addr} (T : ExC X.K X.mg x C) : Raises X (.ref C) := raises_own T.sb T.ty
theorem ExC.xf {K : PySem.W.Frag} {mg : Str → Option Value} {x : Str} {C : Addr} (T : ExC K mg x C) : XfC K C := ⟨T.ga, T.gg, T.sb, T.hd⟩
/-- what the word object.__class__ says -/
structure ObC (K : PySem.W.Frag) : Prop where
  hn : PySem.W.specialIn K (.builtin "object.__class__") "__get__" = some (some (.builtin "getset_descriptor.__get__"))
  ht : PySem.W.takesIn K (.builtin "object.__class__") = some true
/-- the error's dict, if it has one, is known -/
def DxAt (H : Hp) (d : Option Addr) : Prop := ∀ dd, d = some dd → ∃ fs, H dd = some (.xd fs)
/-- isinstance(e, c), e the error at a, which stands in the context -/
def rIsX (K : PySem.W.Frag) (C a : Addr) (d : Option Addr) : List V → Hp → VK → Prop := fun xs H Q => ∃ (c : V) (cv : Value) (b : Bool), xs = [.ref a, c] ∧ DxAt H d ∧ (∀ u, RelV c u → u = cv) ∧ PySem.W.kitOne K (.ref C) cv = some b ∧ Q (.bl b) H
theorem call_isX {X : Cx} {x : Str} {C a : Addr} {d : Option Addr} {oe : Obj} (T : ExC X.K X.mg x C) (O : ObC X.K) (hp : (a, oe) ∈ X.pn) (hz : Zc (.ref C) d oe) (hf : ∃ vs, oe.data = .fields vs) : CallR X (.builtin "isinstance") (rIsX X.K C a d) := by
  intro pins s σ H xs us Q I r h
  obtain ⟨c, cv, b, rfl, hd, hcv, e, q⟩ := h
  cases r with
  | cons rx rr =>
    cases rr with
    | cons rt rr =>
      cases rr
      cases rx
      have ec := hcv _ rt
      subst ec
      have hget := (I.pin (a, oe) (List.mem_append.mpr (.inl hp))).1
      obtain ⟨vs, hv⟩ := hf
      obtain ⟨od, J⟩ : ∃ od, PySem.W.InstAt s.heap a oe C od := by
        obtain ⟨oc, odd, oda, osl⟩ := oe
        obtain ⟨h1, h2⟩ := hz
        dsimp only at h1 h2 hv
        subst h1 h2 hv
        cases odd with
        | none => exact ⟨none, hget, rfl, rfl, trivial⟩
        | some dd =>
          obtain ⟨fs, ed⟩ := hd dd rfl
          obtain ⟨mA, ⟨o, _, _, ho, _⟩, _⟩ := (show ObjOk X.prog X.w H s.heap dd (.xd fs) from I.hok dd _ ed)
          exact ⟨some o, hget, rfl, rfl, ho⟩
      exact PySem.W.kia_one (PySem.W.kitx_exc T.ci T.ga T.gg T.sb T.cl O.hn O.ht T.mr) I.kIn J e (fun z => nomatch z) fun tk => ⟨.bl b, H, I.kept (t' := tk) fun _ _ z => z, rfl, q⟩
/-! ### a def that is called while an error is handled, and told of it -/
theorem run_hot {CX : CXT} {P : Program} {w : World} {K : PySem.W.Frag} {mg : Str → Option Value} {base : Heap} {k : Nat} {x qual : Str} {st : Stmt} {f : Addr} {fd : FuncData} {N ps : List Str} (F : Fun K x qual st f fd) (S : FnScope N ps (defScope st))
    {A : Around} {outer : List Env} {s : Shared} {H : Hp} {args : Args} {us : List Value} {vs : List V} {Q : VK} {E : XK} {p : Addr × Obj} (hr : L2H.RoomH (k + 1) A) (hp : L2H.PinOk outer H s p) (e0 : Env0 P w K mg base A outer s H) (hb : BindsTo s fd args (ps.zip us)) (r : Vals vs us) (hl : vs.length = ps.length)
    (body : ∀ cdv : Value, L2H.RoomH k (A.deeper (envOfC qual (defScope st) s.heap.objs.size f cdv)) → ∃ t, PSs (L2H.cxH CX P w K mg base N qual (defScope st) f cdv A outer s H E p) (defBody st) t ∧ t { nx := fun _ H' => Q .non H', rt := Q } (L2.start N vs) H) :
    codeAny (model P w) A (.call (.ref f) args) (CR CX outer P w H s Q E) s := by
  obtain ⟨oc, od, kV, doc, pm, an, cdv, ct, osl, rfl, lk, hcd⟩ := F.ex
  have KX : K.In s.heap := e0.mod.kin.keeps fun b o z => (e0.bs b o z).1
  have lim : s.heap.NoLimit := e0.mod.nolimit.keeps fun b o z => (e0.bs b o z).1
  refine codeAny_call_function hr.depth (KX _ _ lk) rfl S.co S.gen rfl (PySem.W.codeRec_of KX hcd) (hb _ _ _ _ (wpAny_newFunctionEnv_cells S.kind (fun y hy => ?_) fun env he s1 z => ?_))
  · rcases S.par y.1 (List.of_mem_zip (show (y.1, y.2) ∈ ps.zip us from hy)).1 with q | q
    · exact .inl q
    · exact .inr ⟨q, PySem.W.cellsFrom_some _ _ _ (.inl q)⟩
  · subst he
    refine ⟨lim.keeps z.toInCall.keep, codeAny_func ?_⟩
    obtain ⟨t, ht, hq⟩ := body cdv (hr.deeper _)
    refine wpAny_mono (ht.run [] s1 (L2.start N vs) H _ (L2H.inv_startH S hp e0 hl r z) hq) (fun fl s' g => ?_) fun _ _ g => g
    cases fl with
    | ret u =>
      obtain ⟨v, σ', H', J, rv, q⟩ := g
      exact ⟨v, H', J.os, J.bare, J.base, J.hok, rv, q⟩
    | next =>
      obtain ⟨σ', H', J, q⟩ := g
      exact ⟨.non, H', J.os, J.bare, J.base, J.hok, rfl, q⟩
    | brk => obtain ⟨_, _, _, q⟩ := g; exact q.elim
    | cont => obtain ⟨_, _, _, q⟩ := g; exact q.elim
end Kt
namespace Kt
open PySem PySem.Spec PyProof.Rows L2
/-! ### a def that is handed the error that is handled -/
abbrev SpX := Addr → Value → Option Addr → Sp
structure FnX (P : Program) (w : World) (K : PySem.W.Frag) (mg : Str → Option Value) (base : Heap) (CX : CXT) (k : Nat) (f : Addr) (fd : FuncData) (ps : List Str) (sp : SpX) : Prop where
  len : ∀ a cls d vs H Q E, sp a cls d vs H Q E → vs.length = ps.length
  run : ∀ (A : Around) (outer : List Env) (s : Shared) (H : Hp) (args : Args) (us : List Value) (vs : List V) (Q : VK) (E : XK) (p : Addr × Obj) (cls : Value) (d : Option Addr), L2H.RoomH k A → L2H.PinOk outer H s p → Zc cls d p.2 → (∃ vs, p.2.data = .fields vs) → Env0 P w K mg base A outer s H →
    BindsTo s fd args (ps.zip us) → Vals vs us → sp p.1 cls d vs H Q E → codeAny (model P w) A (.call (.ref f) args) (CR CX outer P w H s Q E) s
theorem fun_okX {CX : CXT} {P : Program} {w : World} {K : PySem.W.Frag} {mg : Str → Option Value} {base : Heap} {k : Nat} {x qual : Str} {st : Stmt} {f : Addr} {fd : FuncData} {N ps : List Str} {sp : SpX} (F : Fun K x qual st f fd) (S : FnScope N ps (defScope st)) (len : ∀ a cls d vs H Q E, sp a cls d vs H Q E → vs.length = ps.length)
    (body : ∀ (cdv : Value) (A : Around) (outer : List Env) (s : Shared) (H : Hp) (vs : List V) (Q : VK) (E : XK) (a : Addr) (oe : Obj) (cls : Value) (d : Option Addr), Zc cls d oe → (∃ vs, oe.data = .fields vs) → L2H.RoomH k (A.deeper (envOfC qual (defScope st) s.heap.objs.size f cdv)) → sp a cls d vs H Q E →
      ∃ t, PSs (L2H.cxH CX P w K mg base N qual (defScope st) f cdv A outer s H E (a, oe)) (defBody st) t ∧ t { nx := fun _ H' => Q .non H', rt := Q } (L2.start N vs) H) : FnX P w K mg base CX (k + 1) f fd ps sp := by
  refine ⟨len, fun A outer s H args us vs Q E p cls d hr hp hz hf e0 hb r h => ?_⟩
  obtain ⟨a, oe⟩ := p
  exact run_hot F S hr hp e0 hb r (len _ _ _ _ _ _ _ h) fun cdv hr' => body cdv A outer s H vs Q E a oe cls d hz hf hr' h
theorem roomH_mark {k : Nat} {A : Around} (r : Room k A) (u : Option Value) : L2H.RoomH k (A.mark u) := ⟨r.dp, r.un⟩
section
variable {X : Cx} {CX : CXT} {k : Nat} {f : Addr} {fd : FuncData} {ps : List Str} {sp : SpX} {E : XK} {x : Str} {q pos : Pos} {e : Expr} {es : List Expr} {t : TA} {a : Addr} {oe : Obj} {cls : Value} {d : Option Addr} {pn : List (Addr × Obj)}
theorem pe_callX (F : FnX X.prog X.w X.K X.mg X.base CX k f fd ps sp) (hr : Room k X.A) (hz : Zc cls d oe) (hf : ∃ vs, oe.data = .fields vs) (hg : Gl X x) (hm : X.mg x = some (.ref f)) (hk : PySem.W.keepIn X.K (.ref f) = true) (hb : Binds X.K fd ps []) (hx : Passes CX (X.suite a ((a, oe) :: pn)) E)
    (ha : PA (X.suite a ((a, oe) :: pn)) (e :: es) t) (hdb : (x == ("__debug__" : Str)) = false := by decide) (he : starEach (e :: es) X.env = (false, eval e X.env) :: starEach es X.env := by rfl) (hpl : (backTo pos (starEach es X.env)).any (·.1) = false := by rfl) :
    PE (X.suite a ((a, oe) :: pn)) (.Call (.Name x q) (e :: es) [] pos) (fun σ H Q => t σ H fun vs H1 => sp a cls d vs H1 Q E) := by
  refine ⟨fun pins s σ H Q I h => ?_⟩
  refine wpAny_Call_Name_kw (ld_glob I hg hm ?_ hdb)
  refine PySem.W.callWith_K (h₀ := X.base) I.ok.mod.kin hk (thn (ha.run pos pins s σ H _ I h) fun us s1 ⟨vs, H1, I1, r, h1⟩ => ⟨I1.kIn, ?_⟩) he hpl
  have hl : us.length = ps.length := by rw [← r.length]; exact F.len _ _ _ _ _ _ _ h1
  have b := hb s1 us I1.kIn (by rw [List.append_nil]; exact hl)
  rw [List.append_nil] at b
  have P1 := I1.pin (a, oe) (List.mem_append_left _ List.mem_cons_self)
  have hpin : L2H.PinOk X.stack H1 s1 (a, oe) := ⟨P1.1, P1.2.1, fun hm => (List.mem_cons.mp (I1.stkSub a hm)).elim P1.2.2.1 P1.2.2.2.1, P1.2.2.2.2⟩
  refine wpAny_call (codeAny_mono (F.run (X.A.mark (some (.ref a))) X.stack s1 H1 ⟨us, []⟩ us vs Q E (a, oe) cls d (roomH_mark hr _) hpin hz hf I1.env0 b r h1) fun r s' hq => ?_)
  cases r with
  | error e => exact hx pins σ H1 s1 e s' I1 hq
  | ok fl =>
    cases fl with
    | ret u => exact I1.after hq
    | next => exact False.elim hq
    | brk => exact False.elim hq
    | cont => exact False.elim hq
/-- err.f, whatever own class it is of -/
def tXfA (K : PySem.W.Frag) (a : Addr) (cls : Value) (d : Option Addr) (n : Str) (te : TE) : TE := fun σ H Q => te σ H fun x H1 => ∃ C : Addr, x = .ref a ∧ cls = .ref C ∧ XfC K C ∧ PySem.W.findIn K (.ref C) n = some none ∧
  ∃ (dd : Addr) (fs : List (Str × V)) (v : V), d = some dd ∧ H1 dd = some (.xd fs) ∧ fs.lookup n = some v ∧ Q v H1
theorem pe_xfA {n : Str} {te : TE} (hz : Zc cls d oe) (hf : ∃ vs, oe.data = .fields vs) (he : PE (X.suite a ((a, oe) :: pn)) e te) (hb : attributeBase e n X.env (eval e X.env) = eval e X.env := by rfl) :
    PE (X.suite a ((a, oe) :: pn)) (.Attribute e n pos) (tXfA X.K a cls d n te) := by
  refine ⟨fun pins s σ H Q I h => ?_⟩
  refine attr_of hb (thn (he.run pins s σ H _ I h) fun u s1 hh => ?_)
  obtain ⟨x, H1, I1, rx, C, ex, ec, T, hno, dd, fs, v, ed, ea, l, q⟩ := hh
  subst ex
  obtain rfl : u = Value.ref a := rx
  subst ec
  subst ed
  obtain ⟨ha, _⟩ := I1.pin (a, oe) (List.mem_append_left _ List.mem_cons_self)
  obtain ⟨vs, hd⟩ := hf
  have hx : ObjOk X.prog X.w H1 s1.heap dd (.xd fs) := I1.hok dd _ ea
  obtain ⟨mA, hns, hr⟩ := hx
  obtain ⟨od, ho, hl⟩ := lookIn_ns hns
  obtain ⟨u, hu, ru⟩ := RelO.some_of (v := v) (o := mA n) (by rw [← l]; exact hr n)
  have J : PySem.W.InstAt s1.heap a oe C (some od) := ⟨ha, hz.1, by unfold PySem.W.notCls; rw [hd] <;> rfl, by rw [hz.2]; exact ho⟩
  exact HandSPX.exc_get I1.kIn J T.ga T.gg T.exC (PySem.W.findObj_own T.hdC hno rfl (by rw [hl, hu])) (handed_of ru) ⟨v, H1, I1.tok _, ru, q⟩
end
/-! ### the six kinds of refusals -/
/-- class i of the six -/
structure Kind (K : PySem.W.Frag) (mg : Str → Option Value) (cs : List Addr) (CT : Addr) (i : Nat) (C : Addr) : Prop where
  ex : ∃ x, ExC K mg x C
  at' : cs[i]? = some C
  six : cs.length = 6
  ki : ∀ (j : Nat) (Cj : Addr), cs[j]? = some Cj → PySem.W.kitOne K (.ref C) (.ref Cj) = some (decide (i = j))
  kv : PySem.W.kitOne K (.ref C) (.type "ValueError") = some true
  em : PySem.W.exmOne K (.ref C) (.ref CT) = some true
def kindWord (i : Nat) : Str := (["BadSheet", "BadSet", "BadTape", "NoSign", "BadCount", "BadText"] : List Str).getD i ""
def spClass (K : PySem.W.Frag) (mg : Str → Option Value) (cs : List Addr) (CT : Addr) : SpX := fun a cls d vs H Q _ => ∃ (i : Nat) (C : Addr), vs = [.ref a] ∧ cls = .ref C ∧ Kind K mg cs CT i C ∧ DxAt H d ∧ ∀ H', Same H H' → Q (.str (kindWord i)) H'
end Kt
namespace Kt
open PySem PySem.Spec PyProof.Rows L2
/-! ### a text cut at one sign -/
theorem pre_one {s c : Nat} {r : List Nat} : TL.pre [s] (c :: r) = decide (c = s) := by
  unfold TL.pre
  by_cases h : c = s
  · subst h; simp
  · simp [h]
theorem spl_sum (s : Nat) : ∀ (l acc : List Nat), ((TL.spl [s] 0 acc l).map List.length).sum + (TL.spl [s] 0 acc l).length = acc.length + l.length + 1
  | [], acc => by rw [TL.spl_nil]; simp
  | c :: r, acc => by
    by_cases h : c = s
    · rw [TL.spl_hit (by rw [pre_one]; exact decide_eq_true h), show [s].length - 1 = 0 from rfl]
      have ih := spl_sum s r []
      simp only [List.map_cons, List.sum_cons, List.length_cons, List.length_nil, show [s].length - 1 = 0 from rfl] at ih ⊢
      omega
    · rw [TL.spl_miss (by rw [pre_one]; exact decide_eq_false h)]
      have ih := spl_sum s r (acc ++ [c])
      rw [List.length_append] at ih
      simp only [List.length_cons, List.length_nil] at ih ⊢
      omega
theorem spl_in (s : Nat) : ∀ (l acc : List Nat), s ∉ acc → ∀ p ∈ TL.spl [s] 0 acc l, ∀ c ∈ p, c ≠ s ∧ (c ∈ acc ∨ c ∈ l)
  | [], acc, h, p, hp, c, hc => by
    rw [TL.spl_nil] at hp
    rw [List.mem_singleton.mp hp] at hc
    exact ⟨fun e => h (e ▸ hc), .inl hc⟩
  | a :: r, acc, h, p, hp, c, hc => by
    by_cases ha : a = s
    · rw [TL.spl_hit (by rw [pre_one]; exact decide_eq_true ha)] at hp
      rcases List.mem_cons.mp hp with e | hp
      · rw [e] at hc
        exact ⟨fun e => h (e ▸ hc), .inl hc⟩
      · obtain ⟨k1, k2⟩ := spl_in s r [] (by simp) p hp c hc
        exact ⟨k1, .inr (List.mem_cons_of_mem _ (k2.resolve_left (by simp)))⟩
    · rw [TL.spl_miss (by rw [pre_one]; exact decide_eq_false ha)] at hp
      obtain ⟨k1, k2⟩ := spl_in s r (acc ++ [a]) (fun m => by
        rcases List.mem_append.mp m with m | m
        · exact h m
        · exact ha (List.mem_singleton.mp m).symm) p hp c hc
      refine ⟨k1, ?_⟩
      rcases k2 with m | m
      · rcases List.mem_append.mp m with m | m
        · exact .inl m
        · rw [List.mem_singleton.mp m]; exact .inr List.mem_cons_self
      · exact .inr (List.mem_cons_of_mem _ m)
/-- only signs and line feeds -/
def Tx (x : Str) : Prop := ∀ c ∈ TL.tl x, c = 10 ∨ (32 ≤ c ∧ c ≤ 126)
abbrev rowsOf (x : Str) : List Str := Txt.split x nl
theorem rows_tl (x : Str) : (rowsOf x).map TL.tl = TL.spl [10] 0 [] (TL.tl x) := by
  have e := TL.split_spl x nl (by rw [nl_tl]; simp) (TL.kind_ok (by decide +kernel))
  rw [nl_tl] at e
  exact e
theorem tl_len (x : Str) : (TL.tl x).length = x.length := rfl
theorem rows_sum (x : Str) : ((rowsOf x).map (·.length)).sum + (rowsOf x).length = x.length + 1 := by
  have e := spl_sum 10 (TL.tl x) []
  rw [← rows_tl, List.map_map, List.length_map, tl_len] at e
  rw [show (List.length ∘ TL.tl) = fun r : Str => r.length from rfl] at e
  simpa using e
theorem rows_pos (x : Str) : 1 ≤ (rowsOf x).length := by
  cases h : rowsOf x with
  | nil =>
    have e := rows_sum x
    rw [h] at e
    simp at e
  | cons a r => simp
theorem rows_len (x : Str) : (rowsOf x).length ≤ x.length + 1 := by have := rows_sum x; omega
theorem len_le_sum : ∀ {l : List Str} {r : Str}, r ∈ l → r.length ≤ (l.map (·.length)).sum
  | a :: l, r, h => by
    rw [List.map_cons, List.sum_cons]
    rcases List.mem_cons.mp h with e | h
    · rw [e]; omega
    · have := len_le_sum h; omega
theorem row_len {x r : Str} (h : r ∈ rowsOf x) : r.length ≤ x.length := by
  have a := rows_sum x
  have b := len_le_sum h
  have c := rows_pos x
  omega
theorem row_signs {x r : Str} (t : Tx x) (h : r ∈ rowsOf x) : ∀ c ∈ TL.tl r, 32 ≤ c ∧ c ≤ 126 := fun c hc => by
  have m : TL.tl r ∈ TL.spl [10] 0 [] (TL.tl x) := by rw [← rows_tl]; exact List.mem_map.mpr ⟨r, h, rfl⟩
  obtain ⟨k1, k2⟩ := spl_in 10 (TL.tl x) [] (by simp) _ m c hc
  exact (t c (k2.resolve_left (by simp))).resolve_left k1
theorem row_ok {x r : Str} (t : Tx x) (h : r ∈ rowsOf x) : signsOk r = true := List.all_eq_true.mpr fun c hc => decide_eq_true (row_signs t h c hc)
/-- what is joined has no others -/
theorem joinL_in : ∀ {ps : List (List Nat)} {c : Nat}, c ∈ TL.joinL [10] ps → c = 10 ∨ ∃ p ∈ ps, c ∈ p
  | [], c, h => by cases h
  | [p], c, h => .inr ⟨p, List.mem_cons_self, h⟩
  | p :: q :: r, c, h => by
    have h : c ∈ p ++ ([10] ++ TL.joinL [10] (q :: r)) := h
    rcases List.mem_append.mp h with h | h
    · exact .inr ⟨p, List.mem_cons_self, h⟩
    · rcases List.mem_append.mp h with h | h
      · exact .inl (List.mem_singleton.mp h)
      · rcases joinL_in h with e | ⟨p', hp, hc⟩
        · exact .inl e
        · exact .inr ⟨p', List.mem_cons_of_mem _ hp, hc⟩
theorem join_tx {rs : List Str} (h : ∀ r ∈ rs, Tx r) : Tx (Txt.join nl rs) := fun c hc => by
  rw [TL.join_eq, TL.tl_join, nl_tl] at hc
  rcases joinL_in hc with e | ⟨p, hp, hc⟩
  · exact .inl e
  · obtain ⟨r, hr, rfl⟩ := List.mem_map.mp hp
    exact h r hr c hc
theorem joinL_len : ∀ ps : List (List Nat), (TL.joinL [10] ps).length ≤ (ps.map List.length).sum + ps.length
  | [] => by simp [TL.joinL]
  | [p] => by simp [TL.joinL]
  | p :: q :: r => by
    have ih := joinL_len (q :: r)
    show (p ++ ([10] ++ TL.joinL [10] (q :: r))).length ≤ _
    simp only [List.length_append, List.map_cons, List.sum_cons, List.length_cons, List.length_nil] at ih ⊢
    omega
theorem join_len (rs : List Str) : (Txt.join nl rs).length ≤ (rs.map (·.length)).sum + rs.length := by
  have e := joinL_len (rs.map TL.tl)
  rw [List.map_map, List.length_map] at e
  rw [TL.join_eq, ← tl_len, TL.tl_join, nl_tl]
  exact e
/-! ### all unlike -/
theorem uq_all : ∀ {l : List Nat}, (uq l).length = l.length → l.Nodup := by
  intro l
  suffices g : ∀ n (l : List Nat), l.length = n → (uq l).length = l.length → l.Nodup from g _ l rfl
  intro n
  induction n with
  | zero =>
    intro l h _
    rw [List.eq_nil_of_length_eq_zero h]
    exact List.nodup_nil
  | succ n ih =>
    intro l h e
    obtain ⟨r, c, rfl⟩ : ∃ r c, l = r ++ [c] := by
      have hne : l ≠ [] := fun z => by rw [z] at h; cases h
      exact ⟨l.dropLast, l.getLast hne, (List.dropLast_concat_getLast hne).symm⟩
    rw [List.length_append] at h
    have hr : r.length = n := by simpa using h
    rw [uq_snoc] at e
    unfold uqs at e
    split at e
    · have := uq_le r
      rw [List.length_append] at e
      simp at e
      omega
    · rename_i hc
      rw [List.length_append, List.length_append] at e
      have nr := ih r hr (by simpa using e)
      rw [uq_nodup nr] at hc
      exact List.nodup_append.mpr ⟨nr, by simp, fun a ha b hb => by rw [List.mem_singleton.mp hb]; exact fun k => hc (k ▸ ha)⟩
theorem uq_dec (l : List Nat) : decide ((uq l).length = l.length) = decide l.Nodup := by
  by_cases h : l.Nodup
  · rw [decide_eq_true h, uq_nodup h]; simp
  · rw [decide_eq_false h]; exact decide_eq_false fun e => h (uq_all e)
/-! ### the verdict -/
def canB (z : Str) : Bool := signsOk z && decide z.cps.toList.Nodup
def homeB (z : Str) : V → Bool
  | .non => true
  | .int i => decide (0 ≤ i ∧ i < (z.cps.size : Int))
  | _ => false
def goodB (z o : Str) (hm : V) : Bool := decide (z.cps.size = o.cps.size) && (decide (1 ≤ z.cps.size ∧ z.cps.size ≤ 26) && ((canB z && canB o) && homeB z hm))
theorem goodB_iff {z o : Str} {hm : V} : goodB z o hm = true ↔ Good z o hm := by
  unfold goodB canB
  simp only [Bool.and_eq_true, decide_eq_true_eq]
  constructor
  · rintro ⟨e, ⟨a, b⟩, ⟨⟨s1, n1⟩, s2, n2⟩, h⟩
    refine ⟨e.symm, a, b, n1, n2, fun c hc => of_decide_eq_true (List.all_eq_true.mp s1 c hc), fun c hc => of_decide_eq_true (List.all_eq_true.mp s2 c hc), ?_⟩
    match hm, h with
    | .non, _ => exact .inl rfl
    | .int i, h =>
      have h := of_decide_eq_true h
      exact .inr ⟨i.toNat, by rw [Int.toNat_of_nonneg h.1], by omega⟩
  · intro g
    refine ⟨g.len.symm, ⟨g.pos, g.le⟩, ⟨⟨g.signs.1, g.nz⟩, g.signs.2, g.no⟩, ?_⟩
    rcases g.home with e | ⟨h, e, lt⟩
    · rw [e]; rfl
    · rw [e]; exact decide_eq_true ⟨by omega, by omega⟩
def homeV (r : Str) : V := if r = Str.ofString "-" then .non else .int ((PySem.intText? r).getD 0)
def homeL (r : Str) : V := if r = Str.ofString "-" then .non else if figOk r = true then .int ((PySem.intText? r).getD 0) else .int (-1)
theorem fig1 : ∀ a : Fin 10, PySem.intText? ⟨#[48 + a.val]⟩ = some ((a.val : Nat) : Int) := by decide +kernel
theorem fig2 : ∀ a b : Fin 10, PySem.intText? ⟨#[48 + a.val, 48 + b.val]⟩ = some ((10 * a.val + b.val : Nat) : Int) := by decide +kernel
theorem fig_num {r : Str} (h : figOk r = true) : ∃ n : Nat, n < 100 ∧ PySem.intText? r = some (n : Int) := by
  obtain ⟨a⟩ := r
  obtain ⟨l⟩ := a
  unfold figOk figs at h
  simp only [Bool.and_eq_true, decide_eq_true_eq, List.all_eq_true] at h
  obtain ⟨⟨⟨h1, h2⟩, _⟩, hf⟩ := h
  match l, h1, h2, hf with
  | [a], _, _, hf =>
    have ha := hf a (by simp)
    have e := fig1 ⟨a - 48, by omega⟩
    rw [show 48 + (⟨a - 48, by omega⟩ : Fin 10).val = a from by show 48 + (a - 48) = a; omega] at e
    exact ⟨_, by show a - 48 < 100; omega, e⟩
  | [a, b], _, _, hf =>
    have ha := hf a (by simp)
    have hb := hf b (by simp)
    have e := fig2 ⟨a - 48, by omega⟩ ⟨b - 48, by omega⟩
    rw [show 48 + (⟨a - 48, by omega⟩ : Fin 10).val = a from by show 48 + (a - 48) = a; omega, show 48 + (⟨b - 48, by omega⟩ : Fin 10).val = b from by show 48 + (b - 48) = b; omega] at e
    exact ⟨_, by show 10 * (a - 48) + (b - 48) < 100; omega, e⟩
theorem fig_sz {r : Str} (h : goodRow 2 r = true) (e : r ≠ Str.ofString "-") : r.cps.size ≤ 2 := by
  unfold goodRow at h
  rw [if_neg (by decide), decide_eq_true (rfl : (2 : Int) = 2), Bool.true_and, decide_eq_false e, Bool.false_or] at h
  unfold figOk at h
  simp only [Bool.and_eq_true, decide_eq_true_eq] at h
  exact h.1.1.2
def firstBad : Nat → List Str → Option Nat
  | _, [] => none
  | i, r :: rs => if goodRow i r = true then firstBad (i + 1) rs else some i
theorem firstBad_some : ∀ {rs : List Str} {k i : Nat} {r : Str}, (∀ (j : Nat) (x : Str), j < i → rs[j]? = some x → goodRow ((k + j : Nat) : Int) x = true) → rs[i]? = some r → goodRow ((k + i : Nat) : Int) r = false → firstBad k rs = some (k + i)
  | [], k, i, r, _, h, _ => by simp at h
  | a :: rs, k, 0, r, _, h, g => by
    have e : a = r := Option.some.inj h
    subst e
    unfold firstBad
    rw [if_neg (by rw [show ((k : Nat) : Int) = ((k + 0 : Nat) : Int) from rfl, g]; simp)]
    rfl
  | a :: rs, k, i + 1, r, p, h, g => by
    unfold firstBad
    rw [if_pos (by have := p 0 a (by omega) rfl; exact this)]
    rw [firstBad_some (k := k + 1) (i := i) (r := r) (fun j x hj e => by
      have := p (j + 1) x (by omega) e
      rw [show k + 1 + j = k + (j + 1) by omega]; exact this) h (by rw [show k + 1 + i = k + (i + 1) by omega]; exact g)]
    rw [show k + 1 + i = k + (i + 1) by omega]
theorem firstBad_none : ∀ {rs : List Str} {k : Nat}, (∀ (j : Nat) (x : Str), rs[j]? = some x → goodRow ((k + j : Nat) : Int) x = true) → firstBad k rs = none
  | [], _, _ => rfl
  | a :: rs, k, p => by
    unfold firstBad
    rw [if_pos (by have := p 0 a rfl; exact this)]
    exact firstBad_none fun j x e => by
      have := p (j + 1) x e
      rw [show k + 1 + j = k + (j + 1) by omega]; exact this
def badRow (rs : List Str) : Option Nat := match firstBad 0 rs with
  | some i => some i
  | none => if rs.length < 3 then some rs.length else none
theorem badRow_at {rs : List Str} {i : Nat} {r : Str} (p : ∀ (j : Nat) (x : Str), j < i → rs[j]? = some x → goodRow ((j : Nat) : Int) x = true) (h : rs[i]? = some r) (g : goodRow ((i : Nat) : Int) r = false) : badRow rs = some i := by
  have e := firstBad_some (k := 0) (fun j x hj e => by rw [Nat.zero_add]; exact p j x hj e) h (by rw [Nat.zero_add]; exact g)
  unfold badRow
  rw [e, Nat.zero_add]
theorem badRow_short {rs : List Str} (p : ∀ (j : Nat) (x : Str), rs[j]? = some x → goodRow ((j : Nat) : Int) x = true) (h : rs.length < 3) : badRow rs = some rs.length := by
  have e := firstBad_none (k := 0) (fun j x e => by rw [Nat.zero_add]; exact p j x e)
  unfold badRow
  rw [e]
  exact if_pos h
theorem badRow_none {rs : List Str} (p : ∀ (j : Nat) (x : Str), rs[j]? = some x → goodRow ((j : Nat) : Int) x = true) (h : ¬ rs.length < 3) : badRow rs = none := by
  have e := firstBad_none (k := 0) (fun j x e => by rw [Nat.zero_add]; exact p j x e)
  unfold badRow
  rw [e]
  exact if_neg h
theorem good3 (x : Str) (i : Nat) (h : 2 < i) : goodRow ((i : Nat) : Int) x = false := by
  unfold goodRow
  rw [if_neg (by omega), decide_eq_false (by omega), Bool.false_and]
theorem three_of {rs : List Str} (p : ∀ (j : Nat) (x : Str), rs[j]? = some x → goodRow ((j : Nat) : Int) x = true) (h : ¬ rs.length < 3) : ∃ z o r, rs = [z, o, r] := by
  match rs, h with
  | [z, o, r], _ => exact ⟨z, o, r, rfl⟩
  | z :: o :: r :: q :: l, _ =>
    have e := p 3 q rfl
    rw [good3 q 3 (by omega)] at e
    cases e
  | [], h => exact absurd (by simp) h
  | [_], h => exact absurd (by simp) h
  | [_, _], h => exact absurd (by simp) h
inductive Ver where
  | told (z o : Str) (hm : V)
  | text (n : Nat)
  | sheet
def verOf (rs : List Str) : Ver := match badRow rs with
  | some n => .text n
  | none => match rs with
    | [z, o, r] => if goodB z o (homeV r) = true then .told z o (homeV r) else .sheet
    | _ => .sheet
theorem verOf_text {rs : List Str} {n : Nat} (h : badRow rs = some n) : verOf rs = .text n := by unfold verOf; rw [h]
theorem verOf_told {z o r : Str} (h : badRow [z, o, r] = none) (g : goodB z o (homeV r) = true) : verOf [z, o, r] = .told z o (homeV r) := by unfold verOf; rw [h]; exact if_pos g
theorem verOf_sheet {z o r : Str} (h : badRow [z, o, r] = none) (g : goodB z o (homeV r) = false) : verOf [z, o, r] = .sheet := by unfold verOf; rw [h]; exact if_neg (by rw [g]; simp)
/-- the law's own test of a row -/
theorem law_row {r : Str} (s : signsOk r = true) (i : Nat) : goodRow ((i : Nat) : Int) r = true ↔ ¬ (2 < i ∨ (i = 2 ∧ homeL r = .int (-1))) := by
  unfold goodRow homeL
  by_cases h1 : i < 2
  · rw [if_pos (by omega)]
    exact ⟨fun _ => by omega, fun _ => s⟩
  · rw [if_neg (by omega)]
    by_cases h2 : i = 2
    · subst h2
      rw [decide_eq_true (by rfl), Bool.true_and]
      by_cases h3 : r = Str.ofString "-"
      · rw [if_pos h3, decide_eq_true h3]
        exact ⟨fun _ k => k.elim (fun k => by omega) fun k => (nomatch k.2), fun _ => rfl⟩
      · rw [if_neg h3, decide_eq_false h3, Bool.false_or]
        by_cases h4 : figOk r = true
        · obtain ⟨n, hn, e⟩ := fig_num h4
          rw [if_pos h4, e]
          exact ⟨fun _ k => k.elim (fun k => by omega) (fun k => by have := V.int.inj k.2; simp only [Option.getD_some] at this; omega), fun _ => h4⟩
        · rw [if_neg h4]
          exact ⟨fun k => absurd k h4, fun k => absurd (Or.inr ⟨rfl, rfl⟩) k⟩
    · exact ⟨fun k => (by rw [decide_eq_false (by omega), Bool.false_and] at k; cases k), fun k => absurd (Or.inl (by omega)) k⟩
theorem homeV_eq {r : Str} (g : goodRow 2 r = true) : homeL r = homeV r ∧ (r ≠ Str.ofString "-" → ∃ n : Nat, n < 100 ∧ PySem.intText? r = some (n : Int) ∧ homeV r = .int n) := by
  unfold goodRow at g
  rw [if_neg (by decide), decide_eq_true (rfl : (2 : Int) = 2), Bool.true_and] at g
  unfold homeL homeV
  by_cases h3 : r = Str.ofString "-"
  · rw [if_pos h3, if_pos h3]
    exact ⟨rfl, fun k => absurd h3 k⟩
  · rw [decide_eq_false h3, Bool.false_or] at g
    obtain ⟨n, hn, e⟩ := fig_num g
    rw [if_neg h3, if_neg h3, if_pos g, e]
    exact ⟨rfl, fun _ => ⟨n, hn, rfl, rfl⟩⟩
end Kt
namespace Kt
open PySem PySem.Spec PyProof.Rows L2
/-! ### isinstance by the written part -/
theorem kit_ref {K : PySem.W.Frag} {C D : Addr} {b : Bool} (hc : PySem.W.isClsIn K D = true) (ht : PySem.W.typeIn K (.ref D) = some (.type "type")) (hs : PySem.W.subIn K (.ref C) (.ref C) = some true) (h : PySem.W.subIn K (.ref C) (.ref D) = some b) : PySem.W.kitOne K (.ref C) (.ref D) = some b := by
  unfold PySem.W.kitOne
  by_cases e : C = D
  · subst e
    rw [hs] at h
    rw [← h]
    exact if_pos (beq_self_eq_true _)
  · have ne : ((Value.ref C) == (Value.ref D)) = false := by
      rw [beq_eq_false_iff_ne]
      intro k
      exact e (Value.ref.inj k)
    rw [ne, if_neg (by decide)]
    have hc' : (PySem.W.clsIn K D).isSome = true := hc
    have e2 : ((PySem.W.clsIn K D).isSome && PySem.W.typeIn K (.ref D) == some (.type "type")) = true := by rw [hc', ht]; rfl
    show (if ((PySem.W.clsIn K D).isSome && PySem.W.typeIn K (.ref D) == some (.type "type")) = true then PySem.W.subIn K (.ref C) (.ref D) else none) = some b
    rw [if_pos e2]
    exact h
theorem kit_ve {K : PySem.W.Frag} {C : Addr} (h : PySem.W.subIn K (.ref C) (.type "ValueError") = some true) : PySem.W.kitOne K (.ref C) (.type "ValueError") = some true := by
  unfold PySem.W.kitOne
  have ne : ((Value.ref C) == (Value.type "ValueError")) = false := rfl
  rw [ne, if_neg (by decide)]
  show (if PySem.W.kitMeta "ValueError" = true then PySem.W.subIn K (.ref C) (.type "ValueError") else none) = some true
  rw [if_pos (by decide +kernel)]
  exact h
theorem kind_mk {K : PySem.W.Frag} {mg : Str → Option Value} {x : Str} {C CT c0 c1 c2 c3 c4 c5 : Addr} {i : Nat} (e : ExC K mg x C) (h : [c0, c1, c2, c3, c4, c5][i]? = some C)
    (h0 : PySem.W.kitOne K (.ref C) (.ref c0) = some (decide (i = 0))) (h1 : PySem.W.kitOne K (.ref C) (.ref c1) = some (decide (i = 1))) (h2 : PySem.W.kitOne K (.ref C) (.ref c2) = some (decide (i = 2)))
    (h3 : PySem.W.kitOne K (.ref C) (.ref c3) = some (decide (i = 3))) (h4 : PySem.W.kitOne K (.ref C) (.ref c4) = some (decide (i = 4))) (h5 : PySem.W.kitOne K (.ref C) (.ref c5) = some (decide (i = 5)))
    (kv : PySem.W.kitOne K (.ref C) (.type "ValueError") = some true) (em : PySem.W.exmOne K (.ref C) (.ref CT) = some true) : Kind K mg [c0, c1, c2, c3, c4, c5] CT i C :=
  ⟨⟨x, e⟩, h, rfl, fun j Cj hj => match j, hj with
    | 0, hj => by cases hj; exact h0
    | 1, hj => by cases hj; exact h1
    | 2, hj => by cases hj; exact h2
    | 3, hj => by cases hj; exact h3
    | 4, hj => by cases hj; exact h4
    | 5, hj => by cases hj; exact h5
    | j + 6, hj => by simp at hj, kv, em⟩
/-! ### the base of the refusals, those that bear a number -/
structure BaseC (K : PySem.W.Frag) (mg : Str → Option Value) (B : Addr) : Prop where
  g : mg "TapeError" = some (.ref B)
  rd : PySem.W.readsIn K B (.type "type") = true
  sg : PySem.W.specialIn K (.ref B) "__getattribute__" = some (some (.builtin "type.__getattribute__"))
  fc : PySem.W.findCls K (.ref B) (.type "type") "__init__" = some (.val (.builtin "ValueError.__init__"))
def inOf : Stmt → Stmt
  | .ClassDef _ _ _ (b :: _) _ _ _ _ _ _ _ => b
  | s => s
structure InC (K : PySem.W.Frag) (mg : Str → Option Value) (x qual fld : Str) (st : Stmt) (C : Addr) where
  f : Addr
  fd : FuncData
  ox : OexC K C
  ii : PySem.W.findIn K (.ref C) "__init__" = some (some (.ref f))
  ti : PySem.W.typeIn K (.ref f) = some (.type "function")
  F : Fun K "__init__" qual st f fd
  b : Binds K fd ["self", fld] []
  no : PySem.W.findIn K (.ref C) fld = some none
def spInit (K : PySem.W.Frag) (C : Addr) (fld : Str) : Sp := fun vs H Q _ => ∃ (a : Addr) (n : Int), vs = [.ref a, .int n] ∧ n.natAbs.log2 < 1920 ∧ H a = some (exo a C none) ∧
  ∀ dx, H dx = none → dx ≠ a → Q .non (upd (upd H dx (exd dx [(fld, .int n)])) a (exo a C (some dx)))
theorem heap_init {H : Hp} {a C dx : Addr} {o o1 : HO} (ha : H a = none) (hd : dx ≠ a) : upd (del (upd (upd (upd H a o) dx o1) a (exo a C (some dx))) a) dx (.xd fs) = upd H dx (.xd fs) := by
  funext b
  by_cases h : b = dx
  · rw [h, upd_same, upd_same]
  · rw [upd_ne h, upd_ne h]
    by_cases k : b = a
    · rw [k, del_same, ha]
    · rw [del_ne k, upd_ne k, upd_ne h, upd_ne k]
theorem mk_init {K : PySem.W.Frag} {C : Addr} {fld : Str} {n : Int} {H1 : Hp} {Q : XK} (hn : n.natAbs.log2 < 1920) (q : ∀ dx, H1 dx = none → Q (.ref C) (some dx) (upd H1 dx (.xd [(fld, .int n)]))) :
    ([V.int n]).length ≤ 1000 ∧ ∀ a, H1 a = none → spInit K C fld (.ref a :: ([V.int n] ++ [])) (upd H1 a (exo a C none))
      (fun v H2 => v = .non ∧ ∃ (d : Addr) (fs : List (Str × V)), H2 a = some (exo a C (some d)) ∧ H2 d = some (exd d fs) ∧ H1 d = none ∧ Q (.ref C) (some d) (upd (del H2 a) d (.xd fs))) (fun _ _ _ => False) := by
  refine ⟨by simp, fun a ha => ⟨a, n, rfl, hn, upd_same, fun dx hd ne => ⟨rfl, dx, [(fld, .int n)], upd_same, by rw [upd_ne ne]; exact upd_same, by rw [upd_ne ne] at hd; exact hd, ?_⟩⟩⟩
  rw [heap_init ha ne]
  exact q dx (by rw [upd_ne ne] at hd; exact hd)
/-! ### what the program promises of anything that is handed in -/
def spCanG (P : Addr) : Sp := fun vs H Q _ => ∃ z : Str, vs = [.str z] ∧ z.cps.size ≤ 1000 ∧ GxR.TabG H P ∧ ∀ H', GxR.Tabbed P H H' → Q (.bl (canB z)) H'
def HomeV (hm : V) : Prop := hm = .non ∨ ∃ i : Int, hm = .int i
def spCheckG (P CS : Addr) : Sp := fun vs H Q E => ∃ (t : Addr) (z o : Str) (hm : V), vs = [.ref t] ∧ HomeV hm ∧ Sh H t z o hm ∧ z.cps.size ≤ 1000 ∧ o.cps.size ≤ 1000 ∧ GxR.TabG H P ∧
  (goodB z o hm = true → ∀ H', Kp P H H' → Q .non H') ∧ (goodB z o hm = false → ∀ H', Kp P H H' → E (.ref CS) none H')
def spRowsG (K : PySem.W.Frag) (W : TWs) (CT : Addr) : Sp := fun vs H Q E => ∃ (a : Addr) (rs : List Str), vs = [.ref a] ∧ SqL K H a (rs.map V.str) ∧ rs.length ≤ 1000 ∧ (∀ r ∈ rs, r.cps.size ≤ 1000) ∧ Tb W H ∧
  (∀ n, badRow rs = some n → ∀ H1 dx, Kz W H H1 → H1 dx = none → E (.ref CT) (some dx) (upd H1 dx (.xd [("row", .int (n : Nat))]))) ∧
  (badRow rs = none → (∀ (j : Nat) (x : Str), rs[j]? = some x → goodRow ((j : Nat) : Int) x = true) → ∀ H', Kz W H H' → Q .non H')
def spReadG (W : TWs) (CT CS : Addr) : Sp := fun vs H Q E => ∃ x : Str, vs = [.str x] ∧ x.cps.size ≤ 900 ∧ Tb W H ∧ match verOf (rowsOf x) with
  | .told z o hm => HomeV hm → ∀ t H', Kz W H H' → H t = none → Sh H' t z o hm → Q (.ref t) H'
  | .text n => ∀ H1 dx, Kz W H H1 → H1 dx = none → E (.ref CT) (some dx) (upd H1 dx (.xd [("row", .int (n : Nat))]))
  | .sheet => ∀ H1, Kz W H H1 → E (.ref CS) none H1
/-! ### the law's -/
def spHome : Sp := fun vs H Q _ => ∃ r : Str, vs = [.str r] ∧ r.cps.size ≤ 1000 ∧ signsOk r = true ∧ ∀ H', Same H H' → Q (homeL r) H'
/-- a word and what was told -/
def DueAt (H : Hp) (p : Addr) : Ver → Prop
  | .told z o hm => HomeV hm ∧ ∃ q, H p = some (.tup [.str "told", .ref q]) ∧ H q = some (.tup [.str z, .str o, hm])
  | .text n => H p = some (.tup [.str "BadText", .int (n : Nat)])
  | .sheet => H p = some (.tup [.str "BadSheet", .int 0])
def spDue : Sp := fun vs H Q _ => ∃ x : Str, vs = [.str x] ∧ x.cps.size ≤ 900 ∧ Tx x ∧ ∀ p H', Same H H' → DueAt H' p (verOf (rowsOf x)) → Q (.ref p) H'
def spTold (W : TWs) : Sp := fun vs H Q _ => ∃ x : Str, vs = [.str x] ∧ x.cps.size ≤ 900 ∧ Tb W H ∧ ∀ p H', Kz W H H' → DueAt H' p (verOf (rowsOf x)) → Q (.ref p) H'
theorem DueAt.al {H : Hp} {p q : Addr} {v : Ver} (a : DueAt H p v) (b : DueAt H q v) : Al H 2 (.ref p) (.ref q) := by
  cases v with
  | told z o hm =>
    obtain ⟨hh, p', a1, a2⟩ := a
    obtain ⟨_, q', b1, b2⟩ := b
    refine .tup a1 b1 rfl (by simp) fun i x y h1 h2 => ?_
    match i, h1, h2 with
    | 0, h1, h2 => cases h1; cases h2; exact .str _ _
    | 1, h1, h2 =>
      cases h1; cases h2
      refine .tup a2 b2 rfl (by simp) fun i x y h1 h2 => ?_
      rw [h1] at h2
      cases h2
      match i, h1 with
      | 0, h1 => cases h1; exact .str _ _
      | 1, h1 => cases h1; exact .str _ _
      | 2, h1 =>
        cases h1
        rcases hh with e | ⟨i, e⟩ <;> rw [e]
        · exact .non _
        · exact .int _ _
  | text n =>
    refine .tup a b rfl (by simp) fun i x y h1 h2 => ?_
    rw [h1] at h2
    cases h2
    match i, h1 with
    | 0, h1 => cases h1; exact .str _ _
    | 1, h1 => cases h1; exact .int _ _
  | sheet =>
    refine .tup a b rfl (by simp) fun i x y h1 h2 => ?_
    rw [h1] at h2
    cases h2
    match i, h1 with
    | 0, h1 => cases h1; exact .str _ _
    | 1, h1 => cases h1; exact .int _ _
theorem DueAt.kz {W : TWs} {H H' : Hp} {p : Addr} {v : Ver} (a : DueAt H p v) (k : Kz W H H') : DueAt H' p v := by
  cases v with
  | told z o hm =>
    obtain ⟨hh, p', a1, a2⟩ := a
    exact ⟨hh, p', k.tup a1, k.tup a2⟩
  | text n => exact k.tup a
  | sheet => exact k.tup a
/-- the text that the law spoils: only signs and line feeds, a bound -/
def spSpoilt : Sp := fun vs H Q _ => ∃ (b l : Addr) (x : Str) (m : Nat), vs = [.ref b, .str x] ∧ BoxAt H b l ∧ Tx x ∧ x.cps.size ≤ m ∧ m ≤ 400 ∧
  ∀ (y : Str) H', Tx y → y.cps.size ≤ 3 * m + 10 → Bxd b l H H' → Q (.str y) H'
end Kt
namespace Kt
open PySem PySem.Spec PyProof.Rows L2
/-! ### lists of texts as data -/
def sD (ss : List Str) : List PyData := ss.map PyData.str
theorem dp_strs (K : PySem.W.Frag) (H : Hp) : ∀ ss : List Str, DpAll K H (ss.map V.str) (sD ss)
  | [] => .nil
  | s :: r => .cons (.str s) (dp_strs K H r)
theorem strOk_small {x : Str} (h : ∀ c ∈ x.cps.toList, c ≤ 126) : PyData.strOk x = true := by
  unfold PyData.strOk
  rw [← Array.all_toList, List.all_eq_true]
  exact fun c hc => decide_eq_true (by have := h c hc; omega)
theorem canLay_s : ∀ {ss : List Str}, (∀ s ∈ ss, ∀ c ∈ s.cps.toList, c ≤ 126) → PyData.canLayAll0 (sD ss) = true
  | [], _ => by simp [sD, PyData.canLayAll0]
  | p :: e, h => by
    have a := canLay_s (ss := e) fun q hq => h q (List.mem_cons_of_mem _ hq)
    have b := strOk_small (h p List.mem_cons_self)
    simp only [sD, List.map_cons, PyData.canLayAll0, PyData.canLay0, b, Bool.and_true, Bool.true_and]
    exact a
theorem depth_s : ∀ ss : List Str, PyData.depthAll (sD ss) ≤ 4
  | [] => by simp [sD, PyData.depthAll]
  | p :: e => by
    have a := depth_s e
    simp only [sD, List.map_cons, PyData.depthAll, PyData.depth]
    unfold sD at a
    omega
theorem shaped_s {ss : List Str} (h : ∀ s ∈ ss, ∀ c ∈ s.cps.toList, c ≤ 126) : SeqAt.shaped (.list (sD ss)) = true := by
  have a := depth_s ss
  show (PyData.canLay0 (.list (sD ss)) && decide (PyData.depth (.list (sD ss)) ≤ 64)) = true
  rw [Bool.and_eq_true]
  refine ⟨by simp only [PyData.canLay0]; exact canLay_s h, decide_eq_true ?_⟩
  simp only [PyData.depth]; omega
theorem eqv_nil_s (ss : List Str) : PyData.eqv (.list (sD ss)) (.list []) = decide (ss = []) := by
  cases ss with
  | nil => simp [sD, PyData.eqv, PyData.eqvAll]
  | cons p e => simp [sD, PyData.eqv, PyData.eqvAll]
/-! ### the six answers -/
def kindsOf (i : Nat) : List V := [.bl (decide (i = 0)), .bl (decide (i = 1)), .bl (decide (i = 2)), .bl (decide (i = 3)), .bl (decide (i = 4)), .bl (decide (i = 5))]
theorem kinds_cnt : ∀ i : Fin 6, (kindsOf i.val).countP (fun z => eqV z (.bl true)) = 1 := by decide
theorem kinds_at : ∀ i : Fin 6, ∃ z, (kindsOf i.val)[i.val]? = some z ∧ eqV z (.bl true) = true := by
  intro i
  match i with
  | ⟨0, _⟩ => exact ⟨_, rfl, rfl⟩
  | ⟨1, _⟩ => exact ⟨_, rfl, rfl⟩
  | ⟨2, _⟩ => exact ⟨_, rfl, rfl⟩
  | ⟨3, _⟩ => exact ⟨_, rfl, rfl⟩
  | ⟨4, _⟩ => exact ⟨_, rfl, rfl⟩
  | ⟨5, _⟩ => exact ⟨_, rfl, rfl⟩
theorem kinds_at' (i m : Fin 6) : m.val < i.val → ((kindsOf i.val)[m.val]?.all fun z => !eqV z (.bl true)) = true := by
  revert i m; decide
theorem kinds_before {i : Nat} (hi : i < 6) (m : Nat) (z : V) (h : m < i) (e : (kindsOf i)[m]? = some z) : eqV z (.bl true) = false := by
  have k := kinds_at' ⟨i, hi⟩ ⟨m, by omega⟩ h
  have k : ((kindsOf i)[m]?.all fun z => !eqV z (.bl true)) = true := k
  rw [e] at k
  simpa using k
theorem kinds_flat (i : Nat) : (kindsOf i).all flatV = true := rfl
theorem kind_word : ∀ i : Fin 6, ([.str "BadSheet", .str "BadSet", .str "BadTape", .str "NoSign", .str "BadCount", .str "BadText"] : List V)[i.val]? = some (.str (kindWord i.val)) := by
  intro i
  match i with
  | ⟨0, _⟩ => rfl
  | ⟨1, _⟩ => rfl
  | ⟨2, _⟩ => rfl
  | ⟨3, _⟩ => rfl
  | ⟨4, _⟩ => rfl
  | ⟨5, _⟩ => rfl
theorem Kind.lt {K : PySem.W.Frag} {mg : Str → Option Value} {cs : List Addr} {CT C : Addr} {i : Nat} (k : Kind K mg cs CT i C) : i < 6 := by
  have h := (List.getElem?_eq_some_iff.mp k.at').1
  rw [k.six] at h
  exact h
theorem DxAt.same {H H' : Hp} {d : Option Addr} (x : DxAt H d) (s : Same H H') : DxAt H' d := fun dd e => by
  obtain ⟨fs, h⟩ := x dd e
  exact ⟨fs, s _ _ h⟩
/-- signs of a word that are no figures, up to a place -/
def noFig (r : Str) (i : Nat) : List Str := ((r.cps.toList.take i).filter fun c => !decide (48 ≤ c ∧ c ≤ 57)).map sg
theorem noFig_snoc {r : Str} {i c : Nat} (h : r.cps[i]? = some c) : noFig r (i + 1) = if 48 ≤ c ∧ c ≤ 57 then noFig r i else noFig r i ++ [sg c] := by
  have h' : r.cps.toList[i]? = some c := by rw [Array.getElem?_toList]; exact h
  unfold noFig
  rw [List.take_add_one, h', List.filter_append, List.map_append]
  by_cases k : 48 ≤ c ∧ c ≤ 57
  · rw [if_pos k]
    simp [k]
  · rw [if_neg k]
    have e : (!decide (48 ≤ c ∧ c ≤ 57)) = true := by rw [decide_eq_false k]; rfl
    simp only [Option.toList_some, List.filter_cons, e, if_true, List.filter_nil, List.map_cons, List.map_nil]
theorem noFig_nil {r : Str} : noFig r r.cps.size = [] ↔ figs r = true := by
  unfold noFig figs
  rw [show r.cps.size = r.cps.toList.length by simp, List.take_length, List.map_eq_nil_iff, List.filter_eq_nil_iff, List.all_eq_true]
  constructor
  · intro h c hc
    have := h c hc
    simpa using this
  · intro h c hc
    have := h c hc
    simpa using this
theorem fig_mem {c : Nat} (h : c ≤ 126) : (c ∈ (Str.ofString "0123456789").cps.toList) ↔ (48 ≤ c ∧ c ≤ 57) := by
  have e : (Str.ofString "0123456789").cps.toList = [48, 49, 50, 51, 52, 53, 54, 55, 56, 57] := by decide +kernel
  rw [e]
  simp only [List.mem_cons, List.not_mem_nil, or_false]
  omega
end Kt
namespace Kt
open PySem PySem.Spec PyProof.Rows L2
def cutR (rs : List Str) (lo hi : Option Int) : List Str := (rs.drop (HT.sIx rs.length 0 lo)).take (HT.sIx rs.length rs.length hi - HT.sIx rs.length 0 lo)
theorem cutV_str (rs : List Str) (lo hi : Option Int) : cutV (rs.map V.str) lo hi = (cutR rs lo hi).map V.str := by
  unfold cutV cutR
  rw [List.map_take, List.map_drop, List.length_map]
theorem cutR_sub (rs : List Str) (lo hi : Option Int) : (cutR rs lo hi).Sublist rs := (List.take_sublist _ _).trans (List.drop_sublist _ _)
theorem sum_sub {a b : List Str} (h : a.Sublist b) : (a.map (·.length)).sum ≤ (b.map (·.length)).sum := by
  induction h with
  | slnil => exact Nat.le_refl _
  | cons _ _ ih => rw [List.map_cons, List.sum_cons]; omega
  | cons_cons _ _ ih => rw [List.map_cons, List.sum_cons, List.map_cons, List.sum_cons]; omega
theorem cutS_sub (x : Str) (lo hi : Option Int) : (TL.tl (cutS x lo hi)).Sublist (TL.tl x) := by
  show (((x.cps.toList.drop (HT.sIx x.length 0 lo)).take (HT.sIx x.length x.length hi - HT.sIx x.length 0 lo)).toArray).toList.Sublist x.cps.toList
  exact (List.take_sublist _ _).trans (List.drop_sublist _ _)
theorem cutS_tx {x : Str} (t : Tx x) (lo hi : Option Int) : Tx (cutS x lo hi) := fun c hc => t c ((cutS_sub x lo hi).subset hc)
theorem cutS_len (x : Str) (lo hi : Option Int) : (cutS x lo hi).length ≤ x.length := (cutS_sub x lo hi).length_le
theorem app_tx {x y : Str} (a : Tx x) (b : Tx y) : Tx (x ++ y) := fun c hc => by
  rw [TL.tl_append] at hc
  exact (List.mem_append.mp hc).elim (a c) (b c)
theorem row_tx {x r : Str} (t : Tx x) (h : r ∈ rowsOf x) : Tx r := fun c hc => .inr (row_signs t h c hc)
def txB (x : Str) : Bool := (TL.tl x).all fun c => decide (c = 10) || (decide (32 ≤ c) && decide (c ≤ 126))
theorem txB_ok {x : Str} (h : txB x = true) : Tx x := fun c hc => by
  have := List.all_eq_true.mp h c hc
  simpa using this
def odds : List Str := ["", " ", "-", "0", "00", "3", "12", "25", "26", "100", "-1", "ab", "aa", "--", "+1", "a"]
theorem odds_ok : ∀ s ∈ odds, Tx s ∧ s.length ≤ 3 := by
  have e : (odds.all fun s => txB s && decide (s.length ≤ 3)) = true := by decide +kernel
  intro s hs
  have := List.all_eq_true.mp e s hs
  rw [Bool.and_eq_true] at this
  exact ⟨txB_ok this.1, of_decide_eq_true this.2⟩
theorem BoxAt.new_ne {H : Hp} {b l p : Addr} (x : BoxAt H b l) (n : H p = none) : p ≠ b ∧ p ≠ l := by
  obtain ⟨ns, st, h1, h2⟩ := x
  exact ⟨(ne_of_none h1 n).symm, (ne_of_none h2 n).symm⟩
theorem Bxd.nw {b l p : Addr} {H H' : Hp} {o : HO} (x : Bxd b l H H') (n : H' p = none) : Bxd b l H (upd H' p o) := x.trans (Bxd.same x.box (same_new n))
theorem tx_sg {x : Str} (t : Tx x) {c : Nat} (h : c ∈ x.cps.toList) : Tx ⟨#[c]⟩ := fun d hd => by
  have e : d = c := by
    have : d ∈ [c] := hd
    exact List.mem_singleton.mp this
  rw [e]; exact t c h
end Kt
namespace K13
open PySem PySem.Spec PyProof.Rows L2
def topS (i : Nat) : Stmt := PySem.Challenge.pw_shifttape_k13_texts_refused.main.body.getD i (.Pass ⟨0, 0, 0, 0⟩)
abbrev s_are_signs : Stmt := topS 10
theorem sc_are_signs : FnScope ["signs"] ["signs"] (defScope s_are_signs) := ⟨rfl, rfl, rfl, by decide +kernel, rfl, by decide +kernel, by decide +kernel⟩
abbrev s_can_be_a_set : Stmt := topS 11
theorem sc_can_be_a_set : FnScope ["signs"] ["signs"] (defScope s_can_be_a_set) := ⟨rfl, rfl, rfl, by decide +kernel, rfl, by decide +kernel, by decide +kernel⟩
abbrev s_check_sheet : Stmt := topS 12
theorem sc_check_sheet : FnScope ["sheet", "zero", "one", "home"] ["sheet"] (defScope s_check_sheet) := ⟨rfl, rfl, rfl, by decide +kernel, rfl, by decide +kernel, by decide +kernel⟩
abbrev s_are_figures : Stmt := topS 16
theorem sc_are_figures : FnScope ["row"] ["row"] (defScope s_are_figures) := ⟨rfl, rfl, rfl, by decide +kernel, rfl, by decide +kernel, by decide +kernel⟩
abbrev s_is_good : Stmt := topS 17
theorem sc_is_good : FnScope ["number", "row"] ["number", "row"] (defScope s_is_good) := ⟨rfl, rfl, rfl, by decide +kernel, rfl, by decide +kernel, by decide +kernel⟩
abbrev s_check_rows : Stmt := topS 18
theorem sc_check_rows : FnScope ["rows", "number", "row"] ["rows"] (defScope s_check_rows) := ⟨rfl, rfl, rfl, by decide +kernel, rfl, by decide +kernel, by decide +kernel⟩
abbrev s_read_sheet : Stmt := topS 19
theorem sc_read_sheet : FnScope ["text", "rows", "zero", "one", "last", "sheet"] ["text"] (defScope s_read_sheet) := ⟨rfl, rfl, rfl, by decide +kernel, rfl, by decide +kernel, by decide +kernel⟩
abbrev s_l_begun : Stmt := topS 21
theorem sc_l_begun : FnScope ["_law_script", "_law_stirred", "_law_cell"] ["_law_script"] (defScope s_l_begun) := ⟨rfl, rfl, rfl, by decide +kernel, rfl, by decide +kernel, by decide +kernel⟩
abbrev s_l_take : Stmt := topS 22
theorem sc_l_take : FnScope ["_law_box", "_law_many", "_law_number"] ["_law_box", "_law_many"] (defScope s_l_take) := ⟨rfl, rfl, rfl, by decide +kernel, rfl, by decide +kernel, by decide +kernel⟩
abbrev s_l_alike : Stmt := topS 23
theorem sc_l_alike : FnScope ["_law_found", "_law_due_here", "_law_k"] ["_law_found", "_law_due_here"] (defScope s_l_alike) := ⟨rfl, rfl, rfl, by decide +kernel, rfl, by decide +kernel, by decide +kernel⟩
abbrev s_l_class : Stmt := topS 24
theorem sc_l_class : FnScope ["_law_e", "_law_kinds", "_law_words"] ["_law_e"] (defScope s_l_class) := ⟨rfl, rfl, rfl, by decide +kernel, rfl, by decide +kernel, by decide +kernel⟩
abbrev s_l_picked : Stmt := topS 25
theorem sc_l_picked : FnScope ["_law_box", "_law_signs", "_law_many", "_law_left", "_law_turn"] ["_law_box", "_law_signs", "_law_many"] (defScope s_l_picked) := ⟨rfl, rfl, rfl, by decide +kernel, rfl, by decide +kernel, by decide +kernel⟩
abbrev s_l_sheet : Stmt := topS 26
theorem sc_l_sheet : FnScope ["_law_box", "_law_most", "_law_many", "_law_every", "_law_often", "_law_zero", "_law_one", "_law_place", "_law_home_here"] ["_law_box", "_law_most"] (defScope s_l_sheet) := ⟨rfl, rfl, rfl, by decide +kernel, rfl, by decide +kernel, by decide +kernel⟩
abbrev s_l_spoilt : Stmt := topS 29
theorem sc_l_spoilt : FnScope ["_law_box", "_law_text_here", "_law_deed", "_law_rows", "_law_at", "_law_odd", "_law_place", "_law_signs", "_law_sign"] ["_law_box", "_law_text_here"] (defScope s_l_spoilt) := ⟨rfl, rfl, rfl, by decide +kernel, rfl, by decide +kernel, by decide +kernel⟩
abbrev s_l_home : Stmt := topS 30
theorem sc_l_home : FnScope ["_law_word", "_law_sign"] ["_law_word"] (defScope s_l_home) := ⟨rfl, rfl, rfl, by decide +kernel, rfl, by decide +kernel, by decide +kernel⟩
abbrev s_l_due : Stmt := topS 31
theorem sc_l_due : FnScope ["_law_text_here", "_law_rows", "_law_number", "_law_zero", "_law_one", "_law_home_here"] ["_law_text_here"] (defScope s_l_due) := ⟨rfl, rfl, rfl, by decide +kernel, rfl, by decide +kernel, by decide +kernel⟩
abbrev s_l_told : Stmt := topS 32
theorem sc_l_told : FnScope ["_law_text_here", "_law_e", "_law_word"] ["_law_text_here"] (defScope s_l_told) := ⟨rfl, rfl, rfl, by decide +kernel, rfl, by decide +kernel, by decide +kernel⟩
abbrev s_law : Stmt := topS 33
theorem sc_law : FnScope ["_law_script", "_law_box", "_law_zero", "_law_one", "_law_home_here", "_law_text_here", "_law_deed", "_law_due_here"] ["_law_script"] (defScope s_law) := ⟨rfl, rfl, rfl, by decide +kernel, rfl, by decide +kernel, by decide +kernel⟩
abbrev s_init_BadTape : Stmt := Kt.inOf (topS 5)
theorem sc_init_BadTape : FnScope ["self", "place"] ["self", "place"] (defScope s_init_BadTape) := ⟨rfl, rfl, rfl, by decide +kernel, rfl, by decide +kernel, by decide +kernel⟩
abbrev s_init_NoSign : Stmt := Kt.inOf (topS 6)
theorem sc_init_NoSign : FnScope ["self", "place"] ["self", "place"] (defScope s_init_NoSign) := ⟨rfl, rfl, rfl, by decide +kernel, rfl, by decide +kernel, by decide +kernel⟩
abbrev s_init_BadText : Stmt := Kt.inOf (topS 7)
theorem sc_init_BadText : FnScope ["self", "row"] ["self", "row"] (defScope s_init_BadText) := ⟨rfl, rfl, rfl, by decide +kernel, rfl, by decide +kernel, by decide +kernel⟩
/-- what the top has written -/
structure Txt (K : PySem.W.Frag) (mg : Str → Option Value) where
  d_are_signs : Kt.Df K mg "are_signs" s_are_signs ["signs"]
  d_can_be_a_set : Kt.Df K mg "_can_be_a_set" s_can_be_a_set ["signs"]
  d_check_sheet : Kt.Df K mg "check_sheet" s_check_sheet ["sheet"]
  d_are_figures : Kt.Df K mg "_are_figures" s_are_figures ["row"]
  d_is_good : Kt.Df K mg "_is_good" s_is_good ["number", "row"]
  d_check_rows : Kt.Df K mg "_check_rows" s_check_rows ["rows"]
  d_read_sheet : Kt.Df K mg "read_sheet" s_read_sheet ["text"]
  d_l_begun : Kt.Df K mg "_law_begun" s_l_begun ["_law_script"]
  d_l_take : Kt.Df K mg "_law_take" s_l_take ["_law_box", "_law_many"]
  d_l_alike : Kt.Df K mg "_law_alike" s_l_alike ["_law_found", "_law_due_here"]
  d_l_class : Kt.Df K mg "_law_class" s_l_class ["_law_e"]
  d_l_picked : Kt.Df K mg "_law_picked" s_l_picked ["_law_box", "_law_signs", "_law_many"]
  d_l_sheet : Kt.Df K mg "_law_sheet" s_l_sheet ["_law_box", "_law_most"]
  d_l_spoilt : Kt.Df K mg "_law_spoilt" s_l_spoilt ["_law_box", "_law_text_here"]
  d_l_home : Kt.Df K mg "_law_home" s_l_home ["_law_word"]
  d_l_due : Kt.Df K mg "_law_due" s_l_due ["_law_text_here"]
  d_l_told : Kt.Df K mg "_law_told" s_l_told ["_law_text_here"]
  d_law : Kt.Df K mg "law" s_law ["_law_script"]
  n_ValueError : mg "ValueError" = none
  n_all : mg "all" = none
  n_bool : mg "bool" = none
  n_enumerate : mg "enumerate" = none
  n_int : mg "int" = none
  n_isinstance : mg "isinstance" = none
  n_len : mg "len" = none
  n_list : mg "list" = none
  n_range : mg "range" = none
  n_set : mg "set" = none
  n_str : mg "str" = none
  n_tuple : mg "tuple" = none
  c_MOST_PLACES : ∃ t, mg "MOST_PLACES" = some (.int 26 t)
  c_NO_HOME : ∃ t, mg "NO_HOME" = some (.str "-" t)
  c_ROWS : ∃ t, mg "ROWS" = some (.int 3 t)
  C_TapeError : Addr
  C_BadSheet : Addr
  C_BadSet : Addr
  C_BadTape : Addr
  C_NoSign : Addr
  C_BadCount : Addr
  C_BadText : Addr
  bc : Kt.BaseC K mg C_TapeError
  ob : Kt.ObC K
  x_BadSheet : Kt.ExC K mg "BadSheet" C_BadSheet
  kd_BadSheet : Kt.Kind K mg [C_BadSheet, C_BadSet, C_BadTape, C_NoSign, C_BadCount, C_BadText] C_TapeError 0 C_BadSheet
  q_BadSheet : PySem.W.excIn K C_BadSheet [.type "ValueError", .type "Exception", .type "BaseException", .type "object"] "ValueError.__new__" = true
  x_BadSet : Kt.ExC K mg "BadSet" C_BadSet
  kd_BadSet : Kt.Kind K mg [C_BadSheet, C_BadSet, C_BadTape, C_NoSign, C_BadCount, C_BadText] C_TapeError 1 C_BadSet
  q_BadSet : PySem.W.excIn K C_BadSet [.type "ValueError", .type "Exception", .type "BaseException", .type "object"] "ValueError.__new__" = true
  x_BadTape : Kt.ExC K mg "BadTape" C_BadTape
  kd_BadTape : Kt.Kind K mg [C_BadSheet, C_BadSet, C_BadTape, C_NoSign, C_BadCount, C_BadText] C_TapeError 2 C_BadTape
  in_BadTape : Kt.InC K mg "BadTape" "BadTape.__init__" "place" s_init_BadTape C_BadTape
  x_NoSign : Kt.ExC K mg "NoSign" C_NoSign
  kd_NoSign : Kt.Kind K mg [C_BadSheet, C_BadSet, C_BadTape, C_NoSign, C_BadCount, C_BadText] C_TapeError 3 C_NoSign
  in_NoSign : Kt.InC K mg "NoSign" "NoSign.__init__" "place" s_init_NoSign C_NoSign
  x_BadCount : Kt.ExC K mg "BadCount" C_BadCount
  kd_BadCount : Kt.Kind K mg [C_BadSheet, C_BadSet, C_BadTape, C_NoSign, C_BadCount, C_BadText] C_TapeError 4 C_BadCount
  q_BadCount : PySem.W.excIn K C_BadCount [.type "ValueError", .type "Exception", .type "BaseException", .type "object"] "ValueError.__new__" = true
  x_BadText : Kt.ExC K mg "BadText" C_BadText
  kd_BadText : Kt.Kind K mg [C_BadSheet, C_BadSet, C_BadTape, C_NoSign, C_BadCount, C_BadText] C_TapeError 5 C_BadText
  in_BadText : Kt.InC K mg "BadText" "BadText.__init__" "row" s_init_BadText C_BadText
  c_are_signs : Addr
  t_are_signs : Addr
  k_are_signs : Kt.Coded K "are_signs" s_are_signs d_are_signs.f d_are_signs.fd c_are_signs
  c_are_figures : Addr
  t_are_figures : Addr
  k_are_figures : Kt.Coded K "_are_figures" s_are_figures d_are_figures.f d_are_figures.fd c_are_figures
end K13
namespace K13
open PySem PySem.Spec PyProof.Rows L2 Kt
section
variable {P : Program} {w : World} {K : PySem.W.Frag} {mg : Str → Option Value} {base : Heap}
theorem ok_l_take (T : Txt K mg) : FnOk P w K mg base CX0 1 T.d_l_take.f T.d_l_take.fd ["_law_box", "_law_many"] spTake := by
  refine T.d_l_take.F.ok sc_l_take (fun vs H Q E h => ?_) (fun cdv A outer s H vs Q E hr h => ?_)
  · obtain ⟨b, l, m, rfl, _⟩ := h
    rfl
  · obtain ⟨b, l, m, rfl, bx, m0, m9, q⟩ := h
    have nbl := bx.ne
    obtain ⟨ns, st, h1, h2⟩ := bx
    refine ⟨_, (pss_cons (ps_if (pt_cmpR (Kt.op_eqI hr.units) (pe_ix ix_list (pv 0) pe_int (fun _ _ => rfl)) (pe_lst pa_nil) (nomark _))
  (pss_cons (ps_asg (pe_op op_mod (pe_op op_mul (pe_ix ix_list (pv 0) pe_int (fun _ _ => rfl)) pe_int) pe_int) (pg_sub (pv 0) pe_int set_list))
  (pss_one (ps_ret (pe_op op_mod (pe_op op_fdivW (pe_ix ix_list (pv 0) pe_int (fun _ _ => rfl)) pe_int) (pv 1)))))
  pss_nil)
  (pss_cons (ps_set (i := 2) sc_l_take.nd rfl (.inl rfl) (pe_ix ix_list (pe_ix ix_list (pv 0) pe_int (fun _ _ => rfl)) pe_int (fun _ _ => rfl)))
  (pss_cons (ps_asg (pe_op op_fdivW (pv 2) (pv 1)) (pg_sub (pe_ix ix_list (pv 0) pe_int (fun _ _ => rfl)) pe_int set_list))
  (pss_cons (ps_if (PW.pt (pw_or (pt_cmpR op_eq (pe_ix ix_list (pe_ix ix_list (pv 0) pe_int (fun _ _ => rfl)) pe_int (fun _ _ => rfl)) pe_int (nomark _)) (pw_or1 (pt_cmpR op_eq (pe_ix ix_list (pe_ix ix_list (pv 0) pe_int (fun _ _ => rfl)) pe_int (fun _ _ => rfl)) (pe_un un_neg pe_int) (nomark _)))))
  (pss_one (ps_expr (pe_bm PySem.F.plainAttrs_list PySem.F.slot_list_pop PySem.F.type_list_pop mt_popAt (pe_ix ix_list (pv 0) pe_int (fun _ _ => rfl)) (pa_cons pe_int pa_nil))))
  pss_nil)
  (pss_one (ps_ret (pe_op op_mod (pv 2) (pv 1)))))))), ?_⟩
    -- if box[0] == []
    refine ⟨.ref b, rfl, b, _, 0, .ref l, rfl, rfl, SqL.of h1, atI_nat (j := 0) rfl, Nat.zero_le _, fun p np => ?_⟩
    have nb : b ≠ p := ne_of_none h1 np
    have nl : l ≠ p := ne_of_none h2 np
    have g1 : upd H p (.lst []) b = some (.lst [.ref l, .int st]) := by rw [upd_ne nb]; exact h1
    have g2 : upd H p (.lst []) l = some (.lst (ns.map V.int)) := by rw [upd_ne nl]; exact h2
    have keep : ∀ a o, H a = some o → upd H p (.lst []) a = some o := fun a o e => by rw [upd_ne (ne_of_none e np)]; exact e
    refine ⟨l, p, ns, [], rfl, rfl, SqL.of g2, SqL.of upd_same, _, rfl, ?_⟩
    generalize upd H p (.lst []) = H1 at g1 g2 keep
    cases ns with
    | nil =>
      refine iteT ?_
      -- box[1] = box[1] * 48271 % 2147483647
      refine ⟨.ref b, rfl, b, _, 1, .int st, rfl, rfl, SqL.of g1, atI_nat (j := 1) rfl, st, 48271, rfl, rfl, .inr ⟨by decide, by decide⟩, _, 2147483647, rfl, rfl, (by show (0 : Int) < 2147483647; decide), ?_⟩
      refine ⟨.ref b, rfl, b, _, 1, 1, rfl, rfl, g1, rfl, ?_⟩
      -- return box[1] // 7 % many
      refine ⟨.ref b, rfl, b, _, 1, _, rfl, rfl, SqL.of upd_same, atI_nat (j := 1) rfl, _, 7, rfl, rfl, ⟨by decide, by decide⟩, .int m, rfl, _, m, rfl, rfl, m0, ?_⟩
      refine q _ _ (Int.emod_nonneg _ (by omega)) (Int.emod_lt_of_pos _ m0) ⟨⟨[], _, upd_same, by rw [upd_ne nbl.symm]; exact g2⟩, fun a o e1 e2 e => by rw [upd_ne e1]; exact keep a o e⟩
    | cons n r =>
      refine iteF ?_
      -- number = box[0][0]
      refine ⟨.ref b, rfl, b, _, 0, .ref l, rfl, rfl, SqL.of g1, atI_nat (j := 0) rfl, l, _, 0, .int n, rfl, rfl, SqL.of g2, atI_nat (j := 0) rfl, ?_⟩
      -- box[0][0] = number // many
      refine ⟨.int n, rfl, .int m, rfl, n, m, rfl, rfl, wide_div m0 m9 (by decide) (by decide), ?_⟩
      refine ⟨.ref b, rfl, b, _, 0, .ref l, rfl, rfl, SqL.of g1, atI_nat (j := 0) rfl, l, _, 0, 0, rfl, rfl, g2, ix_ok rfl (by simp), ?_⟩
      have k1 : upd H1 l (.lst ((List.map V.int (n :: r)).set 0 (V.int (n / m)))) b = some (.lst [.ref l, .int st]) := by rw [upd_ne nbl]; exact g1
      have k2 : upd H1 l (.lst ((List.map V.int (n :: r)).set 0 (V.int (n / m)))) l = some (.lst (((n / m) :: r).map V.int)) := upd_same
      have keep2 : ∀ a o, a ≠ l → H a = some o → upd H1 l (.lst ((List.map V.int (n :: r)).set 0 (V.int (n / m)))) a = some o := fun a o e1 e => by rw [upd_ne e1]; exact keep a o e
      generalize upd H1 l (.lst ((List.map V.int (n :: r)).set 0 (V.int (n / m)))) = H2 at k1 k2 keep2
      -- the end
      have fin : ∀ H3, BoxAt H3 b l → (∀ a o, a ≠ b → a ≠ l → H a = some o → H3 a = some o) → tRet (tOp (rI (fun _ j => 0 < j) fun i j => .int (i % j)) (tVar 2) (tVar 1)) { nx := fun _ H' => Q .non H', rt := Q } [some (.ref b), some (.int m), some (.int n)] H3 := fun H3 bx kk =>
        ⟨.int n, rfl, .int m, rfl, n, m, rfl, rfl, m0, q _ _ (Int.emod_nonneg _ (by omega)) (Int.emod_lt_of_pos _ m0) ⟨bx, kk⟩⟩
      have drop : ∀ H3, H3 = H2 → tDrop (tBM K "list" rPopAt (tOp (rIxL K) (tVar 0) (tC (.int 0))) (tCons (tC (.int 0)) tNil)) { nx := fun σ H' => tRet (tOp (rI (fun _ j => 0 < j) fun i j => .int (i % j)) (tVar 2) (tVar 1)) { nx := fun _ H' => Q .non H', rt := Q } σ H', rt := Q } [some (.ref b), some (.int m), some (.int n)] H3 := fun H3 e => by
        subst e
        refine ⟨.ref b, rfl, b, _, 0, .ref l, rfl, rfl, SqL.of k1, atI_nat (j := 0) rfl, .inl ⟨rfl, _, SqL.of k2⟩, l, _, 0, 0, _, rfl, rfl, k2, by decide, by decide, (ixN_seq (ix_ok rfl (by simp))).1, rfl, ?_⟩
        refine fin _ ⟨r, st, by rw [upd_ne nbl]; exact k1, upd_same⟩ fun a o e1 e2 e => by rw [upd_ne e2]; exact keep2 a o e2 e
      refine ⟨.ref b, rfl, b, _, 0, .ref l, rfl, rfl, SqL.of k1, atI_nat (j := 0) rfl, l, _, 0, _, rfl, rfl, SqL.of k2, atI_nat (j := 0) rfl, rfl, _, rfl, ?_⟩
      cases e0 : decide (V.int (n / m) = V.int 0) with
      | true => exact iteT (iteT (drop _ rfl))
      | false =>
        refine iteF ?_
        refine ⟨.ref b, rfl, b, _, 0, .ref l, rfl, rfl, SqL.of k1, atI_nat (j := 0) rfl, l, _, 0, _, rfl, rfl, SqL.of k2, atI_nat (j := 0) rfl, 1, rfl, rfl, _, rfl, ?_⟩
        cases e1 : decide (V.int (n / m) = V.int (-1)) with
        | true => exact iteT (drop _ rfl)
        | false => exact iteF (fin _ ⟨_, st, k1, k2⟩ fun a o e1 e2 e => keep2 a o e2 e)
end
end K13
namespace K13
open PySem PySem.Spec PyProof.Rows L2 Kt
section
variable {P : Program} {w : World} {K : PySem.W.Frag} {mg : Str → Option Value} {base : Heap}
theorem ok_l_begun (T : Txt K mg) : FnOk P w K mg base CX0 1 T.d_l_begun.f T.d_l_begun.fd ["_law_script"] (spBegun K) := by
  refine T.d_l_begun.F.ok sc_l_begun (fun vs H Q E h => ?_) (fun cdv A outer s H vs Q E hr h => ?_)
  · obtain ⟨a, ns, rfl, _⟩ := h
    rfl
  · obtain ⟨a, ns, rfl, hS, hlen, q⟩ := h
    refine ⟨_, (pss_cons (ps_set (i := 1) sc_l_begun.nd rfl (.inl rfl) pe_int)
  (pss_cons (ps_for PassesOwn.never rfl (pi_list (pv 0)) (pg_name (i := 2) sc_l_begun.nd rfl (.inl rfl))
  (pss_one (ps_set (i := 1) sc_l_begun.nd rfl (.inl rfl) (pe_op op_mod (pe_op op_add (pe_op op_add (pe_op op_mul (pv 1) pe_int) (pe_op op_mul (pv 2) pe_int)) pe_int) pe_int))))
  (pss_one (ps_ret (pe_lst (pa_cons (pe_callTy call_list_of (by rfl) T.n_list (by decide +kernel) (pa_cons (pv 0) pa_nil)) (pa_cons (pe_op op_mul (pv 1) (pe_callTy call_int1 (by rfl) T.n_int (by decide +kernel) (pa_cons (pe_cmpR op_gt (pe_callB call_len_seq (by rfl) T.n_len PySem.boot_len (pa_cons (pv 0) pa_nil)) pe_int (nomark _)) pa_nil))) pa_nil))))))), ?_⟩
    refine ⟨.ref a, rfl, a, rfl, ⟨_, hS⟩, for_list (K := K) (a := a) (xs := ns.map V.int) (fun i σ H' => H' = H ∧ ∃ (st : Int) (y : Option V), σ = [some (.ref a), some (.int st), y]) ⟨rfl, 0, none, rfl⟩ (fun i σ H' _ p => ?_) (fun i x σ H' hx p => ?_) (fun σ H' p => ?_)⟩
    · obtain ⟨rfl, _⟩ := p
      exact hS
    · obtain ⟨rfl, st, y, rfl⟩ := p
      obtain ⟨k, hk, rfl⟩ := at_map hx
      refine ⟨.int st, rfl, st, 48271, rfl, rfl, .inr ⟨by decide, by decide⟩, .int k, rfl, k, 69621, rfl, rfl, .inr ⟨by decide, by decide⟩, _, _, rfl, rfl, _, 11, rfl, rfl, _, 2147483647, rfl, rfl, (by show (0 : Int) < 2147483647; decide), rfl, _, _, rfl⟩
    · obtain ⟨rfl, st, y, rfl⟩ := p
      refine ⟨.ref a, rfl, a, _, rfl, .inl hS, fun l nl => ?_⟩
      refine ⟨.int st, rfl, .ref a, rfl, a, _, rfl, .inl ((same_new nl).seq hS), _, 2, rfl, rfl, .inr ⟨_, rfl, ?_⟩⟩
      refine ⟨st, _, rfl, rfl, .inr (by split <;> constructor <;> decide), ?_⟩
      refine ⟨by show 2 ≤ sizeLine; decide, fun b nb => ?_⟩
      have nlb : l ≠ b := fun e => by rw [← e, upd_same] at nb; cases nb
      refine q b l _ ((same_new nl).trans (same_new nb)) ⟨ns, _, upd_same, by rw [upd_ne nlb, upd_same]⟩ ((same_new nl).free nb) nl
theorem ok_l_picked (T : Txt K mg) : FnOk P w K mg base CX0 2 T.d_l_picked.f T.d_l_picked.fd ["_law_box", "_law_signs", "_law_many"] spPicked := by
  refine T.d_l_picked.F.ok sc_l_picked (fun vs H Q E h => ?_) (fun cdv A outer s H vs Q E hr h => ?_)
  · obtain ⟨b, l, z, m, rfl, _⟩ := h
    rfl
  · obtain ⟨b, l, z, m, rfl, bx, hz, hm, q⟩ := h
    have nbl := bx.ne
    refine ⟨_, (pss_cons (ps_set (i := 3) sc_l_picked.nd rfl (.inr rfl) (pe_callTy (Kt.call_listS rfl) (by rfl) T.n_list (by decide +kernel) (pa_cons (pv 1) pa_nil)))
  (pss_one (ps_ret (pe_lc (own := [("_law_turn", 4)]) (g := gName 4) (tt := tYes) (te := (tBM K "list" rPopAt (tVar 3) (tCons (tCall spTake [] E0 (tCons (tVar 0) (tCons (tCB (rLenQ K) (tCons (tVar 3) tNil)) tNil))) tNil))) rfl sc_l_picked.nd (pi_range1 (by rfl) T.n_range (pa_cons (pv 2) pa_nil)) (blkOk_by (own := [("_law_turn", 4)]) (N := ["_law_box", "_law_signs", "_law_many", "_law_left", "_law_turn"]) (sc := defScope s_l_picked) (by decide +kernel)) (by exact fun _ _ _ _ _ => pg_name (i := 4) sc_l_picked.nd rfl (Or.inl rfl)) (by exact fun _ _ _ _ _ => pts_nil) (by exact fun _ _ _ _ _ => (pe_bm PySem.F.plainAttrs_list PySem.F.slot_list_pop PySem.F.type_list_pop mt_popAt (pv 3) (pa_cons (pe_call (ok_l_take T) (hr.mono (by decide)) (by rfl) T.d_l_take.g T.d_l_take.F.kp T.d_l_take.b .nil pass0 (pa_cons (pv 0) (pa_cons (pe_callB call_len_seq (by rfl) T.n_len PySem.boot_len (pa_cons (pv 3) pa_nil)) pa_nil))) pa_nil))))))), ?_⟩
    refine ⟨.str z, rfl, z, rfl, hz, fun L nL => ?_⟩
    refine ⟨.int m, rfl, m, rfl, by omega, by omega, fun D nD => ?_⟩
    have nL0 : L ≠ D := fun e => by rw [← e, upd_same] at nD; cases nD
    have nD0 : H D = none := by rw [upd_ne nL0.symm] at nD; exact nD
    have nLb : b ≠ L ∧ l ≠ L := let ⟨ns, st, h1, h2⟩ := bx; ⟨ne_of_none h1 nL, ne_of_none h2 nL⟩
    have nDb : b ≠ D ∧ l ≠ D := let ⟨ns, st, h1, h2⟩ := bx; ⟨ne_of_none h1 nD0, ne_of_none h2 nD0⟩
    refine lc_range (lo := 0) (n := (m : Int).toNat) (fun i H' => ∃ ps rest : List Nat, (ps ++ rest).Perm z.cps.toList ∧ ps.length = i ∧ Bxd b l H H' ∧ H' D = some (.lst (sgs ps)) ∧ H' L = some (.lst (sgs rest))) ?_ (fun i H' hi p => ?_) (fun H' p => ?_)
    · refine ⟨[], z.cps.toList, List.Perm.refl _, rfl, Bxd.same bx ((same_new nL).trans (same_new nD)), upd_same, ?_⟩
      rw [upd_ne nL0, upd_same]; rfl
    · obtain ⟨ps, rest, hp, hl, bd, hD, hL⟩ := p
      have hlen : ps.length + rest.length = z.cps.size := by
        have := hp.length_eq
        rw [List.length_append, Array.length_toList] at this; exact this
      have hpos : 0 < rest.length := by omega
      have hsl : (sgs rest).length = rest.length := by simp [sgs]
      refine ⟨rfl, lc_yes ?_⟩
      refine ⟨.ref L, rfl, .inl ⟨rfl, _, SqL.of hL⟩, .ref b, rfl, .ref L, rfl, L, _, rfl, .inl (SqL.of hL), b, l, ((sgs rest).length : Nat), rfl, bd.box, by omega, ?_, fun v H3 v0 v1 bd3 => ?_⟩
      · rw [hsl, Int.natAbs_natCast]
        exact Nat.lt_of_le_of_lt (show rest.length ≤ 1000 by omega) (by decide)
      obtain ⟨k, rfl⟩ := Int.eq_ofNat_of_zero_le v0
      have hk : k < rest.length := by omega
      have eL : H3 L = some (.lst (sgs rest)) := bd3.at' L _ nLb.1.symm nLb.2.symm hL
      have eD : H3 D = some (.lst (sgs ps)) := bd3.at' D _ nDb.1.symm nDb.2.symm hD
      refine ⟨L, sgs rest, k, k, .str (sg rest[k]), rfl, rfl, eL, by omega, by omega, (ixN_seq (ix_ok rfl (by rw [hsl]; exact hk))).1, map_at (map_at (List.getElem?_eq_getElem hk)), ?_⟩
      refine ⟨sgs ps, by rw [upd_ne nL0.symm]; exact eD, ?_, ps ++ [rest[k]], rest.eraseIdx k, ?_, by simp [hl], ⟨?_, ?_⟩, ?_, ?_⟩
      · have : (sgs ps).length = ps.length := by simp [sgs]
        rw [this]; exact small1000 (by omega)
      · refine List.Perm.trans ?_ hp
        rw [List.append_assoc]
        exact List.Perm.append_left ps (perm_erase (List.getElem?_eq_getElem hk))
      · exact bd3.box.kp (fun o e => by rw [upd_ne nDb.1, upd_ne nLb.1]; exact e) fun o e => by rw [upd_ne nDb.2, upd_ne nLb.2]; exact e
      · intro a o e1 e2 e
        rw [upd_ne (ne_of_none e nD0), upd_ne (ne_of_none e nL)]
        exact bd3.at' a o e1 e2 (bd.at' a o e1 e2 e)
      · rw [upd_same]; simp [sgs]
      · rw [upd_ne nL0, upd_same]
        unfold sgs; rw [erase_map, erase_map]
    · obtain ⟨ps, rest, hp, hl, bd, hD, hL⟩ := p
      exact q D ps rest H' hp (by rw [hl]; exact Int.toNat_natCast m) bd nD0 hD
end
end K13
namespace K13
open PySem PySem.Spec PyProof.Rows L2 Kt
section
variable {P : Program} {w : World} {K : PySem.W.Frag} {mg : Str → Option Value} {base : Heap}
theorem ok_l_sheet (T : Txt K mg) : FnOk P w K mg base CX0 3 T.d_l_sheet.f T.d_l_sheet.fd ["_law_box", "_law_most"] spSheet := by
  refine T.d_l_sheet.F.ok sc_l_sheet (fun vs H Q E h => ?_) (fun cdv A outer s H vs Q E hr h => ?_)
  · obtain ⟨b, l, m, rfl, _⟩ := h
    rfl
  · obtain ⟨b, l, most, rfl, bx, m1, m2, q⟩ := h
    refine ⟨_, (pss_cons (ps_set (i := 2) sc_l_sheet.nd rfl (.inl rfl) (pe_op op_add pe_int (pe_call (ok_l_take T) (hr.mono (by decide)) (by rfl) T.d_l_take.g T.d_l_take.F.kp T.d_l_take.b .nil pass0 (pa_cons (pv 0) (pa_cons (pv 1) pa_nil)))))
  (pss_cons (ps_set (i := 3) sc_l_sheet.nd rfl (.inl rfl) pe_str)
  (pss_cons (ps_set (i := 3) sc_l_sheet.nd rfl (.inl rfl) (pe_op op_add_str (pv 3) pe_str))
  (pss_cons (ps_set (i := 4) sc_l_sheet.nd rfl (.inl rfl) (pe_op op_fdivW (pe_call (ok_l_take T) (hr.mono (by decide)) (by rfl) T.d_l_take.g T.d_l_take.F.kp T.d_l_take.b .nil pass0 (pa_cons (pv 0) (pa_cons pe_int pa_nil))) pe_int))
  (pss_cons (ps_set (i := 5) sc_l_sheet.nd rfl (.inl rfl) (pe_call (ok_l_picked T) (hr.mono (by decide)) (by rfl) T.d_l_picked.g T.d_l_picked.F.kp T.d_l_picked.b .nil pass0 (pa_cons (pv 0) (pa_cons (pe_ix ix_list (pe_lst (pa_cons pe_str (pa_cons (pv 3) pa_nil))) (pv 4) (fun _ _ => rfl)) (pa_cons (pv 2) pa_nil)))))
  (pss_cons (ps_set (i := 6) sc_l_sheet.nd rfl (.inl rfl) (pe_call (ok_l_picked T) (hr.mono (by decide)) (by rfl) T.d_l_picked.g T.d_l_picked.F.kp T.d_l_picked.b .nil pass0 (pa_cons (pv 0) (pa_cons (pe_ix ix_list (pe_lst (pa_cons pe_str (pa_cons (pv 3) pa_nil))) (pv 4) (fun _ _ => rfl)) (pa_cons (pv 2) pa_nil)))))
  (pss_cons (ps_for PassesOwn.never rfl (pi_range1 (by rfl) T.n_range (pa_cons (pv 2) pa_nil)) (pg_name (i := 7) sc_l_sheet.nd rfl (.inl rfl))
  (pss_one (ps_if (PW.pt (pw_and (pt_cmpR op_eq (pe_call (ok_l_take T) (hr.mono (by decide)) (by rfl) T.d_l_take.g T.d_l_take.F.kp T.d_l_take.b .nil pass0 (pa_cons (pv 0) (pa_cons pe_int pa_nil))) pe_int (nomark _)) (pw_and1 (pt_cmpR op_notIn_seq (pe_ix ix_list (pv 5) (pv 7) (fun _ _ => rfl)) (pv 6) (by rfl)))))
  (pss_one (ps_asg (pe_ix ix_list (pv 5) (pv 7) (fun _ _ => rfl)) (pg_sub (pv 6) (pv 7) set_list)))
  pss_nil)))
  (pss_cons (ps_set (i := 8) sc_l_sheet.nd rfl (.inl rfl) (pe_ix ix_list (pe_lst (pa_cons pe_non (pa_cons (pe_call (ok_l_take T) (hr.mono (by decide)) (by rfl) T.d_l_take.g T.d_l_take.F.kp T.d_l_take.b .nil pass0 (pa_cons (pv 0) (pa_cons (pv 2) pa_nil))) pa_nil))) (pe_call (ok_l_take T) (hr.mono (by decide)) (by rfl) T.d_l_take.g T.d_l_take.F.kp T.d_l_take.b .nil pass0 (pa_cons (pv 0) (pa_cons pe_int pa_nil))) (fun _ _ => rfl)))
  (pss_one (ps_ret (pe_tup (pa_cons (pe_join pe_str (pv 5)) (pa_cons (pe_join pe_str (pv 6)) (pa_cons (pv 8) pa_nil)))))))))))))), ?_⟩
    -- many
    refine ⟨.ref b, rfl, .int most, rfl, b, l, most, rfl, bx, by omega, Nat.lt_of_le_of_lt (show (most : Int).natAbs ≤ 26 by omega) (by decide), fun v H1 v0 v1 bd1 => ?_⟩
    refine ⟨1, v, rfl, rfl, ?_⟩
    obtain ⟨n, hn, n1, n2⟩ : ∃ n : Nat, 1 + v = (n : Int) ∧ 1 ≤ n ∧ n ≤ most := ⟨(1 + v).toNat, by omega, by omega, by omega⟩
    -- every
    refine ⟨_, rfl, _, _, rfl, rfl, (by decide +kernel), ?_⟩
    -- often
    refine ⟨.ref b, rfl, b, l, 4, rfl, bd1.box, by decide, by decide, fun v4 H2 v40 v41 bd2 => ?_⟩
    refine ⟨v4, 3, rfl, rfl, ⟨by decide, by decide⟩, ?_⟩
    have hof : v4 / 3 = 0 ∨ v4 / 3 = 1 := by omega
    -- zero
    refine ⟨.ref b, rfl, _, rfl, by show 2 ≤ sizeLine; decide, fun p np => ?_⟩
    have bd2' := bd1.trans bd2
    have bd3 : ∀ o, Bxd b l H (upd H2 p o) := fun o => bd2'.trans (Bxd.same bd2'.box (same_new np))
    refine ⟨.int (v4 / 3), rfl, ix_pick hof (SqL.of upd_same) (by decide +kernel) (by decide +kernel) fun sz ok1 => ?_⟩
    refine ⟨.int (1 + v), rfl, b, l, sz, n, by rw [hn]; rfl, (bd3 _).box, (SOk.elim ok1).2.2.2, Nat.le_trans (Nat.le_trans n2 m2) (SOk.elim ok1).2.2.1, fun Dz zs rz H3 pz lz bd4 nDz eDz => ?_⟩
    have bd4' := (bd3 _).trans bd4
    have fDz : H Dz = none := (bd3 _).new bx nDz
    have nDzb : Dz ≠ b ∧ Dz ≠ l := by
      obtain ⟨ns, st, h1, h2⟩ := (bd3 (.lst [])).box
      obtain ⟨ns', st', h1', h2'⟩ := bd2'.box
      have q1 : p ≠ b := (ne_of_none h1' np).symm
      have q2 : p ≠ l := (ne_of_none h2' np).symm
      have r1 : Dz ≠ p := fun e => by rw [e, upd_same] at nDz; cases nDz
      rw [upd_ne r1] at nDz
      exact ⟨(ne_of_none h1' nDz).symm, (ne_of_none h2' nDz).symm⟩
    -- one
    refine ⟨.ref b, rfl, _, rfl, by show 2 ≤ sizeLine; decide, fun p2 np2 => ?_⟩
    have bd5 : ∀ o, Bxd b l H (upd H3 p2 o) := fun o => bd4'.trans (Bxd.same bd4'.box (same_new np2))
    refine ⟨.int (v4 / 3), rfl, ix_pick hof (SqL.of upd_same) (by decide +kernel) (by decide +kernel) fun so ok2 => ?_⟩
    refine ⟨.int (1 + v), rfl, b, l, so, n, by rw [hn]; rfl, (bd5 _).box, (SOk.elim ok2).2.2.2, Nat.le_trans (Nat.le_trans n2 m2) (SOk.elim ok2).2.2.1, fun Do os ro H4 po lo bd6 nDo eDo => ?_⟩
    have bd6' := (bd5 _).trans bd6
    have fDo : H Do = none := (bd5 _).new bx nDo
    have nDo3 : Do ≠ p2 := fun e => by rw [e, upd_same] at nDo; cases nDo
    rw [upd_ne nDo3] at nDo
    have nDob : Do ≠ b ∧ Do ≠ l := by
      obtain ⟨ns', st', h1', h2'⟩ := bd4'.box
      exact ⟨(ne_of_none h1' nDo).symm, (ne_of_none h2' nDo).symm⟩
    have nDD : Dz ≠ Do := ne_of_none eDz nDo
    have eDz4 : H4 Dz = some (.lst (sgs zs)) := bd6.at' Dz _ nDzb.1 nDzb.2 (by rw [upd_ne (ne_of_none eDz np2)]; exact eDz)
    obtain ⟨nz, az⟩ := picked_ok ok1 pz
    obtain ⟨no, ao⟩ := picked_ok ok2 po
    -- the loop
    refine ⟨.int (1 + v), rfl, 1 + v, rfl, by omega, by omega, ?_⟩
    rw [show (1 + v).toNat = n by omega]
    refine for_range (lo := 0) (n := n) (fun i σ H' => ∃ (os' : List Nat) (y7 : Option V) (sE : Str), os'.Nodup ∧ (∀ c ∈ os', 32 ≤ c ∧ c ≤ 126) ∧ os'.length = n ∧ H' Do = some (.lst (sgs os')) ∧ H' Dz = some (.lst (sgs zs)) ∧ Bxd b l H H' ∧
      σ = [some (.ref b), some (.int most), some (.int (1 + v)), some (.str sE), some (.int (v4 / 3)), some (.ref Dz), some (.ref Do), y7, none]) ?_ (fun i σ H' hi p => ?_) (fun σ H' p => ?_)
    · exact ⟨os, none, _, no, ao, lo, eDo, eDz4, bd6', rfl⟩
    · obtain ⟨os', y7, sE, no', ao', lo', eo', ez', bd', rfl⟩ := p
      -- take == 1
      refine ⟨.ref b, rfl, b, l, 4, rfl, bd'.box, by decide, by decide, fun u H5 u0 u1 bdu => ?_⟩
      have bdu' := bd'.trans bdu
      have eo5 : H5 Do = some (.lst (sgs os')) := bdu.at' Do _ nDob.1 nDob.2 eo'
      have ez5 : H5 Dz = some (.lst (sgs zs)) := bdu.at' Dz _ nDzb.1 nDzb.2 ez'
      have same : ∃ (os2 : List Nat) (y7 : Option V) (sE' : Str), os2.Nodup ∧ (∀ c ∈ os2, 32 ≤ c ∧ c ≤ 126) ∧ os2.length = n ∧ H5 Do = some (.lst (sgs os2)) ∧ H5 Dz = some (.lst (sgs zs)) ∧ Bxd b l H H5 ∧
          [some (V.ref b), some (.int most), some (.int (1 + v)), some (.str sE), some (.int (v4 / 3)), some (.ref Dz), some (.ref Do), some (.int (0 + (i : Int))), none] =
          [some (.ref b), some (.int most), some (.int (1 + v)), some (.str sE'), some (.int (v4 / 3)), some (.ref Dz), some (.ref Do), y7, none] := ⟨os', _, sE, no', ao', lo', eo5, ez5, bdu', rfl⟩
      refine ⟨rfl, _, rfl, ?_⟩
      cases decide (V.int u = V.int 1) with
      | false => exact iteF (iteF same)
      | true =>
        refine iteT ?_
        obtain ⟨c, hc⟩ : ∃ c, zs[i]? = some c := ⟨zs[i]'(by omega), List.getElem?_eq_getElem _⟩
        refine ⟨.ref Dz, rfl, .int (0 + (i : Int)), rfl, Dz, _, 0 + (i : Int), _, rfl, rfl, SqL.of ez5, at_of (by omega) (sgs_at hc), .ref Do, rfl, Do, _, rfl, .inl (SqL.of eo5), rfl, sgs_flat os', _, rfl, ?_⟩
        rw [if_pos rfl, sgs_in]
        by_cases hm : c ∈ os'
        · rw [decide_eq_true hm]
          exact iteF same
        · rw [decide_eq_false hm]
          refine iteT ?_
          refine ⟨.ref Dz, rfl, .int (0 + (i : Int)), rfl, Dz, _, 0 + (i : Int), _, rfl, rfl, SqL.of ez5, at_of (by omega) (sgs_at hc), .ref Do, rfl, .int (0 + (i : Int)), rfl, Do, _, 0 + (i : Int), i, rfl, rfl, eo5, ix_ok (by omega) (by rw [sgs_len]; omega), ?_⟩
          refine ⟨os'.set i c, _, sE, nodup_set no' hm, fun d hd => ?_, by rw [List.length_set]; exact lo', by rw [upd_same, sgs_set], by rw [upd_ne nDD]; exact ez5, ⟨?_, fun a o e1 e2 e => ?_⟩, rfl⟩
          · rcases mem_set_or hd with z | z
            · exact ao' d z
            · rw [z]; exact az c (List.mem_of_getElem? hc)
          · exact bdu'.box.kp (fun o e => by rw [upd_ne nDob.1.symm]; exact e) fun o e => by rw [upd_ne nDob.2.symm]; exact e
          · rw [upd_ne (ne_of_none e fDo)]
            exact bdu'.at' a o e1 e2 e
    · obtain ⟨os', y7, sE, no', ao', lo', eo', ez', bd', rfl⟩ := p
      -- home
      refine ⟨.ref b, rfl, .int (1 + v), rfl, b, l, 1 + v, rfl, bd'.box, by omega, Nat.lt_of_le_of_lt (show (1 + v).natAbs ≤ 26 by omega) (by decide), fun u H5 u0 u1 bdu => ?_⟩
      refine ⟨by show 2 ≤ sizeLine; decide, fun p3 np3 => ?_⟩
      have bd7 := bd'.trans bdu
      have bd8 : Bxd b l H (upd H5 p3 (HO.lst [V.non, V.int u])) := bd7.trans (Bxd.same bd7.box (same_new np3))
      refine ⟨.ref b, rfl, b, l, 2, rfl, bd8.box, by decide, by decide, fun t H6 t0 t1 bdt => ?_⟩
      have bd9 := bd8.trans bdt
      have e3 : upd H5 p3 (HO.lst [V.non, V.int u]) p3 = some (.lst [V.non, V.int u]) := upd_same
      have np3b : p3 ≠ b ∧ p3 ≠ l := by
        obtain ⟨ns, st, h1, h2⟩ := bd7.box
        exact ⟨(ne_of_none h1 np3).symm, (ne_of_none h2 np3).symm⟩
      have e36 : H6 p3 = some (.lst [V.non, V.int u]) := bdt.at' p3 _ np3b.1 np3b.2 e3
      have stay : ∀ a o, a ≠ b → a ≠ l → H' a = some o → H6 a = some o := fun a o e1 e2 e => bdt.at' a o e1 e2 (by
        have e5 := bdu.at' a o e1 e2 e
        rw [upd_ne (ne_of_none e5 np3)]; exact e5)
      have ez6 := stay Dz _ nDzb.1 nDzb.2 ez'
      have eo6 := stay Do _ nDob.1 nDob.2 eo'
      obtain ⟨hm, at3, hh⟩ : ∃ hm : V, atI [V.non, V.int u] t = some hm ∧ (hm = .non ∨ ∃ h : Nat, hm = .int h ∧ h < n) := by
        rcases (show t = 0 ∨ t = 1 by omega) with e | e <;> rw [e]
        · exact ⟨_, atI_nat (j := 0) rfl, .inl rfl⟩
        · exact ⟨_, atI_nat (j := 1) rfl, .inr ⟨u.toNat, by rw [show ((u.toNat : Nat) : Int) = u by omega], by omega⟩⟩
      refine ⟨p3, _, t, hm, rfl, rfl, SqL.of e36, at3, ?_⟩
      -- the tuple
      have lens : ∀ ps : List Nat, ps.length ≤ 26 → ((ps.map sg).map (·.length)).sum + (ps.map sg).length * (Str.ofString "").length ≤ 16777216 := fun ps hp => by
        have e0 : (Str.ofString "").length = 0 := by decide +kernel
        have e1 : (ps.map sg).map (·.length) = List.replicate ps.length 1 := by
          rw [List.map_map]
          exact List.map_eq_replicate_iff.mpr fun _ _ => rfl
        rw [e0, e1]
        simp
        omega
      refine ⟨⟨_, rfl⟩, .ref Dz, rfl, _, Dz, zs.map sg, rfl, rfl, .inl (SqL.of ez6), lens zs (by omega), ?_⟩
      refine ⟨⟨_, rfl⟩, .ref Do, rfl, _, Do, os'.map sg, rfl, rfl, .inl (SqL.of eo6), lens os' (by omega), ?_⟩
      refine ⟨hm, rfl, by show 3 ≤ sizeLine; decide, fun t' nt' => ?_⟩
      rw [join_sg, join_sg]
      refine q t' ⟨zs.toArray⟩ ⟨os'.toArray⟩ hm _ ⟨?_, ?_, ?_, nz, no', az, ao', ?_⟩ ?_ (bd9.trans (Bxd.same bd9.box (same_new nt'))) (bd9.new bx nt') upd_same
      · show os'.toArray.size = zs.toArray.size
        simp; omega
      · show 1 ≤ zs.toArray.size
        simp; omega
      · show zs.toArray.size ≤ 26
        simp; omega
      · rcases hh with e | ⟨h, e1, e2⟩
        · exact .inl e
        · refine .inr ⟨h, e1, ?_⟩
          show h < zs.toArray.size
          simp; omega
      · show zs.toArray.size ≤ most
        simp; omega
end
end K13
namespace K13
open PySem PySem.Spec PyProof.Rows L2 Kt
/-- the tables of the text -/
abbrev tws {K : PySem.W.Frag} {mg : Str → Option Value} (T : Txt K mg) : TWs := ⟨[T.t_are_signs, T.t_are_figures], []⟩
theorem tb1 {K : PySem.W.Frag} {mg : Str → Option Value} {T : Txt K mg} {H : Hp} (t : Tb (tws T) H) : GxR.TabG H T.t_are_signs := t.g _ (by simp [tws])
theorem kz1 {K : PySem.W.Frag} {mg : Str → Option Value} {T : Txt K mg} {H H' : Hp} (t : Tb (tws T) H) (k : Kp T.t_are_signs H H') : Kz (tws T) H H' := Kz.kp t (by simp [tws]) (fun p h => nomatch h) k
theorem tb3 {K : PySem.W.Frag} {mg : Str → Option Value} {T : Txt K mg} {H : Hp} (t : Tb (tws T) H) : GxR.TabG H T.t_are_figures := t.g _ (by simp [tws])
theorem kz3 {K : PySem.W.Frag} {mg : Str → Option Value} {T : Txt K mg} {H H' : Hp} (t : Tb (tws T) H) (k : Kp T.t_are_figures H H') : Kz (tws T) H H' := Kz.kp t (by simp [tws]) (fun p h => nomatch h) k
section
variable {P : Program} {w : World} {K : PySem.W.Frag} {mg : Str → Option Value} {base : Heap}
theorem ok_are_signs (T : Txt K mg) (TB : GxR.TabB base mg T.c_are_signs T.t_are_signs) : FnOk P w K mg base CX0 1 T.d_are_signs.f T.d_are_signs.fd ["signs"] (spSigns T.t_are_signs) := by
  refine T.k_are_signs.ok sc_are_signs (fun vs H Q E h => ?_) (fun A outer s H vs Q E hr h => ?_)
  · obtain ⟨z, rfl, _⟩ := h
    rfl
  · obtain ⟨z, rfl, tb, q⟩ := h
    refine ⟨_, (pss_one (ps_ret (GxR.pe_allS hr (by rfl) T.n_all (by decide +kernel) TB rfl (Kt.genS_by rfl rfl (by decide +kernel) rfl rfl) (pv 0) (Kt.elt_in rfl rfl) (fun _ => rfl)))), ?_⟩
    refine ⟨.str z, rfl, z, rfl, tb, fun H2 t2 => ?_⟩
    rw [show pbIn " " "~" = fun c => decide (32 ≤ c ∧ c ≤ 126) from funext pbIn_32_126]
    exact q H2 t2
theorem ok_are_figures (T : Txt K mg) (TB3 : GxR.TabB base mg T.c_are_figures T.t_are_figures) : FnOk P w K mg base CX0 1 T.d_are_figures.f T.d_are_figures.fd ["row"] (spFigures T.t_are_figures) := by
  refine T.k_are_figures.ok sc_are_figures (fun vs H Q E h => ?_) (fun A outer s H vs Q E hr h => ?_)
  · obtain ⟨x, rfl, _⟩ := h
    rfl
  · obtain ⟨x, rfl, hx, tb, q⟩ := h
    refine ⟨_, (pss_cons (ps_if (pt_not (pt_chain op_le op_le pe_int (pe_callB call_len_str (by rfl) T.n_len PySem.boot_len (pa_cons (pv 0) pa_nil)) pe_int))
  (pss_one (ps_ret pe_bl))
  pss_nil)
  (pss_cons (ps_if (PW.pt (pw_and (pt_cmpR op_eq (pe_callB call_len_str (by rfl) T.n_len PySem.boot_len (pa_cons (pv 0) pa_nil)) pe_int (nomark _)) (pw_and1 (pt_cmpR op_eq (pe_ix ix_str (pv 0) pe_int (fun _ _ => rfl)) pe_str (nomark _)))))
  (pss_one (ps_ret pe_bl))
  pss_nil)
  (pss_one (ps_ret (GxR.pe_allS hr (by rfl) T.n_all (by decide +kernel) TB3 rfl (Kt.genS_by rfl rfl (by decide +kernel) rfl rfl) (pv 0) (Kt.elt_in rfl rfl) (fun _ => rfl)))))), ?_⟩
    have big : x.length ≤ sizeLine := Nat.le_trans hx (by decide)
    have hz : (x.length : Int) = (x.cps.size : Int) := rfl
    unfold figOk at q
    refine ⟨.str x, rfl, x, rfl, big, 1, _, rfl, rfl, _, rfl, ?_⟩
    by_cases h1 : 1 ≤ x.cps.size
    · refine iteTd (by omega) ?_
      by_cases h2 : x.cps.size ≤ 2
      · refine ⟨_, 2, rfl, rfl, true, dec_t (by omega), iteF ?_⟩
        rw [show decide (1 ≤ x.cps.size ∧ x.cps.size ≤ 2) = true from decide_eq_true ⟨h1, h2⟩, Bool.true_and] at q
        refine ⟨.str x, rfl, x, rfl, big, rfl, _, rfl, ?_⟩
        have fin : (!(decide (x.cps.size = 2) && decide (x.cps.toList.getD 0 0 = 48))) = true → ∀ σ : L2.St, σ = [some (.str x)] → tRet (GxR.tAllS T.t_are_figures (pbIn "0" "9") (tVar 0)) { nx := fun _ H' => Q .non H', rt := Q } σ H := fun e σ es => by
          subst es
          refine ⟨.str x, rfl, x, rfl, tb, fun H2 t2 => ?_⟩
          rw [show pbIn "0" "9" = fun c => decide (48 ≤ c ∧ c ≤ 57) from funext pbIn_fig]
          rw [e, Bool.true_and] at q
          exact q H2 t2
        by_cases h3 : x.cps.size = 2
        · rw [decide_eq_true (show V.int ((x.length : Nat) : Int) = V.int 2 by rw [hz, h3]; rfl)]
          refine iteT ?_
          have h0 : 0 < x.cps.toList.length := by rw [Array.length_toList]; omega
          refine ⟨.str x, rfl, x, 0, x.cps.toList.getD 0 0, rfl, rfl, big, atI_nd ⟨by decide, by omega⟩, rfl, _, rfl, ?_⟩
          by_cases h4 : x.cps.toList.getD 0 0 = 48
          · rw [decide_eq_true (show V.str ⟨#[x.cps.toList.getD 0 0]⟩ = V.str "0" by rw [h4]; rfl)]
            refine iteT ?_
            rw [decide_eq_true h3, decide_eq_true h4] at q
            exact q H (tabbed_refl tb)
          · rw [decide_eq_false (show V.str ⟨#[x.cps.toList.getD 0 0]⟩ ≠ V.str "0" from fun e => h4 (sg_inj (V.str.inj e)))]
            refine iteF ?_
            exact fin (by rw [decide_eq_false h4, Bool.and_false]; rfl) _ rfl
        · rw [decide_eq_false (show V.int ((x.length : Nat) : Int) ≠ V.int 2 from fun e => h3 (by have := V.int.inj e; omega))]
          refine iteF ?_
          exact fin (by rw [decide_eq_false h3, Bool.false_and]; rfl) _ rfl
      · refine ⟨_, 2, rfl, rfl, false, dec_f (by omega), iteT ?_⟩
        rw [show decide (1 ≤ x.cps.size ∧ x.cps.size ≤ 2) = false from decide_eq_false fun k => h2 k.2, Bool.false_and, Bool.false_and] at q
        exact q H (tabbed_refl tb)
    · refine iteFd (by omega) ?_
      rw [show decide (1 ≤ x.cps.size ∧ x.cps.size ≤ 2) = false from decide_eq_false fun k => h1 k.1, Bool.false_and, Bool.false_and] at q
      exact ⟨false, rfl, iteT (q H (tabbed_refl tb))⟩
theorem ok_is_good (T : Txt K mg) (TB : GxR.TabB base mg T.c_are_signs T.t_are_signs) (TB3 : GxR.TabB base mg T.c_are_figures T.t_are_figures) : FnOk P w K mg base CX0 2 T.d_is_good.f T.d_is_good.fd ["number", "row"] (spIsGood T.t_are_signs T.t_are_figures) := by
  refine T.d_is_good.F.ok sc_is_good (fun vs H Q E h => ?_) (fun cdv A outer s H vs Q E hr h => ?_)
  · obtain ⟨n, x, rfl, _⟩ := h
    rfl
  · obtain ⟨n, x, rfl, hx, tb, tb3, q⟩ := h
    refine ⟨_, (pss_cons (ps_if (pt_cmpR op_lt (pv 0) (pe_op op_sub (pe_glob (v := .int 3) (by rfl) T.c_ROWS.choose_spec ⟨_, rfl⟩) pe_int) (nomark _))
  (pss_one (ps_ret (pe_call (ok_are_signs T TB) (hr.mono (by decide)) (by rfl) T.d_are_signs.g T.d_are_signs.F.kp T.d_are_signs.b .nil pass0 (pa_cons (pv 1) pa_nil))))
  pss_nil)
  (pss_one (ps_ret (pe_and (pe_cmpR op_eq (pv 0) (pe_op op_sub (pe_glob (v := .int 3) (by rfl) T.c_ROWS.choose_spec ⟨_, rfl⟩) pe_int) (nomark _)) (pe_one (pe_or (pe_cmpR op_eq (pv 1) (pe_glob (v := .str "-") (by rfl) T.c_NO_HOME.choose_spec ⟨_, rfl⟩) (nomark _)) (pe_one (pe_call (ok_are_figures T TB3) (hr.mono (by decide)) (by rfl) T.d_are_figures.g T.d_are_figures.F.kp T.d_are_figures.b .nil pass0 (pa_cons (pv 1) pa_nil))))))))), ?_⟩
    refine ⟨.int n, rfl, _, 1, rfl, rfl, n, _, rfl, rfl, _, rfl, ?_⟩
    unfold goodRow at q
    by_cases h1 : n < 2
    · refine iteTd (by omega) ?_
      refine ⟨.str x, rfl, x, rfl, tb, fun H1 t1 => ?_⟩
      have q := q H1 (.inl t1)
      rw [if_pos h1] at q
      exact q
    · refine iteFd (by omega) ?_
      refine ⟨.int n, rfl, _, 1, rfl, rfl, rfl, ?_⟩
      rw [if_neg h1] at q
      by_cases h2 : n = 2
      · subst h2
        rw [decide_eq_true rfl, Bool.true_and] at q
        refine ⟨true, dec_t rfl, iteT ?_⟩
        refine ⟨.str x, rfl, rfl, ?_⟩
        by_cases h3 : x = Str.ofString "-"
        · refine ⟨true, dec_t (congrArg V.str h3), iteT ?_⟩
          have q := q H (.inl (tabbed_refl tb))
          rw [decide_eq_true h3, Bool.true_or] at q
          exact q
        · refine ⟨false, dec_f (fun e => h3 (V.str.inj e)), iteF ?_⟩
          refine ⟨.str x, rfl, x, rfl, hx, tb3, fun H1 t1 => ?_⟩
          have q := q H1 (.inr t1)
          rw [decide_eq_false h3, Bool.false_or] at q
          exact q
      · rw [decide_eq_false h2, Bool.false_and] at q
        refine ⟨false, dec_f (fun e => h2 (by have := V.int.inj e; omega)), iteF ?_⟩
        exact q H (.inl (tabbed_refl tb))
end
end K13
namespace K13
open PySem PySem.Spec PyProof.Rows L2 Kt
section
variable {P : Program} {w : World} {K : PySem.W.Frag} {mg : Str → Option Value} {base : Heap}
theorem ok_init_BadText (T : Txt K mg) : FnOk P w K mg base CX0 1 T.in_BadText.f T.in_BadText.fd ["self", "row"] (spInit K T.C_BadText "row") := by
  refine T.in_BadText.F.ok sc_init_BadText (fun vs H Q E h => ?_) (fun cdv A outer s H vs Q E hr h => ?_)
  · obtain ⟨a, n, rfl, _⟩ := h
    rfl
  · obtain ⟨a, n, rfl, hn, ha, q⟩ := h
    refine ⟨_, pss_cons (ps_expr (Kt.pe_cinit (by rfl) T.bc.g T.bc.rd T.bc.sg T.bc.fc (pa_cons (pv 0) (pa_cons (pe_joined (.cons pe_str (.cons (pe_fmt (pv 1)) (.cons pe_str .nil)))) pa_nil)))) (pss_one (ps_ost (pv 0) (pv 1))), ?_⟩
    have e := int_text_length_le (k := 1920) (by decide) hn
    have e1 : (Str.ofString "row ").length = 4 := by decide +kernel
    have e2 : (Str.ofString " is not as in a written sheet").length = 29 := by decide +kernel
    have e0 : Str.empty.length = 0 := rfl
    have e3 : (Str.ofString (toString n)).length ≤ 3000 := by rw [PySem.ofString_length]; omega
    have sz : ∀ k, k ≤ 4000 → k ≤ sizeLine := fun k h => Nat.le_trans h (by decide)
    refine ⟨.ref a, rfl, _, rfl, sz _ (by rw [Str.length_append, e0, e1]; decide), .int n, rfl, .inr ⟨n, rfl, hn, _, rfl, sz _ (by rw [Str.length_append, Str.length_append, e0, e1]; omega), _, rfl, sz _ (by rw [Str.length_append, Str.length_append, Str.length_append, e0, e1, e2]; omega), a, T.C_BadText, _, rfl, by simp, T.in_BadText.ox, ha, ?_⟩⟩
    refine ⟨.int n, rfl, .ref a, rfl, a, T.C_BadText, rfl, T.in_BadText.ox, T.in_BadText.no, .inl ⟨ha, fun dx hd ne => q dx hd ne⟩⟩
theorem ok_can_be_a_set (T : Txt K mg) (TB : GxR.TabB base mg T.c_are_signs T.t_are_signs) : FnOk P w K mg base CX0 2 T.d_can_be_a_set.f T.d_can_be_a_set.fd ["signs"] (spCanG T.t_are_signs) := by
  refine T.d_can_be_a_set.F.ok sc_can_be_a_set (fun vs H Q E h => ?_) (fun cdv A outer s H vs Q E hr h => ?_)
  · obtain ⟨z, rfl, _⟩ := h
    rfl
  · obtain ⟨z, rfl, hz, tb, q⟩ := h
    refine ⟨_, (pss_one (ps_ret (pe_and (pe_call (ok_are_signs T TB) (hr.mono (by decide)) (by rfl) T.d_are_signs.g T.d_are_signs.F.kp T.d_are_signs.b .nil pass0 (pa_cons (pv 0) pa_nil)) (pe_one (pe_cmpR op_eq (Kt.pe_lenSetS rfl (by rfl) T.n_len (by rfl) T.n_set (pv 0)) (pe_callB call_len_str (by rfl) T.n_len PySem.boot_len (pa_cons (pv 0) pa_nil)) (nomark _)))))), ?_⟩
    refine ⟨.str z, rfl, z, rfl, tb, fun H2 t2 => ?_⟩
    have q := q H2 t2
    unfold canB at q
    change Q (.bl (signsOk z && decide z.cps.toList.Nodup)) H2 at q
    refine ⟨signsOk z, rfl, ?_⟩
    cases hs : signsOk z with
    | false => 
      rw [hs] at q
      exact iteF q
    | true =>
      rw [hs, Bool.true_and] at q
      refine iteT ?_
      refine ⟨.str z, rfl, z, rfl, hz, .str z, rfl, z, rfl, Nat.le_trans hz (by decide), rfl, ?_⟩
      have e : decide (V.int (((uq z.cps.toList).length : Nat) : Int) = V.int ((z.length : Nat) : Int)) = decide z.cps.toList.Nodup := by
        rw [← uq_dec]
        by_cases h : (uq z.cps.toList).length = z.cps.toList.length
        · rw [decide_eq_true h]
          exact decide_eq_true (by rw [h]; rfl)
        · rw [decide_eq_false h]
          exact decide_eq_false fun k => h (by have k := V.int.inj k; have k2 : (uq z.cps.toList).length = z.length := by omega
                                               exact k2)
      rw [e]
      exact q
theorem ok_check_sheet (T : Txt K mg) (TB : GxR.TabB base mg T.c_are_signs T.t_are_signs) : FnOk P w K mg base (L2.CX P w) 3 T.d_check_sheet.f T.d_check_sheet.fd ["sheet"] (spCheckG T.t_are_signs T.C_BadSheet) := by
  refine T.d_check_sheet.F.okX sc_check_sheet (fun vs H Q E h => ?_) (fun cdv A outer s H vs Q E hr h => ?_)
  · obtain ⟨t, z, o, hm, rfl, _⟩ := h
    rfl
  · obtain ⟨t, z, o, hm, rfl, hh, sh, zz, zo, tb, qg, qb⟩ := h
    refine ⟨_, (pss_cons (ps_asg (pv 0) (pg_tup rfl (pgs_cons (pg_name (i := 1) sc_check_sheet.nd rfl (.inl rfl)) (pgs_cons (pg_name (i := 2) sc_check_sheet.nd rfl (.inl rfl)) (pgs_cons (pg_name (i := 3) sc_check_sheet.nd rfl (.inl rfl)) pgs_nil)))))
  (pss_cons (ps_if (pt_cmpR op_ne (pe_callB call_len_str (by rfl) T.n_len PySem.boot_len (pa_cons (pv 1) pa_nil)) (pe_callB call_len_str (by rfl) T.n_len PySem.boot_len (pa_cons (pv 2) pa_nil)) (nomark _))
  (pss_one (ps_raise rfl (takes_of rfl rfl rfl rfl) (pmk_own PySem.F.excBase_ValueError T.q_BadSheet T.x_BadSheet.g T.x_BadSheet.kp T.x_BadSheet.raises rfl)))
  pss_nil)
  (pss_cons (ps_if (pt_not (pt_chain op_le op_le pe_int (pe_callB call_len_str (by rfl) T.n_len PySem.boot_len (pa_cons (pv 1) pa_nil)) (pe_glob (v := .int 26) (by rfl) T.c_MOST_PLACES.choose_spec ⟨_, rfl⟩)))
  (pss_one (ps_raise rfl (takes_of rfl rfl rfl rfl) (pmk_own PySem.F.excBase_ValueError T.q_BadSheet T.x_BadSheet.g T.x_BadSheet.kp T.x_BadSheet.raises rfl)))
  pss_nil)
  (pss_cons (ps_if (PW.pt (pw_or (pt_not (pt_val (pe_call (ok_can_be_a_set T TB) (hr.mono (by decide)) (by rfl) T.d_can_be_a_set.g T.d_can_be_a_set.F.kp T.d_can_be_a_set.b .nil pass0 (pa_cons (pv 1) pa_nil)))) (pw_or1 (pt_not (pt_val (pe_call (ok_can_be_a_set T TB) (hr.mono (by decide)) (by rfl) T.d_can_be_a_set.g T.d_can_be_a_set.F.kp T.d_can_be_a_set.b .nil pass0 (pa_cons (pv 2) pa_nil)))))))
  (pss_one (ps_raise rfl (takes_of rfl rfl rfl rfl) (pmk_own PySem.F.excBase_ValueError T.q_BadSheet T.x_BadSheet.g T.x_BadSheet.kp T.x_BadSheet.raises rfl)))
  pss_nil)
  (pss_one (ps_if (PW.pt (pw_and (pt_cmp (pc_notN (pv 3))) (pw_and1 (pt_not (pt_chain op_le op_lt pe_int (pv 3) (pe_callB call_len_str (by rfl) T.n_len PySem.boot_len (pa_cons (pv 1) pa_nil)))))))
  (pss_one (ps_raise rfl (takes_of rfl rfl rfl rfl) (pmk_own PySem.F.excBase_ValueError T.q_BadSheet T.x_BadSheet.g T.x_BadSheet.kp T.x_BadSheet.raises rfl)))
  pss_nil)))))), ?_⟩
    have big : z.length ≤ sizeLine := Nat.le_trans zz (by decide)
    have bigo : o.length ≤ sizeLine := Nat.le_trans zo (by decide)
    have kr : Kp T.t_are_signs H H := Kp.of_tabbed (tabbed_refl tb)
    have hz : (z.length : Int) = (z.cps.size : Int) := rfl
    have hzo : (o.length : Int) = (o.cps.size : Int) := rfl
    unfold goodB at qg qb
    refine ⟨.ref t, rfl, t, _, rfl, SqT.of sh, rfl, _, _, rfl, _, _, rfl, _, _, rfl, rfl, ?_⟩
    refine ⟨.str z, rfl, z, rfl, big, .str o, rfl, o, rfl, bigo, rfl, ?_⟩
    by_cases h1 : z.cps.size = o.cps.size
    case neg =>
      rw [decide_eq_false h1, Bool.false_and] at qb
      exact ⟨true, by rw [decide_eq_false (show ¬ V.int ((z.length : Nat) : Int) = V.int ((o.length : Nat) : Int) from fun k => h1 (by have := V.int.inj k; omega))]; rfl, iteT (qb rfl H kr)⟩
    rw [decide_eq_true h1, Bool.true_and] at qg qb
    refine ⟨false, by rw [decide_eq_true (show V.int ((z.length : Nat) : Int) = V.int ((o.length : Nat) : Int) from by rw [hz, hzo, h1])]; rfl, iteF ?_⟩
    refine ⟨.str z, rfl, z, rfl, big, 1, _, rfl, rfl, _, rfl, ?_⟩
    by_cases h2 : 1 ≤ z.cps.size
    case neg =>
      rw [decide_eq_false (fun k => h2 k.1), Bool.false_and] at qb
      exact iteFd (by omega) ⟨false, rfl, iteT (qb rfl H kr)⟩
    refine iteTd (by omega) ?_
    by_cases h3 : z.cps.size ≤ 26
    case neg =>
      rw [decide_eq_false (fun k => h3 k.2), Bool.false_and] at qb
      exact ⟨_, 26, rfl, rfl, false, dec_f (by omega), iteT (qb rfl H kr)⟩
    rw [decide_eq_true ⟨h2, h3⟩, Bool.true_and] at qg qb
    refine ⟨_, 26, rfl, rfl, true, dec_t (by omega), iteF ?_⟩
    refine ⟨.str z, rfl, z, rfl, zz, tb, fun H1 t1 => ⟨canB z, rfl, ?_⟩⟩
    cases h4 : canB z with
    | false =>
      rw [h4, Bool.false_and, Bool.false_and] at qb
      exact iteT (iteT (qb rfl H1 (Kp.of_tabbed t1)))
    | true =>
    rw [h4, Bool.true_and] at qg qb
    refine iteF ⟨.str o, rfl, o, rfl, zo, t1.1, fun H2 t2 => ⟨canB o, rfl, ?_⟩⟩
    have kp : Kp T.t_are_signs H H2 := (Kp.of_tabbed t1).trans (Kp.of_tabbed t2)
    cases h5 : canB o with
    | false =>
      rw [h5, Bool.false_and] at qb
      exact iteT (qb rfl H2 kp)
    | true =>
    rw [h5, Bool.true_and] at qg qb
    refine iteF ⟨hm, rfl, _, rfl, ?_⟩
    rcases hh with e | ⟨i, e⟩ <;> subst e
    · exact iteF (iteF (qg rfl H2 kp))
    · refine iteT ?_
      refine ⟨.int i, rfl, 0, _, rfl, rfl, _, rfl, ?_⟩
      unfold homeB at qg qb
      by_cases h6 : 0 ≤ i
      · refine iteTd h6 ?_
        refine ⟨.str z, rfl, z, rfl, big, _, _, rfl, rfl, ?_⟩
        by_cases h7 : i < (z.cps.size : Int)
        · exact ⟨true, dec_t h7, iteF (qg (decide_eq_true ⟨h6, h7⟩) H2 kp)⟩
        · exact ⟨false, dec_f h7, iteT (qb (decide_eq_false fun k => h7 k.2) H2 kp)⟩
      · exact iteFd h6 ⟨false, rfl, iteT (qb (decide_eq_false fun k => h6 k.1) H2 kp)⟩
end
end K13
namespace K13
open PySem PySem.Spec PyProof.Rows L2 Kt
section
variable {P : Program} {w : World} {K : PySem.W.Frag} {mg : Str → Option Value} {base : Heap}
theorem log_small {n : Nat} (h : n ≤ 1000) : ((n : Nat) : Int).natAbs.log2 < 1920 := by
  rw [Int.natAbs_natCast]
  by_cases e : n = 0
  · subst e; decide
  · exact (Nat.log2_lt e).mpr (Nat.lt_of_le_of_lt h (Nat.lt_of_lt_of_le (by decide : 1000 < 2 ^ 10) (Nat.pow_le_pow_right (by decide) (by decide))))
theorem ok_check_rows (T : Txt K mg) (TB : GxR.TabB base mg T.c_are_signs T.t_are_signs) (TB3 : GxR.TabB base mg T.c_are_figures T.t_are_figures) : FnOk P w K mg base (L2.CX P w) 5 T.d_check_rows.f T.d_check_rows.fd ["rows"] (spRowsG K (tws T) T.C_BadText) := by
  refine T.d_check_rows.F.okX sc_check_rows (fun vs H Q E h => ?_) (fun cdv A outer s H vs Q E hr h => ?_)
  · obtain ⟨a, rs, rfl, _⟩ := h
    rfl
  · obtain ⟨a, rs, rfl, hS, hl, hz, tw, qb, qg⟩ := h
    refine ⟨_, (pss_cons (ps_for (passes_of rfl) rfl (pi_enum (by rfl) T.n_enumerate (pa_cons (pv 0) pa_nil)) (pg_tup rfl (pgs_cons (pg_name (i := 1) sc_check_rows.nd rfl (.inl rfl)) (pgs_cons (pg_name (i := 2) sc_check_rows.nd rfl (.inl rfl)) pgs_nil)))
  (pss_one (ps_if (pt_not (pt_val (pe_call (ok_is_good T TB TB3) (hr.mono (by decide)) (by rfl) T.d_is_good.g T.d_is_good.F.kp T.d_is_good.b .nil pass0 (pa_cons (pv 1) (pa_cons (pv 2) pa_nil)))))
  (pss_one (ps_raise rfl (takes_of rfl rfl rfl rfl) (pmk_oex T.in_BadText.ox T.in_BadText.ii T.in_BadText.ti (ok_init_BadText T) (hr.mono (by decide)) T.in_BadText.b .nil pass0 (by rfl) T.x_BadText.g (pa_cons (pv 1) pa_nil))))
  pss_nil)))
  (pss_one (ps_if (pt_cmpR op_lt (pe_callB call_len_seq (by rfl) T.n_len PySem.boot_len (pa_cons (pv 0) pa_nil)) (pe_glob (v := .int 3) (by rfl) T.c_ROWS.choose_spec ⟨_, rfl⟩) (nomark _))
  (pss_one (ps_raise rfl (takes_of rfl rfl rfl rfl) (pmk_oex T.in_BadText.ox T.in_BadText.ii T.in_BadText.ti (ok_init_BadText T) (hr.mono (by decide)) T.in_BadText.b .nil pass0 (by rfl) T.x_BadText.g (pa_cons (pe_callB call_len_seq (by rfl) T.n_len PySem.boot_len (pa_cons (pv 0) pa_nil)) pa_nil))))
  pss_nil))), ?_⟩
    refine ⟨.ref a, rfl, a, _, rfl, hS, ?_⟩
    have stay : ∀ H', Kz (tws T) H H' → SqL K H' a (rs.map V.str) := fun H' k => k.seqL hS
    refine ⟨fun i m σ H' => m = rs.length - i ∧ i ≤ rs.length ∧ (∀ (j : Nat) (x : Str), j < i → rs[j]? = some x → goodRow ((j : Nat) : Int) x = true) ∧ Kz (tws T) H H' ∧ ∃ y1 y2 : Option V, σ = [some (.ref a), y1, y2], ⟨rs.length, rfl, Nat.zero_le _, fun j x hj => absurd hj (Nat.not_lt_zero _), Kz.refl tw, none, none, rfl⟩, fun i m σ H' hW => ?_⟩
    obtain ⟨em, hi, hg, k, y1, y2, rfl⟩ := hW
    by_cases hlt : i < rs.length
    · obtain ⟨r, hr'⟩ : ∃ r, rs[i]? = some r := ⟨_, List.getElem?_eq_getElem hlt⟩
      have hr2 : (rs.map V.str)[i]? = some (.str r) := map_at hr'
      refine .inr ⟨⟨_, _, stay H' k, hr2⟩, fun σ' H2 => (∀ (j : Nat) (x : Str), j < i + 1 → rs[j]? = some x → goodRow ((j : Nat) : Int) x = true) ∧ Kz (tws T) H H2 ∧ ∃ y1 y2 : Option V, σ' = [some (.ref a), y1, y2], fun σ' H2 p => ⟨m - 1, by omega, by omega, hlt, p.1, p.2.1, p.2.2⟩, fun x H2 hy => ?_⟩
      obtain ⟨D, x2, rfl, nD, rfl, f⟩ := hy
      obtain rfl : x2 = .str r := Option.some.inj ((f _ (stay H' k)).symm.trans hr2)
      have k2 := k.trans (Kz.same k.tb (same_new (o := HO.tup [V.int (i : Nat), V.str r]) nD))
      refine ⟨D, _, rfl, SqT.of upd_same, rfl, _, _, rfl, _, _, rfl, rfl, ?_⟩
      refine ⟨.int (i : Nat), rfl, .str r, rfl, (i : Nat), r, rfl, Nat.le_trans (hz r (List.mem_of_getElem? hr')) (by decide), tb1 k2.tb, tb3 k2.tb, fun H3 t3 => ?_⟩
      have k3 : Kz (tws T) H H3 := by
        rcases t3 with t | t
        · exact k2.trans (kz1 k2.tb (Kp.of_tabbed t))
        · exact k2.trans (kz3 k2.tb (Kp.of_tabbed t))
      cases gr : goodRow ((i : Nat) : Int) r with
      | true =>
        refine ⟨true, rfl, iteF ⟨fun j x hj e => ?_, k3, _, _, rfl⟩⟩
        by_cases hji : j = i
        · subst hji
          rw [hr'] at e
          cases e
          exact gr
        · exact hg j x (by omega) e
      | false =>
        refine ⟨false, rfl, iteT ⟨.int (i : Nat), rfl, ?_⟩⟩
        exact mk_init (log_small (by omega)) fun dx hd => qb i (badRow_at hg hr' gr) H3 dx k3 hd
    · have hi' : i = rs.length := by omega
      subst hi'
      have hg' : ∀ (j : Nat) (x : Str), rs[j]? = some x → goodRow ((j : Nat) : Int) x = true := fun j x e => hg j x ((List.getElem?_eq_some_iff.mp e).1) e
      refine .inl ⟨⟨_, stay H' k, by simp⟩, ?_⟩
      refine ⟨.ref a, rfl, a, _, rfl, .inl (stay H' k), _, 3, rfl, rfl, ?_⟩
      rw [List.length_map]
      by_cases h3 : rs.length < 3
      · refine ⟨true, dec_t (by omega), iteT ?_⟩
        refine ⟨.ref a, rfl, a, _, rfl, .inl (stay H' k), ?_⟩
        rw [List.length_map]
        exact mk_init (log_small (by omega)) fun dx hd => qb rs.length (badRow_short hg' h3) H' dx k hd
      · exact ⟨false, dec_f (by omega), iteF (qg (badRow_none hg' h3) hg' H' k)⟩
theorem ok_read_sheet (T : Txt K mg) (TB : GxR.TabB base mg T.c_are_signs T.t_are_signs) (TB3 : GxR.TabB base mg T.c_are_figures T.t_are_figures) : FnOk P w K mg base (L2.CX P w) 6 T.d_read_sheet.f T.d_read_sheet.fd ["text"] (spReadG (tws T) T.C_BadText T.C_BadSheet) := by
  refine T.d_read_sheet.F.okX sc_read_sheet (fun vs H Q E h => ?_) (fun cdv A outer s H vs Q E hr h => ?_)
  · obtain ⟨x, rfl, _⟩ := h
    rfl
  · obtain ⟨x, rfl, hx, tw, q⟩ := h
    refine ⟨_, (pss_cons (ps_set (i := 1) sc_read_sheet.nd rfl (.inl rfl) (pe_split (pv 0) pe_str))
  (pss_cons (ps_expr (pe_callS (ok_check_rows T TB TB3) (hr.mono (by decide)) (by rfl) T.d_check_rows.g T.d_check_rows.F.kp T.d_check_rows.b (fun σ => passAt (takes_of rfl rfl rfl rfl) σ) (pa_cons (pv 1) pa_nil)))
  (pss_cons (ps_asg (pv 1) (pg_unl rfl (pgs_cons (pg_name (i := 2) sc_read_sheet.nd rfl (.inl rfl)) (pgs_cons (pg_name (i := 3) sc_read_sheet.nd rfl (.inl rfl)) (pgs_cons (pg_name (i := 4) sc_read_sheet.nd rfl (.inl rfl)) pgs_nil)))))
  (pss_cons (ps_set (i := 5) sc_read_sheet.nd rfl (.inl rfl) (pe_tup (pa_cons (pv 2) (pa_cons (pv 3) (pa_cons (pe_ifExp (pt_cmpR op_eq (pv 4) (pe_glob (v := .str "-") (by rfl) T.c_NO_HOME.choose_spec ⟨_, rfl⟩) (nomark _)) pe_non (pe_callTy call_int_str (by rfl) T.n_int (by decide +kernel) (pa_cons (pv 4) pa_nil))) pa_nil)))))
  (pss_cons (ps_expr (pe_callS (ok_check_sheet T TB) (hr.mono (by decide)) (by rfl) T.d_check_sheet.g T.d_check_sheet.F.kp T.d_check_sheet.b (fun σ => passAt (takes_of rfl rfl rfl rfl) σ) (pa_cons (pv 5) pa_nil)))
  (pss_one (ps_ret (pv 5)))))))), ?_⟩
    have hx' : x.length ≤ 900 := hx
    refine ⟨.str x, rfl, ⟨_, rfl⟩, _, nl, rfl, rfl, rfl, Nat.le_trans (Nat.add_le_add_right hx' 2) (by decide), fun p np => ?_⟩
    have k1 := Kz.same tw (same_new (o := HO.lst ((rowsOf x).map V.str)) np)
    have e1 : upd H p (HO.lst ((rowsOf x).map V.str)) p = some (HO.lst ((rowsOf x).map V.str)) := upd_same
    have hl := rows_len x
    have hrl : ∀ r ∈ rowsOf x, r.cps.size ≤ 1000 := fun r hr => Nat.le_trans (row_len hr) (Nat.le_trans hx' (by decide))
    change tSeq _ _ _ _ (upd H p (HO.lst ((rowsOf x).map V.str)))
    generalize upd H p (HO.lst ((rowsOf x).map V.str)) = H1 at k1 e1
    generalize rowsOf x = rs at q e1 hl hrl
    refine ⟨.ref p, rfl, p, rs, rfl, SqL.of e1, by omega, hrl, k1.tb, fun n en H2 dx k2 hd => ?_, fun en hg H2 k2 => ?_⟩
    · rw [verOf_text en] at q
      exact q H2 dx (k1.trans k2) hd
    · have k3 := k1.trans k2
      obtain ⟨z, o, r, rfl⟩ := three_of hg (fun h => by unfold badRow at en; rw [firstBad_none (k := 0) (fun j x e => by rw [Nat.zero_add]; exact hg j x e)] at en; rw [if_pos h] at en; cases en)
      have hz := hrl z (by simp)
      have ho := hrl o (by simp)
      have hr9 := hrl r (by simp)
      have hv := homeV_eq (hg 2 r rfl)
      refine ⟨.ref p, rfl, p, _, rfl, SqL.of (k2.lst e1), rfl, _, _, rfl, _, _, rfl, _, _, rfl, rfl, ?_⟩
      refine ⟨.str z, rfl, .str o, rfl, ?_⟩
      refine ⟨.str r, rfl, rfl, _, rfl, ?_⟩
      have fin : HomeV (homeV r) → ∀ t, H2 t = none → spCheckG T.t_are_signs T.C_BadSheet [.ref t] (upd H2 t (.tup [.str z, .str o, homeV r])) (fun _ H' => Q (.ref t) H') E := fun hh t nt => by
        have k4 := k3.trans (Kz.same k3.tb (same_new (o := HO.tup [V.str z, V.str o, homeV r]) nt))
        refine ⟨t, z, o, homeV r, rfl, hh, upd_same, hz, ho, tb1 k4.tb, fun g H' k5 => ?_, fun g H' k5 => ?_⟩
        · rw [verOf_told en g] at q
          exact q hh t H' (k4.trans (kz1 k4.tb k5)) (k3.nn t nt) ((kz1 k4.tb k5).tup upd_same)
        · rw [verOf_sheet en g] at q
          exact q H' (k4.trans (kz1 k4.tb k5))
      by_cases e : r = Str.ofString "-"
      · refine iteTd (congrArg V.str e) ?_
        have ev : homeV r = .non := by unfold homeV; rw [if_pos e]
        rw [ev] at fin
        refine ⟨by show 3 ≤ sizeLine; decide, fun t nt => ?_⟩
        obtain ⟨t', z', o', h', e1, e2, e3, e4, e5, e6, e7, e8⟩ := fin (.inl rfl) t nt
        refine ⟨.ref t, rfl, t', z', o', h', e1, e2, e3, e4, e5, e6, fun g H' k => ?_, fun g H' k => ?_⟩
        · exact ⟨.ref t, rfl, e7 g H' k⟩
        · exact e8 g H' k
      · refine iteFd (fun k => e (V.str.inj k)) ?_
        obtain ⟨n, hn, en', ev⟩ := hv.2 e
        rw [ev] at fin
        refine ⟨.str r, rfl, r, n, rfl, en', Nat.le_trans (fig_sz (hg 2 r rfl) e) (by decide), ?_⟩
        refine ⟨by show 3 ≤ sizeLine; decide, fun t nt => ?_⟩
        obtain ⟨t', z', o', h', e1, e2, e3, e4, e5, e6, e7, e8⟩ := fin (.inr ⟨_, rfl⟩) t nt
        refine ⟨.ref t, rfl, t', z', o', h', e1, e2, e3, e4, e5, e6, fun g H' k => ?_, fun g H' k => ?_⟩
        · exact ⟨.ref t, rfl, e7 g H' k⟩
        · exact e8 g H' k
end
end K13
namespace K13
open PySem PySem.Spec PyProof.Rows L2 Kt
section
variable {P : Program} {w : World} {K : PySem.W.Frag} {mg : Str → Option Value} {base : Heap}
def kcs (T : Txt K mg) : List Addr := [T.C_BadSheet, T.C_BadSet, T.C_BadTape, T.C_NoSign, T.C_BadCount, T.C_BadText]
theorem ok_l_class (T : Txt K mg) : FnX P w K mg base CX0 1 T.d_l_class.f T.d_l_class.fd ["_law_e"] (spClass K mg (kcs T) T.C_TapeError) := by
  refine fun_okX T.d_l_class.F sc_l_class (fun a cls d vs H Q E h => ?_) (fun cdv A outer s H vs Q E a oe cls d hz hf hr h => ?_)
  · obtain ⟨i, C, rfl, _⟩ := h
    rfl
  · obtain ⟨i, C, rfl, rfl, kd, dx, q⟩ := h
    obtain ⟨x, ex⟩ := kd.ex
    have hi := kd.lt
    refine ⟨_, (pss_cons (ps_set (i := 1) sc_l_class.nd rfl (.inl rfl) (pe_lst (pa_cons (pe_callB (Kt.call_isX ex T.ob (List.mem_singleton.mpr rfl) hz hf) (by rfl) T.n_isinstance (by decide +kernel) (pa_cons (pv 0) (pa_cons (pe_glob (v := .ref T.C_BadSheet) (by rfl) T.x_BadSheet.g rfl) pa_nil))) (pa_cons (pe_callB (Kt.call_isX ex T.ob (List.mem_singleton.mpr rfl) hz hf) (by rfl) T.n_isinstance (by decide +kernel) (pa_cons (pv 0) (pa_cons (pe_glob (v := .ref T.C_BadSet) (by rfl) T.x_BadSet.g rfl) pa_nil))) (pa_cons (pe_callB (Kt.call_isX ex T.ob (List.mem_singleton.mpr rfl) hz hf) (by rfl) T.n_isinstance (by decide +kernel) (pa_cons (pv 0) (pa_cons (pe_glob (v := .ref T.C_BadTape) (by rfl) T.x_BadTape.g rfl) pa_nil))) (pa_cons (pe_callB (Kt.call_isX ex T.ob (List.mem_singleton.mpr rfl) hz hf) (by rfl) T.n_isinstance (by decide +kernel) (pa_cons (pv 0) (pa_cons (pe_glob (v := .ref T.C_NoSign) (by rfl) T.x_NoSign.g rfl) pa_nil))) pa_nil))))))
  (pss_cons (ps_set (i := 1) sc_l_class.nd rfl (.inl rfl) (pe_op op_cat (pv 1) (pe_lst (pa_cons (pe_callB (Kt.call_isX ex T.ob (List.mem_singleton.mpr rfl) hz hf) (by rfl) T.n_isinstance (by decide +kernel) (pa_cons (pv 0) (pa_cons (pe_glob (v := .ref T.C_BadCount) (by rfl) T.x_BadCount.g rfl) pa_nil))) (pa_cons (pe_callB (Kt.call_isX ex T.ob (List.mem_singleton.mpr rfl) hz hf) (by rfl) T.n_isinstance (by decide +kernel) (pa_cons (pv 0) (pa_cons (pe_glob (v := .ref T.C_BadText) (by rfl) T.x_BadText.g rfl) pa_nil))) pa_nil)))))
  (pss_cons (ps_set (i := 2) sc_l_class.nd rfl (.inl rfl) (pe_lst (pa_cons pe_str (pa_cons pe_str (pa_cons pe_str (pa_cons pe_str (pa_cons pe_str (pa_cons pe_str pa_nil))))))))
  (pss_one (ps_ret (pe_ifExp (PW.pt (pw_and (pt_cmpR op_eq (pe_bm PySem.F.plainAttrs_list PySem.F.slot_list_count PySem.F.type_list_count Kt.mt_countF (pv 1) (pa_cons pe_bl pa_nil)) pe_int (nomark _)) (pw_and1 (pt_val (pe_callB (Kt.call_isX ex T.ob (List.mem_singleton.mpr rfl) hz hf) (by rfl) T.n_isinstance (by decide +kernel) (pa_cons (pv 0) (pa_cons (pe_bltn (v := .ty "ValueError") (by rfl) T.n_ValueError (by decide +kernel) rfl) pa_nil))))))) (pe_ix ix_list (pv 2) (pe_bm PySem.F.plainAttrs_list PySem.F.slot_list_index PySem.F.type_list_index mt_index (pv 1) (pa_cons pe_bl pa_nil)) (fun _ _ => rfl)) pe_str)))))), ?_⟩
    refine ⟨.ref a, rfl, _, _, _, rfl, dx, fun u h => h, kd.ki 0 _ rfl, .ref a, rfl, _, _, _, rfl, dx, fun u h => h, kd.ki 1 _ rfl, .ref a, rfl, _, _, _, rfl, dx, fun u h => h, kd.ki 2 _ rfl, .ref a, rfl, _, _, _, rfl, dx, fun u h => h, kd.ki 3 _ rfl, by show 4 ≤ sizeLine; decide, fun p np => ?_⟩
    have s1 := same_new (o := HO.lst [V.bl (decide (i = 0)), V.bl (decide (i = 1)), V.bl (decide (i = 2)), V.bl (decide (i = 3))]) np
    have e1 : upd H p (HO.lst [V.bl (decide (i = 0)), V.bl (decide (i = 1)), V.bl (decide (i = 2)), V.bl (decide (i = 3))]) p = some (HO.lst [V.bl (decide (i = 0)), V.bl (decide (i = 1)), V.bl (decide (i = 2)), V.bl (decide (i = 3))]) := upd_same
    have dx1 := dx.same s1
    refine ⟨.ref p, rfl, .ref a, rfl, _, _, _, rfl, dx1, fun u h => h, kd.ki 4 _ rfl, .ref a, rfl, _, _, _, rfl, dx1, fun u h => h, kd.ki 5 _ rfl, by show 2 ≤ sizeLine; decide, fun p2 np2 => ?_⟩
    have s2 := s1.trans (same_new (o := HO.lst [V.bl (decide (i = 4)), V.bl (decide (i = 5))]) np2)
    refine ⟨p, p2, _, _, rfl, rfl, same_new np2 _ _ e1, upd_same, by show 4 + 2 ≤ sizeLine; decide, fun p3 np3 => ?_⟩
    have s3 := s2.trans (same_new (o := HO.lst (kindsOf i)) np3)
    have e3 : upd (upd (upd H p (HO.lst [V.bl (decide (i = 0)), V.bl (decide (i = 1)), V.bl (decide (i = 2)), V.bl (decide (i = 3))])) p2 (HO.lst [V.bl (decide (i = 4)), V.bl (decide (i = 5))])) p3 (HO.lst (kindsOf i)) p3 = some (HO.lst (kindsOf i)) := upd_same
    have ek : [V.bl (decide (i = 0)), V.bl (decide (i = 1)), V.bl (decide (i = 2)), V.bl (decide (i = 3))] ++ [V.bl (decide (i = 4)), V.bl (decide (i = 5))] = kindsOf i := rfl
    rw [ek]
    generalize upd (upd (upd H p (HO.lst [V.bl (decide (i = 0)), V.bl (decide (i = 1)), V.bl (decide (i = 2)), V.bl (decide (i = 3))])) p2 (HO.lst [V.bl (decide (i = 4)), V.bl (decide (i = 5))])) p3 (HO.lst (kindsOf i)) = H3 at s3 e3
    refine ⟨by show 6 ≤ sizeLine; decide, fun p4 np4 => ?_⟩
    have s4 := s3.trans (same_new (o := HO.lst [V.str "BadSheet", V.str "BadSet", V.str "BadTape", V.str "NoSign", V.str "BadCount", V.str "BadText"]) np4)
    have e4 : upd H3 p4 (HO.lst [V.str "BadSheet", V.str "BadSet", V.str "BadTape", V.str "NoSign", V.str "BadCount", V.str "BadText"]) p4 = some (HO.lst [V.str "BadSheet", V.str "BadSet", V.str "BadTape", V.str "NoSign", V.str "BadCount", V.str "BadText"]) := upd_same
    have e5 := same_new (o := HO.lst [V.str "BadSheet", V.str "BadSet", V.str "BadTape", V.str "NoSign", V.str "BadCount", V.str "BadText"]) np4 _ _ e3
    generalize upd H3 p4 (HO.lst [V.str "BadSheet", V.str "BadSet", V.str "BadTape", V.str "NoSign", V.str "BadCount", V.str "BadText"]) = H4 at s4 e4 e5
    obtain ⟨z, hz1, hz2⟩ := kinds_at ⟨i, hi⟩
    refine ⟨.ref p3, rfl, .inl ⟨rfl, _, SqL.of e5⟩, p3, _, _, rfl, rfl, SqL.of e5, rfl, kinds_flat i, rfl, true, dec_t (by rw [kinds_cnt ⟨i, hi⟩]; rfl), iteT ?_⟩
    refine ⟨.ref a, rfl, _, _, _, rfl, dx.same s4, fun u h => h, kd.kv, true, rfl, iteT ?_⟩
    refine ⟨.ref p4, rfl, .ref p3, rfl, .inl ⟨rfl, _, SqL.of e5⟩, p3, _, _, i, z, rfl, rfl, SqL.of e5, rfl, kinds_flat i, hz1, hz2, fun m z' hm e => kinds_before hi m z' hm e, ?_⟩
    exact ⟨p4, _, (i : Nat), _, rfl, rfl, SqL.of e4, atI_nat (kind_word ⟨i, hi⟩), q _ s4⟩
theorem ok_l_home (T : Txt K mg) : FnOk P w K mg base CX0 1 T.d_l_home.f T.d_l_home.fd ["_law_word"] spHome := by
  refine T.d_l_home.F.ok sc_l_home (fun vs H Q E h => ?_) (fun cdv A outer s H vs Q E hr h => ?_)
  · obtain ⟨r, rfl, _⟩ := h
    rfl
  · obtain ⟨r, rfl, hz, hs, q⟩ := h
    refine ⟨_, (pss_cons (ps_if (pt_cmpR op_eq (pv 0) pe_str (nomark _))
  (pss_one (ps_ret pe_non))
  pss_nil)
  (pss_cons (ps_if (PW.pt (pw_or (pt_cmpR op_eq (pv 0) pe_str (nomark _)) (pw_or (pt_cmpR op_gt (pe_callB call_len_str (by rfl) T.n_len PySem.boot_len (pa_cons (pv 0) pa_nil)) pe_int (nomark _)) (pw_or1 (pt_cmpR (op_neD hr.units) (pe_lc (own := [("_law_sign", 1)]) (g := gName 1) (tt := _) (te := _) rfl sc_l_home.nd (pi_str (pv 0)) (blkOk_by (own := [("_law_sign", 1)]) (N := ["_law_word", "_law_sign"]) (sc := defScope s_l_home) (by decide +kernel)) (by exact fun _ _ _ _ _ => pg_name (i := 1) sc_l_home.nd rfl (Or.inl rfl)) (by exact fun _ _ _ _ _ => (pts_one (pt_cmpR op_notIn_sign (pv 1) pe_str (by rfl)))) (by exact fun _ _ _ _ _ => (pv 1))) (pe_lst pa_nil) (nomark _))))))
  (pss_one (ps_ret (pe_un un_neg pe_int)))
  pss_nil)
  (pss_one (ps_ret (pe_ifExp (PW.pt (pw_and (pt_cmpR op_eq (pe_ix ix_str (pv 0) pe_int (fun _ _ => rfl)) pe_str (nomark _)) (pw_and1 (pt_cmpR op_ne (pv 0) pe_str (nomark _))))) (pe_un un_neg pe_int) (pe_callTy call_int_str (by rfl) T.n_int (by decide +kernel) (pa_cons (pv 0) pa_nil))))))), ?_⟩
    have big : r.length ≤ sizeLine := Nat.le_trans hz (by decide)
    have hl : (r.length : Int) = (r.cps.size : Int) := rfl
    have sm : ∀ c ∈ r.cps.toList, c ≤ 126 := fun c hc => (of_decide_eq_true (List.all_eq_true.mp hs c hc)).2
    unfold homeL at q
    refine ⟨.str r, rfl, rfl, ?_⟩
    by_cases e0 : r = Str.ofString "-"
    · rw [if_pos e0] at q
      exact ⟨true, dec_t (congrArg V.str e0), iteT (q H (Same.refl _))⟩
    rw [if_neg e0] at q
    refine ⟨false, dec_f (fun k => e0 (V.str.inj k)), iteF ?_⟩
    refine ⟨.str r, rfl, rfl, ?_⟩
    by_cases e1 : r = Str.ofString ""
    · have nf : ¬ figOk r = true := by rw [e1]; decide +kernel
      rw [if_neg nf] at q
      exact ⟨true, dec_t (congrArg V.str e1), iteT (iteT ⟨1, rfl, q H (Same.refl _)⟩)⟩
    have pos : 1 ≤ r.cps.size := by
      refine Nat.one_le_iff_ne_zero.mpr fun k => e1 ?_
      obtain ⟨a⟩ := r
      have : a = #[] := Array.eq_empty_of_size_eq_zero k
      rw [this]; rfl
    refine ⟨false, dec_f (fun k => e1 (V.str.inj k)), iteF ?_⟩
    refine ⟨.str r, rfl, r, rfl, big, _, 2, rfl, rfl, ?_⟩
    by_cases e2 : 2 < r.cps.size
    · have nf : ¬ figOk r = true := fun k => by
        unfold figOk at k
        simp only [Bool.and_eq_true, decide_eq_true_eq] at k
        omega
      rw [if_neg nf] at q
      exact ⟨true, dec_t (by omega), iteT (iteT ⟨1, rfl, q H (Same.refl _)⟩)⟩
    refine ⟨false, dec_f (by omega), iteF ?_⟩
    refine ⟨.str r, rfl, r, rfl, fun D nD => lc_it walk_str (fun i H' => i ≤ r.cps.size ∧ Same H H' ∧ H' D = some (.lst ((noFig r i).map V.str))) ⟨Nat.zero_le _, sameD (Same.refl _) nD, upd_same⟩ (fun _ _ _ _ => True.intro) (fun i x H1 H' hi p y => ?_) (fun H' p => ?_)⟩
    · obtain ⟨rfl, c, hc, rfl⟩ := y
      obtain ⟨_, s1, e1⟩ := p
      have hc' : c ∈ r.cps.toList := by
        have : r.cps.toList[i]? = some c := by rw [Array.getElem?_toList]; exact hc
        exact List.mem_of_getElem? this
      have hsn := noFig_snoc hc
      refine ⟨rfl, .str ⟨#[c]⟩, rfl, c, _, rfl, rfl, _, rfl, ?_⟩
      by_cases k : 48 ≤ c ∧ c ≤ 57
      · rw [if_pos k] at hsn
        rw [decide_eq_true ((fig_mem (sm c hc')).mpr k)]
        exact iteF ⟨hi, s1, by rw [hsn]; exact e1⟩
      · rw [if_neg k] at hsn
        rw [decide_eq_false (fun m => k ((fig_mem (sm c hc')).mp m))]
        refine iteT ⟨.str ⟨#[c]⟩, rfl, _, e1, ?_, hi, sameD s1 nD, ?_⟩
        · rw [List.length_map]
          unfold noFig
          rw [List.length_map]
          refine Nat.lt_of_le_of_lt (Nat.le_trans (List.length_filter_le _ _) (List.length_take_le' _ _)) ?_
          rw [Array.length_toList]
          exact Nat.lt_of_le_of_lt hz (by decide)
        · rw [hsn, List.map_append]
          exact upd_same
    · obtain ⟨_, s1, e1⟩ := p
      refine ⟨Nat.zero_le _, fun p2 np2 => ?_⟩
      have s2 := same_new (o := HO.lst []) np2
      have smf : ∀ s ∈ noFig r r.cps.size, ∀ c ∈ s.cps.toList, c ≤ 126 := fun s hs c hc => by
        obtain ⟨d, hd, rfl⟩ := List.mem_map.mp hs
        have hd' := List.mem_of_mem_take (List.mem_filter.mp hd).1
        have e : c = d := by simpa [sg] using hc
        rw [e]; exact sm d hd'
      refine ⟨_, _, .lst (SqL.of (s2 _ _ e1)) (dp_strs _ _ _), .lst (SqL.of upd_same) .nil, shaped_s smf, rfl, ?_⟩
      rw [eqv_nil_s]
      have sx := s1.trans s2
      by_cases hf : figs r = true
      case neg =>
        have nf : ¬ figOk r = true := fun k => by
          unfold figOk at k
          simp only [Bool.and_eq_true] at k
          exact hf k.2
        rw [if_neg nf] at q
        rw [decide_eq_false (fun k => hf (noFig_nil.mp k))]
        exact ⟨true, rfl, iteT ⟨1, rfl, q _ sx⟩⟩
      rw [decide_eq_true (noFig_nil.mpr hf)]
      refine ⟨false, rfl, iteF ?_⟩
      have h0 : 0 < r.cps.toList.length := by rw [Array.length_toList]; omega
      refine ⟨.str r, rfl, r, 0, r.cps.toList.getD 0 0, rfl, rfl, big, atI_nd ⟨by decide, by omega⟩, rfl, ?_⟩
      by_cases h4 : r.cps.toList.getD 0 0 = 48
      · refine ⟨true, dec_t (show V.str ⟨#[r.cps.toList.getD 0 0]⟩ = V.str "0" by rw [h4]; rfl), iteT ?_⟩
        refine ⟨.str r, rfl, rfl, ?_⟩
        by_cases h5 : r = Str.ofString "0"
        · have fo : figOk r = true := by rw [h5]; decide +kernel
          rw [if_pos fo] at q
          obtain ⟨n, _, en⟩ := fig_num fo
          rw [en] at q
          exact ⟨false, by rw [decide_eq_true (congrArg V.str h5)]; rfl, iteF ⟨.str r, rfl, r, n, rfl, en, Nat.le_trans (show r.cps.size ≤ 2 by omega) (by decide), q _ sx⟩⟩
        · have nf : ¬ figOk r = true := fun k => by
            unfold figOk at k
            rw [decide_eq_true h4, Bool.and_true] at k
            simp only [Bool.and_eq_true, decide_eq_true_eq, Bool.not_eq_true', decide_eq_false_iff_not] at k
            have h1 : r.cps.size = 1 := by omega
            refine h5 ?_
            obtain ⟨a⟩ := r
            obtain ⟨l⟩ := a
            match l, h1, h4 with
            | [c], _, h4 =>
              have h4 : c = 48 := h4
              rw [h4]; rfl
          rw [if_neg nf] at q
          exact ⟨true, by rw [decide_eq_false (fun k => h5 (V.str.inj k))]; rfl, iteT ⟨1, rfl, q _ sx⟩⟩
      · have fo : figOk r = true := by
          unfold figOk
          rw [decide_eq_false h4, Bool.and_false, hf, decide_eq_true ⟨pos, by omega⟩]; rfl
        rw [if_pos fo] at q
        obtain ⟨n, _, en⟩ := fig_num fo
        rw [en] at q
        exact ⟨false, dec_f (fun k => h4 (sg_inj (V.str.inj k))), iteF (iteF ⟨.str r, rfl, r, n, rfl, en, Nat.le_trans (show r.cps.size ≤ 2 by omega) (by decide), q _ sx⟩)⟩
/-- the readings of the try -/
abbrev tbTold (T : Txt K mg) : WX → TS := fun W => tRet (tTup (tCons (tC (.str "told")) (tCons (tCallS (spReadG (tws T) T.C_BadText T.C_BadSheet) (WE W) (tCons (tVar 0) tNil)) tNil)))
abbrev tsTold (T : Txt K mg) : Addr → Value → Option Addr → TS := fun a cls d => tSeq (tAsg (fun σ H Q => (tCons (tVar 1) tNil) σ H fun vs H1 => spClass K mg (kcs T) T.C_TapeError a cls d vs H1 Q E0) (gName 2))
  (tRet (tIf (tTest (tOp rEq (tVar 2) (tC (.str "BadText")))) (tTup (tCons (tVar 2) (tCons (tXfA K a cls d "row" (tVar 1)) tNil))) (tTup (tCons (tVar 2) (tCons (tC (.int 0)) tNil)))))
theorem ok_l_told (T : Txt K mg) (TB : GxR.TabB base mg T.c_are_signs T.t_are_signs) (TB3 : GxR.TabB base mg T.c_are_figures T.t_are_figures) : FnOk P w K mg base CX0 7 T.d_l_told.f T.d_l_told.fd ["_law_text_here"] (spTold (tws T)) := by
  refine T.d_l_told.F.ok sc_l_told (fun vs H Q E h => ?_) (fun cdv A outer s H vs Q E hr h => ?_)
  · obtain ⟨x, rfl, _⟩ := h
    rfl
  · obtain ⟨x, rfl, hx, tw, q⟩ := h
    refine ⟨_, (pss_one (ps_try_as (i := 1) (tb := tbTold T) (ts := tsTold T) (Wout := fun _ _ _ _ => False) rfl rfl sc_l_told.nd rfl rfl ⟨rfl, by decide, Or.inl T.bc.g⟩ takes0 (fun W pn xe tk _ => (pss_one (ps_ret (pe_tup (pa_cons pe_str (pa_cons (pe_callS (ok_read_sheet T TB TB3) (hr.mono (by decide)) (by rfl) T.d_read_sheet.g T.d_read_sheet.F.kp T.d_read_sheet.b (fun σ => passAt tk σ) (pa_cons (pv 0) pa_nil)) pa_nil)))))) (fun a oe cls d pn hz hf => (pss_cons (ps_set (i := 2) sc_l_told.nd rfl (.inl rfl) (Kt.pe_callX (ok_l_class T) (hr.mono (by decide)) hz hf (by rfl) T.d_l_class.g T.d_l_class.F.kp T.d_l_class.b pass0 (pa_cons (pv 1) pa_nil)))
  (pss_one (ps_ret (pe_ifExp (pt_cmpR op_eq (pv 2) pe_str (nomark _)) (pe_tup (pa_cons (pv 2) (pa_cons (Kt.pe_xfA hz hf (pv 1)) pa_nil))) (pe_tup (pa_cons (pv 2) (pa_cons pe_int pa_nil)))))))))), ?_⟩
    refine ⟨.str x, rfl, x, rfl, hx, tw, ?_⟩
    cases hv : verOf (rowsOf x) with
    | told z o hm =>
      rw [hv] at q
      refine fun hh t H' k nt sh => ⟨by show 2 ≤ sizeLine; decide, fun p np => ?_⟩
      have s1 := same_new (o := HO.tup [V.str "told", V.ref t]) np
      exact q p _ (k.trans (Kz.same k.tb s1)) ⟨hh, t, upd_same, s1 _ _ sh⟩
    | text n =>
      rw [hv] at q
      refine fun H1 dx k nd => ⟨true, T.kd_BadText.em, fun _ a na => ?_, fun e => nomatch e⟩
      have s0 := same_new (o := HO.xd [("row", V.int (n : Nat))]) nd
      refine ⟨.ref a, rfl, 5, T.C_BadText, rfl, rfl, T.kd_BadText, fun dd e => ⟨_, by cases e; exact upd_same⟩, fun H2 s2 => ?_⟩
      refine ⟨.str (kindWord 5), rfl, rfl, true, dec_t rfl, iteT ?_⟩
      refine ⟨.str (kindWord 5), rfl, .ref a, rfl, T.C_BadText, rfl, rfl, T.x_BadText.xf, T.in_BadText.no, dx, _, .int (n : Nat), rfl, s2 _ _ upd_same, rfl, by show 2 ≤ sizeLine; decide, fun p np => ?_⟩
      exact q p _ (k.trans (Kz.same k.tb ((s0.trans s2).trans (same_new np)))) upd_same
    | sheet =>
      rw [hv] at q
      refine fun H1 k => ⟨true, T.kd_BadSheet.em, fun _ a na => ?_, fun e => nomatch e⟩
      refine ⟨.ref a, rfl, 0, T.C_BadSheet, rfl, rfl, T.kd_BadSheet, fun dd e => (nomatch e), fun H2 s2 => ?_⟩
      refine ⟨.str (kindWord 0), rfl, rfl, false, dec_f (by decide), iteF ?_⟩
      refine ⟨.str (kindWord 0), rfl, by show 2 ≤ sizeLine; decide, fun p np => ?_⟩
      exact q p _ (k.trans (Kz.same k.tb (s2.trans (same_new np)))) upd_same
end
end K13
namespace K13
open PySem PySem.Spec PyProof.Rows L2 Kt
section
variable {P : Program} {w : World} {K : PySem.W.Frag} {mg : Str → Option Value} {base : Heap}
theorem homeL_v (r : Str) : homeL r = .non ∨ ∃ i : Int, homeL r = .int i := by
  unfold homeL
  split
  · exact .inl rfl
  · split
    · exact .inr ⟨_, rfl⟩
    · exact .inr ⟨_, rfl⟩
theorem ok_l_due (T : Txt K mg) : FnOk P w K mg base CX0 2 T.d_l_due.f T.d_l_due.fd ["_law_text_here"] spDue := by
  refine T.d_l_due.F.ok sc_l_due (fun vs H Q E h => ?_) (fun cdv A outer s H vs Q E hr h => ?_)
  · obtain ⟨x, rfl, _⟩ := h
    rfl
  · obtain ⟨x, rfl, hx, tx, q⟩ := h
    refine ⟨_, (pss_cons (ps_set (i := 1) sc_l_due.nd rfl (.inl rfl) (pe_split (pv 0) pe_str))
  (pss_cons (ps_for PassesOwn.never rfl (pi_range1 (by rfl) T.n_range (pa_cons (pe_callB call_len_seq (by rfl) T.n_len PySem.boot_len (pa_cons (pv 1) pa_nil)) pa_nil)) (pg_name (i := 2) sc_l_due.nd rfl (.inl rfl))
  (pss_one (ps_if (PW.pt (pw_or (pt_cmpR op_gt (pv 2) pe_int (nomark _)) (pw_or1 (PW.pt (pw_and (pt_cmpR op_eq (pv 2) pe_int (nomark _)) (pw_and1 (pt_cmpR op_eq (pe_call (ok_l_home T) (hr.mono (by decide)) (by rfl) T.d_l_home.g T.d_l_home.F.kp T.d_l_home.b .nil pass0 (pa_cons (pe_ix ix_list (pv 1) pe_int (fun _ _ => rfl)) pa_nil)) (pe_un un_neg pe_int) (nomark _))))))))
  (pss_one (ps_ret (pe_tup (pa_cons pe_str (pa_cons (pv 2) pa_nil)))))
  pss_nil)))
  (pss_cons (ps_if (pt_cmpR op_lt (pe_callB call_len_seq (by rfl) T.n_len PySem.boot_len (pa_cons (pv 1) pa_nil)) pe_int (nomark _))
  (pss_one (ps_ret (pe_tup (pa_cons pe_str (pa_cons (pe_callB call_len_seq (by rfl) T.n_len PySem.boot_len (pa_cons (pv 1) pa_nil)) pa_nil)))))
  pss_nil)
  (pss_cons (ps_par3 (i := 3) (j := 4) (l := 5) rfl sc_l_due.nd rfl rfl rfl (by decide) (by decide) (by decide) rfl rfl rfl (pa_cons (pe_ix ix_list (pv 1) pe_int (fun _ _ => rfl)) (pa_cons (pe_ix ix_list (pv 1) pe_int (fun _ _ => rfl)) (pa_cons (pe_call (ok_l_home T) (hr.mono (by decide)) (by rfl) T.d_l_home.g T.d_l_home.F.kp T.d_l_home.b .nil pass0 (pa_cons (pe_ix ix_list (pv 1) pe_int (fun _ _ => rfl)) pa_nil)) pa_nil))) (by rfl))
  (pss_cons (ps_if (PW.pt (pw_or (pt_not (pt_chain op_le op_le pe_int (pe_callB call_len_str (by rfl) T.n_len PySem.boot_len (pa_cons (pv 3) pa_nil)) pe_int)) (pw_or (pt_cmpR op_ne (pe_callB call_len_str (by rfl) T.n_len PySem.boot_len (pa_cons (pv 3) pa_nil)) (pe_callB call_len_str (by rfl) T.n_len PySem.boot_len (pa_cons (pv 4) pa_nil)) (nomark _)) (pw_or1 (pt_cmpR op_ne (Kt.pe_lenSetS rfl (by rfl) T.n_len (by rfl) T.n_set (pv 3)) (pe_callB call_len_str (by rfl) T.n_len PySem.boot_len (pa_cons (pv 3) pa_nil)) (nomark _))))))
  (pss_one (ps_ret (pe_tup (pa_cons pe_str (pa_cons pe_int pa_nil)))))
  pss_nil)
  (pss_cons (ps_if (PW.pt (pw_or (pt_cmpR op_ne (Kt.pe_lenSetS rfl (by rfl) T.n_len (by rfl) T.n_set (pv 4)) (pe_callB call_len_str (by rfl) T.n_len PySem.boot_len (pa_cons (pv 4) pa_nil)) (nomark _)) (pw_or1 (PW.pt (pw_and (pt_cmp (pc_notN (pv 5))) (pw_and1 (pt_cmpR op_ge (pv 5) (pe_callB call_len_str (by rfl) T.n_len PySem.boot_len (pa_cons (pv 3) pa_nil)) (nomark _))))))))
  (pss_one (ps_ret (pe_tup (pa_cons pe_str (pa_cons pe_int pa_nil)))))
  pss_nil)
  (pss_one (ps_ret (pe_tup (pa_cons pe_str (pa_cons (pe_tup (pa_cons (pv 3) (pa_cons (pv 4) (pa_cons (pv 5) pa_nil)))) pa_nil))))))))))), ?_⟩
    have hx' : x.length ≤ 900 := hx
    refine ⟨.str x, rfl, ⟨_, rfl⟩, _, nl, rfl, rfl, rfl, Nat.le_trans (Nat.add_le_add_right hx' 2) (by decide), fun p np => ?_⟩
    have s1 := same_new (o := HO.lst ((rowsOf x).map V.str)) np
    have e1 : upd H p (HO.lst ((rowsOf x).map V.str)) p = some (HO.lst ((rowsOf x).map V.str)) := upd_same
    have hl := rows_len x
    have hrl : ∀ r ∈ rowsOf x, r.cps.size ≤ 1000 := fun r hr => Nat.le_trans (row_len hr) (Nat.le_trans hx' (by decide))
    have hok : ∀ r ∈ rowsOf x, signsOk r = true := fun r hr => row_ok tx hr
    change tSeq _ _ _ _ (upd H p (HO.lst ((rowsOf x).map V.str)))
    generalize upd H p (HO.lst ((rowsOf x).map V.str)) = H1 at s1 e1
    generalize rowsOf x = rs at q e1 hl hrl hok
    have lm : (rs.map V.str).length = rs.length := List.length_map _
    refine ⟨.ref p, rfl, p, _, rfl, .inl (SqL.of e1), _, rfl, by omega, by omega, for_range (lo := 0) (n := (((rs.map V.str).length : Nat) : Int).toNat) (fun i σ H' => (∀ (j : Nat) (x : Str), j < i → rs[j]? = some x → goodRow ((j : Nat) : Int) x = true) ∧ Same H1 H' ∧ ∃ y2 y3 y4 y5 : Option V, σ = [some (.str x), some (.ref p), y2, y3, y4, y5])
      ⟨fun j x hj => absurd hj (Nat.not_lt_zero _), Same.refl _, _, _, _, _, rfl⟩ (fun i σ H' hi pv => ?_) (fun σ H' pv => ?_)⟩
    · obtain ⟨hg, sH, y2, y3, y4, y5, rfl⟩ := pv
      have hi : i < rs.length := by omega
      have z0 : (0 : Int) + (i : Int) = (i : Int) := Int.zero_add _
      rw [z0]
      obtain ⟨r, hr'⟩ : ∃ r, rs[i]? = some r := ⟨_, List.getElem?_eq_getElem hi⟩
      have hm := List.mem_of_getElem? hr'
      have lr := law_row (hok r hm) i
      refine ⟨.int (i : Nat), rfl, _, 2, rfl, rfl, ?_⟩
      by_cases h1 : 2 < i
      · refine ⟨true, dec_t (by omega), iteT (iteT ⟨.int (i : Nat), rfl, by show 2 ≤ sizeLine; decide, fun p' np' => ?_⟩)⟩
        have bad : goodRow ((i : Nat) : Int) r = false := Bool.eq_false_iff.mpr fun g => lr.mp g (.inl h1)
        refine q p' _ ((s1.trans sH).trans (same_new np')) ?_
        rw [verOf_text (badRow_at hg hr' bad)]
        exact upd_same
      refine ⟨false, dec_f (by omega), iteF ⟨.int (i : Nat), rfl, rfl, ?_⟩⟩
      by_cases h2 : i = 2
      · subst h2
        refine ⟨true, dec_t rfl, iteT ⟨.ref p, rfl, p, _, 2, .str r, rfl, rfl, SqL.of (sH _ _ e1), atI_nat (j := 2) (map_at hr'), r, rfl, hrl r hm, hok r hm, fun H2 s2 => ⟨1, rfl, ?_⟩⟩⟩
        have hsc : scal (homeL r) (V.int (-1)) = true := by
          rcases homeL_v r with e | ⟨k, e⟩ <;> rw [e] <;> rfl
        refine ⟨hsc, ?_⟩
        by_cases h3 : homeL r = .int (-1)
        · refine ⟨true, dec_t h3, iteT ⟨.int (2 : Nat), rfl, by show 2 ≤ sizeLine; decide, fun p' np' => ?_⟩⟩
          have bad : goodRow ((2 : Nat) : Int) r = false := Bool.eq_false_iff.mpr fun g => lr.mp g (.inr ⟨rfl, h3⟩)
          refine q p' _ (((s1.trans sH).trans s2).trans (same_new np')) ?_
          rw [verOf_text (badRow_at hg hr' bad)]
          exact upd_same
        · refine ⟨false, dec_f h3, iteF ⟨fun j y hj e => ?_, sH.trans s2, _, _, _, _, rfl⟩⟩
          by_cases hji : j = 2
          · subst hji
            rw [hr'] at e
            cases e
            exact lr.mpr fun k => k.elim (fun k => by omega) fun k => h3 k.2
          · exact hg j y (by omega) e
      · refine ⟨false, dec_f (fun k => h2 (by have := V.int.inj k; omega)), iteF (iteF ⟨fun j y hj e => ?_, sH, _, _, _, _, rfl⟩)⟩
        by_cases hji : j = i
        · subst hji
          rw [hr'] at e
          cases e
          exact lr.mpr fun k => k.elim h1 fun k => h2 k.1
        · exact hg j y (by omega) e
    · obtain ⟨hg0, sH, y2, y3, y4, y5, rfl⟩ := pv
      have hg : ∀ (j : Nat) (x : Str), rs[j]? = some x → goodRow ((j : Nat) : Int) x = true := fun j x e => hg0 j x (by have := (List.getElem?_eq_some_iff.mp e).1; omega) e
      have eH := sH _ _ e1
      refine ⟨.ref p, rfl, p, _, rfl, .inl (SqL.of eH), _, 3, rfl, rfl, ?_⟩
      by_cases h3 : rs.length < 3
      · refine ⟨true, dec_t (by omega), iteT ⟨.ref p, rfl, p, _, rfl, .inl (SqL.of eH), by show 2 ≤ sizeLine; decide, fun p' np' => ?_⟩⟩
        refine q p' _ ((s1.trans sH).trans (same_new np')) ?_
        rw [verOf_text (badRow_short hg h3), lm]
        exact upd_same
      refine ⟨false, dec_f (by omega), iteF ?_⟩
      have bn := badRow_none hg h3
      obtain ⟨z, o, r, rfl⟩ := three_of hg h3
      have hz := hrl z (by simp)
      have ho := hrl o (by simp)
      have hr9 := hrl r (by simp)
      have hv := homeV_eq (hg 2 r rfl)
      have bigz : z.length ≤ sizeLine := Nat.le_trans hz (by decide)
      have bigo : o.length ≤ sizeLine := Nat.le_trans ho (by decide)
      have lz : (z.length : Int) = (z.cps.size : Int) := rfl
      have lo : (o.length : Int) = (o.cps.size : Int) := rfl
      refine ⟨.ref p, rfl, p, _, 0, _, rfl, rfl, SqL.of eH, atI_nat (j := 0) rfl, .ref p, rfl, p, _, 1, _, rfl, rfl, SqL.of eH, atI_nat (j := 1) rfl, .ref p, rfl, p, _, 2, _, rfl, rfl, SqL.of eH, atI_nat (j := 2) rfl, r, rfl, hr9, hok r (by simp), fun H3 s2 => ⟨_, _, _, rfl, ?_⟩⟩
      have s3 := (s1.trans sH).trans s2
      rw [hv.1]
      -- BadSheet
      have bad : ¬ Good z o (homeV r) → ∀ (H4 : Hp), Same H H4 → ∀ p', H4 p' = none → Q (.ref p') (upd H4 p' (.tup [V.str "BadSheet", V.int 0])) := fun ng H4 s4 p' np' => by
        refine q p' _ (s4.trans (same_new np')) ?_
        rw [verOf_sheet bn (Bool.eq_false_iff.mpr fun g => ng (goodB_iff.mp g))]
        exact upd_same
      refine ⟨.str z, rfl, z, rfl, bigz, 1, _, rfl, rfl, _, rfl, ?_⟩
      by_cases h1 : 1 ≤ z.cps.size
      case neg => exact iteFd (by omega) ⟨false, rfl, iteT (iteT ⟨by show 2 ≤ sizeLine; decide, fun p' np' => bad (fun g => h1 g.pos) H3 s3 p' np'⟩)⟩
      refine iteTd (by omega) ?_
      by_cases h2 : z.cps.size ≤ 26
      case neg => exact ⟨_, 26, rfl, rfl, false, dec_f (by omega), iteT (iteT ⟨by show 2 ≤ sizeLine; decide, fun p' np' => bad (fun g => h2 g.le) H3 s3 p' np'⟩)⟩
      refine ⟨_, 26, rfl, rfl, true, dec_t (by omega), iteF ?_⟩
      refine ⟨.str z, rfl, z, rfl, bigz, .str o, rfl, o, rfl, bigo, rfl, ?_⟩
      by_cases h4 : z.cps.size = o.cps.size
      case neg => exact ⟨true, by rw [decide_eq_false (show ¬ V.int ((z.length : Nat) : Int) = V.int ((o.length : Nat) : Int) from fun k => h4 (by have := V.int.inj k; omega))]; rfl, iteT (iteT ⟨by show 2 ≤ sizeLine; decide, fun p' np' => bad (fun g => h4 g.len.symm) H3 s3 p' np'⟩)⟩
      refine ⟨false, by rw [decide_eq_true (show V.int ((z.length : Nat) : Int) = V.int ((o.length : Nat) : Int) from by rw [lz, lo, h4])]; rfl, iteF ?_⟩
      have uqd : ∀ y : Str, decide (V.int (((uq y.cps.toList).length : Nat) : Int) = V.int ((y.length : Nat) : Int)) = decide y.cps.toList.Nodup := fun y => by
        rw [← uq_dec]
        by_cases h : (uq y.cps.toList).length = y.cps.toList.length
        · rw [decide_eq_true h]
          exact decide_eq_true (by rw [h]; rfl)
        · rw [decide_eq_false h]
          exact decide_eq_false fun k => h (by have k := V.int.inj k; have k2 : (uq y.cps.toList).length = y.length := by omega
                                               exact k2)
      refine ⟨.str z, rfl, z, rfl, hz, .str z, rfl, z, rfl, bigz, rfl, ?_⟩
      rw [uqd]
      by_cases h5 : z.cps.toList.Nodup
      case neg => exact ⟨true, by rw [decide_eq_false h5]; rfl, iteT ⟨by show 2 ≤ sizeLine; decide, fun p' np' => bad (fun g => h5 g.nz) H3 s3 p' np'⟩⟩
      refine ⟨false, by rw [decide_eq_true h5]; rfl, iteF ?_⟩
      refine ⟨.str o, rfl, o, rfl, ho, .str o, rfl, o, rfl, bigo, rfl, ?_⟩
      rw [uqd]
      by_cases h6 : o.cps.toList.Nodup
      case neg => exact ⟨true, by rw [decide_eq_false h6]; rfl, iteT (iteT ⟨by show 2 ≤ sizeLine; decide, fun p' np' => bad (fun g => h6 g.no) H3 s3 p' np'⟩)⟩
      refine ⟨false, by rw [decide_eq_true h6]; rfl, iteF ?_⟩
      have sgz := hok z (by simp)
      have sgo := hok o (by simp)
      have told : (homeV r = .non ∨ ∃ h : Nat, homeV r = .int h ∧ h < z.cps.size) → ∀ (H4 : Hp), Same H H4 → ∀ t2, H4 t2 = none → ∀ p', upd H4 t2 (.tup [V.str z, V.str o, homeV r]) p' = none → Q (.ref p') (upd (upd H4 t2 (.tup [V.str z, V.str o, homeV r])) p' (.tup [V.str "told", V.ref t2])) := fun hh H4 s4 t2 n2 p' np' => by
        have g : Good z o (homeV r) := ⟨h4.symm, h1, h2, h5, h6, fun c hc => of_decide_eq_true (List.all_eq_true.mp sgz c hc), fun c hc => of_decide_eq_true (List.all_eq_true.mp sgo c hc), hh⟩
        refine q p' _ ((s4.trans (same_new n2)).trans (same_new np')) ?_
        rw [verOf_told bn (goodB_iff.mpr g)]
        exact ⟨hh.elim .inl fun ⟨h, e, _⟩ => .inr ⟨_, e⟩, t2, upd_same, same_new np' _ _ upd_same⟩
      refine ⟨homeV r, rfl, ?_⟩
      by_cases e : r = Str.ofString "-"
      · have ev : homeV r = .non := by unfold homeV; rw [if_pos e]
        rw [ev] at told ⊢
        exact ⟨_, rfl, iteF (iteF ⟨.str z, rfl, .str o, rfl, .non, rfl, by show 3 ≤ sizeLine; decide, fun t2 n2 => ⟨by show 2 ≤ sizeLine; decide, fun p' np' => told (.inl rfl) H3 s3 t2 n2 p' np'⟩⟩)⟩
      · obtain ⟨n, hn, en', ev⟩ := hv.2 e
        rw [ev] at told bad ⊢
        refine ⟨_, rfl, iteT ⟨.int (n : Nat), rfl, .str z, rfl, z, rfl, bigz, _, _, rfl, rfl, ?_⟩⟩
        by_cases h7 : n < z.cps.size
        · exact ⟨false, dec_f (by omega), iteF ⟨.str z, rfl, .str o, rfl, .int (n : Nat), rfl, by show 3 ≤ sizeLine; decide, fun t2 n2 => ⟨by show 2 ≤ sizeLine; decide, fun p' np' => told (.inr ⟨n, rfl, h7⟩) H3 s3 t2 n2 p' np'⟩⟩⟩
        · exact ⟨true, dec_t (by omega), iteT ⟨by show 2 ≤ sizeLine; decide, fun p' np' => bad (fun g => (g.home).elim (fun k => nomatch k) fun ⟨h, k, lt⟩ => h7 (by have := V.int.inj k; omega)) H3 s3 p' np'⟩⟩
end
end K13
namespace K13
open PySem PySem.Spec PyProof.Rows L2 Kt
section
variable {P : Program} {w : World} {K : PySem.W.Frag} {mg : Str → Option Value} {base : Heap}
def sgnS : Str := "ab01 -\n~!.,xyzABCDEFGHIJKLMNOPQRSTUVWXYZ23456789#$&'()*+/:;<=>?\x40[]^_`{|}"
theorem sgnS_ok : Tx sgnS := txB_ok (by decide +kernel)
theorem sgnS_len : 8 ≤ sgnS.length ∧ sgnS.length ≤ 100 := by decide +kernel
theorem ok_l_spoilt (T : Txt K mg) : FnOk P w K mg base CX0 2 T.d_l_spoilt.f T.d_l_spoilt.fd ["_law_box", "_law_text_here"] spSpoilt := by
  refine T.d_l_spoilt.F.ok sc_l_spoilt (fun vs H Q E h => ?_) (fun cdv A outer s H vs Q E hr h => ?_)
  · obtain ⟨b, l, x, m, rfl, _⟩ := h
    rfl
  · obtain ⟨b, l, x, m, rfl, bx, tx, hx, hm, q⟩ := h
    refine ⟨_, (pss_cons (ps_set (i := 2) sc_l_spoilt.nd rfl (.inl rfl) (pe_call (ok_l_take T) (hr.mono (by decide)) (by rfl) T.d_l_take.g T.d_l_take.F.kp T.d_l_take.b .nil pass0 (pa_cons (pv 0) (pa_cons pe_int pa_nil))))
  (pss_cons (ps_set (i := 3) sc_l_spoilt.nd rfl (.inl rfl) (pe_split (pv 1) pe_str))
  (pss_cons (ps_set (i := 4) sc_l_spoilt.nd rfl (.inl rfl) (pe_call (ok_l_take T) (hr.mono (by decide)) (by rfl) T.d_l_take.g T.d_l_take.F.kp T.d_l_take.b .nil pass0 (pa_cons (pv 0) (pa_cons (pe_callB call_len_seq (by rfl) T.n_len PySem.boot_len (pa_cons (pv 3) pa_nil)) pa_nil))))
  (pss_cons (ps_set (i := 5) sc_l_spoilt.nd rfl (.inl rfl) (pe_lst (pa_cons pe_str (pa_cons pe_str (pa_cons pe_str (pa_cons pe_str (pa_cons pe_str (pa_cons pe_str (pa_cons pe_str (pa_cons pe_str (pa_cons pe_str (pa_cons pe_str (pa_cons pe_str (pa_cons pe_str (pa_cons pe_str (pa_cons pe_str (pa_cons pe_str (pa_cons pe_str pa_nil))))))))))))))))))
  (pss_cons (ps_if (pt_cmpR op_eq (pv 2) pe_int (nomark _))
  (pss_one (ps_ret (pe_join pe_str (pe_op op_cat (pe_op op_cat (pe_slice sl_list (pv 3) po_none (po_some (pv 4))) (pe_lst (pa_cons (pe_ix ix_list (pv 5) (pe_call (ok_l_take T) (hr.mono (by decide)) (by rfl) T.d_l_take.g T.d_l_take.F.kp T.d_l_take.b .nil pass0 (pa_cons (pv 0) (pa_cons pe_int pa_nil))) (fun _ _ => rfl)) pa_nil))) (pe_slice sl_list (pv 3) (po_some (pv 4)) po_none)))))
  pss_nil)
  (pss_cons (ps_if (pt_cmpR op_eq (pv 2) pe_int (nomark _))
  (pss_one (ps_ret (pe_join pe_str (pe_op op_cat (pe_slice sl_list (pv 3) po_none (po_some (pv 4))) (pe_slice sl_list (pv 3) (po_some (pe_op op_add (pv 4) pe_int)) po_none)))))
  pss_nil)
  (pss_cons (ps_if (pt_cmpR op_eq (pv 2) pe_int (nomark _))
  (pss_one (ps_ret (pe_join pe_str (pe_op op_cat (pe_op op_cat (pe_slice sl_list (pv 3) po_none (po_some (pv 4))) (pe_lst (pa_cons (pe_ix ix_list (pv 3) (pv 4) (fun _ _ => rfl)) pa_nil))) (pe_slice sl_list (pv 3) (po_some (pv 4)) po_none)))))
  pss_nil)
  (pss_cons (ps_if (pt_cmpR op_eq (pv 2) pe_int (nomark _))
  (pss_one (ps_ret (pe_join pe_str (pe_op op_cat (pe_slice sl_list (pv 3) (po_some (pv 4)) po_none) (pe_slice sl_list (pv 3) po_none (po_some (pv 4)))))))
  pss_nil)
  (pss_cons (ps_set (i := 6) sc_l_spoilt.nd rfl (.inl rfl) (pe_call (ok_l_take T) (hr.mono (by decide)) (by rfl) T.d_l_take.g T.d_l_take.F.kp T.d_l_take.b .nil pass0 (pa_cons (pv 0) (pa_cons (pe_op op_add (pe_callB call_len_str (by rfl) T.n_len PySem.boot_len (pa_cons (pv 1) pa_nil)) pe_int) pa_nil))))
  (pss_cons (ps_set (i := 7) sc_l_spoilt.nd rfl (.inl rfl) pe_str)
  (pss_cons (ps_set (i := 8) sc_l_spoilt.nd rfl (.inl rfl) (pe_ix ix_str (pv 7) (pe_call (ok_l_take T) (hr.mono (by decide)) (by rfl) T.d_l_take.g T.d_l_take.F.kp T.d_l_take.b .nil pass0 (pa_cons (pv 0) (pa_cons (pe_ix ix_list (pe_lst (pa_cons pe_int (pa_cons (pe_callB call_len_str (by rfl) T.n_len PySem.boot_len (pa_cons (pv 7) pa_nil)) pa_nil))) (pe_call (ok_l_take T) (hr.mono (by decide)) (by rfl) T.d_l_take.g T.d_l_take.F.kp T.d_l_take.b .nil pass0 (pa_cons (pv 0) (pa_cons pe_int pa_nil))) (fun _ _ => rfl)) pa_nil))) (fun _ _ => rfl)))
  (pss_one (ps_ret (pe_op op_add_str (pe_op op_add_str (pe_slice sl_str (pv 1) po_none (po_some (pv 6))) (pe_ix ix_list (pe_lst (pa_cons (pv 8) (pa_cons (pv 8) (pa_cons pe_str pa_nil)))) (pe_op op_sub (pv 2) pe_int) (fun _ _ => rfl))) (pe_slice sl_str (pv 1) (po_some (pe_op op_add (pv 6) (pe_callTy call_int1 (by rfl) T.n_int (by decide +kernel) (pa_cons (pe_cmpR op_gt (pv 2) pe_int (nomark _)) pa_nil)))) po_none))))))))))))))), ?_⟩
    have hx' : x.length ≤ m := hx
    have big : x.length ≤ sizeLine := Nat.le_trans hx' (Nat.le_trans hm (by decide))
    have szc : ∀ k, k ≤ 5000 → k ≤ sizeLine := fun k h => Nat.le_trans h (by decide)
    have nl1 : nl.length = 1 := by decide +kernel
    refine ⟨.ref b, rfl, b, l, 7, rfl, bx, by decide, by decide, fun d H1 d0 d7 bd1 => ?_⟩
    refine ⟨.str x, rfl, ⟨_, rfl⟩, _, nl, rfl, rfl, rfl, szc _ (by omega), fun rp nrp => ?_⟩
    have bd2 : Bxd b l H (upd H1 rp (HO.lst ((rowsOf x).map V.str))) := bd1.nw nrp
    have e2 : upd H1 rp (HO.lst ((rowsOf x).map V.str)) rp = some (HO.lst ((rowsOf x).map V.str)) := upd_same
    have nr := bd1.box.new_ne nrp
    have rl := rows_sum x
    have rpos := rows_pos x
    have rtx : ∀ r ∈ rowsOf x, Tx r := fun r hr => row_tx tx hr
    have rle : ∀ r ∈ rowsOf x, r.length ≤ x.length := fun r hr => row_len hr
    change tSeq _ _ _ _ (upd H1 rp (HO.lst ((rowsOf x).map V.str)))
    generalize upd H1 rp (HO.lst ((rowsOf x).map V.str)) = H2 at bd2 e2
    generalize rowsOf x = rs at e2 rl rpos rtx rle
    have lm : (rs.map V.str).length = rs.length := List.length_map _
    refine ⟨.ref b, rfl, .ref rp, rfl, rp, _, rfl, .inl (SqL.of e2), b, l, ((rs.map V.str).length : Nat), rfl, bd2.box, by omega, ?_, fun a H3 a0 a1 bd3 => ?_⟩
    · rw [lm, Int.natAbs_natCast]
      exact Nat.lt_of_le_of_lt (show rs.length ≤ 1000 by omega) (by decide)
    obtain ⟨a, rfl⟩ := Int.eq_ofNat_of_zero_le a0
    have ha : a < rs.length := by omega
    have bd3' := bd2.trans bd3
    have e3 := bd3.at' rp _ nr.1 nr.2 e2
    refine ⟨by show 16 ≤ sizeLine; decide, fun op nop => ?_⟩
    have no := bd3.box.new_ne nop
    have bd4 : Bxd b l H (upd H3 op (HO.lst [V.str "", V.str " ", V.str "-", V.str "0", V.str "00", V.str "3", V.str "12", V.str "25", V.str "26", V.str "100", V.str "-1", V.str "ab", V.str "aa", V.str "--", V.str "+1", V.str "a"])) := bd3'.nw nop
    have e4o : upd H3 op (HO.lst [V.str "", V.str " ", V.str "-", V.str "0", V.str "00", V.str "3", V.str "12", V.str "25", V.str "26", V.str "100", V.str "-1", V.str "ab", V.str "aa", V.str "--", V.str "+1", V.str "a"]) op = some (HO.lst (odds.map V.str)) := upd_same
    have e4 := same_new (o := HO.lst [V.str "", V.str " ", V.str "-", V.str "0", V.str "00", V.str "3", V.str "12", V.str "25", V.str "26", V.str "100", V.str "-1", V.str "ab", V.str "aa", V.str "--", V.str "+1", V.str "a"]) nop _ _ e3
    generalize upd H3 op (HO.lst [V.str "", V.str " ", V.str "-", V.str "0", V.str "00", V.str "3", V.str "12", V.str "25", V.str "26", V.str "100", V.str "-1", V.str "ab", V.str "aa", V.str "--", V.str "+1", V.str "a"]) = H4 at bd4 e4o e4
    -- the end of those that join
    have qj : ∀ (ys : List Str) (H' : Hp), Bxd b l H H' → (∀ y ∈ ys, Tx y) → (ys.map (·.length)).sum + ys.length ≤ 3 * m + 10 → Q (.str (Txt.join nl ys)) H' := fun ys H' bd t h => q _ _ (join_tx t) (Nat.le_trans (join_len ys) h) bd
    have bnd : ∀ ys : List Str, (ys.map (·.length)).sum + ys.length ≤ 3 * m + 10 → (ys.map (·.length)).sum + ys.length * nl.length ≤ 16777216 := fun ys h => by rw [nl1]; omega
    have cs : ∀ lo hi, ((cutR rs lo hi).map (·.length)).sum ≤ (rs.map (·.length)).sum ∧ (cutR rs lo hi).length ≤ rs.length ∧ ∀ y ∈ cutR rs lo hi, Tx y := fun lo hi => ⟨sum_sub (cutR_sub rs lo hi), (cutR_sub rs lo hi).length_le, fun y hy => rtx y ((cutR_sub rs lo hi).subset hy)⟩
    have app : ∀ {ys zs : List Str}, (∀ y ∈ ys, Tx y) → (∀ y ∈ zs, Tx y) → ∀ y ∈ ys ++ zs, Tx y := fun h1 h2 y hy => (List.mem_append.mp hy).elim (h1 y) (h2 y)
    have sums : ∀ ys zs : List Str, ((ys ++ zs).map (·.length)).sum + (ys ++ zs).length = ((ys.map (·.length)).sum + ys.length) + ((zs.map (·.length)).sum + zs.length) := fun ys zs => by
      rw [List.map_append, List.sum_append, List.length_append]; omega
    have one : ∀ s : Str, (([s] : List Str).map (·.length)).sum + ([s] : List Str).length = s.length + 1 := fun s => by simp
    refine ⟨.int d, rfl, rfl, ?_⟩
    by_cases c0 : d = 0
    · refine ⟨true, dec_t (congrArg V.int c0), iteT ?_⟩
      refine ⟨⟨_, rfl⟩, .ref rp, rfl, .int (a : Nat), rfl, (a : Nat), rfl, rp, _, rfl, SqL.of e4, fun p1 n1 => ?_⟩
      rw [cutV_str]
      have b5 := bd4.nw (o := HO.lst ((cutR rs none (some ((a : Nat) : Int))).map V.str)) n1
      have q1 := bd4.box.new_ne n1
      refine ⟨.ref op, rfl, .ref b, rfl, b, l, 16, rfl, b5.box, by decide, by decide, fun v H6 v0 v1 bd6 => ?_⟩
      obtain ⟨v, rfl⟩ := Int.eq_ofNat_of_zero_le v0
      have lo : odds.length = 16 := by decide
      obtain ⟨sx, hsx⟩ : ∃ sx, odds[v]? = some sx := ⟨_, List.getElem?_eq_getElem (by omega)⟩
      have so := odds_ok sx (List.mem_of_getElem? hsx)
      have e6o := bd6.at' op _ no.1 no.2 (same_new n1 _ _ e4o)
      have e6 := bd6.at' rp _ nr.1 nr.2 (same_new n1 _ _ e4)
      have e61 := bd6.at' p1 _ q1.1 q1.2 upd_same
      have b6 := b5.trans bd6
      refine ⟨op, _, (v : Nat), .str sx, rfl, rfl, SqL.of e6o, atI_nat (map_at hsx), by show 1 ≤ sizeLine; decide, fun p2 n2 => ?_⟩
      have k1 := cs none (some ((a : Nat) : Int))
      have k2 := cs (some ((a : Nat) : Int)) none
      refine ⟨p1, p2, _, _, rfl, rfl, same_new n2 _ _ e61, upd_same, szc _ (by rw [List.length_map]; show _ + 1 ≤ 5000; omega), fun p3 n3 => ?_⟩
      refine ⟨.ref rp, rfl, .int (a : Nat), rfl, (a : Nat), rfl, rp, _, rfl, SqL.of (same_new n3 _ _ (same_new n2 _ _ e6)), fun p4 n4 => ?_⟩
      rw [cutV_str]
      refine ⟨p3, p4, _, _, rfl, rfl, same_new n4 _ _ upd_same, upd_same, szc _ (by rw [List.length_append, List.length_map, List.length_map]; show _ + 1 + _ ≤ 5000; omega), fun p5 n5 => ?_⟩
      have ey : (cutR rs none (some ((a : Nat) : Int))).map V.str ++ [V.str sx] ++ (cutR rs (some ((a : Nat) : Int)) none).map V.str = (cutR rs none (some ((a : Nat) : Int)) ++ [sx] ++ cutR rs (some ((a : Nat) : Int)) none).map V.str := by
        rw [List.map_append, List.map_append]; rfl
      rw [ey]
      have hh : ((cutR rs none (some ((a : Nat) : Int)) ++ [sx] ++ cutR rs (some ((a : Nat) : Int)) none).map (·.length)).sum + (cutR rs none (some ((a : Nat) : Int)) ++ [sx] ++ cutR rs (some ((a : Nat) : Int)) none).length ≤ 3 * m + 10 := by
        rw [sums, sums, one]; omega
      refine ⟨nl, p5, _, rfl, rfl, .inl (SqL.of upd_same), bnd _ hh, qj _ _ ((((b6.nw n2).nw n3).nw n4).nw n5) (app (app k1.2.2 (fun y hy => by rw [List.mem_singleton.mp hy]; exact so.1)) k2.2.2) hh⟩
    refine ⟨false, dec_f (fun k => c0 (V.int.inj k)), iteF ⟨.int d, rfl, rfl, ?_⟩⟩
    by_cases c1 : d = 1
    · refine ⟨true, dec_t (congrArg V.int c1), iteT ?_⟩
      refine ⟨⟨_, rfl⟩, .ref rp, rfl, .int (a : Nat), rfl, (a : Nat), rfl, rp, _, rfl, SqL.of e4, fun p1 n1 => ?_⟩
      rw [cutV_str]
      refine ⟨.ref rp, rfl, .int (a : Nat), rfl, (a : Nat), 1, rfl, rfl, _, rfl, rp, _, rfl, SqL.of (same_new n1 _ _ e4), fun p2 n2 => ?_⟩
      rw [cutV_str]
      have k1 := cs none (some ((a : Nat) : Int))
      have k2 := cs (some (((a : Nat) : Int) + 1)) none
      refine ⟨p1, p2, _, _, rfl, rfl, same_new n2 _ _ upd_same, upd_same, szc _ (by rw [List.length_map, List.length_map]; omega), fun p3 n3 => ?_⟩
      rw [← List.map_append]
      have hh : ((cutR rs none (some ((a : Nat) : Int)) ++ cutR rs (some (((a : Nat) : Int) + 1)) none).map (·.length)).sum + (cutR rs none (some ((a : Nat) : Int)) ++ cutR rs (some (((a : Nat) : Int) + 1)) none).length ≤ 3 * m + 10 := by
        rw [sums]; omega
      exact ⟨nl, p3, _, rfl, rfl, .inl (SqL.of upd_same), bnd _ hh, qj _ _ (((bd4.nw n1).nw n2).nw n3) (app k1.2.2 k2.2.2) hh⟩
    refine ⟨false, dec_f (fun k => c1 (V.int.inj k)), iteF ⟨.int d, rfl, rfl, ?_⟩⟩
    by_cases c2 : d = 2
    · refine ⟨true, dec_t (congrArg V.int c2), iteT ?_⟩
      obtain ⟨r, hr'⟩ : ∃ r, rs[a]? = some r := ⟨_, List.getElem?_eq_getElem ha⟩
      have hrm := List.mem_of_getElem? hr'
      have hrl := rle r hrm
      refine ⟨⟨_, rfl⟩, .ref rp, rfl, .int (a : Nat), rfl, (a : Nat), rfl, rp, _, rfl, SqL.of e4, fun p1 n1 => ?_⟩
      rw [cutV_str]
      refine ⟨.ref rp, rfl, .int (a : Nat), rfl, rp, _, (a : Nat), .str r, rfl, rfl, SqL.of (same_new n1 _ _ e4), atI_nat (map_at hr'), by show 1 ≤ sizeLine; decide, fun p2 n2 => ?_⟩
      have k1 := cs none (some ((a : Nat) : Int))
      have k2 := cs (some ((a : Nat) : Int)) none
      refine ⟨p1, p2, _, _, rfl, rfl, same_new n2 _ _ upd_same, upd_same, szc _ (by rw [List.length_map]; show _ + 1 ≤ 5000; omega), fun p3 n3 => ?_⟩
      refine ⟨.ref rp, rfl, .int (a : Nat), rfl, (a : Nat), rfl, rp, _, rfl, SqL.of (same_new n3 _ _ (same_new n2 _ _ (same_new n1 _ _ e4))), fun p4 n4 => ?_⟩
      rw [cutV_str]
      refine ⟨p3, p4, _, _, rfl, rfl, same_new n4 _ _ upd_same, upd_same, szc _ (by rw [List.length_append, List.length_map, List.length_map]; show _ + 1 + _ ≤ 5000; omega), fun p5 n5 => ?_⟩
      have ey : (cutR rs none (some ((a : Nat) : Int))).map V.str ++ [V.str r] ++ (cutR rs (some ((a : Nat) : Int)) none).map V.str = (cutR rs none (some ((a : Nat) : Int)) ++ [r] ++ cutR rs (some ((a : Nat) : Int)) none).map V.str := by
        rw [List.map_append, List.map_append]; rfl
      rw [ey]
      have hh : ((cutR rs none (some ((a : Nat) : Int)) ++ [r] ++ cutR rs (some ((a : Nat) : Int)) none).map (·.length)).sum + (cutR rs none (some ((a : Nat) : Int)) ++ [r] ++ cutR rs (some ((a : Nat) : Int)) none).length ≤ 3 * m + 10 := by
        rw [sums, sums, one]; omega
      exact ⟨nl, p5, _, rfl, rfl, .inl (SqL.of upd_same), bnd _ hh, qj _ _ (((((bd4.nw n1).nw n2).nw n3).nw n4).nw n5) (app (app k1.2.2 (fun y hy => by rw [List.mem_singleton.mp hy]; exact rtx r hrm)) k2.2.2) hh⟩
    refine ⟨false, dec_f (fun k => c2 (V.int.inj k)), iteF ⟨.int d, rfl, rfl, ?_⟩⟩
    by_cases c3 : d = 3
    · refine ⟨true, dec_t (congrArg V.int c3), iteT ?_⟩
      refine ⟨⟨_, rfl⟩, .ref rp, rfl, .int (a : Nat), rfl, (a : Nat), rfl, rp, _, rfl, SqL.of e4, fun p1 n1 => ?_⟩
      rw [cutV_str]
      refine ⟨.ref rp, rfl, .int (a : Nat), rfl, (a : Nat), rfl, rp, _, rfl, SqL.of (same_new n1 _ _ e4), fun p2 n2 => ?_⟩
      rw [cutV_str]
      have k1 := cs (some ((a : Nat) : Int)) none
      have k2 := cs none (some ((a : Nat) : Int))
      refine ⟨p1, p2, _, _, rfl, rfl, same_new n2 _ _ upd_same, upd_same, szc _ (by rw [List.length_map, List.length_map]; omega), fun p3 n3 => ?_⟩
      rw [← List.map_append]
      have hh : ((cutR rs (some ((a : Nat) : Int)) none ++ cutR rs none (some ((a : Nat) : Int))).map (·.length)).sum + (cutR rs (some ((a : Nat) : Int)) none ++ cutR rs none (some ((a : Nat) : Int))).length ≤ 3 * m + 10 := by
        rw [sums]; omega
      exact ⟨nl, p3, _, rfl, rfl, .inl (SqL.of upd_same), bnd _ hh, qj _ _ (((bd4.nw n1).nw n2).nw n3) (app k1.2.2 k2.2.2) hh⟩
    refine ⟨false, dec_f (fun k => c3 (V.int.inj k)), iteF ?_⟩
    refine ⟨.ref b, rfl, .str x, rfl, x, rfl, big, _, 1, rfl, rfl, b, l, _, rfl, bd4.box, by omega, ?_, fun pl H5 p0 p1 bd5 => ?_⟩
    · exact Nat.lt_of_le_of_lt (show (((x.length : Nat) : Int) + 1).natAbs ≤ 1000 by omega) (by decide)
    obtain ⟨pl, rfl⟩ := Int.eq_ofNat_of_zero_le p0
    have b5 := bd4.trans bd5
    have sl := sgnS_len
    have bigs : sgnS.length ≤ sizeLine := szc _ (by omega)
    refine ⟨.str sgnS, rfl, .ref b, rfl, .str sgnS, rfl, sgnS, rfl, bigs, by show 2 ≤ sizeLine; decide, fun p6 n6 => ?_⟩
    have q6 := b5.box.new_ne n6
    have b6 := b5.nw (o := HO.lst [V.int 8, V.int (sgnS.length : Nat)]) n6
    refine ⟨.ref b, rfl, b, l, 2, rfl, b6.box, by decide, by decide, fun v H7 v0 v1 bd7 => ?_⟩
    have e7 := bd7.at' p6 _ q6.1 q6.2 upd_same
    have b7 := b6.trans bd7
    obtain ⟨mm, hm1, hm2, hat⟩ : ∃ mm : Int, 0 < mm ∧ mm ≤ (sgnS.length : Nat) ∧ atI [V.int 8, V.int (sgnS.length : Nat)] v = some (.int mm) := by
      rcases (show v = 0 ∨ v = 1 by omega) with e | e <;> subst e
      · exact ⟨8, by decide, by omega, rfl⟩
      · exact ⟨_, by omega, Int.le_refl _, rfl⟩
    refine ⟨p6, _, v, .int mm, rfl, rfl, SqL.of e7, hat, b, l, mm, rfl, b7.box, hm1, ?_, fun c H8 c0 c1 bd8 => ?_⟩
    · exact Nat.lt_of_le_of_lt (show mm.natAbs ≤ 1000 by omega) (by decide)
    have b8 := b7.trans bd8
    have hc : 0 ≤ c ∧ c < (sgnS.cps.toList.length : Int) := ⟨c0, by rw [Array.length_toList]; have : (sgnS.length : Int) = (sgnS.cps.size : Int) := rfl; omega⟩
    refine ⟨sgnS, c, _, rfl, rfl, bigs, atI_nd hc, ?_⟩
    have tsg : Tx ⟨#[sgnS.cps.toList.getD c.toNat 0]⟩ := by
      refine tx_sg sgnS_ok ?_
      have h9 : c.toNat < sgnS.cps.toList.length := by omega
      rw [List.getD_eq_getElem?_getD, List.getElem?_eq_getElem h9]
      exact List.getElem_mem h9
    have lsg : (⟨#[sgnS.cps.toList.getD c.toNat 0]⟩ : Str).length = 1 := rfl
    generalize (⟨#[sgnS.cps.toList.getD c.toNat 0]⟩ : Str) = sgn at tsg lsg
    refine ⟨.str x, rfl, .int (pl : Nat), rfl, (pl : Nat), rfl, x, rfl, big, .str sgn, rfl, .str sgn, rfl, by show 3 ≤ sizeLine; decide, fun p9 n9 => ?_⟩
    obtain ⟨zz, hz1, hz2, hz3⟩ : ∃ zz : Str, Tx zz ∧ zz.length ≤ 1 ∧ atI [V.str sgn, V.str sgn, V.str ""] (d - 4) = some (.str zz) := by
      rcases (show d = 4 ∨ d = 5 ∨ d = 6 by omega) with e | e | e <;> subst e
      · exact ⟨sgn, tsg, Nat.le_of_eq lsg, rfl⟩
      · exact ⟨sgn, tsg, Nat.le_of_eq lsg, rfl⟩
      · exact ⟨Str.ofString "", txB_ok (by decide +kernel), by decide +kernel, rfl⟩
    have l1 := cutS_len x none (some ((pl : Nat) : Int))
    refine ⟨.int d, rfl, d, 4, rfl, rfl, p9, _, d - 4, .str zz, rfl, rfl, SqL.of upd_same, hz3, _, _, rfl, rfl, szc _ (by omega), ?_⟩
    refine ⟨.str x, rfl, .int (pl : Nat), rfl, .int d, rfl, d, 4, rfl, rfl, .inr ⟨_, rfl, (pl : Nat), _, rfl, rfl, _, rfl, x, rfl, big, _, _, rfl, rfl, szc _ ?_, ?_⟩⟩
    · have l2 := cutS_len x (some (((pl : Nat) : Int) + (if decide (4 < d) = true then 1 else 0))) none
      rw [Str.length_append]; omega
    · have l2 := cutS_len x (some (((pl : Nat) : Int) + (if decide (4 < d) = true then 1 else 0))) none
      refine q _ _ (app_tx (app_tx (cutS_tx tx _ _) hz1) (cutS_tx tx _ _)) ?_ (b8.nw n9)
      show (_ : Str).length ≤ _
      rw [Str.length_append, Str.length_append]
      omega
end
end K13
namespace K13
open PySem PySem.Spec PyProof.Rows L2 Kt
section
variable {P : Program} {w : World} {K : PySem.W.Frag} {mg : Str → Option Value} {base : Heap}
set_option maxHeartbeats 1000000 in
theorem ok_l_alike (T : Txt K mg) : ∀ n : Nat, FnOk P w K mg base CX0 (n + 1) T.d_l_alike.f T.d_l_alike.fd ["_law_found", "_law_due_here"] (spAl n)
  | 0 => by
    refine T.d_l_alike.F.ok sc_l_alike (fun vs H Q E h => ?_) (fun cdv A outer s H vs Q E hr h => ?_)
    · obtain ⟨a, b, rfl, _⟩ := h
      rfl
    · obtain ⟨a, b, rfl, al, q⟩ := h
      refine ⟨_, (pss_cons (ps_if (pt_cmp (pc_isN (pv 1)))
  (pss_one (ps_ret (pe_cmp (pc_isN (pv 0)) rfl)))
  pss_nil)
  (pss_cons (ps_if (pt_val (pe_callB call_isi (by rfl) T.n_isinstance (by decide +kernel) (pa_cons (pv 1) (pa_cons (pe_bltn (v := .ty "bool") (by rfl) T.n_bool (by decide +kernel) rfl) pa_nil))))
  (pss_one (ps_ret (pe_and (pe_callB call_isi (by rfl) T.n_isinstance (by decide +kernel) (pa_cons (pv 0) (pa_cons (pe_bltn (v := .ty "bool") (by rfl) T.n_bool (by decide +kernel) rfl) pa_nil))) (pe_one (pe_cmpR op_eq (pv 0) (pv 1) (nomark _))))))
  pss_nil)
  (pss_cons (ps_if (pt_val (pe_callB call_isi (by rfl) T.n_isinstance (by decide +kernel) (pa_cons (pv 1) (pa_cons (pe_bltn (v := .ty "int") (by rfl) T.n_int (by decide +kernel) rfl) pa_nil))))
  (pss_one (ps_ret (pe_and (pe_callB call_isi (by rfl) T.n_isinstance (by decide +kernel) (pa_cons (pv 0) (pa_cons (pe_bltn (v := .ty "int") (by rfl) T.n_int (by decide +kernel) rfl) pa_nil))) (pe_and (pe_not (pe_callB call_isi (by rfl) T.n_isinstance (by decide +kernel) (pa_cons (pv 0) (pa_cons (pe_bltn (v := .ty "bool") (by rfl) T.n_bool (by decide +kernel) rfl) pa_nil)))) (pe_one (pe_cmpR op_eq (pv 0) (pv 1) (nomark _)))))))
  pss_nil)
  (pss_cons (ps_if (pt_val (pe_callB call_isi (by rfl) T.n_isinstance (by decide +kernel) (pa_cons (pv 1) (pa_cons (pe_bltn (v := .ty "str") (by rfl) T.n_str (by decide +kernel) rfl) pa_nil))))
  (pss_one (ps_ret (pe_and (pe_callB call_isi (by rfl) T.n_isinstance (by decide +kernel) (pa_cons (pv 0) (pa_cons (pe_bltn (v := .ty "str") (by rfl) T.n_str (by decide +kernel) rfl) pa_nil))) (pe_one (pe_cmpR op_eq (pv 0) (pv 1) (nomark _))))))
  pss_nil)
  pss_never)))), ?_⟩
      cases al with
      | non =>
        refine ⟨.non, rfl, true, rfl, iteT ⟨.non, rfl, ?_⟩⟩
        exact q
      | bl _ i =>
        refine ⟨.bl i, rfl, false, dec_f (fun e => nomatch e), iteF ?_⟩
        refine ⟨.bl i, rfl, .bl i, .ty "bool", .type "bool", .type "bool", true, rfl, .ty _, .base (.bl i), kit_ty (by decide +kernel), true, rfl, iteT ?_⟩
        refine ⟨.bl i, rfl, .bl i, .ty "bool", .type "bool", .type "bool", true, rfl, .ty _, .base (.bl i), kit_ty (by decide +kernel), true, rfl, iteT ?_⟩
        refine ⟨.bl i, rfl, .bl i, rfl, rfl, ?_⟩
        rw [decide_eq_true rfl]
        exact q
      | int _ i =>
        refine ⟨.int i, rfl, false, dec_f (fun e => nomatch e), iteF ?_⟩
        refine ⟨.int i, rfl, .int i, .ty "bool", .type "int", .type "bool", false, rfl, .ty _, .base (.int i), kit_ty (by decide +kernel), false, rfl, iteF ?_⟩
        refine ⟨.int i, rfl, .int i, .ty "int", .type "int", .type "int", true, rfl, .ty _, .base (.int i), kit_ty (by decide +kernel), true, rfl, iteT ?_⟩
        refine ⟨.int i, rfl, .int i, .ty "int", .type "int", .type "int", true, rfl, .ty _, .base (.int i), kit_ty (by decide +kernel), true, rfl, iteT ?_⟩
        refine ⟨.int i, rfl, .int i, .ty "bool", .type "int", .type "bool", false, rfl, .ty _, .base (.int i), kit_ty (by decide +kernel), false, rfl, true, rfl, iteT ?_⟩
        refine ⟨.int i, rfl, .int i, rfl, rfl, ?_⟩
        rw [decide_eq_true rfl]
        exact q
      | str _ s =>
        refine ⟨.str s, rfl, false, dec_f (fun e => nomatch e), iteF ?_⟩
        refine ⟨.str s, rfl, .str s, .ty "bool", .type "str", .type "bool", false, rfl, .ty _, .base (.str s), kit_ty (by decide +kernel), false, rfl, iteF ?_⟩
        refine ⟨.str s, rfl, .str s, .ty "int", .type "str", .type "int", false, rfl, .ty _, .base (.str s), kit_ty (by decide +kernel), false, rfl, iteF ?_⟩
        refine ⟨.str s, rfl, .str s, .ty "str", .type "str", .type "str", true, rfl, .ty _, .base (.str s), kit_ty (by decide +kernel), true, rfl, iteT ?_⟩
        refine ⟨.str s, rfl, .str s, .ty "str", .type "str", .type "str", true, rfl, .ty _, .base (.str s), kit_ty (by decide +kernel), true, rfl, iteT ?_⟩
        refine ⟨.str s, rfl, .str s, rfl, rfl, ?_⟩
        rw [decide_eq_true rfl]
        exact q
  | n + 1 => by
    have ih := ok_l_alike T n
    refine T.d_l_alike.F.ok sc_l_alike (fun vs H Q E h => ?_) (fun cdv A outer s H vs Q E hr h => ?_)
    · obtain ⟨a, b, rfl, _⟩ := h
      rfl
    · obtain ⟨a, b, rfl, al, q⟩ := h
      refine ⟨_, (pss_cons (ps_if (pt_cmp (pc_isN (pv 1)))
  (pss_one (ps_ret (pe_cmp (pc_isN (pv 0)) rfl)))
  pss_nil)
  (pss_cons (ps_if (pt_val (pe_callB call_isi (by rfl) T.n_isinstance (by decide +kernel) (pa_cons (pv 1) (pa_cons (pe_bltn (v := .ty "bool") (by rfl) T.n_bool (by decide +kernel) rfl) pa_nil))))
  (pss_one (ps_ret (pe_and (pe_callB call_isi (by rfl) T.n_isinstance (by decide +kernel) (pa_cons (pv 0) (pa_cons (pe_bltn (v := .ty "bool") (by rfl) T.n_bool (by decide +kernel) rfl) pa_nil))) (pe_one (pe_cmpR op_eq (pv 0) (pv 1) (nomark _))))))
  pss_nil)
  (pss_cons (ps_if (pt_val (pe_callB call_isi (by rfl) T.n_isinstance (by decide +kernel) (pa_cons (pv 1) (pa_cons (pe_bltn (v := .ty "int") (by rfl) T.n_int (by decide +kernel) rfl) pa_nil))))
  (pss_one (ps_ret (pe_and (pe_callB call_isi (by rfl) T.n_isinstance (by decide +kernel) (pa_cons (pv 0) (pa_cons (pe_bltn (v := .ty "int") (by rfl) T.n_int (by decide +kernel) rfl) pa_nil))) (pe_and (pe_not (pe_callB call_isi (by rfl) T.n_isinstance (by decide +kernel) (pa_cons (pv 0) (pa_cons (pe_bltn (v := .ty "bool") (by rfl) T.n_bool (by decide +kernel) rfl) pa_nil)))) (pe_one (pe_cmpR op_eq (pv 0) (pv 1) (nomark _)))))))
  pss_nil)
  (pss_cons (ps_if (pt_val (pe_callB call_isi (by rfl) T.n_isinstance (by decide +kernel) (pa_cons (pv 1) (pa_cons (pe_bltn (v := .ty "str") (by rfl) T.n_str (by decide +kernel) rfl) pa_nil))))
  (pss_one (ps_ret (pe_and (pe_callB call_isi (by rfl) T.n_isinstance (by decide +kernel) (pa_cons (pv 0) (pa_cons (pe_bltn (v := .ty "str") (by rfl) T.n_str (by decide +kernel) rfl) pa_nil))) (pe_one (pe_cmpR op_eq (pv 0) (pv 1) (nomark _))))))
  pss_nil)
  (pss_cons (ps_if (PW.pt (pw_or (pt_cmpR op_ne (pe_callB call_isi (by rfl) T.n_isinstance (by decide +kernel) (pa_cons (pv 1) (pa_cons (pe_bltn (v := .ty "tuple") (by rfl) T.n_tuple (by decide +kernel) rfl) pa_nil))) (pe_callB call_isi (by rfl) T.n_isinstance (by decide +kernel) (pa_cons (pv 0) (pa_cons (pe_bltn (v := .ty "tuple") (by rfl) T.n_tuple (by decide +kernel) rfl) pa_nil))) (nomark _)) (pw_or1 (pt_cmpR op_ne (pe_callB call_isi (by rfl) T.n_isinstance (by decide +kernel) (pa_cons (pv 1) (pa_cons (pe_bltn (v := .ty "list") (by rfl) T.n_list (by decide +kernel) rfl) pa_nil))) (pe_callB call_isi (by rfl) T.n_isinstance (by decide +kernel) (pa_cons (pv 0) (pa_cons (pe_bltn (v := .ty "list") (by rfl) T.n_list (by decide +kernel) rfl) pa_nil))) (nomark _)))))
  (pss_one (ps_ret pe_bl))
  pss_nil)
  (pss_cons (ps_if (pt_cmpR op_ne (pe_callB call_len_seq (by rfl) T.n_len PySem.boot_len (pa_cons (pv 0) pa_nil)) (pe_callB call_len_seq (by rfl) T.n_len PySem.boot_len (pa_cons (pv 1) pa_nil)) (nomark _))
  (pss_one (ps_ret pe_bl))
  pss_nil)
  (pss_cons (ps_for PassesOwn.never rfl (pi_range1 (by rfl) T.n_range (pa_cons (pe_callB call_len_seq (by rfl) T.n_len PySem.boot_len (pa_cons (pv 1) pa_nil)) pa_nil)) (pg_name (i := 2) sc_l_alike.nd rfl (.inl rfl))
  (pss_one (ps_if (pt_not (pt_val (pe_call ih hr (by rfl) T.d_l_alike.g T.d_l_alike.F.kp T.d_l_alike.b .nil pass0 (pa_cons (pe_ix ix_seq (pv 0) (pv 2) (fun _ _ => rfl)) (pa_cons (pe_ix ix_seq (pv 1) (pv 2) (fun _ _ => rfl)) pa_nil)))))
  (pss_one (ps_ret pe_bl))
  pss_nil)))
  (pss_one (ps_ret pe_bl))))))))), ?_⟩
      cases al with
      | non =>
        refine ⟨.non, rfl, true, rfl, iteT ⟨.non, rfl, ?_⟩⟩
        exact q
      | bl _ i =>
        refine ⟨.bl i, rfl, false, dec_f (fun e => nomatch e), iteF ?_⟩
        refine ⟨.bl i, rfl, .bl i, .ty "bool", .type "bool", .type "bool", true, rfl, .ty _, .base (.bl i), kit_ty (by decide +kernel), true, rfl, iteT ?_⟩
        refine ⟨.bl i, rfl, .bl i, .ty "bool", .type "bool", .type "bool", true, rfl, .ty _, .base (.bl i), kit_ty (by decide +kernel), true, rfl, iteT ?_⟩
        refine ⟨.bl i, rfl, .bl i, rfl, rfl, ?_⟩
        rw [decide_eq_true rfl]
        exact q
      | int _ i =>
        refine ⟨.int i, rfl, false, dec_f (fun e => nomatch e), iteF ?_⟩
        refine ⟨.int i, rfl, .int i, .ty "bool", .type "int", .type "bool", false, rfl, .ty _, .base (.int i), kit_ty (by decide +kernel), false, rfl, iteF ?_⟩
        refine ⟨.int i, rfl, .int i, .ty "int", .type "int", .type "int", true, rfl, .ty _, .base (.int i), kit_ty (by decide +kernel), true, rfl, iteT ?_⟩
        refine ⟨.int i, rfl, .int i, .ty "int", .type "int", .type "int", true, rfl, .ty _, .base (.int i), kit_ty (by decide +kernel), true, rfl, iteT ?_⟩
        refine ⟨.int i, rfl, .int i, .ty "bool", .type "int", .type "bool", false, rfl, .ty _, .base (.int i), kit_ty (by decide +kernel), false, rfl, true, rfl, iteT ?_⟩
        refine ⟨.int i, rfl, .int i, rfl, rfl, ?_⟩
        rw [decide_eq_true rfl]
        exact q
      | str _ s =>
        refine ⟨.str s, rfl, false, dec_f (fun e => nomatch e), iteF ?_⟩
        refine ⟨.str s, rfl, .str s, .ty "bool", .type "str", .type "bool", false, rfl, .ty _, .base (.str s), kit_ty (by decide +kernel), false, rfl, iteF ?_⟩
        refine ⟨.str s, rfl, .str s, .ty "int", .type "str", .type "int", false, rfl, .ty _, .base (.str s), kit_ty (by decide +kernel), false, rfl, iteF ?_⟩
        refine ⟨.str s, rfl, .str s, .ty "str", .type "str", .type "str", true, rfl, .ty _, .base (.str s), kit_ty (by decide +kernel), true, rfl, iteT ?_⟩
        refine ⟨.str s, rfl, .str s, .ty "str", .type "str", .type "str", true, rfl, .ty _, .base (.str s), kit_ty (by decide +kernel), true, rfl, iteT ?_⟩
        refine ⟨.str s, rfl, .str s, rfl, rfl, ?_⟩
        rw [decide_eq_true rfl]
        exact q
      | lst ha hb hl hz hh =>
        rename_i a b xs ys
        refine ⟨.ref b, rfl, false, dec_f (fun e => nomatch e), iteF ?_⟩
        refine ⟨.ref b, rfl, .ref b, .ty "bool", .type "list", .type "bool", false, rfl, .ty _, .base (.lst hb), kit_ty (by decide +kernel), false, rfl, iteF ?_⟩
        refine ⟨.ref b, rfl, .ref b, .ty "int", .type "list", .type "int", false, rfl, .ty _, .base (.lst hb), kit_ty (by decide +kernel), false, rfl, iteF ?_⟩
        refine ⟨.ref b, rfl, .ref b, .ty "str", .type "list", .type "str", false, rfl, .ty _, .base (.lst hb), kit_ty (by decide +kernel), false, rfl, iteF ?_⟩
        refine ⟨.ref b, rfl, .ref b, .ty "tuple", .type "list", .type "tuple", false, rfl, .ty _, .base (.lst hb), kit_ty (by decide +kernel), .ref a, rfl, .ref a, .ty "tuple", .type "list", .type "tuple", false, rfl, .ty _, .base (.lst ha), kit_ty (by decide +kernel), rfl, false, rfl, iteF ?_⟩
        refine ⟨.ref b, rfl, .ref b, .ty "list", .type "list", .type "list", true, rfl, .ty _, .base (.lst hb), kit_ty (by decide +kernel), .ref a, rfl, .ref a, .ty "list", .type "list", .type "list", true, rfl, .ty _, .base (.lst ha), kit_ty (by decide +kernel), rfl, false, rfl, iteF ?_⟩
        refine ⟨.ref a, rfl, a, _, rfl, .inl (SqL.of ha), .ref b, rfl, b, _, rfl, .inl (SqL.of hb), rfl, _, rfl, iteNS (by rw [hl]) ?_⟩
        refine ⟨.ref b, rfl, b, _, rfl, .inl (SqL.of hb), _, rfl, by omega, by omega, for_range (lo := 0) (n := ((ys.length : Nat) : Int).toNat) (fun i σ H' => H' = H ∧ ∃ y : Option V, σ = [some (.ref a), some (.ref b), y]) ⟨rfl, _, rfl⟩ (fun i σ H' hi p => ?_) (fun σ H' p => ?_)⟩
        · obtain ⟨rfl, y, rfl⟩ := p
          have h1 : i < ys.length := by omega
          have h2 : i < xs.length := by omega
          refine ⟨.ref a, rfl, .int (0 + (i : Int)), rfl, .inl ⟨a, _, _, _, rfl, rfl, SqL.of ha, at_of (by omega) (List.getElem?_eq_getElem h2), .ref b, rfl, .int (0 + (i : Int)), rfl, .inl ⟨b, _, _, _, rfl, rfl, SqL.of hb, at_of (by omega) (List.getElem?_eq_getElem h1), ?_⟩⟩⟩
          refine ⟨_, _, rfl, hh i _ _ (List.getElem?_eq_getElem h2) (List.getElem?_eq_getElem h1), true, rfl, iteF ⟨rfl, _, rfl⟩⟩
        · obtain ⟨rfl, y, rfl⟩ := p
          exact q
      | tup ha hb hl hz hh =>
        rename_i a b xs ys
        refine ⟨.ref b, rfl, false, dec_f (fun e => nomatch e), iteF ?_⟩
        refine ⟨.ref b, rfl, .ref b, .ty "bool", .type "tuple", .type "bool", false, rfl, .ty _, .base (.tup hb), kit_ty (by decide +kernel), false, rfl, iteF ?_⟩
        refine ⟨.ref b, rfl, .ref b, .ty "int", .type "tuple", .type "int", false, rfl, .ty _, .base (.tup hb), kit_ty (by decide +kernel), false, rfl, iteF ?_⟩
        refine ⟨.ref b, rfl, .ref b, .ty "str", .type "tuple", .type "str", false, rfl, .ty _, .base (.tup hb), kit_ty (by decide +kernel), false, rfl, iteF ?_⟩
        refine ⟨.ref b, rfl, .ref b, .ty "tuple", .type "tuple", .type "tuple", true, rfl, .ty _, .base (.tup hb), kit_ty (by decide +kernel), .ref a, rfl, .ref a, .ty "tuple", .type "tuple", .type "tuple", true, rfl, .ty _, .base (.tup ha), kit_ty (by decide +kernel), rfl, false, rfl, iteF ?_⟩
        refine ⟨.ref b, rfl, .ref b, .ty "list", .type "tuple", .type "list", false, rfl, .ty _, .base (.tup hb), kit_ty (by decide +kernel), .ref a, rfl, .ref a, .ty "list", .type "tuple", .type "list", false, rfl, .ty _, .base (.tup ha), kit_ty (by decide +kernel), rfl, false, rfl, iteF ?_⟩
        refine ⟨.ref a, rfl, a, _, rfl, .inr (SqT.of ha), .ref b, rfl, b, _, rfl, .inr (SqT.of hb), rfl, _, rfl, iteNS (by rw [hl]) ?_⟩
        refine ⟨.ref b, rfl, b, _, rfl, .inr (SqT.of hb), _, rfl, by omega, by omega, for_range (lo := 0) (n := ((ys.length : Nat) : Int).toNat) (fun i σ H' => H' = H ∧ ∃ y : Option V, σ = [some (.ref a), some (.ref b), y]) ⟨rfl, _, rfl⟩ (fun i σ H' hi p => ?_) (fun σ H' p => ?_)⟩
        · obtain ⟨rfl, y, rfl⟩ := p
          have h1 : i < ys.length := by omega
          have h2 : i < xs.length := by omega
          refine ⟨.ref a, rfl, .int (0 + (i : Int)), rfl, (.inr (.inl ⟨a, _, _, _, rfl, rfl, SqT.of ha, at_of (by omega) (List.getElem?_eq_getElem h2), .ref b, rfl, .int (0 + (i : Int)), rfl, (.inr (.inl ⟨b, _, _, _, rfl, rfl, SqT.of hb, at_of (by omega) (List.getElem?_eq_getElem h1), ?_⟩))⟩))⟩
          refine ⟨_, _, rfl, hh i _ _ (List.getElem?_eq_getElem h2) (List.getElem?_eq_getElem h1), true, rfl, iteF ⟨rfl, _, rfl⟩⟩
        · obtain ⟨rfl, y, rfl⟩ := p
          exact q
end
end K13
namespace K13
open PySem PySem.Spec PyProof.Rows L2 Kt
section
variable {P : Program} {w : World} {K : PySem.W.Frag} {mg : Str → Option Value} {base : Heap}
def spLaw (K : PySem.W.Frag) (W : TWs) : Sp := fun vs H Q _ => ∃ (a : Addr) (ns : List Int), vs = [.ref a] ∧ SqL K H a (ns.map V.int) ∧ ns.length ≤ 63 ∧ Tb W H ∧ ∀ H', Q (.bl true) H'
def szb (i : Nat) : Nat := if i = 0 then 60 else if i = 1 then 190 else 580
theorem sheetT_tx {z o : Str} {hm : V} (g : Good z o hm) : Tx (sheetT z o hm) := by
  unfold sheetT
  refine join_tx fun r hr => ?_
  rcases List.mem_cons.mp hr with e | hr
  · rw [e]; exact fun c hc => .inr (g.pz c hc)
  · rcases List.mem_cons.mp hr with e | hr
    · rw [e]; exact fun c hc => .inr (g.po c hc)
    · rw [List.mem_singleton.mp hr]
      rcases g.home with e | ⟨h, e, lt⟩
      · rw [e]; exact txB_ok (by decide +kernel)
      · rw [e]
        have k : ∀ h : Fin 26, txB (homeT (.int (h.val : Nat))) = true := by decide +kernel
        exact txB_ok (k ⟨h, Nat.lt_of_lt_of_le lt g.le⟩)
theorem ok_law (T : Txt K mg) (TB : GxR.TabB base mg T.c_are_signs T.t_are_signs) (TB3 : GxR.TabB base mg T.c_are_figures T.t_are_figures) : FnOk P w K mg base CX0 8 T.d_law.f T.d_law.fd ["_law_script"] (spLaw K (tws T)) := by
  refine T.d_law.F.ok sc_law (fun vs H Q E h => ?_) (fun cdv A outer s H vs Q E hr h => ?_)
  · obtain ⟨a, ns, rfl, _⟩ := h
    rfl
  · obtain ⟨a, ns, rfl, hS, hlen, tw, q⟩ := h
    refine ⟨_, (pss_cons (ps_set (i := 1) sc_law.nd rfl (.inl rfl) (pe_call (ok_l_begun T) (hr.mono (by decide)) (by rfl) T.d_l_begun.g T.d_l_begun.F.kp T.d_l_begun.b .nil pass0 (pa_cons (pv 0) pa_nil)))
  (pss_cons (ps_asg (pe_call (ok_l_sheet T) (hr.mono (by decide)) (by rfl) T.d_l_sheet.g T.d_l_sheet.F.kp T.d_l_sheet.b .nil pass0 (pa_cons (pv 1) (pa_cons pe_int pa_nil))) (pg_tup rfl (pgs_cons (pg_name (i := 2) sc_law.nd rfl (.inl rfl)) (pgs_cons (pg_name (i := 3) sc_law.nd rfl (.inl rfl)) (pgs_cons (pg_name (i := 4) sc_law.nd rfl (.inl rfl)) pgs_nil)))))
  (pss_cons (ps_set (i := 5) sc_law.nd rfl (.inl rfl) (pe_op op_add_str (pe_op op_add_str (pe_op op_add_str (pe_op op_add_str (pv 2) pe_str) (pv 3)) pe_str) (pe_ifExp (pt_cmp (pc_isN (pv 4))) pe_str (pe_callTy call_str_int (by rfl) T.n_str (by decide +kernel) (pa_cons (pv 4) pa_nil)))))
  (pss_cons (ps_for PassesOwn.never rfl (pi_range1 (by rfl) T.n_range (pa_cons (pe_op op_add pe_int (pe_call (ok_l_take T) (hr.mono (by decide)) (by rfl) T.d_l_take.g T.d_l_take.F.kp T.d_l_take.b .nil pass0 (pa_cons (pv 1) (pa_cons pe_int pa_nil)))) pa_nil)) (pg_name (i := 6) sc_law.nd rfl (.inl rfl))
  (pss_one (ps_set (i := 5) sc_law.nd rfl (.inl rfl) (pe_call (ok_l_spoilt T) (hr.mono (by decide)) (by rfl) T.d_l_spoilt.g T.d_l_spoilt.F.kp T.d_l_spoilt.b .nil pass0 (pa_cons (pv 1) (pa_cons (pv 5) pa_nil))))))
  (pss_cons (ps_set (i := 7) sc_law.nd rfl (.inl rfl) (pe_call (ok_l_due T) (hr.mono (by decide)) (by rfl) T.d_l_due.g T.d_l_due.F.kp T.d_l_due.b .nil pass0 (pa_cons (pv 5) pa_nil)))
  (pss_one (ps_ret (pe_and (pe_call (ok_l_alike T 2) (hr.mono (by decide)) (by rfl) T.d_l_alike.g T.d_l_alike.F.kp T.d_l_alike.b .nil pass0 (pa_cons (pe_call (ok_l_told T TB TB3) (hr.mono (by decide)) (by rfl) T.d_l_told.g T.d_l_told.F.kp T.d_l_told.b .nil pass0 (pa_cons (pv 5) pa_nil)) (pa_cons (pv 7) pa_nil))) (pe_one (pe_call (ok_l_alike T 2) (hr.mono (by decide)) (by rfl) T.d_l_alike.g T.d_l_alike.F.kp T.d_l_alike.b .nil pass0 (pa_cons (pe_call (ok_l_told T TB TB3) (hr.mono (by decide)) (by rfl) T.d_l_told.g T.d_l_told.F.kp T.d_l_told.b .nil pass0 (pa_cons (pv 5) pa_nil)) (pa_cons (pv 7) pa_nil)))))))))))), ?_⟩
    refine ⟨.ref a, rfl, a, ns, rfl, hS, hlen, fun b l H1 s1 bx1 nb nl' => ?_⟩
    have tw1 := tw.same s1
    refine ⟨.ref b, rfl, b, l, 12, rfl, bx1, by decide, by decide, fun t z o hm H2 gd hz bd2 nt sh2 => ?_⟩
    have tw2 := bd2.tb bx1 tw1
    refine ⟨t, _, rfl, SqT.of sh2, rfl, _, _, rfl, _, _, rfl, _, _, rfl, rfl, ?_⟩
    have lz := gd.le
    have lo : o.cps.size ≤ 26 := Nat.le_trans (Nat.le_of_eq gd.len) lz
    have lh := gd.homeOk.sz
    have e1 : (Str.ofString "\n").length = 1 := by decide +kernel
    have lz' : z.length ≤ 26 := lz
    have lo' : o.length ≤ 26 := lo
    have lh' : (homeT hm).length ≤ 2 := lh
    have sz : ∀ n, n ≤ 60 → n ≤ sizeLine := fun n h => Nat.le_trans h (by decide)
    refine ⟨.str z, rfl, _, _, rfl, rfl, sz _ (by omega), ?_⟩
    refine ⟨.str o, rfl, _, _, rfl, rfl, sz _ (by simp only [Str.length_append, e1]; omega), ?_⟩
    refine ⟨_, _, rfl, rfl, sz _ (by simp only [Str.length_append, e1]; omega), ?_⟩
    refine ⟨hm, rfl, ?_⟩
    rcases gd.home with e | ⟨h, e, lt⟩
    case' inl =>
      have eh : homeT hm = Str.ofString "-" := by rw [e]; rfl
      refine ⟨true, dec_t e, iteT ?_⟩
      rw [← eh]
      refine ⟨_, _, rfl, rfl, sz _ (by simp only [Str.length_append, e1]; omega), ?_⟩
    case' inr =>
      have ha := home_all ⟨h, Nat.lt_of_lt_of_le lt gd.le⟩
      have eh : homeT hm = Str.ofString (toString ((h : Nat) : Int)) := by rw [e]; rfl
      refine ⟨false, dec_f (fun k => by rw [e] at k; cases k), iteF ?_⟩
      refine ⟨hm, rfl, h, by rw [e], ha.2.2.2.2.2, ?_⟩
      rw [← eh]
      refine ⟨_, _, rfl, rfl, sz _ (by simp only [Str.length_append, e1]; omega), ?_⟩
    all_goals
      rw [show z ++ Str.ofString "\n" ++ o ++ Str.ofString "\n" ++ homeT hm = sheetT z o hm from sheetT_eq z o hm]
      have t0 := sheetT_tx gd
      have n0 : (sheetT z o hm).cps.size ≤ 60 := sheetT_len gd
      generalize sheetT z o hm = x0 at t0 n0
      refine ⟨.ref b, rfl, b, l, 2, rfl, bd2.box, by decide, by decide, fun v H3 v0 v1 bd3 => ⟨1, v, rfl, rfl, _, rfl, by omega, by omega, ?_⟩⟩
      refine for_range (lo := 0) (n := ((1 : Int) + v).toNat) (fun i σ H' => ∃ y : Str, Tx y ∧ y.cps.size ≤ szb i ∧ BoxAt H' b l ∧ Tb (tws T) H' ∧ ∃ y2 y3 y4 y6 y7 : Option V, σ = [some (.ref a), some (.ref b), y2, y3, y4, some (.str y), y6, y7])
        ⟨x0, t0, n0, bd3.box, bd3.tb bd2.box tw2, _, _, _, _, _, rfl⟩ (fun i σ H' hi p => ?_) (fun σ H' p => ?_)
      · obtain ⟨y, ty, ny, bx, tw, y2, y3, y4, y6, y7, rfl⟩ := p
        have hi : i = 0 ∨ i = 1 := by omega
        refine ⟨.ref b, rfl, .str y, rfl, b, l, y, szb i, rfl, bx, ty, ny, by rcases hi with e | e <;> rw [e] <;> decide, fun y' H4 ty' ny' bd => ⟨y', ty', Nat.le_trans ny' (by rcases hi with e | e <;> rw [e] <;> decide), bd.box, bd.tb bx tw, _, _, _, _, _, rfl⟩⟩
      · obtain ⟨y, ty, ny, bx, tw, y2, y3, y4, y6, y7, rfl⟩ := p
        have ny : y.cps.size ≤ 900 := Nat.le_trans ny (by unfold szb; split; omega; split <;> omega)
        refine ⟨.str y, rfl, y, rfl, ny, ty, fun p H5 s5 d5 => ?_⟩
        have tw5 := tw.same s5
        refine ⟨.str y, rfl, y, rfl, ny, tw5, fun p1 H6 k6 d6 => ?_⟩
        have d5' := d5.kz k6
        refine ⟨.ref p, rfl, _, _, rfl, d6.al d5', true, rfl, iteT ?_⟩
        refine ⟨.str y, rfl, y, rfl, ny, k6.tb, fun p2 H7 k7 d7 => ?_⟩
        exact ⟨.ref p, rfl, _, _, rfl, d7.al (d5'.kz k7), q H7⟩
theorem all_ok {h : Heap} {fa : Addr} (hmg : mg "law" = some (.ref fa)) (T : Txt K mg) (hT : PySem.W.CodeHd h T.c_are_signs T.t_are_signs ∧ h.get? T.t_are_signs = some (PySem.W.tabObj #[])) (nT : K.lookup T.t_are_signs = none)
    (hT2 : PySem.W.CodeHd h T.c_are_figures T.t_are_figures ∧ h.get? T.t_are_figures = some (PySem.W.tabObj #[])) (nT2 : K.lookup T.t_are_figures = none) (ne : T.t_are_signs ≠ T.t_are_figures)
    (hb : ∀ (s : Shared) (u : Value), BindsTo s T.d_law.fd ⟨[u], []⟩ [("_law_script", u)]) :
    LamX.LawAtS PySem.Challenge.rw_shifttape_k13_texts_refused w K CX0 8 63 "_law_script" mg fa h := by
  have e := hmg.symm.trans T.d_law.g
  cases e
  have two : ∀ {R : Addr × Addr → Prop}, R (T.c_are_signs, T.t_are_signs) → R (T.c_are_figures, T.t_are_figures) → ∀ p ∈ [(T.c_are_signs, T.t_are_signs), (T.c_are_figures, T.t_are_figures)], R p := fun r r' p hp => by
    rcases List.mem_cons.mp hp with e | e
    · rw [e]; exact r
    · rw [List.mem_singleton.mp e]; exact r'
  refine ⟨T.d_law.fd, [(T.c_are_signs, T.t_are_signs), (T.c_are_figures, T.t_are_figures)], spLaw K (tws T), two hT.2 hT2.2, two nT nT2, two hT.1 hT2.1, hb, fun H a ns hl _ hH hS => ?_,
    fun base k1 k2 tb => ok_law T (gx_of (tb _ List.mem_cons_self)) (gx_of (tb _ (List.mem_cons_of_mem _ List.mem_cons_self)))⟩
  refine ⟨a, ns, rfl, hS, hl, ⟨fun P hP => ?_, fun p hp => nomatch hp⟩, fun _ => rfl⟩
  rcases List.mem_cons.mp hP with e | e
  · rw [e]; exact ⟨#[], hH _ List.mem_cons_self, trivial⟩
  · rw [List.mem_singleton.mp e]; exact ⟨#[], hH _ (List.mem_cons_of_mem _ List.mem_cons_self), trivial⟩
end
def txt_mk {K : PySem.W.Frag} {h : Heap} {mg : Str → Option Value} {f0 tb0 f1 f2 f3 tb3 f4 f5 f6 f7 f8 f9 f10 f11 f12 f13 f14 f15 f16 f17 C_BadSheet C_BadSet C_BadTape C_NoSign C_BadCount C_BadText C_TapeError F_BadTape F_NoSign F_BadText : Addr} (X : K.In h) (G : h.Ns mainGlobals mg)
    {oc0 : Value} {od0 an0 : Option Addr} {sl0 : Array (Option Value)} {kV0 dc0 pm0 ct0 : Value} {cd0 : Addr}
    (a0 : PySem.W.nsIn K mainGlobals "are_signs" = some (some (.ref f0))) (l0 : K.lookup f0 = some ⟨oc0, od0, .func (PySem.W.fnOf "are_signs" "are_signs" (defArgs s_are_signs) (defBody s_are_signs) (defScope s_are_signs) .none kV0 dc0 pm0 an0 (.ref cd0) ct0), sl0⟩) (c0 : PySem.W.codeIn K (.ref cd0) "are_signs" = true) (k0 : PySem.W.keepIn K (.ref f0) = true)
    {oc1 : Value} {od1 an1 : Option Addr} {sl1 : Array (Option Value)} {kV1 dc1 pm1 ct1 : Value} {cd1 : Value}
    (a1 : PySem.W.nsIn K mainGlobals "_can_be_a_set" = some (some (.ref f1))) (l1 : K.lookup f1 = some ⟨oc1, od1, .func (PySem.W.fnOf "_can_be_a_set" "_can_be_a_set" (defArgs s_can_be_a_set) (defBody s_can_be_a_set) (defScope s_can_be_a_set) .none kV1 dc1 pm1 an1 cd1 ct1), sl1⟩) (c1 : PySem.W.codeIn K cd1 "_can_be_a_set" = true) (k1 : PySem.W.keepIn K (.ref f1) = true)
    {oc2 : Value} {od2 an2 : Option Addr} {sl2 : Array (Option Value)} {kV2 dc2 pm2 ct2 : Value} {cd2 : Value}
    (a2 : PySem.W.nsIn K mainGlobals "check_sheet" = some (some (.ref f2))) (l2 : K.lookup f2 = some ⟨oc2, od2, .func (PySem.W.fnOf "check_sheet" "check_sheet" (defArgs s_check_sheet) (defBody s_check_sheet) (defScope s_check_sheet) .none kV2 dc2 pm2 an2 cd2 ct2), sl2⟩) (c2 : PySem.W.codeIn K cd2 "check_sheet" = true) (k2 : PySem.W.keepIn K (.ref f2) = true)
    {oc3 : Value} {od3 an3 : Option Addr} {sl3 : Array (Option Value)} {kV3 dc3 pm3 ct3 : Value} {cd3 : Addr}
    (a3 : PySem.W.nsIn K mainGlobals "_are_figures" = some (some (.ref f3))) (l3 : K.lookup f3 = some ⟨oc3, od3, .func (PySem.W.fnOf "_are_figures" "_are_figures" (defArgs s_are_figures) (defBody s_are_figures) (defScope s_are_figures) .none kV3 dc3 pm3 an3 (.ref cd3) ct3), sl3⟩) (c3 : PySem.W.codeIn K (.ref cd3) "_are_figures" = true) (k3 : PySem.W.keepIn K (.ref f3) = true)
    {oc4 : Value} {od4 an4 : Option Addr} {sl4 : Array (Option Value)} {kV4 dc4 pm4 ct4 : Value} {cd4 : Value}
    (a4 : PySem.W.nsIn K mainGlobals "_is_good" = some (some (.ref f4))) (l4 : K.lookup f4 = some ⟨oc4, od4, .func (PySem.W.fnOf "_is_good" "_is_good" (defArgs s_is_good) (defBody s_is_good) (defScope s_is_good) .none kV4 dc4 pm4 an4 cd4 ct4), sl4⟩) (c4 : PySem.W.codeIn K cd4 "_is_good" = true) (k4 : PySem.W.keepIn K (.ref f4) = true)
    {oc5 : Value} {od5 an5 : Option Addr} {sl5 : Array (Option Value)} {kV5 dc5 pm5 ct5 : Value} {cd5 : Value}
    (a5 : PySem.W.nsIn K mainGlobals "_check_rows" = some (some (.ref f5))) (l5 : K.lookup f5 = some ⟨oc5, od5, .func (PySem.W.fnOf "_check_rows" "_check_rows" (defArgs s_check_rows) (defBody s_check_rows) (defScope s_check_rows) .none kV5 dc5 pm5 an5 cd5 ct5), sl5⟩) (c5 : PySem.W.codeIn K cd5 "_check_rows" = true) (k5 : PySem.W.keepIn K (.ref f5) = true)
    {oc6 : Value} {od6 an6 : Option Addr} {sl6 : Array (Option Value)} {kV6 dc6 pm6 ct6 : Value} {cd6 : Value}
    (a6 : PySem.W.nsIn K mainGlobals "read_sheet" = some (some (.ref f6))) (l6 : K.lookup f6 = some ⟨oc6, od6, .func (PySem.W.fnOf "read_sheet" "read_sheet" (defArgs s_read_sheet) (defBody s_read_sheet) (defScope s_read_sheet) .none kV6 dc6 pm6 an6 cd6 ct6), sl6⟩) (c6 : PySem.W.codeIn K cd6 "read_sheet" = true) (k6 : PySem.W.keepIn K (.ref f6) = true)
    {oc7 : Value} {od7 an7 : Option Addr} {sl7 : Array (Option Value)} {kV7 dc7 pm7 ct7 : Value} {cd7 : Value}
    (a7 : PySem.W.nsIn K mainGlobals "_law_begun" = some (some (.ref f7))) (l7 : K.lookup f7 = some ⟨oc7, od7, .func (PySem.W.fnOf "_law_begun" "_law_begun" (defArgs s_l_begun) (defBody s_l_begun) (defScope s_l_begun) .none kV7 dc7 pm7 an7 cd7 ct7), sl7⟩) (c7 : PySem.W.codeIn K cd7 "_law_begun" = true) (k7 : PySem.W.keepIn K (.ref f7) = true)
    {oc8 : Value} {od8 an8 : Option Addr} {sl8 : Array (Option Value)} {kV8 dc8 pm8 ct8 : Value} {cd8 : Value}
    (a8 : PySem.W.nsIn K mainGlobals "_law_take" = some (some (.ref f8))) (l8 : K.lookup f8 = some ⟨oc8, od8, .func (PySem.W.fnOf "_law_take" "_law_take" (defArgs s_l_take) (defBody s_l_take) (defScope s_l_take) .none kV8 dc8 pm8 an8 cd8 ct8), sl8⟩) (c8 : PySem.W.codeIn K cd8 "_law_take" = true) (k8 : PySem.W.keepIn K (.ref f8) = true)
    {oc9 : Value} {od9 an9 : Option Addr} {sl9 : Array (Option Value)} {kV9 dc9 pm9 ct9 : Value} {cd9 : Value}
    (a9 : PySem.W.nsIn K mainGlobals "_law_alike" = some (some (.ref f9))) (l9 : K.lookup f9 = some ⟨oc9, od9, .func (PySem.W.fnOf "_law_alike" "_law_alike" (defArgs s_l_alike) (defBody s_l_alike) (defScope s_l_alike) .none kV9 dc9 pm9 an9 cd9 ct9), sl9⟩) (c9 : PySem.W.codeIn K cd9 "_law_alike" = true) (k9 : PySem.W.keepIn K (.ref f9) = true)
    {oc10 : Value} {od10 an10 : Option Addr} {sl10 : Array (Option Value)} {kV10 dc10 pm10 ct10 : Value} {cd10 : Value}
    (a10 : PySem.W.nsIn K mainGlobals "_law_class" = some (some (.ref f10))) (l10 : K.lookup f10 = some ⟨oc10, od10, .func (PySem.W.fnOf "_law_class" "_law_class" (defArgs s_l_class) (defBody s_l_class) (defScope s_l_class) .none kV10 dc10 pm10 an10 cd10 ct10), sl10⟩) (c10 : PySem.W.codeIn K cd10 "_law_class" = true) (k10 : PySem.W.keepIn K (.ref f10) = true)
    {oc11 : Value} {od11 an11 : Option Addr} {sl11 : Array (Option Value)} {kV11 dc11 pm11 ct11 : Value} {cd11 : Value}
    (a11 : PySem.W.nsIn K mainGlobals "_law_picked" = some (some (.ref f11))) (l11 : K.lookup f11 = some ⟨oc11, od11, .func (PySem.W.fnOf "_law_picked" "_law_picked" (defArgs s_l_picked) (defBody s_l_picked) (defScope s_l_picked) .none kV11 dc11 pm11 an11 cd11 ct11), sl11⟩) (c11 : PySem.W.codeIn K cd11 "_law_picked" = true) (k11 : PySem.W.keepIn K (.ref f11) = true)
    {oc12 : Value} {od12 an12 : Option Addr} {sl12 : Array (Option Value)} {kV12 dc12 pm12 ct12 : Value} {cd12 : Value}
    (a12 : PySem.W.nsIn K mainGlobals "_law_sheet" = some (some (.ref f12))) (l12 : K.lookup f12 = some ⟨oc12, od12, .func (PySem.W.fnOf "_law_sheet" "_law_sheet" (defArgs s_l_sheet) (defBody s_l_sheet) (defScope s_l_sheet) .none kV12 dc12 pm12 an12 cd12 ct12), sl12⟩) (c12 : PySem.W.codeIn K cd12 "_law_sheet" = true) (k12 : PySem.W.keepIn K (.ref f12) = true)
    {oc13 : Value} {od13 an13 : Option Addr} {sl13 : Array (Option Value)} {kV13 dc13 pm13 ct13 : Value} {cd13 : Value}
    (a13 : PySem.W.nsIn K mainGlobals "_law_spoilt" = some (some (.ref f13))) (l13 : K.lookup f13 = some ⟨oc13, od13, .func (PySem.W.fnOf "_law_spoilt" "_law_spoilt" (defArgs s_l_spoilt) (defBody s_l_spoilt) (defScope s_l_spoilt) .none kV13 dc13 pm13 an13 cd13 ct13), sl13⟩) (c13 : PySem.W.codeIn K cd13 "_law_spoilt" = true) (k13 : PySem.W.keepIn K (.ref f13) = true)
    {oc14 : Value} {od14 an14 : Option Addr} {sl14 : Array (Option Value)} {kV14 dc14 pm14 ct14 : Value} {cd14 : Value}
    (a14 : PySem.W.nsIn K mainGlobals "_law_home" = some (some (.ref f14))) (l14 : K.lookup f14 = some ⟨oc14, od14, .func (PySem.W.fnOf "_law_home" "_law_home" (defArgs s_l_home) (defBody s_l_home) (defScope s_l_home) .none kV14 dc14 pm14 an14 cd14 ct14), sl14⟩) (c14 : PySem.W.codeIn K cd14 "_law_home" = true) (k14 : PySem.W.keepIn K (.ref f14) = true)
    {oc15 : Value} {od15 an15 : Option Addr} {sl15 : Array (Option Value)} {kV15 dc15 pm15 ct15 : Value} {cd15 : Value}
    (a15 : PySem.W.nsIn K mainGlobals "_law_due" = some (some (.ref f15))) (l15 : K.lookup f15 = some ⟨oc15, od15, .func (PySem.W.fnOf "_law_due" "_law_due" (defArgs s_l_due) (defBody s_l_due) (defScope s_l_due) .none kV15 dc15 pm15 an15 cd15 ct15), sl15⟩) (c15 : PySem.W.codeIn K cd15 "_law_due" = true) (k15 : PySem.W.keepIn K (.ref f15) = true)
    {oc16 : Value} {od16 an16 : Option Addr} {sl16 : Array (Option Value)} {kV16 dc16 pm16 ct16 : Value} {cd16 : Value}
    (a16 : PySem.W.nsIn K mainGlobals "_law_told" = some (some (.ref f16))) (l16 : K.lookup f16 = some ⟨oc16, od16, .func (PySem.W.fnOf "_law_told" "_law_told" (defArgs s_l_told) (defBody s_l_told) (defScope s_l_told) .none kV16 dc16 pm16 an16 cd16 ct16), sl16⟩) (c16 : PySem.W.codeIn K cd16 "_law_told" = true) (k16 : PySem.W.keepIn K (.ref f16) = true)
    {oc17 : Value} {od17 an17 : Option Addr} {sl17 : Array (Option Value)} {kV17 dc17 pm17 ct17 : Value} {cd17 : Value}
    (a17 : PySem.W.nsIn K mainGlobals "law" = some (some (.ref f17))) (l17 : K.lookup f17 = some ⟨oc17, od17, .func (PySem.W.fnOf "law" "law" (defArgs s_law) (defBody s_law) (defScope s_law) .none kV17 dc17 pm17 an17 cd17 ct17), sl17⟩) (c17 : PySem.W.codeIn K cd17 "law" = true) (k17 : PySem.W.keepIn K (.ref f17) = true)
    (z_ValueError : PySem.W.nsIn K mainGlobals "ValueError" = some none)
    (z_all : PySem.W.nsIn K mainGlobals "all" = some none)
    (z_bool : PySem.W.nsIn K mainGlobals "bool" = some none)
    (z_enumerate : PySem.W.nsIn K mainGlobals "enumerate" = some none)
    (z_int : PySem.W.nsIn K mainGlobals "int" = some none)
    (z_isinstance : PySem.W.nsIn K mainGlobals "isinstance" = some none)
    (z_len : PySem.W.nsIn K mainGlobals "len" = some none)
    (z_list : PySem.W.nsIn K mainGlobals "list" = some none)
    (z_range : PySem.W.nsIn K mainGlobals "range" = some none)
    (z_set : PySem.W.nsIn K mainGlobals "set" = some none)
    (z_str : PySem.W.nsIn K mainGlobals "str" = some none)
    (z_tuple : PySem.W.nsIn K mainGlobals "tuple" = some none)
    {t_MOST_PLACES : Tok} (y_MOST_PLACES : PySem.W.nsIn K mainGlobals "MOST_PLACES" = some (some (.int 26 t_MOST_PLACES)))
    {t_NO_HOME : Tok} (y_NO_HOME : PySem.W.nsIn K mainGlobals "NO_HOME" = some (some (.str "-" t_NO_HOME)))
    {t_ROWS : Tok} (y_ROWS : PySem.W.nsIn K mainGlobals "ROWS" = some (some (.int 3 t_ROWS)))
    (g_BadSheet : PySem.W.nsIn K mainGlobals "BadSheet" = some (some (.ref C_BadSheet)))
    (g_BadSet : PySem.W.nsIn K mainGlobals "BadSet" = some (some (.ref C_BadSet)))
    (g_BadTape : PySem.W.nsIn K mainGlobals "BadTape" = some (some (.ref C_BadTape)))
    (g_NoSign : PySem.W.nsIn K mainGlobals "NoSign" = some (some (.ref C_NoSign)))
    (g_BadCount : PySem.W.nsIn K mainGlobals "BadCount" = some (some (.ref C_BadCount)))
    (g_BadText : PySem.W.nsIn K mainGlobals "BadText" = some (some (.ref C_BadText)))
    (g_TapeError : PySem.W.nsIn K mainGlobals "TapeError" = some (some (.ref C_TapeError)))
    (t_sb : PySem.W.subIn K (.ref C_TapeError) (.type "BaseException") = some true)
    (t_ty : PySem.W.typeIn K (.ref C_TapeError) = some (.type "type"))
    (t_hd : PySem.W.hasDictIn K C_TapeError = true)
    (hn : PySem.W.specialIn K (.builtin "object.__class__") "__get__" = some (some (.builtin "getset_descriptor.__get__")))
    (ht : PySem.W.takesIn K (.builtin "object.__class__") = some true)
    (t_rd : PySem.W.readsIn K C_TapeError (.type "type") = true)
    (t_sg : PySem.W.specialIn K (.ref C_TapeError) "__getattribute__" = some (some (.builtin "type.__getattribute__")))
    (t_fc : PySem.W.findCls K (.ref C_TapeError) (.type "type") "__init__" = some (.val (.builtin "ValueError.__init__")))
    (kp_BadSheet : PySem.W.keepIn K (.ref C_BadSheet) = true)
    (sb_BadSheet : PySem.W.subIn K (.ref C_BadSheet) (.type "BaseException") = some true)
    (ty_BadSheet : PySem.W.typeIn K (.ref C_BadSheet) = some (.type "type"))
    (ci_BadSheet : PySem.W.isClsIn K C_BadSheet = true)
    (ga_BadSheet : PySem.W.findIn K (.ref C_BadSheet) "__getattribute__" = some (some (.builtin "BaseException.__getattribute__")))
    (gg_BadSheet : PySem.W.findIn K (.ref C_BadSheet) "__getattr__" = some none)
    (hd_BadSheet : PySem.W.hasDictIn K C_BadSheet = true)
    (cl_BadSheet : PySem.W.findIn K (.ref C_BadSheet) "__class__" = some (some (.builtin "object.__class__")))
    (mr_BadSheet : PySem.W.mroIn K C_BadSheet (.type "object") = some true)
    (kv_BadSheet : PySem.W.subIn K (.ref C_BadSheet) (.type "ValueError") = some true)
    (em_BadSheet : PySem.W.subIn K (.ref C_BadSheet) (.ref C_TapeError) = some true)
    (su_BadSheet_BadSheet : PySem.W.subIn K (.ref C_BadSheet) (.ref C_BadSheet) = some true)
    (su_BadSheet_BadSet : PySem.W.subIn K (.ref C_BadSheet) (.ref C_BadSet) = some false)
    (su_BadSheet_BadTape : PySem.W.subIn K (.ref C_BadSheet) (.ref C_BadTape) = some false)
    (su_BadSheet_NoSign : PySem.W.subIn K (.ref C_BadSheet) (.ref C_NoSign) = some false)
    (su_BadSheet_BadCount : PySem.W.subIn K (.ref C_BadSheet) (.ref C_BadCount) = some false)
    (su_BadSheet_BadText : PySem.W.subIn K (.ref C_BadSheet) (.ref C_BadText) = some false)
    (kp_BadSet : PySem.W.keepIn K (.ref C_BadSet) = true)
    (sb_BadSet : PySem.W.subIn K (.ref C_BadSet) (.type "BaseException") = some true)
    (ty_BadSet : PySem.W.typeIn K (.ref C_BadSet) = some (.type "type"))
    (ci_BadSet : PySem.W.isClsIn K C_BadSet = true)
    (ga_BadSet : PySem.W.findIn K (.ref C_BadSet) "__getattribute__" = some (some (.builtin "BaseException.__getattribute__")))
    (gg_BadSet : PySem.W.findIn K (.ref C_BadSet) "__getattr__" = some none)
    (hd_BadSet : PySem.W.hasDictIn K C_BadSet = true)
    (cl_BadSet : PySem.W.findIn K (.ref C_BadSet) "__class__" = some (some (.builtin "object.__class__")))
    (mr_BadSet : PySem.W.mroIn K C_BadSet (.type "object") = some true)
    (kv_BadSet : PySem.W.subIn K (.ref C_BadSet) (.type "ValueError") = some true)
    (em_BadSet : PySem.W.subIn K (.ref C_BadSet) (.ref C_TapeError) = some true)
    (su_BadSet_BadSheet : PySem.W.subIn K (.ref C_BadSet) (.ref C_BadSheet) = some false)
    (su_BadSet_BadSet : PySem.W.subIn K (.ref C_BadSet) (.ref C_BadSet) = some true)
    (su_BadSet_BadTape : PySem.W.subIn K (.ref C_BadSet) (.ref C_BadTape) = some false)
    (su_BadSet_NoSign : PySem.W.subIn K (.ref C_BadSet) (.ref C_NoSign) = some false)
    (su_BadSet_BadCount : PySem.W.subIn K (.ref C_BadSet) (.ref C_BadCount) = some false)
    (su_BadSet_BadText : PySem.W.subIn K (.ref C_BadSet) (.ref C_BadText) = some false)
    (kp_BadTape : PySem.W.keepIn K (.ref C_BadTape) = true)
    (sb_BadTape : PySem.W.subIn K (.ref C_BadTape) (.type "BaseException") = some true)
    (ty_BadTape : PySem.W.typeIn K (.ref C_BadTape) = some (.type "type"))
    (ci_BadTape : PySem.W.isClsIn K C_BadTape = true)
    (ga_BadTape : PySem.W.findIn K (.ref C_BadTape) "__getattribute__" = some (some (.builtin "BaseException.__getattribute__")))
    (gg_BadTape : PySem.W.findIn K (.ref C_BadTape) "__getattr__" = some none)
    (hd_BadTape : PySem.W.hasDictIn K C_BadTape = true)
    (cl_BadTape : PySem.W.findIn K (.ref C_BadTape) "__class__" = some (some (.builtin "object.__class__")))
    (mr_BadTape : PySem.W.mroIn K C_BadTape (.type "object") = some true)
    (kv_BadTape : PySem.W.subIn K (.ref C_BadTape) (.type "ValueError") = some true)
    (em_BadTape : PySem.W.subIn K (.ref C_BadTape) (.ref C_TapeError) = some true)
    (su_BadTape_BadSheet : PySem.W.subIn K (.ref C_BadTape) (.ref C_BadSheet) = some false)
    (su_BadTape_BadSet : PySem.W.subIn K (.ref C_BadTape) (.ref C_BadSet) = some false)
    (su_BadTape_BadTape : PySem.W.subIn K (.ref C_BadTape) (.ref C_BadTape) = some true)
    (su_BadTape_NoSign : PySem.W.subIn K (.ref C_BadTape) (.ref C_NoSign) = some false)
    (su_BadTape_BadCount : PySem.W.subIn K (.ref C_BadTape) (.ref C_BadCount) = some false)
    (su_BadTape_BadText : PySem.W.subIn K (.ref C_BadTape) (.ref C_BadText) = some false)
    (kp_NoSign : PySem.W.keepIn K (.ref C_NoSign) = true)
    (sb_NoSign : PySem.W.subIn K (.ref C_NoSign) (.type "BaseException") = some true)
    (ty_NoSign : PySem.W.typeIn K (.ref C_NoSign) = some (.type "type"))
    (ci_NoSign : PySem.W.isClsIn K C_NoSign = true)
    (ga_NoSign : PySem.W.findIn K (.ref C_NoSign) "__getattribute__" = some (some (.builtin "BaseException.__getattribute__")))
    (gg_NoSign : PySem.W.findIn K (.ref C_NoSign) "__getattr__" = some none)
    (hd_NoSign : PySem.W.hasDictIn K C_NoSign = true)
    (cl_NoSign : PySem.W.findIn K (.ref C_NoSign) "__class__" = some (some (.builtin "object.__class__")))
    (mr_NoSign : PySem.W.mroIn K C_NoSign (.type "object") = some true)
    (kv_NoSign : PySem.W.subIn K (.ref C_NoSign) (.type "ValueError") = some true)
    (em_NoSign : PySem.W.subIn K (.ref C_NoSign) (.ref C_TapeError) = some true)
    (su_NoSign_BadSheet : PySem.W.subIn K (.ref C_NoSign) (.ref C_BadSheet) = some false)
    (su_NoSign_BadSet : PySem.W.subIn K (.ref C_NoSign) (.ref C_BadSet) = some false)
    (su_NoSign_BadTape : PySem.W.subIn K (.ref C_NoSign) (.ref C_BadTape) = some false)
    (su_NoSign_NoSign : PySem.W.subIn K (.ref C_NoSign) (.ref C_NoSign) = some true)
    (su_NoSign_BadCount : PySem.W.subIn K (.ref C_NoSign) (.ref C_BadCount) = some false)
    (su_NoSign_BadText : PySem.W.subIn K (.ref C_NoSign) (.ref C_BadText) = some false)
    (kp_BadCount : PySem.W.keepIn K (.ref C_BadCount) = true)
    (sb_BadCount : PySem.W.subIn K (.ref C_BadCount) (.type "BaseException") = some true)
    (ty_BadCount : PySem.W.typeIn K (.ref C_BadCount) = some (.type "type"))
    (ci_BadCount : PySem.W.isClsIn K C_BadCount = true)
    (ga_BadCount : PySem.W.findIn K (.ref C_BadCount) "__getattribute__" = some (some (.builtin "BaseException.__getattribute__")))
    (gg_BadCount : PySem.W.findIn K (.ref C_BadCount) "__getattr__" = some none)
    (hd_BadCount : PySem.W.hasDictIn K C_BadCount = true)
    (cl_BadCount : PySem.W.findIn K (.ref C_BadCount) "__class__" = some (some (.builtin "object.__class__")))
    (mr_BadCount : PySem.W.mroIn K C_BadCount (.type "object") = some true)
    (kv_BadCount : PySem.W.subIn K (.ref C_BadCount) (.type "ValueError") = some true)
    (em_BadCount : PySem.W.subIn K (.ref C_BadCount) (.ref C_TapeError) = some true)
    (su_BadCount_BadSheet : PySem.W.subIn K (.ref C_BadCount) (.ref C_BadSheet) = some false)
    (su_BadCount_BadSet : PySem.W.subIn K (.ref C_BadCount) (.ref C_BadSet) = some false)
    (su_BadCount_BadTape : PySem.W.subIn K (.ref C_BadCount) (.ref C_BadTape) = some false)
    (su_BadCount_NoSign : PySem.W.subIn K (.ref C_BadCount) (.ref C_NoSign) = some false)
    (su_BadCount_BadCount : PySem.W.subIn K (.ref C_BadCount) (.ref C_BadCount) = some true)
    (su_BadCount_BadText : PySem.W.subIn K (.ref C_BadCount) (.ref C_BadText) = some false)
    (kp_BadText : PySem.W.keepIn K (.ref C_BadText) = true)
    (sb_BadText : PySem.W.subIn K (.ref C_BadText) (.type "BaseException") = some true)
    (ty_BadText : PySem.W.typeIn K (.ref C_BadText) = some (.type "type"))
    (ci_BadText : PySem.W.isClsIn K C_BadText = true)
    (ga_BadText : PySem.W.findIn K (.ref C_BadText) "__getattribute__" = some (some (.builtin "BaseException.__getattribute__")))
    (gg_BadText : PySem.W.findIn K (.ref C_BadText) "__getattr__" = some none)
    (hd_BadText : PySem.W.hasDictIn K C_BadText = true)
    (cl_BadText : PySem.W.findIn K (.ref C_BadText) "__class__" = some (some (.builtin "object.__class__")))
    (mr_BadText : PySem.W.mroIn K C_BadText (.type "object") = some true)
    (kv_BadText : PySem.W.subIn K (.ref C_BadText) (.type "ValueError") = some true)
    (em_BadText : PySem.W.subIn K (.ref C_BadText) (.ref C_TapeError) = some true)
    (su_BadText_BadSheet : PySem.W.subIn K (.ref C_BadText) (.ref C_BadSheet) = some false)
    (su_BadText_BadSet : PySem.W.subIn K (.ref C_BadText) (.ref C_BadSet) = some false)
    (su_BadText_BadTape : PySem.W.subIn K (.ref C_BadText) (.ref C_BadTape) = some false)
    (su_BadText_NoSign : PySem.W.subIn K (.ref C_BadText) (.ref C_NoSign) = some false)
    (su_BadText_BadCount : PySem.W.subIn K (.ref C_BadText) (.ref C_BadCount) = some false)
    (su_BadText_BadText : PySem.W.subIn K (.ref C_BadText) (.ref C_BadText) = some true)
    (q_BadSheet : PySem.W.excIn K C_BadSheet [.type "ValueError", .type "Exception", .type "BaseException", .type "object"] "ValueError.__new__" = true)
    (q_BadSet : PySem.W.excIn K C_BadSet [.type "ValueError", .type "Exception", .type "BaseException", .type "object"] "ValueError.__new__" = true)
    {nm_BadTape qq_BadTape : Str} {N_BadTape : Addr} {bs_BadTape bm_BadTape sub_BadTape : List Value} {sn_BadTape : List Str} {ab_BadTape : Bool} {col_BadTape : Option Bool} {dd_BadTape : Option Addr} {m0_BadTape m1_BadTape m2_BadTape m3_BadTape m5_BadTape : Option Value}
    (l_BadTape : K.lookup C_BadTape = some (excClassObj nm_BadTape qq_BadTape C_BadTape N_BadTape bs_BadTape bm_BadTape true sn_BadTape sub_BadTape ab_BadTape col_BadTape dd_BadTape m0_BadTape m1_BadTape m2_BadTape m3_BadTape m5_BadTape "ValueError.__new__"))
    (rv_BadTape : PySem.HandSPX.refsVE bm_BadTape = true)
    (sa_BadTape : PySem.W.findIn K (.ref C_BadTape) "__setattr__" = some (some (.builtin "object.__setattr__")))
    (ii_BadTape : PySem.W.findIn K (.ref C_BadTape) "__init__" = some (some (.ref F_BadTape)))
    (ti_BadTape : PySem.W.typeIn K (.ref F_BadTape) = some (.type "function"))
    (no_BadTape : PySem.W.findIn K (.ref C_BadTape) "place" = some none)
    {oc_BadTape : Value} {od_BadTape an_BadTape : Option Addr} {sl_BadTape : Array (Option Value)} {kV_BadTape dc_BadTape pm_BadTape ct_BadTape cd_BadTape : Value}
    (fl_BadTape : K.lookup F_BadTape = some ⟨oc_BadTape, od_BadTape, .func (PySem.W.fnOf "__init__" "BadTape.__init__" (defArgs s_init_BadTape) (defBody s_init_BadTape) (defScope s_init_BadTape) .none kV_BadTape dc_BadTape pm_BadTape an_BadTape cd_BadTape ct_BadTape), sl_BadTape⟩)
    (fc_BadTape : PySem.W.codeIn K cd_BadTape "BadTape.__init__" = true)
    (fk_BadTape : PySem.W.keepIn K (.ref F_BadTape) = true)
    {nm_NoSign qq_NoSign : Str} {N_NoSign : Addr} {bs_NoSign bm_NoSign sub_NoSign : List Value} {sn_NoSign : List Str} {ab_NoSign : Bool} {col_NoSign : Option Bool} {dd_NoSign : Option Addr} {m0_NoSign m1_NoSign m2_NoSign m3_NoSign m5_NoSign : Option Value}
    (l_NoSign : K.lookup C_NoSign = some (excClassObj nm_NoSign qq_NoSign C_NoSign N_NoSign bs_NoSign bm_NoSign true sn_NoSign sub_NoSign ab_NoSign col_NoSign dd_NoSign m0_NoSign m1_NoSign m2_NoSign m3_NoSign m5_NoSign "ValueError.__new__"))
    (rv_NoSign : PySem.HandSPX.refsVE bm_NoSign = true)
    (sa_NoSign : PySem.W.findIn K (.ref C_NoSign) "__setattr__" = some (some (.builtin "object.__setattr__")))
    (ii_NoSign : PySem.W.findIn K (.ref C_NoSign) "__init__" = some (some (.ref F_NoSign)))
    (ti_NoSign : PySem.W.typeIn K (.ref F_NoSign) = some (.type "function"))
    (no_NoSign : PySem.W.findIn K (.ref C_NoSign) "place" = some none)
    {oc_NoSign : Value} {od_NoSign an_NoSign : Option Addr} {sl_NoSign : Array (Option Value)} {kV_NoSign dc_NoSign pm_NoSign ct_NoSign cd_NoSign : Value}
    (fl_NoSign : K.lookup F_NoSign = some ⟨oc_NoSign, od_NoSign, .func (PySem.W.fnOf "__init__" "NoSign.__init__" (defArgs s_init_NoSign) (defBody s_init_NoSign) (defScope s_init_NoSign) .none kV_NoSign dc_NoSign pm_NoSign an_NoSign cd_NoSign ct_NoSign), sl_NoSign⟩)
    (fc_NoSign : PySem.W.codeIn K cd_NoSign "NoSign.__init__" = true)
    (fk_NoSign : PySem.W.keepIn K (.ref F_NoSign) = true)
    (q_BadCount : PySem.W.excIn K C_BadCount [.type "ValueError", .type "Exception", .type "BaseException", .type "object"] "ValueError.__new__" = true)
    {nm_BadText qq_BadText : Str} {N_BadText : Addr} {bs_BadText bm_BadText sub_BadText : List Value} {sn_BadText : List Str} {ab_BadText : Bool} {col_BadText : Option Bool} {dd_BadText : Option Addr} {m0_BadText m1_BadText m2_BadText m3_BadText m5_BadText : Option Value}
    (l_BadText : K.lookup C_BadText = some (excClassObj nm_BadText qq_BadText C_BadText N_BadText bs_BadText bm_BadText true sn_BadText sub_BadText ab_BadText col_BadText dd_BadText m0_BadText m1_BadText m2_BadText m3_BadText m5_BadText "ValueError.__new__"))
    (rv_BadText : PySem.HandSPX.refsVE bm_BadText = true)
    (sa_BadText : PySem.W.findIn K (.ref C_BadText) "__setattr__" = some (some (.builtin "object.__setattr__")))
    (ii_BadText : PySem.W.findIn K (.ref C_BadText) "__init__" = some (some (.ref F_BadText)))
    (ti_BadText : PySem.W.typeIn K (.ref F_BadText) = some (.type "function"))
    (no_BadText : PySem.W.findIn K (.ref C_BadText) "row" = some none)
    {oc_BadText : Value} {od_BadText an_BadText : Option Addr} {sl_BadText : Array (Option Value)} {kV_BadText dc_BadText pm_BadText ct_BadText cd_BadText : Value}
    (fl_BadText : K.lookup F_BadText = some ⟨oc_BadText, od_BadText, .func (PySem.W.fnOf "__init__" "BadText.__init__" (defArgs s_init_BadText) (defBody s_init_BadText) (defScope s_init_BadText) .none kV_BadText dc_BadText pm_BadText an_BadText cd_BadText ct_BadText), sl_BadText⟩)
    (fc_BadText : PySem.W.codeIn K cd_BadText "BadText.__init__" = true)
    (fk_BadText : PySem.W.keepIn K (.ref F_BadText) = true) : Txt K mg where
  d_are_signs := ⟨f0, _, fun_mk (st := s_are_signs) l0 c0 k0, (fun_mk (st := s_are_signs) l0 c0 k0).binds fun _ _ _ _ _ _ us hl => match us, hl with | [_], _ => rfl, PySem.W.mg_of X G a0⟩
  c_are_signs := cd0
  t_are_signs := tb0
  k_are_signs := ⟨⟨oc0, od0, kV0, dc0, pm0, an0, ct0, sl0, rfl, l0, c0⟩⟩
  d_can_be_a_set := ⟨f1, _, fun_mk (st := s_can_be_a_set) l1 c1 k1, (fun_mk (st := s_can_be_a_set) l1 c1 k1).binds fun _ _ _ _ _ _ us hl => match us, hl with | [_], _ => rfl, PySem.W.mg_of X G a1⟩
  d_check_sheet := ⟨f2, _, fun_mk (st := s_check_sheet) l2 c2 k2, (fun_mk (st := s_check_sheet) l2 c2 k2).binds fun _ _ _ _ _ _ us hl => match us, hl with | [_], _ => rfl, PySem.W.mg_of X G a2⟩
  d_are_figures := ⟨f3, _, fun_mk (st := s_are_figures) l3 c3 k3, (fun_mk (st := s_are_figures) l3 c3 k3).binds fun _ _ _ _ _ _ us hl => match us, hl with | [_], _ => rfl, PySem.W.mg_of X G a3⟩
  c_are_figures := cd3
  t_are_figures := tb3
  k_are_figures := ⟨⟨oc3, od3, kV3, dc3, pm3, an3, ct3, sl3, rfl, l3, c3⟩⟩
  d_is_good := ⟨f4, _, fun_mk (st := s_is_good) l4 c4 k4, (fun_mk (st := s_is_good) l4 c4 k4).binds fun _ _ _ _ _ _ us hl => match us, hl with | [_, _], _ => rfl, PySem.W.mg_of X G a4⟩
  d_check_rows := ⟨f5, _, fun_mk (st := s_check_rows) l5 c5 k5, (fun_mk (st := s_check_rows) l5 c5 k5).binds fun _ _ _ _ _ _ us hl => match us, hl with | [_], _ => rfl, PySem.W.mg_of X G a5⟩
  d_read_sheet := ⟨f6, _, fun_mk (st := s_read_sheet) l6 c6 k6, (fun_mk (st := s_read_sheet) l6 c6 k6).binds fun _ _ _ _ _ _ us hl => match us, hl with | [_], _ => rfl, PySem.W.mg_of X G a6⟩
  d_l_begun := ⟨f7, _, fun_mk (st := s_l_begun) l7 c7 k7, (fun_mk (st := s_l_begun) l7 c7 k7).binds fun _ _ _ _ _ _ us hl => match us, hl with | [_], _ => rfl, PySem.W.mg_of X G a7⟩
  d_l_take := ⟨f8, _, fun_mk (st := s_l_take) l8 c8 k8, (fun_mk (st := s_l_take) l8 c8 k8).binds fun _ _ _ _ _ _ us hl => match us, hl with | [_, _], _ => rfl, PySem.W.mg_of X G a8⟩
  d_l_alike := ⟨f9, _, fun_mk (st := s_l_alike) l9 c9 k9, (fun_mk (st := s_l_alike) l9 c9 k9).binds fun _ _ _ _ _ _ us hl => match us, hl with | [_, _], _ => rfl, PySem.W.mg_of X G a9⟩
  d_l_class := ⟨f10, _, fun_mk (st := s_l_class) l10 c10 k10, (fun_mk (st := s_l_class) l10 c10 k10).binds fun _ _ _ _ _ _ us hl => match us, hl with | [_], _ => rfl, PySem.W.mg_of X G a10⟩
  d_l_picked := ⟨f11, _, fun_mk (st := s_l_picked) l11 c11 k11, (fun_mk (st := s_l_picked) l11 c11 k11).binds fun _ _ _ _ _ _ us hl => match us, hl with | [_, _, _], _ => rfl, PySem.W.mg_of X G a11⟩
  d_l_sheet := ⟨f12, _, fun_mk (st := s_l_sheet) l12 c12 k12, (fun_mk (st := s_l_sheet) l12 c12 k12).binds fun _ _ _ _ _ _ us hl => match us, hl with | [_, _], _ => rfl, PySem.W.mg_of X G a12⟩
  d_l_spoilt := ⟨f13, _, fun_mk (st := s_l_spoilt) l13 c13 k13, (fun_mk (st := s_l_spoilt) l13 c13 k13).binds fun _ _ _ _ _ _ us hl => match us, hl with | [_, _], _ => rfl, PySem.W.mg_of X G a13⟩
  d_l_home := ⟨f14, _, fun_mk (st := s_l_home) l14 c14 k14, (fun_mk (st := s_l_home) l14 c14 k14).binds fun _ _ _ _ _ _ us hl => match us, hl with | [_], _ => rfl, PySem.W.mg_of X G a14⟩
  d_l_due := ⟨f15, _, fun_mk (st := s_l_due) l15 c15 k15, (fun_mk (st := s_l_due) l15 c15 k15).binds fun _ _ _ _ _ _ us hl => match us, hl with | [_], _ => rfl, PySem.W.mg_of X G a15⟩
  d_l_told := ⟨f16, _, fun_mk (st := s_l_told) l16 c16 k16, (fun_mk (st := s_l_told) l16 c16 k16).binds fun _ _ _ _ _ _ us hl => match us, hl with | [_], _ => rfl, PySem.W.mg_of X G a16⟩
  d_law := ⟨f17, _, fun_mk (st := s_law) l17 c17 k17, (fun_mk (st := s_law) l17 c17 k17).binds fun _ _ _ _ _ _ us hl => match us, hl with | [_], _ => rfl, PySem.W.mg_of X G a17⟩
  n_ValueError := PySem.W.mg_none_of X G z_ValueError
  n_all := PySem.W.mg_none_of X G z_all
  n_bool := PySem.W.mg_none_of X G z_bool
  n_enumerate := PySem.W.mg_none_of X G z_enumerate
  n_int := PySem.W.mg_none_of X G z_int
  n_isinstance := PySem.W.mg_none_of X G z_isinstance
  n_len := PySem.W.mg_none_of X G z_len
  n_list := PySem.W.mg_none_of X G z_list
  n_range := PySem.W.mg_none_of X G z_range
  n_set := PySem.W.mg_none_of X G z_set
  n_str := PySem.W.mg_none_of X G z_str
  n_tuple := PySem.W.mg_none_of X G z_tuple
  c_MOST_PLACES := ⟨_, PySem.W.mg_of X G y_MOST_PLACES⟩
  c_NO_HOME := ⟨_, PySem.W.mg_of X G y_NO_HOME⟩
  c_ROWS := ⟨_, PySem.W.mg_of X G y_ROWS⟩
  C_TapeError := C_TapeError
  bc := ⟨PySem.W.mg_of X G g_TapeError, t_rd, t_sg, t_fc⟩
  ob := ⟨hn, ht⟩
  C_BadSheet := C_BadSheet
  x_BadSheet := ⟨PySem.W.mg_of X G g_BadSheet, kp_BadSheet, sb_BadSheet, ty_BadSheet, ci_BadSheet, ga_BadSheet, gg_BadSheet, hd_BadSheet, cl_BadSheet, mr_BadSheet⟩
  kd_BadSheet := Kt.kind_mk (x := "BadSheet") ⟨PySem.W.mg_of X G g_BadSheet, kp_BadSheet, sb_BadSheet, ty_BadSheet, ci_BadSheet, ga_BadSheet, gg_BadSheet, hd_BadSheet, cl_BadSheet, mr_BadSheet⟩ rfl (Kt.kit_ref ci_BadSheet ty_BadSheet su_BadSheet_BadSheet su_BadSheet_BadSheet) (Kt.kit_ref ci_BadSet ty_BadSet su_BadSheet_BadSheet su_BadSheet_BadSet) (Kt.kit_ref ci_BadTape ty_BadTape su_BadSheet_BadSheet su_BadSheet_BadTape) (Kt.kit_ref ci_NoSign ty_NoSign su_BadSheet_BadSheet su_BadSheet_NoSign) (Kt.kit_ref ci_BadCount ty_BadCount su_BadSheet_BadSheet su_BadSheet_BadCount) (Kt.kit_ref ci_BadText ty_BadText su_BadSheet_BadSheet su_BadSheet_BadText) (Kt.kit_ve kv_BadSheet) (PySem.W.exm_ref t_sb t_hd t_ty em_BadSheet)
  q_BadSheet := q_BadSheet
  C_BadSet := C_BadSet
  x_BadSet := ⟨PySem.W.mg_of X G g_BadSet, kp_BadSet, sb_BadSet, ty_BadSet, ci_BadSet, ga_BadSet, gg_BadSet, hd_BadSet, cl_BadSet, mr_BadSet⟩
  kd_BadSet := Kt.kind_mk (x := "BadSet") ⟨PySem.W.mg_of X G g_BadSet, kp_BadSet, sb_BadSet, ty_BadSet, ci_BadSet, ga_BadSet, gg_BadSet, hd_BadSet, cl_BadSet, mr_BadSet⟩ rfl (Kt.kit_ref ci_BadSheet ty_BadSheet su_BadSet_BadSet su_BadSet_BadSheet) (Kt.kit_ref ci_BadSet ty_BadSet su_BadSet_BadSet su_BadSet_BadSet) (Kt.kit_ref ci_BadTape ty_BadTape su_BadSet_BadSet su_BadSet_BadTape) (Kt.kit_ref ci_NoSign ty_NoSign su_BadSet_BadSet su_BadSet_NoSign) (Kt.kit_ref ci_BadCount ty_BadCount su_BadSet_BadSet su_BadSet_BadCount) (Kt.kit_ref ci_BadText ty_BadText su_BadSet_BadSet su_BadSet_BadText) (Kt.kit_ve kv_BadSet) (PySem.W.exm_ref t_sb t_hd t_ty em_BadSet)
  q_BadSet := q_BadSet
  C_BadTape := C_BadTape
  x_BadTape := ⟨PySem.W.mg_of X G g_BadTape, kp_BadTape, sb_BadTape, ty_BadTape, ci_BadTape, ga_BadTape, gg_BadTape, hd_BadTape, cl_BadTape, mr_BadTape⟩
  kd_BadTape := Kt.kind_mk (x := "BadTape") ⟨PySem.W.mg_of X G g_BadTape, kp_BadTape, sb_BadTape, ty_BadTape, ci_BadTape, ga_BadTape, gg_BadTape, hd_BadTape, cl_BadTape, mr_BadTape⟩ rfl (Kt.kit_ref ci_BadSheet ty_BadSheet su_BadTape_BadTape su_BadTape_BadSheet) (Kt.kit_ref ci_BadSet ty_BadSet su_BadTape_BadTape su_BadTape_BadSet) (Kt.kit_ref ci_BadTape ty_BadTape su_BadTape_BadTape su_BadTape_BadTape) (Kt.kit_ref ci_NoSign ty_NoSign su_BadTape_BadTape su_BadTape_NoSign) (Kt.kit_ref ci_BadCount ty_BadCount su_BadTape_BadTape su_BadTape_BadCount) (Kt.kit_ref ci_BadText ty_BadText su_BadTape_BadTape su_BadTape_BadText) (Kt.kit_ve kv_BadTape) (PySem.W.exm_ref t_sb t_hd t_ty em_BadTape)
  in_BadTape := ⟨F_BadTape, _, ⟨⟨_, _, _, _, _, _, _, _, _, _, _, _, _, _, _, l_BadTape, rv_BadTape⟩, sa_BadTape, sb_BadTape, ty_BadTape, kp_BadTape⟩, ii_BadTape, ti_BadTape, fun_mk (st := s_init_BadTape) fl_BadTape fc_BadTape fk_BadTape, (fun_mk (st := s_init_BadTape) fl_BadTape fc_BadTape fk_BadTape).binds fun _ _ _ _ _ _ us hl => match us, hl with | [_, _], _ => rfl, no_BadTape⟩
  C_NoSign := C_NoSign
  x_NoSign := ⟨PySem.W.mg_of X G g_NoSign, kp_NoSign, sb_NoSign, ty_NoSign, ci_NoSign, ga_NoSign, gg_NoSign, hd_NoSign, cl_NoSign, mr_NoSign⟩
  kd_NoSign := Kt.kind_mk (x := "NoSign") ⟨PySem.W.mg_of X G g_NoSign, kp_NoSign, sb_NoSign, ty_NoSign, ci_NoSign, ga_NoSign, gg_NoSign, hd_NoSign, cl_NoSign, mr_NoSign⟩ rfl (Kt.kit_ref ci_BadSheet ty_BadSheet su_NoSign_NoSign su_NoSign_BadSheet) (Kt.kit_ref ci_BadSet ty_BadSet su_NoSign_NoSign su_NoSign_BadSet) (Kt.kit_ref ci_BadTape ty_BadTape su_NoSign_NoSign su_NoSign_BadTape) (Kt.kit_ref ci_NoSign ty_NoSign su_NoSign_NoSign su_NoSign_NoSign) (Kt.kit_ref ci_BadCount ty_BadCount su_NoSign_NoSign su_NoSign_BadCount) (Kt.kit_ref ci_BadText ty_BadText su_NoSign_NoSign su_NoSign_BadText) (Kt.kit_ve kv_NoSign) (PySem.W.exm_ref t_sb t_hd t_ty em_NoSign)
  in_NoSign := ⟨F_NoSign, _, ⟨⟨_, _, _, _, _, _, _, _, _, _, _, _, _, _, _, l_NoSign, rv_NoSign⟩, sa_NoSign, sb_NoSign, ty_NoSign, kp_NoSign⟩, ii_NoSign, ti_NoSign, fun_mk (st := s_init_NoSign) fl_NoSign fc_NoSign fk_NoSign, (fun_mk (st := s_init_NoSign) fl_NoSign fc_NoSign fk_NoSign).binds fun _ _ _ _ _ _ us hl => match us, hl with | [_, _], _ => rfl, no_NoSign⟩
  C_BadCount := C_BadCount
  x_BadCount := ⟨PySem.W.mg_of X G g_BadCount, kp_BadCount, sb_BadCount, ty_BadCount, ci_BadCount, ga_BadCount, gg_BadCount, hd_BadCount, cl_BadCount, mr_BadCount⟩
  kd_BadCount := Kt.kind_mk (x := "BadCount") ⟨PySem.W.mg_of X G g_BadCount, kp_BadCount, sb_BadCount, ty_BadCount, ci_BadCount, ga_BadCount, gg_BadCount, hd_BadCount, cl_BadCount, mr_BadCount⟩ rfl (Kt.kit_ref ci_BadSheet ty_BadSheet su_BadCount_BadCount su_BadCount_BadSheet) (Kt.kit_ref ci_BadSet ty_BadSet su_BadCount_BadCount su_BadCount_BadSet) (Kt.kit_ref ci_BadTape ty_BadTape su_BadCount_BadCount su_BadCount_BadTape) (Kt.kit_ref ci_NoSign ty_NoSign su_BadCount_BadCount su_BadCount_NoSign) (Kt.kit_ref ci_BadCount ty_BadCount su_BadCount_BadCount su_BadCount_BadCount) (Kt.kit_ref ci_BadText ty_BadText su_BadCount_BadCount su_BadCount_BadText) (Kt.kit_ve kv_BadCount) (PySem.W.exm_ref t_sb t_hd t_ty em_BadCount)
  q_BadCount := q_BadCount
  C_BadText := C_BadText
  x_BadText := ⟨PySem.W.mg_of X G g_BadText, kp_BadText, sb_BadText, ty_BadText, ci_BadText, ga_BadText, gg_BadText, hd_BadText, cl_BadText, mr_BadText⟩
  kd_BadText := Kt.kind_mk (x := "BadText") ⟨PySem.W.mg_of X G g_BadText, kp_BadText, sb_BadText, ty_BadText, ci_BadText, ga_BadText, gg_BadText, hd_BadText, cl_BadText, mr_BadText⟩ rfl (Kt.kit_ref ci_BadSheet ty_BadSheet su_BadText_BadText su_BadText_BadSheet) (Kt.kit_ref ci_BadSet ty_BadSet su_BadText_BadText su_BadText_BadSet) (Kt.kit_ref ci_BadTape ty_BadTape su_BadText_BadText su_BadText_BadTape) (Kt.kit_ref ci_NoSign ty_NoSign su_BadText_BadText su_BadText_NoSign) (Kt.kit_ref ci_BadCount ty_BadCount su_BadText_BadText su_BadText_BadCount) (Kt.kit_ref ci_BadText ty_BadText su_BadText_BadText su_BadText_BadText) (Kt.kit_ve kv_BadText) (PySem.W.exm_ref t_sb t_hd t_ty em_BadText)
  in_BadText := ⟨F_BadText, _, ⟨⟨_, _, _, _, _, _, _, _, _, _, _, _, _, _, _, l_BadText, rv_BadText⟩, sa_BadText, sb_BadText, ty_BadText, kp_BadText⟩, ii_BadText, ti_BadText, fun_mk (st := s_init_BadText) fl_BadText fc_BadText fk_BadText, (fun_mk (st := s_init_BadText) fl_BadText fc_BadText fk_BadText).binds fun _ _ _ _ _ _ us hl => match us, hl with | [_, _], _ => rfl, no_BadText⟩
theorem law_at {w : World} {K : PySem.W.Frag} {h : Heap} {mg : Str → Option Value} {q : Program} {fa f0 tb0 f1 f2 f3 tb3 f4 f5 f6 f7 f8 f9 f10 f11 f12 f13 f14 f15 f16 f17 C_BadSheet C_BadSet C_BadTape C_NoSign C_BadCount C_BadText C_TapeError F_BadTape F_NoSign F_BadText : Addr} (X : K.In h) (G : h.Ns mainGlobals mg) (hmg : mg "law" = some (.ref fa))
    (tabs : ∀ (y : Str) (c P : Addr), ((recsOf q).any fun r => r.name == y) = true → PySem.W.tabIn K y = some (c, P) → PySem.W.CodeHd h c P ∧ h.get? P = some (PySem.W.tabObj #[]))
    {oc0 : Value} {od0 an0 : Option Addr} {sl0 : Array (Option Value)} {kV0 dc0 pm0 ct0 : Value} {cd0 : Addr}
    (a0 : PySem.W.nsIn K mainGlobals "are_signs" = some (some (.ref f0))) (l0 : K.lookup f0 = some ⟨oc0, od0, .func (PySem.W.fnOf "are_signs" "are_signs" (defArgs s_are_signs) (defBody s_are_signs) (defScope s_are_signs) .none kV0 dc0 pm0 an0 (.ref cd0) ct0), sl0⟩) (c0 : PySem.W.codeIn K (.ref cd0) "are_signs" = true) (k0 : PySem.W.keepIn K (.ref f0) = true)
    {oc1 : Value} {od1 an1 : Option Addr} {sl1 : Array (Option Value)} {kV1 dc1 pm1 ct1 : Value} {cd1 : Value}
    (a1 : PySem.W.nsIn K mainGlobals "_can_be_a_set" = some (some (.ref f1))) (l1 : K.lookup f1 = some ⟨oc1, od1, .func (PySem.W.fnOf "_can_be_a_set" "_can_be_a_set" (defArgs s_can_be_a_set) (defBody s_can_be_a_set) (defScope s_can_be_a_set) .none kV1 dc1 pm1 an1 cd1 ct1), sl1⟩) (c1 : PySem.W.codeIn K cd1 "_can_be_a_set" = true) (k1 : PySem.W.keepIn K (.ref f1) = true)
    {oc2 : Value} {od2 an2 : Option Addr} {sl2 : Array (Option Value)} {kV2 dc2 pm2 ct2 : Value} {cd2 : Value}
    (a2 : PySem.W.nsIn K mainGlobals "check_sheet" = some (some (.ref f2))) (l2 : K.lookup f2 = some ⟨oc2, od2, .func (PySem.W.fnOf "check_sheet" "check_sheet" (defArgs s_check_sheet) (defBody s_check_sheet) (defScope s_check_sheet) .none kV2 dc2 pm2 an2 cd2 ct2), sl2⟩) (c2 : PySem.W.codeIn K cd2 "check_sheet" = true) (k2 : PySem.W.keepIn K (.ref f2) = true)
    {oc3 : Value} {od3 an3 : Option Addr} {sl3 : Array (Option Value)} {kV3 dc3 pm3 ct3 : Value} {cd3 : Addr}
    (a3 : PySem.W.nsIn K mainGlobals "_are_figures" = some (some (.ref f3))) (l3 : K.lookup f3 = some ⟨oc3, od3, .func (PySem.W.fnOf "_are_figures" "_are_figures" (defArgs s_are_figures) (defBody s_are_figures) (defScope s_are_figures) .none kV3 dc3 pm3 an3 (.ref cd3) ct3), sl3⟩) (c3 : PySem.W.codeIn K (.ref cd3) "_are_figures" = true) (k3 : PySem.W.keepIn K (.ref f3) = true)
    {oc4 : Value} {od4 an4 : Option Addr} {sl4 : Array (Option Value)} {kV4 dc4 pm4 ct4 : Value} {cd4 : Value}
    (a4 : PySem.W.nsIn K mainGlobals "_is_good" = some (some (.ref f4))) (l4 : K.lookup f4 = some ⟨oc4, od4, .func (PySem.W.fnOf "_is_good" "_is_good" (defArgs s_is_good) (defBody s_is_good) (defScope s_is_good) .none kV4 dc4 pm4 an4 cd4 ct4), sl4⟩) (c4 : PySem.W.codeIn K cd4 "_is_good" = true) (k4 : PySem.W.keepIn K (.ref f4) = true)
    {oc5 : Value} {od5 an5 : Option Addr} {sl5 : Array (Option Value)} {kV5 dc5 pm5 ct5 : Value} {cd5 : Value}
    (a5 : PySem.W.nsIn K mainGlobals "_check_rows" = some (some (.ref f5))) (l5 : K.lookup f5 = some ⟨oc5, od5, .func (PySem.W.fnOf "_check_rows" "_check_rows" (defArgs s_check_rows) (defBody s_check_rows) (defScope s_check_rows) .none kV5 dc5 pm5 an5 cd5 ct5), sl5⟩) (c5 : PySem.W.codeIn K cd5 "_check_rows" = true) (k5 : PySem.W.keepIn K (.ref f5) = true)
    {oc6 : Value} {od6 an6 : Option Addr} {sl6 : Array (Option Value)} {kV6 dc6 pm6 ct6 : Value} {cd6 : Value}
    (a6 : PySem.W.nsIn K mainGlobals "read_sheet" = some (some (.ref f6))) (l6 : K.lookup f6 = some ⟨oc6, od6, .func (PySem.W.fnOf "read_sheet" "read_sheet" (defArgs s_read_sheet) (defBody s_read_sheet) (defScope s_read_sheet) .none kV6 dc6 pm6 an6 cd6 ct6), sl6⟩) (c6 : PySem.W.codeIn K cd6 "read_sheet" = true) (k6 : PySem.W.keepIn K (.ref f6) = true)
    {oc7 : Value} {od7 an7 : Option Addr} {sl7 : Array (Option Value)} {kV7 dc7 pm7 ct7 : Value} {cd7 : Value}
    (a7 : PySem.W.nsIn K mainGlobals "_law_begun" = some (some (.ref f7))) (l7 : K.lookup f7 = some ⟨oc7, od7, .func (PySem.W.fnOf "_law_begun" "_law_begun" (defArgs s_l_begun) (defBody s_l_begun) (defScope s_l_begun) .none kV7 dc7 pm7 an7 cd7 ct7), sl7⟩) (c7 : PySem.W.codeIn K cd7 "_law_begun" = true) (k7 : PySem.W.keepIn K (.ref f7) = true)
    {oc8 : Value} {od8 an8 : Option Addr} {sl8 : Array (Option Value)} {kV8 dc8 pm8 ct8 : Value} {cd8 : Value}
    (a8 : PySem.W.nsIn K mainGlobals "_law_take" = some (some (.ref f8))) (l8 : K.lookup f8 = some ⟨oc8, od8, .func (PySem.W.fnOf "_law_take" "_law_take" (defArgs s_l_take) (defBody s_l_take) (defScope s_l_take) .none kV8 dc8 pm8 an8 cd8 ct8), sl8⟩) (c8 : PySem.W.codeIn K cd8 "_law_take" = true) (k8 : PySem.W.keepIn K (.ref f8) = true)
    {oc9 : Value} {od9 an9 : Option Addr} {sl9 : Array (Option Value)} {kV9 dc9 pm9 ct9 : Value} {cd9 : Value}
    (a9 : PySem.W.nsIn K mainGlobals "_law_alike" = some (some (.ref f9))) (l9 : K.lookup f9 = some ⟨oc9, od9, .func (PySem.W.fnOf "_law_alike" "_law_alike" (defArgs s_l_alike) (defBody s_l_alike) (defScope s_l_alike) .none kV9 dc9 pm9 an9 cd9 ct9), sl9⟩) (c9 : PySem.W.codeIn K cd9 "_law_alike" = true) (k9 : PySem.W.keepIn K (.ref f9) = true)
    {oc10 : Value} {od10 an10 : Option Addr} {sl10 : Array (Option Value)} {kV10 dc10 pm10 ct10 : Value} {cd10 : Value}
    (a10 : PySem.W.nsIn K mainGlobals "_law_class" = some (some (.ref f10))) (l10 : K.lookup f10 = some ⟨oc10, od10, .func (PySem.W.fnOf "_law_class" "_law_class" (defArgs s_l_class) (defBody s_l_class) (defScope s_l_class) .none kV10 dc10 pm10 an10 cd10 ct10), sl10⟩) (c10 : PySem.W.codeIn K cd10 "_law_class" = true) (k10 : PySem.W.keepIn K (.ref f10) = true)
    {oc11 : Value} {od11 an11 : Option Addr} {sl11 : Array (Option Value)} {kV11 dc11 pm11 ct11 : Value} {cd11 : Value}
    (a11 : PySem.W.nsIn K mainGlobals "_law_picked" = some (some (.ref f11))) (l11 : K.lookup f11 = some ⟨oc11, od11, .func (PySem.W.fnOf "_law_picked" "_law_picked" (defArgs s_l_picked) (defBody s_l_picked) (defScope s_l_picked) .none kV11 dc11 pm11 an11 cd11 ct11), sl11⟩) (c11 : PySem.W.codeIn K cd11 "_law_picked" = true) (k11 : PySem.W.keepIn K (.ref f11) = true)
    {oc12 : Value} {od12 an12 : Option Addr} {sl12 : Array (Option Value)} {kV12 dc12 pm12 ct12 : Value} {cd12 : Value}
    (a12 : PySem.W.nsIn K mainGlobals "_law_sheet" = some (some (.ref f12))) (l12 : K.lookup f12 = some ⟨oc12, od12, .func (PySem.W.fnOf "_law_sheet" "_law_sheet" (defArgs s_l_sheet) (defBody s_l_sheet) (defScope s_l_sheet) .none kV12 dc12 pm12 an12 cd12 ct12), sl12⟩) (c12 : PySem.W.codeIn K cd12 "_law_sheet" = true) (k12 : PySem.W.keepIn K (.ref f12) = true)
    {oc13 : Value} {od13 an13 : Option Addr} {sl13 : Array (Option Value)} {kV13 dc13 pm13 ct13 : Value} {cd13 : Value}
    (a13 : PySem.W.nsIn K mainGlobals "_law_spoilt" = some (some (.ref f13))) (l13 : K.lookup f13 = some ⟨oc13, od13, .func (PySem.W.fnOf "_law_spoilt" "_law_spoilt" (defArgs s_l_spoilt) (defBody s_l_spoilt) (defScope s_l_spoilt) .none kV13 dc13 pm13 an13 cd13 ct13), sl13⟩) (c13 : PySem.W.codeIn K cd13 "_law_spoilt" = true) (k13 : PySem.W.keepIn K (.ref f13) = true)
    {oc14 : Value} {od14 an14 : Option Addr} {sl14 : Array (Option Value)} {kV14 dc14 pm14 ct14 : Value} {cd14 : Value}
    (a14 : PySem.W.nsIn K mainGlobals "_law_home" = some (some (.ref f14))) (l14 : K.lookup f14 = some ⟨oc14, od14, .func (PySem.W.fnOf "_law_home" "_law_home" (defArgs s_l_home) (defBody s_l_home) (defScope s_l_home) .none kV14 dc14 pm14 an14 cd14 ct14), sl14⟩) (c14 : PySem.W.codeIn K cd14 "_law_home" = true) (k14 : PySem.W.keepIn K (.ref f14) = true)
    {oc15 : Value} {od15 an15 : Option Addr} {sl15 : Array (Option Value)} {kV15 dc15 pm15 ct15 : Value} {cd15 : Value}
    (a15 : PySem.W.nsIn K mainGlobals "_law_due" = some (some (.ref f15))) (l15 : K.lookup f15 = some ⟨oc15, od15, .func (PySem.W.fnOf "_law_due" "_law_due" (defArgs s_l_due) (defBody s_l_due) (defScope s_l_due) .none kV15 dc15 pm15 an15 cd15 ct15), sl15⟩) (c15 : PySem.W.codeIn K cd15 "_law_due" = true) (k15 : PySem.W.keepIn K (.ref f15) = true)
    {oc16 : Value} {od16 an16 : Option Addr} {sl16 : Array (Option Value)} {kV16 dc16 pm16 ct16 : Value} {cd16 : Value}
    (a16 : PySem.W.nsIn K mainGlobals "_law_told" = some (some (.ref f16))) (l16 : K.lookup f16 = some ⟨oc16, od16, .func (PySem.W.fnOf "_law_told" "_law_told" (defArgs s_l_told) (defBody s_l_told) (defScope s_l_told) .none kV16 dc16 pm16 an16 cd16 ct16), sl16⟩) (c16 : PySem.W.codeIn K cd16 "_law_told" = true) (k16 : PySem.W.keepIn K (.ref f16) = true)
    {oc17 : Value} {od17 an17 : Option Addr} {sl17 : Array (Option Value)} {kV17 dc17 pm17 ct17 : Value} {cd17 : Value}
    (a17 : PySem.W.nsIn K mainGlobals "law" = some (some (.ref f17))) (l17 : K.lookup f17 = some ⟨oc17, od17, .func (PySem.W.fnOf "law" "law" (defArgs s_law) (defBody s_law) (defScope s_law) .none kV17 dc17 pm17 an17 cd17 ct17), sl17⟩) (c17 : PySem.W.codeIn K cd17 "law" = true) (k17 : PySem.W.keepIn K (.ref f17) = true)
    (z_ValueError : PySem.W.nsIn K mainGlobals "ValueError" = some none)
    (z_all : PySem.W.nsIn K mainGlobals "all" = some none)
    (z_bool : PySem.W.nsIn K mainGlobals "bool" = some none)
    (z_enumerate : PySem.W.nsIn K mainGlobals "enumerate" = some none)
    (z_int : PySem.W.nsIn K mainGlobals "int" = some none)
    (z_isinstance : PySem.W.nsIn K mainGlobals "isinstance" = some none)
    (z_len : PySem.W.nsIn K mainGlobals "len" = some none)
    (z_list : PySem.W.nsIn K mainGlobals "list" = some none)
    (z_range : PySem.W.nsIn K mainGlobals "range" = some none)
    (z_set : PySem.W.nsIn K mainGlobals "set" = some none)
    (z_str : PySem.W.nsIn K mainGlobals "str" = some none)
    (z_tuple : PySem.W.nsIn K mainGlobals "tuple" = some none)
    {t_MOST_PLACES : Tok} (y_MOST_PLACES : PySem.W.nsIn K mainGlobals "MOST_PLACES" = some (some (.int 26 t_MOST_PLACES)))
    {t_NO_HOME : Tok} (y_NO_HOME : PySem.W.nsIn K mainGlobals "NO_HOME" = some (some (.str "-" t_NO_HOME)))
    {t_ROWS : Tok} (y_ROWS : PySem.W.nsIn K mainGlobals "ROWS" = some (some (.int 3 t_ROWS)))
    (g_BadSheet : PySem.W.nsIn K mainGlobals "BadSheet" = some (some (.ref C_BadSheet)))
    (g_BadSet : PySem.W.nsIn K mainGlobals "BadSet" = some (some (.ref C_BadSet)))
    (g_BadTape : PySem.W.nsIn K mainGlobals "BadTape" = some (some (.ref C_BadTape)))
    (g_NoSign : PySem.W.nsIn K mainGlobals "NoSign" = some (some (.ref C_NoSign)))
    (g_BadCount : PySem.W.nsIn K mainGlobals "BadCount" = some (some (.ref C_BadCount)))
    (g_BadText : PySem.W.nsIn K mainGlobals "BadText" = some (some (.ref C_BadText)))
    (g_TapeError : PySem.W.nsIn K mainGlobals "TapeError" = some (some (.ref C_TapeError)))
    (t_sb : PySem.W.subIn K (.ref C_TapeError) (.type "BaseException") = some true)
    (t_ty : PySem.W.typeIn K (.ref C_TapeError) = some (.type "type"))
    (t_hd : PySem.W.hasDictIn K C_TapeError = true)
    (hn : PySem.W.specialIn K (.builtin "object.__class__") "__get__" = some (some (.builtin "getset_descriptor.__get__")))
    (ht : PySem.W.takesIn K (.builtin "object.__class__") = some true)
    (t_rd : PySem.W.readsIn K C_TapeError (.type "type") = true)
    (t_sg : PySem.W.specialIn K (.ref C_TapeError) "__getattribute__" = some (some (.builtin "type.__getattribute__")))
    (t_fc : PySem.W.findCls K (.ref C_TapeError) (.type "type") "__init__" = some (.val (.builtin "ValueError.__init__")))
    (kp_BadSheet : PySem.W.keepIn K (.ref C_BadSheet) = true)
    (sb_BadSheet : PySem.W.subIn K (.ref C_BadSheet) (.type "BaseException") = some true)
    (ty_BadSheet : PySem.W.typeIn K (.ref C_BadSheet) = some (.type "type"))
    (ci_BadSheet : PySem.W.isClsIn K C_BadSheet = true)
    (ga_BadSheet : PySem.W.findIn K (.ref C_BadSheet) "__getattribute__" = some (some (.builtin "BaseException.__getattribute__")))
    (gg_BadSheet : PySem.W.findIn K (.ref C_BadSheet) "__getattr__" = some none)
    (hd_BadSheet : PySem.W.hasDictIn K C_BadSheet = true)
    (cl_BadSheet : PySem.W.findIn K (.ref C_BadSheet) "__class__" = some (some (.builtin "object.__class__")))
    (mr_BadSheet : PySem.W.mroIn K C_BadSheet (.type "object") = some true)
    (kv_BadSheet : PySem.W.subIn K (.ref C_BadSheet) (.type "ValueError") = some true)
    (em_BadSheet : PySem.W.subIn K (.ref C_BadSheet) (.ref C_TapeError) = some true)
    (su_BadSheet_BadSheet : PySem.W.subIn K (.ref C_BadSheet) (.ref C_BadSheet) = some true)
    (su_BadSheet_BadSet : PySem.W.subIn K (.ref C_BadSheet) (.ref C_BadSet) = some false)
    (su_BadSheet_BadTape : PySem.W.subIn K (.ref C_BadSheet) (.ref C_BadTape) = some false)
    (su_BadSheet_NoSign : PySem.W.subIn K (.ref C_BadSheet) (.ref C_NoSign) = some false)
    (su_BadSheet_BadCount : PySem.W.subIn K (.ref C_BadSheet) (.ref C_BadCount) = some false)
    (su_BadSheet_BadText : PySem.W.subIn K (.ref C_BadSheet) (.ref C_BadText) = some false)
    (kp_BadSet : PySem.W.keepIn K (.ref C_BadSet) = true)
    (sb_BadSet : PySem.W.subIn K (.ref C_BadSet) (.type "BaseException") = some true)
    (ty_BadSet : PySem.W.typeIn K (.ref C_BadSet) = some (.type "type"))
    (ci_BadSet : PySem.W.isClsIn K C_BadSet = true)
    (ga_BadSet : PySem.W.findIn K (.ref C_BadSet) "__getattribute__" = some (some (.builtin "BaseException.__getattribute__")))
    (gg_BadSet : PySem.W.findIn K (.ref C_BadSet) "__getattr__" = some none)
    (hd_BadSet : PySem.W.hasDictIn K C_BadSet = true)
    (cl_BadSet : PySem.W.findIn K (.ref C_BadSet) "__class__" = some (some (.builtin "object.__class__")))
    (mr_BadSet : PySem.W.mroIn K C_BadSet (.type "object") = some true)
    (kv_BadSet : PySem.W.subIn K (.ref C_BadSet) (.type "ValueError") = some true)
    (em_BadSet : PySem.W.subIn K (.ref C_BadSet) (.ref C_TapeError) = some true)
    (su_BadSet_BadSheet : PySem.W.subIn K (.ref C_BadSet) (.ref C_BadSheet) = some false)
    (su_BadSet_BadSet : PySem.W.subIn K (.ref C_BadSet) (.ref C_BadSet) = some true)
    (su_BadSet_BadTape : PySem.W.subIn K (.ref C_BadSet) (.ref C_BadTape) = some false)
    (su_BadSet_NoSign : PySem.W.subIn K (.ref C_BadSet) (.ref C_NoSign) = some false)
    (su_BadSet_BadCount : PySem.W.subIn K (.ref C_BadSet) (.ref C_BadCount) = some false)
    (su_BadSet_BadText : PySem.W.subIn K (.ref C_BadSet) (.ref C_BadText) = some false)
    (kp_BadTape : PySem.W.keepIn K (.ref C_BadTape) = true)
    (sb_BadTape : PySem.W.subIn K (.ref C_BadTape) (.type "BaseException") = some true)
    (ty_BadTape : PySem.W.typeIn K (.ref C_BadTape) = some (.type "type"))
    (ci_BadTape : PySem.W.isClsIn K C_BadTape = true)
    (ga_BadTape : PySem.W.findIn K (.ref C_BadTape) "__getattribute__" = some (some (.builtin "BaseException.__getattribute__")))
    (gg_BadTape : PySem.W.findIn K (.ref C_BadTape) "__getattr__" = some none)
    (hd_BadTape : PySem.W.hasDictIn K C_BadTape = true)
    (cl_BadTape : PySem.W.findIn K (.ref C_BadTape) "__class__" = some (some (.builtin "object.__class__")))
    (mr_BadTape : PySem.W.mroIn K C_BadTape (.type "object") = some true)
    (kv_BadTape : PySem.W.subIn K (.ref C_BadTape) (.type "ValueError") = some true)
    (em_BadTape : PySem.W.subIn K (.ref C_BadTape) (.ref C_TapeError) = some true)
    (su_BadTape_BadSheet : PySem.W.subIn K (.ref C_BadTape) (.ref C_BadSheet) = some false)
    (su_BadTape_BadSet : PySem.W.subIn K (.ref C_BadTape) (.ref C_BadSet) = some false)
    (su_BadTape_BadTape : PySem.W.subIn K (.ref C_BadTape) (.ref C_BadTape) = some true)
    (su_BadTape_NoSign : PySem.W.subIn K (.ref C_BadTape) (.ref C_NoSign) = some false)
    (su_BadTape_BadCount : PySem.W.subIn K (.ref C_BadTape) (.ref C_BadCount) = some false)
    (su_BadTape_BadText : PySem.W.subIn K (.ref C_BadTape) (.ref C_BadText) = some false)
    (kp_NoSign : PySem.W.keepIn K (.ref C_NoSign) = true)
    (sb_NoSign : PySem.W.subIn K (.ref C_NoSign) (.type "BaseException") = some true)
    (ty_NoSign : PySem.W.typeIn K (.ref C_NoSign) = some (.type "type"))
    (ci_NoSign : PySem.W.isClsIn K C_NoSign = true)
    (ga_NoSign : PySem.W.findIn K (.ref C_NoSign) "__getattribute__" = some (some (.builtin "BaseException.__getattribute__")))
    (gg_NoSign : PySem.W.findIn K (.ref C_NoSign) "__getattr__" = some none)
    (hd_NoSign : PySem.W.hasDictIn K C_NoSign = true)
    (cl_NoSign : PySem.W.findIn K (.ref C_NoSign) "__class__" = some (some (.builtin "object.__class__")))
    (mr_NoSign : PySem.W.mroIn K C_NoSign (.type "object") = some true)
    (kv_NoSign : PySem.W.subIn K (.ref C_NoSign) (.type "ValueError") = some true)
    (em_NoSign : PySem.W.subIn K (.ref C_NoSign) (.ref C_TapeError) = some true)
    (su_NoSign_BadSheet : PySem.W.subIn K (.ref C_NoSign) (.ref C_BadSheet) = some false)
    (su_NoSign_BadSet : PySem.W.subIn K (.ref C_NoSign) (.ref C_BadSet) = some false)
    (su_NoSign_BadTape : PySem.W.subIn K (.ref C_NoSign) (.ref C_BadTape) = some false)
    (su_NoSign_NoSign : PySem.W.subIn K (.ref C_NoSign) (.ref C_NoSign) = some true)
    (su_NoSign_BadCount : PySem.W.subIn K (.ref C_NoSign) (.ref C_BadCount) = some false)
    (su_NoSign_BadText : PySem.W.subIn K (.ref C_NoSign) (.ref C_BadText) = some false)
    (kp_BadCount : PySem.W.keepIn K (.ref C_BadCount) = true)
    (sb_BadCount : PySem.W.subIn K (.ref C_BadCount) (.type "BaseException") = some true)
    (ty_BadCount : PySem.W.typeIn K (.ref C_BadCount) = some (.type "type"))
    (ci_BadCount : PySem.W.isClsIn K C_BadCount = true)
    (ga_BadCount : PySem.W.findIn K (.ref C_BadCount) "__getattribute__" = some (some (.builtin "BaseException.__getattribute__")))
    (gg_BadCount : PySem.W.findIn K (.ref C_BadCount) "__getattr__" = some none)
    (hd_BadCount : PySem.W.hasDictIn K C_BadCount = true)
    (cl_BadCount : PySem.W.findIn K (.ref C_BadCount) "__class__" = some (some (.builtin "object.__class__")))
    (mr_BadCount : PySem.W.mroIn K C_BadCount (.type "object") = some true)
    (kv_BadCount : PySem.W.subIn K (.ref C_BadCount) (.type "ValueError") = some true)
    (em_BadCount : PySem.W.subIn K (.ref C_BadCount) (.ref C_TapeError) = some true)
    (su_BadCount_BadSheet : PySem.W.subIn K (.ref C_BadCount) (.ref C_BadSheet) = some false)
    (su_BadCount_BadSet : PySem.W.subIn K (.ref C_BadCount) (.ref C_BadSet) = some false)
    (su_BadCount_BadTape : PySem.W.subIn K (.ref C_BadCount) (.ref C_BadTape) = some false)
    (su_BadCount_NoSign : PySem.W.subIn K (.ref C_BadCount) (.ref C_NoSign) = some false)
    (su_BadCount_BadCount : PySem.W.subIn K (.ref C_BadCount) (.ref C_BadCount) = some true)
    (su_BadCount_BadText : PySem.W.subIn K (.ref C_BadCount) (.ref C_BadText) = some false)
    (kp_BadText : PySem.W.keepIn K (.ref C_BadText) = true)
    (sb_BadText : PySem.W.subIn K (.ref C_BadText) (.type "BaseException") = some true)
    (ty_BadText : PySem.W.typeIn K (.ref C_BadText) = some (.type "type"))
    (ci_BadText : PySem.W.isClsIn K C_BadText = true)
    (ga_BadText : PySem.W.findIn K (.ref C_BadText) "__getattribute__" = some (some (.builtin "BaseException.__getattribute__")))
    (gg_BadText : PySem.W.findIn K (.ref C_BadText) "__getattr__" = some none)
    (hd_BadText : PySem.W.hasDictIn K C_BadText = true)
    (cl_BadText : PySem.W.findIn K (.ref C_BadText) "__class__" = some (some (.builtin "object.__class__")))
    (mr_BadText : PySem.W.mroIn K C_BadText (.type "object") = some true)
    (kv_BadText : PySem.W.subIn K (.ref C_BadText) (.type "ValueError") = some true)
    (em_BadText : PySem.W.subIn K (.ref C_BadText) (.ref C_TapeError) = some true)
    (su_BadText_BadSheet : PySem.W.subIn K (.ref C_BadText) (.ref C_BadSheet) = some false)
    (su_BadText_BadSet : PySem.W.subIn K (.ref C_BadText) (.ref C_BadSet) = some false)
    (su_BadText_BadTape : PySem.W.subIn K (.ref C_BadText) (.ref C_BadTape) = some false)
    (su_BadText_NoSign : PySem.W.subIn K (.ref C_BadText) (.ref C_NoSign) = some false)
    (su_BadText_BadCount : PySem.W.subIn K (.ref C_BadText) (.ref C_BadCount) = some false)
    (su_BadText_BadText : PySem.W.subIn K (.ref C_BadText) (.ref C_BadText) = some true)
    (q_BadSheet : PySem.W.excIn K C_BadSheet [.type "ValueError", .type "Exception", .type "BaseException", .type "object"] "ValueError.__new__" = true)
    (q_BadSet : PySem.W.excIn K C_BadSet [.type "ValueError", .type "Exception", .type "BaseException", .type "object"] "ValueError.__new__" = true)
    {nm_BadTape qq_BadTape : Str} {N_BadTape : Addr} {bs_BadTape bm_BadTape sub_BadTape : List Value} {sn_BadTape : List Str} {ab_BadTape : Bool} {col_BadTape : Option Bool} {dd_BadTape : Option Addr} {m0_BadTape m1_BadTape m2_BadTape m3_BadTape m5_BadTape : Option Value}
    (l_BadTape : K.lookup C_BadTape = some (excClassObj nm_BadTape qq_BadTape C_BadTape N_BadTape bs_BadTape bm_BadTape true sn_BadTape sub_BadTape ab_BadTape col_BadTape dd_BadTape m0_BadTape m1_BadTape m2_BadTape m3_BadTape m5_BadTape "ValueError.__new__"))
    (rv_BadTape : PySem.HandSPX.refsVE bm_BadTape = true)
    (sa_BadTape : PySem.W.findIn K (.ref C_BadTape) "__setattr__" = some (some (.builtin "object.__setattr__")))
    (ii_BadTape : PySem.W.findIn K (.ref C_BadTape) "__init__" = some (some (.ref F_BadTape)))
    (ti_BadTape : PySem.W.typeIn K (.ref F_BadTape) = some (.type "function"))
    (no_BadTape : PySem.W.findIn K (.ref C_BadTape) "place" = some none)
    {oc_BadTape : Value} {od_BadTape an_BadTape : Option Addr} {sl_BadTape : Array (Option Value)} {kV_BadTape dc_BadTape pm_BadTape ct_BadTape cd_BadTape : Value}
    (fl_BadTape : K.lookup F_BadTape = some ⟨oc_BadTape, od_BadTape, .func (PySem.W.fnOf "__init__" "BadTape.__init__" (defArgs s_init_BadTape) (defBody s_init_BadTape) (defScope s_init_BadTape) .none kV_BadTape dc_BadTape pm_BadTape an_BadTape cd_BadTape ct_BadTape), sl_BadTape⟩)
    (fc_BadTape : PySem.W.codeIn K cd_BadTape "BadTape.__init__" = true)
    (fk_BadTape : PySem.W.keepIn K (.ref F_BadTape) = true)
    {nm_NoSign qq_NoSign : Str} {N_NoSign : Addr} {bs_NoSign bm_NoSign sub_NoSign : List Value} {sn_NoSign : List Str} {ab_NoSign : Bool} {col_NoSign : Option Bool} {dd_NoSign : Option Addr} {m0_NoSign m1_NoSign m2_NoSign m3_NoSign m5_NoSign : Option Value}
    (l_NoSign : K.lookup C_NoSign = some (excClassObj nm_NoSign qq_NoSign C_NoSign N_NoSign bs_NoSign bm_NoSign true sn_NoSign sub_NoSign ab_NoSign col_NoSign dd_NoSign m0_NoSign m1_NoSign m2_NoSign m3_NoSign m5_NoSign "ValueError.__new__"))
    (rv_NoSign : PySem.HandSPX.refsVE bm_NoSign = true)
    (sa_NoSign : PySem.W.findIn K (.ref C_NoSign) "__setattr__" = some (some (.builtin "object.__setattr__")))
    (ii_NoSign : PySem.W.findIn K (.ref C_NoSign) "__init__" = some (some (.ref F_NoSign)))
    (ti_NoSign : PySem.W.typeIn K (.ref F_NoSign) = some (.type "function"))
    (no_NoSign : PySem.W.findIn K (.ref C_NoSign) "place" = some none)
    {oc_NoSign : Value} {od_NoSign an_NoSign : Option Addr} {sl_NoSign : Array (Option Value)} {kV_NoSign dc_NoSign pm_NoSign ct_NoSign cd_NoSign : Value}
    (fl_NoSign : K.lookup F_NoSign = some ⟨oc_NoSign, od_NoSign, .func (PySem.W.fnOf "__init__" "NoSign.__init__" (defArgs s_init_NoSign) (defBody s_init_NoSign) (defScope s_init_NoSign) .none kV_NoSign dc_NoSign pm_NoSign an_NoSign cd_NoSign ct_NoSign), sl_NoSign⟩)
    (fc_NoSign : PySem.W.codeIn K cd_NoSign "NoSign.__init__" = true)
    (fk_NoSign : PySem.W.keepIn K (.ref F_NoSign) = true)
    (q_BadCount : PySem.W.excIn K C_BadCount [.type "ValueError", .type "Exception", .type "BaseException", .type "object"] "ValueError.__new__" = true)
    {nm_BadText qq_BadText : Str} {N_BadText : Addr} {bs_BadText bm_BadText sub_BadText : List Value} {sn_BadText : List Str} {ab_BadText : Bool} {col_BadText : Option Bool} {dd_BadText : Option Addr} {m0_BadText m1_BadText m2_BadText m3_BadText m5_BadText : Option Value}
    (l_BadText : K.lookup C_BadText = some (excClassObj nm_BadText qq_BadText C_BadText N_BadText bs_BadText bm_BadText true sn_BadText sub_BadText ab_BadText col_BadText dd_BadText m0_BadText m1_BadText m2_BadText m3_BadText m5_BadText "ValueError.__new__"))
    (rv_BadText : PySem.HandSPX.refsVE bm_BadText = true)
    (sa_BadText : PySem.W.findIn K (.ref C_BadText) "__setattr__" = some (some (.builtin "object.__setattr__")))
    (ii_BadText : PySem.W.findIn K (.ref C_BadText) "__init__" = some (some (.ref F_BadText)))
    (ti_BadText : PySem.W.typeIn K (.ref F_BadText) = some (.type "function"))
    (no_BadText : PySem.W.findIn K (.ref C_BadText) "row" = some none)
    {oc_BadText : Value} {od_BadText an_BadText : Option Addr} {sl_BadText : Array (Option Value)} {kV_BadText dc_BadText pm_BadText ct_BadText cd_BadText : Value}
    (fl_BadText : K.lookup F_BadText = some ⟨oc_BadText, od_BadText, .func (PySem.W.fnOf "__init__" "BadText.__init__" (defArgs s_init_BadText) (defBody s_init_BadText) (defScope s_init_BadText) .none kV_BadText dc_BadText pm_BadText an_BadText cd_BadText ct_BadText), sl_BadText⟩)
    (fc_BadText : PySem.W.codeIn K cd_BadText "BadText.__init__" = true)
    (fk_BadText : PySem.W.keepIn K (.ref F_BadText) = true)
    {xc0 : Value} {xd0 : Option Addr} {vs0 : Array Value} {xs0 : Array (Option Value)} (lc0 : K.lookup cd0 = some ⟨xc0, xd0, .fields vs0, xs0⟩) (hv0 : (vs0[11]? : Option Value) = some (.ref tb0)) (nt0 : K.lookup tb0 = none)
    (rc0 : ((recsOf q).any fun r => r.name == "are_signs") = true)
    {xc3 : Value} {xd3 : Option Addr} {vs3 : Array Value} {xs3 : Array (Option Value)} (lc3 : K.lookup cd3 = some ⟨xc3, xd3, .fields vs3, xs3⟩) (hv3 : (vs3[11]? : Option Value) = some (.ref tb3)) (nt3 : K.lookup tb3 = none)
    (rc3 : ((recsOf q).any fun r => r.name == "_are_figures") = true)
    (ne01 : tb0 ≠ tb3) : LamX.LawAtS PySem.Challenge.rw_shifttape_k13_texts_refused w K CX0 8 63 "_law_script" mg fa h :=
  all_ok hmg (txt_mk X G (tb0 := tb0) (tb3 := tb3) a0 l0 c0 k0 a1 l1 c1 k1 a2 l2 c2 k2 a3 l3 c3 k3 a4 l4 c4 k4 a5 l5 c5 k5 a6 l6 c6 k6 a7 l7 c7 k7 a8 l8 c8 k8 a9 l9 c9 k9 a10 l10 c10 k10 a11 l11 c11 k11 a12 l12 c12 k12 a13 l13 c13 k13 a14 l14 c14 k14 a15 l15 c15 k15 a16 l16 c16 k16 a17 l17 c17 k17 z_ValueError z_all z_bool z_enumerate z_int z_isinstance z_len z_list z_range z_set z_str z_tuple y_MOST_PLACES y_NO_HOME y_ROWS g_BadSheet g_BadSet g_BadTape g_NoSign g_BadCount g_BadText g_TapeError t_sb t_ty t_hd hn ht t_rd t_sg t_fc kp_BadSheet sb_BadSheet ty_BadSheet ci_BadSheet ga_BadSheet gg_BadSheet hd_BadSheet cl_BadSheet mr_BadSheet kv_BadSheet em_BadSheet su_BadSheet_BadSheet su_BadSheet_BadSet su_BadSheet_BadTape su_BadSheet_NoSign su_BadSheet_BadCount su_BadSheet_BadText kp_BadSet sb_BadSet ty_BadSet ci_BadSet ga_BadSet gg_BadSet hd_BadSet cl_BadSet mr_BadSet kv_BadSet em_BadSet su_BadSet_BadSheet su_BadSet_BadSet su_BadSet_BadTape su_BadSet_NoSign su_BadSet_BadCount su_BadSet_BadText kp_BadTape sb_BadTape ty_BadTape ci_BadTape ga_BadTape gg_BadTape hd_BadTape cl_BadTape mr_BadTape kv_BadTape em_BadTape su_BadTape_BadSheet su_BadTape_BadSet su_BadTape_BadTape su_BadTape_NoSign su_BadTape_BadCount su_BadTape_BadText kp_NoSign sb_NoSign ty_NoSign ci_NoSign ga_NoSign gg_NoSign hd_NoSign cl_NoSign mr_NoSign kv_NoSign em_NoSign su_NoSign_BadSheet su_NoSign_BadSet su_NoSign_BadTape su_NoSign_NoSign su_NoSign_BadCount su_NoSign_BadText kp_BadCount sb_BadCount ty_BadCount ci_BadCount ga_BadCount gg_BadCount hd_BadCount cl_BadCount mr_BadCount kv_BadCount em_BadCount su_BadCount_BadSheet su_BadCount_BadSet su_BadCount_BadTape su_BadCount_NoSign su_BadCount_BadCount su_BadCount_BadText kp_BadText sb_BadText ty_BadText ci_BadText ga_BadText gg_BadText hd_BadText cl_BadText mr_BadText kv_BadText em_BadText su_BadText_BadSheet su_BadText_BadSet su_BadText_BadTape su_BadText_NoSign su_BadText_BadCount su_BadText_BadText q_BadSheet q_BadSet l_BadTape rv_BadTape sa_BadTape ii_BadTape ti_BadTape no_BadTape fl_BadTape fc_BadTape fk_BadTape l_NoSign rv_NoSign sa_NoSign ii_NoSign ti_NoSign no_NoSign fl_NoSign fc_NoSign fk_NoSign q_BadCount l_BadText rv_BadText sa_BadText ii_BadText ti_BadText no_BadText fl_BadText fc_BadText fk_BadText) (tabs "are_signs" _ _ rc0 (Kt.tabIn_of a0 l0 rfl lc0 hv0)) nt0 (tabs "_are_figures" _ _ rc3 (Kt.tabIn_of a3 l3 rfl lc3 hv3)) nt3 ne01 fun s u => .of_eq rfl
end K13
open PySem PySem.W PyProof.Rows
set_option pp.maxSteps 400 in
set_option maxHeartbeats 0 in
theorem PySem.Challenge.cw_shifttape_k13_texts_refused_holds : PySem.Challenge.rw_shifttape_k13_texts_refused.Holds := by
  w_on; o_law; k_head; (case hw => w_witness2)
  k_fill
  refine Kt.end_tab (l := PySem.Challenge.rw_shifttape_k13_texts_refused) (n := 63) (k := 8) (x := "_law_script") (CX := fun _ => L2.CX0) rfl (by decide) rfl ⟨rfl, by decide, by decide⟩ (by first | exact fun w h Y => PySem.W.kIn_of Y | exact fun w h Y => PySem.W.km_in_of Y) ?F (fun _ _ _ _ _ h => h)
  case F =>
    intro w mg fa h Y KX G hmg0 tabs
    have hmg : mg ("law" : PySem.Str) = some (.ref fa) := hmg0
    clear hmg0
    refine' K13.law_at KX G hmg tabs ?a0 ?l0 ?c0 ?k0 ?a1 ?l1 ?c1 ?k1 ?a2 ?l2 ?c2 ?k2 ?a3 ?l3 ?c3 ?k3 ?a4 ?l4 ?c4 ?k4 ?a5 ?l5 ?c5 ?k5 ?a6 ?l6 ?c6 ?k6 ?a7 ?l7 ?c7 ?k7 ?a8 ?l8 ?c8 ?k8 ?a9 ?l9 ?c9 ?k9 ?a10 ?l10 ?c10 ?k10 ?a11 ?l11 ?c11 ?k11 ?a12 ?l12 ?c12 ?k12 ?a13 ?l13 ?c13 ?k13 ?a14 ?l14 ?c14 ?k14 ?a15 ?l15 ?c15 ?k15 ?a16 ?l16 ?c16 ?k16 ?a17 ?l17 ?c17 ?k17 ?z_ValueError ?z_all ?z_bool ?z_enumerate ?z_int ?z_isinstance ?z_len ?z_list ?z_range ?z_set ?z_str ?z_tuple ?y_MOST_PLACES ?y_NO_HOME ?y_ROWS ?g_BadSheet ?g_BadSet ?g_BadTape ?g_NoSign ?g_BadCount ?g_BadText ?g_TapeError ?t_sb ?t_ty ?t_hd ?hn ?ht ?t_rd ?t_sg ?t_fc ?kp_BadSheet ?sb_BadSheet ?ty_BadSheet ?ci_BadSheet ?ga_BadSheet ?gg_BadSheet ?hd_BadSheet ?cl_BadSheet ?mr_BadSheet ?kv_BadSheet ?em_BadSheet ?su_BadSheet_BadSheet ?su_BadSheet_BadSet ?su_BadSheet_BadTape ?su_BadSheet_NoSign ?su_BadSheet_BadCount ?su_BadSheet_BadText ?kp_BadSet ?sb_BadSet ?ty_BadSet ?ci_BadSet ?ga_BadSet ?gg_BadSet ?hd_BadSet ?cl_BadSet ?mr_BadSet ?kv_BadSet ?em_BadSet ?su_BadSet_BadSheet ?su_BadSet_BadSet ?su_BadSet_BadTape ?su_BadSet_NoSign ?su_BadSet_BadCount ?su_BadSet_BadText ?kp_BadTape ?sb_BadTape ?ty_BadTape ?ci_BadTape ?ga_BadTape ?gg_BadTape ?hd_BadTape ?cl_BadTape ?mr_BadTape ?kv_BadTape ?em_BadTape ?su_BadTape_BadSheet ?su_BadTape_BadSet ?su_BadTape_BadTape ?su_BadTape_NoSign ?su_BadTape_BadCount ?su_BadTape_BadText ?kp_NoSign ?sb_NoSign ?ty_NoSign ?ci_NoSign ?ga_NoSign ?gg_NoSign ?hd_NoSign ?cl_NoSign ?mr_NoSign ?kv_NoSign ?em_NoSign ?su_NoSign_BadSheet ?su_NoSign_BadSet ?su_NoSign_BadTape ?su_NoSign_NoSign ?su_NoSign_BadCount ?su_NoSign_BadText ?kp_BadCount ?sb_BadCount ?ty_BadCount ?ci_BadCount ?ga_BadCount ?gg_BadCount ?hd_BadCount ?cl_BadCount ?mr_BadCount ?kv_BadCount ?em_BadCount ?su_BadCount_BadSheet ?su_BadCount_BadSet ?su_BadCount_BadTape ?su_BadCount_NoSign ?su_BadCount_BadCount ?su_BadCount_BadText ?kp_BadText ?sb_BadText ?ty_BadText ?ci_BadText ?ga_BadText ?gg_BadText ?hd_BadText ?cl_BadText ?mr_BadText ?kv_BadText ?em_BadText ?su_BadText_BadSheet ?su_BadText_BadSet ?su_BadText_BadTape ?su_BadText_NoSign ?su_BadText_BadCount ?su_BadText_BadText ?q_BadSheet ?q_BadSet ?l_BadTape ?rv_BadTape ?sa_BadTape ?ii_BadTape ?ti_BadTape ?no_BadTape ?fl_BadTape ?fc_BadTape ?fk_BadTape ?l_NoSign ?rv_NoSign ?sa_NoSign ?ii_NoSign ?ti_NoSign ?no_NoSign ?fl_NoSign ?fc_NoSign ?fk_NoSign ?q_BadCount ?l_BadText ?rv_BadText ?sa_BadText ?ii_BadText ?ti_BadText ?no_BadText ?fl_BadText ?fc_BadText ?fk_BadText ?lc0 ?hv0 ?nt0 ?rc0 ?lc3 ?hv3 ?nt3 ?rc3 ?ne01
    (case a0 => k_is); (case l0 => k_is); (case c0 => k_is); (case k0 => k_is); (case a1 => k_is); (case l1 => k_is); (case c1 => k_is); (case k1 => k_is); (case a2 => k_is); (case l2 => k_is); (case c2 => k_is); (case k2 => k_is); (case a3 => k_is); (case l3 => k_is); (case c3 => k_is); (case k3 => k_is); (case a4 => k_is); (case l4 => k_is); (case c4 => k_is); (case k4 => k_is); (case a5 => k_is); (case l5 => k_is); (case c5 => k_is); (case k5 => k_is); (case a6 => k_is); (case l6 => k_is); (case c6 => k_is); (case k6 => k_is); (case a7 => k_is); (case l7 => k_is); (case c7 => k_is); (case k7 => k_is); (case a8 => k_is); (case l8 => k_is); (case c8 => k_is); (case k8 => k_is); (case a9 => k_is); (case l9 => k_is); (case c9 => k_is); (case k9 => k_is); (case a10 => k_is); (case l10 => k_is); (case c10 => k_is); (case k10 => k_is); (case a11 => k_is); (case l11 => k_is); (case c11 => k_is); (case k11 => k_is); (case a12 => k_is); (case l12 => k_is); (case c12 => k_is); (case k12 => k_is); (case a13 => k_is); (case l13 => k_is); (case c13 => k_is); (case k13 => k_is); (case a14 => k_is); (case l14 => k_is); (case c14 => k_is); (case k14 => k_is); (case a15 => k_is); (case l15 => k_is); (case c15 => k_is); (case k15 => k_is); (case a16 => k_is); (case l16 => k_is); (case c16 => k_is); (case k16 => k_is); (case a17 => k_is); (case l17 => k_is); (case c17 => k_is); (case k17 => k_is); (case z_ValueError => k_is); (case z_all => k_is); (case z_bool => k_is); (case z_enumerate => k_is); (case z_int => k_is); (case z_isinstance => k_is); (case z_len => k_is); (case z_list => k_is); (case z_range => k_is); (case z_set => k_is); (case z_str => k_is); (case z_tuple => k_is); (case y_MOST_PLACES => k_is); (case y_NO_HOME => k_is); (case y_ROWS => k_is); (case g_BadSheet => k_is); (case g_BadSet => k_is); (case g_BadTape => k_is); (case g_NoSign => k_is); (case g_BadCount => k_is); (case g_BadText => k_is); (case g_TapeError => k_is); (case t_sb => k_is); (case t_ty => k_is); (case t_hd => k_is); (case hn => k_is); (case ht => k_is); (case t_rd => k_is); (case t_sg => k_is); (case t_fc => k_is); (case kp_BadSheet => k_is); (case sb_BadSheet => k_is); (case ty_BadSheet => k_is); (case ci_BadSheet => k_is); (case ga_BadSheet => k_is); (case gg_BadSheet => k_is); (case hd_BadSheet => k_is); (case cl_BadSheet => k_is); (case mr_BadSheet => k_is); (case kv_BadSheet => k_is); (case em_BadSheet => first | rfl | k_is); (case su_BadSheet_BadSheet => first | rfl | k_is); (case su_BadSheet_BadSet => first | rfl | k_is); (case su_BadSheet_BadTape => first | rfl | k_is); (case su_BadSheet_NoSign => first | rfl | k_is); (case su_BadSheet_BadCount => first | rfl | k_is); (case su_BadSheet_BadText => first | rfl | k_is); (case kp_BadSet => k_is); (case sb_BadSet => k_is); (case ty_BadSet => k_is); (case ci_BadSet => k_is); (case ga_BadSet => k_is); (case gg_BadSet => k_is); (case hd_BadSet => k_is); (case cl_BadSet => k_is); (case mr_BadSet => k_is); (case kv_BadSet => k_is); (case em_BadSet => first | rfl | k_is); (case su_BadSet_BadSheet => first | rfl | k_is); (case su_BadSet_BadSet => first | rfl | k_is); (case su_BadSet_BadTape => first | rfl | k_is); (case su_BadSet_NoSign => first | rfl | k_is); (case su_BadSet_BadCount => first | rfl | k_is); (case su_BadSet_BadText => first | rfl | k_is); (case kp_BadTape => k_is); (case sb_BadTape => k_is); (case ty_BadTape => k_is); (case ci_BadTape => k_is); (case ga_BadTape => k_is); (case gg_BadTape => k_is); (case hd_BadTape => k_is); (case cl_BadTape => k_is); (case mr_BadTape => k_is); (case kv_BadTape => k_is); (case em_BadTape => first | rfl | k_is); (case su_BadTape_BadSheet => first | rfl | k_is); (case su_BadTape_BadSet => first | rfl | k_is); (case su_BadTape_BadTape => first | rfl | k_is); (case su_BadTape_NoSign => first | rfl | k_is); (case su_BadTape_BadCount => first | rfl | k_is); (case su_BadTape_BadText => first | rfl | k_is); (case kp_NoSign => k_is); (case sb_NoSign => k_is); (case ty_NoSign => k_is); (case ci_NoSign => k_is); (case ga_NoSign => k_is); (case gg_NoSign => k_is); (case hd_NoSign => k_is); (case cl_NoSign => k_is); (case mr_NoSign => k_is); (case kv_NoSign => k_is); (case em_NoSign => first | rfl | k_is); (case su_NoSign_BadSheet => first | rfl | k_is); (case su_NoSign_BadSet => first | rfl | k_is); (case su_NoSign_BadTape => first | rfl | k_is); (case su_NoSign_NoSign => first | rfl | k_is); (case su_NoSign_BadCount => first | rfl | k_is); (case su_NoSign_BadText => first | rfl | k_is); (case kp_BadCount => k_is); (case sb_BadCount => k_is); (case ty_BadCount => k_is); (case ci_BadCount => k_is); (case ga_BadCount => k_is); (case gg_BadCount => k_is); (case hd_BadCount => k_is); (case cl_BadCount => k_is); (case mr_BadCount => k_is); (case kv_BadCount => k_is); (case em_BadCount => first | rfl | k_is); (case su_BadCount_BadSheet => first | rfl | k_is); (case su_BadCount_BadSet => first | rfl | k_is); (case su_BadCount_BadTape => first | rfl | k_is); (case su_BadCount_NoSign => first | rfl | k_is); (case su_BadCount_BadCount => first | rfl | k_is); (case su_BadCount_BadText => first | rfl | k_is); (case kp_BadText => k_is); (case sb_BadText => k_is); (case ty_BadText => k_is); (case ci_BadText => k_is); (case ga_BadText => k_is); (case gg_BadText => k_is); (case hd_BadText => k_is); (case cl_BadText => k_is); (case mr_BadText => k_is); (case kv_BadText => k_is); (case em_BadText => first | rfl | k_is); (case su_BadText_BadSheet => first | rfl | k_is); (case su_BadText_BadSet => first | rfl | k_is); (case su_BadText_BadTape => first | rfl | k_is); (case su_BadText_NoSign => first | rfl | k_is); (case su_BadText_BadCount => first | rfl | k_is); (case su_BadText_BadText => first | rfl | k_is); (case q_BadSheet => k_exc); (case q_BadSet => k_exc); (case l_BadTape => k_is); (case rv_BadTape => rfl); (case sa_BadTape => k_is); (case ii_BadTape => k_is); (case ti_BadTape => k_is); (case no_BadTape => k_is); (case fl_BadTape => k_is); (case fc_BadTape => k_is); (case fk_BadTape => k_is); (case l_NoSign => k_is); (case rv_NoSign => rfl); (case sa_NoSign => k_is); (case ii_NoSign => k_is); (case ti_NoSign => k_is); (case no_NoSign => k_is); (case fl_NoSign => k_is); (case fc_NoSign => k_is); (case fk_NoSign => k_is); (case q_BadCount => k_exc); (case l_BadText => k_is); (case rv_BadText => rfl); (case sa_BadText => k_is); (case ii_BadText => k_is); (case ti_BadText => k_is); (case no_BadText => k_is); (case fl_BadText => k_is); (case fc_BadText => k_is); (case fk_BadText => k_is)
    (case lc0 => k_is); (case hv0 => rfl); (case nt0 => kernel_rfl); (case rc0 => decide +kernel); (case lc3 => k_is); (case hv3 => rfl); (case nt3 => kernel_rfl); (case rc3 => decide +kernel); (case ne01 => decide)
