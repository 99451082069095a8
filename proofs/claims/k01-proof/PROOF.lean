import PyProof.Rows.All
import Wide.All
import OpenK.AllK
import Wide.FinOn
import HandS.ForMost
import HandS.IsInst
import HandS.AnyAll
import HandS.EndTab
import HandS.EndBits
import HandS.Wide
import HandS.Conv
import HandS.Strs
import PyProof.ListStr
import PyProof.Rows.SetFrom
import HandS.ExcInit
import HandS.ExcOwn
import HandS.ExcField
import HandS.HotCalls
import HandS.FStr
import HandS.WordsExc
import HandS.ClsMeth
import HandS.SetFor
import KE.KExcIs
import HandS.NoneIn
import HandS.Walk
import HandS.Style
import HandS.ExcIs
import KE.KDflt
import HandS.Lambda
import HandS.Zip
import KE.GoesMore
import KE.GoesZip
import KE.GoesEnum
import KE.DataCmp
import KE.KMinKey
import HandS.RevTup
import KE.KLam
import HandS.More
import KE.DataMinKey
import HandS.Rev
import HandS.RaiseMore
import PyProof.StrOps2
import PySem.Challenge.RW_shifttape_k01_refused
set_option Elab.async false
set_option linter.all false
set_option maxRecDepth 100000
namespace Kt
open PySem PySem.Spec PyProof.Rows L2
/-- one sign as a text -/
def sg (c : Nat) : Str := ⟨#[c]⟩
theorem sg_inj {a b : Nat} (h : sg a = sg b) : a = b := by
  have h1 : (#[a] : Array Nat) = #[b] := congrArg Str.cps h
  simpa using h1
def signs (z : Str) : List Str := z.cps.toList.map sg
/-- the distinct ones, as they come -/
def uqs (l : List Nat) (c : Nat) : List Nat := if c ∈ l then l else l ++ [c]
def uq (l : List Nat) : List Nat := l.foldl uqs []
theorem uq_snoc (l : List Nat) (c : Nat) : uq (l ++ [c]) = uqs (uq l) c := by
  unfold uq; rw [List.foldl_append]; rfl
theorem uq_le (l : List Nat) : (uq l).length ≤ l.length := by
  suffices h : ∀ (r : List Nat) (a : List Nat), (r.foldl uqs a).length ≤ a.length + r.length by
    have := h l []; simpa [uq] using this
  intro r
  induction r with
  | nil => intro a; simp
  | cons x r ih =>
    intro a
    have h1 := ih (uqs a x)
    have h2 : (uqs a x).length ≤ a.length + 1 := by unfold uqs; split <;> simp
    simp only [List.foldl_cons, List.length_cons]; omega
theorem uq_nodup {l : List Nat} (h : l.Nodup) : uq l = l := by
  suffices g : ∀ (r a : List Nat), (a ++ r).Nodup → r.foldl uqs a = a ++ r by
    simpa [uq] using g l [] (by simpa using h)
  intro r
  induction r with
  | nil => intro a _; simp
  | cons x r ih =>
    intro a hn
    have hx : x ∉ a := fun hm => by
      have := List.nodup_append.mp hn
      exact this.2.2 x hm x (by simp) rfl
    have e : uqs a x = a ++ [x] := by unfold uqs; rw [if_neg hx]
    rw [List.foldl_cons, e, ih (a ++ [x]) (by simpa using hn)]; simp

section
variable {X : Cx}
/-- list(s), s a text -/
theorem call_listS (hc : X.calm = true) : CallR X (.type "list") (fun xs H Q => ∃ z : Str, xs = [.str z] ∧ z.length ≤ 1000 ∧ ∀ p, H p = none → Q (.ref p) (upd H p (.lst ((signs z).map V.str)))) := by
  intro pins s σ H xs us Q I r h
  obtain ⟨z, rfl, hz, q⟩ := h
  obtain ⟨u, rfl, ru⟩ := r.one
  obtain ⟨t, rfl⟩ := ru
  have hz2 : z.cps.size ≤ 1000 := hz
  have hln : ((signs z).map V.str).length = z.cps.size := by simp [signs]
  have hbig : (1000 : Nat) ≤ sizeLine := by decide
  refine PySem.call_list_str (hn := Nat.le_trans hz2 hbig) (I.ok.hd hc) z t fun h' tk acc c' hk hS hacc => ?_
  refine ⟨.ref s.heap.objs.size, _, I.laid hk (Nat.le_refl _) (show ObjOk X.prog X.w _ _ _ (.lst ((signs z).map V.str)) from ⟨?_, acc.toList, c', ?_, ?_⟩), rfl, q _ (I.hok.fresh (Nat.le_refl _))⟩
  · rw [hln]; exact Nat.le_trans hz2 hbig
  · refine vals_of_at (by rw [hln, Array.length_toList, hacc.1]) fun j x v h1 h2 => ?_
    obtain ⟨c, k, e1, rfl⟩ := hacc.2 j v (by rw [← Array.getElem?_toList]; exact h2)
    have e2 : ((signs z).map V.str)[j]? = some (.str (sg c)) := by
      simp [signs, e1]
    rw [e2] at h1
    cases h1
    exact ⟨k, rfl⟩
  · rw [Array.toArray_toList]; exact hS
/-- x += y of texts -/
theorem ip_addS : PIp X .Add (fun x y H Q => ∃ i j : Str, x = .str i ∧ y = .str j ∧ i.length + j.length ≤ sizeLine ∧ Q (.str (i ++ j)) H) :=
  fun pins s σ H x y v u Q I r1 r2 h => iop_add_str pins s σ H x y v u Q I r1 r2 h
end

/-! ### len(set(s)), s a text -/
section
variable {prog : Program} {w : World} {A : Around} {R : Result → Shared → Prop} {J : Addr} {fp wr : List Addr} {G : Array GenState → Array GenState → Prop} {St : Nat → Shared → Prop}
/-- what stands in the set behind i signs -/
def InU (prog : Program) (w : World) (h : Heap) (D : Addr) (z : Str) (i : Nat) : Prop :=
  h.SetOf (PySem.strKind prog w) D (fun k => decide (k ∈ (uq (z.cps.toList.take i)).map sg)) (uq (z.cps.toList.take i)).length
theorem InU.at' {h h' : Heap} {D : Addr} {z : Str} {i : Nat} (u : InU prog w h D z i) (k : ∀ o, h.get? D = some o → h'.get? D = some o) : InU prog w h' D z i := by
  obtain ⟨o, es, ep, t, ho, rest⟩ := u
  exact ⟨o, es, ep, t, k o ho, rest⟩
theorem loopSigns {z : Str} (W : WalksS prog w A.in1 J fp wr G z.cps.size (SignAt z) St) (D : Addr) (hD : D ∉ fp) (hz : z.cps.size ≤ 1000) :
    ∀ (k i : Nat) (s : Shared), z.cps.size - i = k → i ≤ z.cps.size → St i s → InU prog w s.heap D z i →
      (∀ s', Moved (D :: wr) G s s' → InU prog w s'.heap D z z.cps.size → R (.ok (.ret .none)) s') →
      codeAny (model prog w) A (.builtin "set.update.loop" ⟨[.ref D, .ref J], []⟩) R s := by
  have out : D ∉ wr := fun q => hD (W.sub _ q)
  have sub : ∀ b ∈ wr, b ∈ D :: wr := fun b hb => List.mem_cons_of_mem _ hb
  intro k
  induction k with
  | zero =>
    intro i s hk hi st u fin
    obtain rfl : i = z.cps.size := by omega
    refine codeAny_builtin PyProof.Rows.F.entry_set_update_loop ?_
    rw [Around.under_plainId PyProof.Rows.F.plain_set_update_loop _]
    refine wpAny_bind (m := pyNext (.ref J)) (W.done s _ _ st fun s' mv => ?_)
    exact wpAny_pure (fin s' (mv.mono sub) (u.at' fun o e => mv.heap D o out e))
  | succ k ih =>
    intro i s hk hi st u fin
    have lt : i < z.cps.size := by omega
    refine codeAny_builtin PyProof.Rows.F.entry_set_update_loop ?_
    rw [Around.under_plainId PyProof.Rows.F.plain_set_update_loop _]
    refine wpAny_bind (m := pyNext (.ref J)) (W.item i s _ _ lt st fun v s' hv st' mv => ?_)
    obtain ⟨c, t, hc, rfl⟩ := hv
    have u1 := u.at' fun o e => mv.heap D o out e
    refine wpAny_bind (m := holding [Value.str (sg c) t] (setAdd D (.str (sg c) t))) (wpAny_holding ?_)
    unfold setAdd
    refine wpAny_holding (wpAny_bind ((PySem.strKind prog w).pyHash (k := sg c) (strKind_is _ _ _ _) ?_))
    have room : (uq (z.cps.toList.take i)).length + 1 < scanBound := by
      have h1 := uq_le (z.cps.toList.take i)
      have h2 : (z.cps.toList.take i).length ≤ i := by rw [List.length_take]; exact Nat.min_le_left _ _
      unfold scanBound; omega
    refine wpAny_setAddHashed_of (knd := PySem.strKind prog w) (s := { s' with toks := s'.toks + 1 }) (strKind_is _ _ _ _) rfl u1 room fun h' sb u2 => ?_
    have u3 : InU prog w h' D z (i + 1) := by
      have e0 : z.cps.toList.take (i + 1) = z.cps.toList.take i ++ [c] := by
        rw [List.take_add_one, Array.getElem?_toList, hc]; rfl
      unfold InU
      rw [e0, uq_snoc]
      refine SetOf_congr u2 (fun q => ?_) ?_
      · unfold uqs
        by_cases hm : c ∈ uq (z.cps.toList.take i)
        · rw [if_pos hm]
          by_cases e : q = sg c
          · subst e
            have : sg c ∈ (uq (z.cps.toList.take i)).map sg := List.mem_map.mpr ⟨c, hm, rfl⟩
            simp [this]
          · simp [e]
        · rw [if_neg hm, List.map_append]
          simp [List.mem_append, Bool.decide_or]
      · unfold uqs
        by_cases hm : c ∈ uq (z.cps.toList.take i)
        · have : sg c ∈ (uq (z.cps.toList.take i)).map sg := List.mem_map.mpr ⟨c, hm, rfl⟩
          rw [if_pos hm, if_pos (decide_eq_true this)]
        · have : ¬ sg c ∈ (uq (z.cps.toList.take i)).map sg := fun h => by
            obtain ⟨d, h1, h2⟩ := List.mem_map.mp h
            rw [sg_inj h2] at h1
            exact hm h1
          rw [if_neg hm, if_neg (by simpa using this), List.length_append]; rfl
    refine wpAny_pure ⟨plainId_quiet PyProof.Rows.F.plain_set_update_loop _, ih (i + 1) _ (by omega) lt (W.frame _ s' _ _ st' (Nat.le_succ _) fun b hb o e => ?_) u3 fun s2 mv2 u4 => ?_⟩
    · exact (sb.2 b (fun q => hD (q ▸ hb))).trans e
    · refine fin s2 (Moved.trans W.gtrans ((mv.mono sub).then_heap (Nat.le_succ _) fun b o hb e => ?_) mv2) u4
      exact (sb.2 b (fun q => hb (q ▸ List.mem_cons_self))).trans e
end
section
variable {prog : Program} {w : World} {A : Around} {E : Value → Shared → Prop} {s : Shared}
set_option maxHeartbeats 3200000 in
theorem call_setS {z : Str} {t : Tok} {Q : Value → Shared → Prop} (hh : A.handled = none) (hz : z.cps.size ≤ 1000)
    (h : ∀ (h' : Heap) (tk : Nat), InU prog w h' s.heap.objs.size z z.cps.size → (∀ b o, b < s.heap.objs.size → s.heap.get? b = some o → h'.get? b = some o) →
      Q (.ref s.heap.objs.size) { s with heap := h', toks := tk }) : wpAny (model prog w) A (call (.type "set") [.str z t]) Q E s := by
  obtain ⟨c, tl, hmro⟩ := PySem.F.called_set.mro
  have q1 := PySem.F.called_set.made
  have q2 := PySem.F.called_set.sub
  refine wpAny_call (codeAny_of_tree ?_)
  show wpAny _ _ (callAny (.type "set") _) _ _ _
  refine wpAny_pure ⟨Code.quiet_builtin _ (by decide +kernel), codeAny_builtin PySem.F.entry_type_call ?_⟩
  rw [Around.under_plain (weight_type_call_type "set" [.str z t] []) rfl]
  have q3 := PySem.F.called_set.notType
  have q4 := PySem.F.called_set.canCreate
  have q5 := PySem.F.typeCall_set_1 (.str z t)
  repeat (any_goals (first | assumption | wp_step))
  refine codeAny_mono (code_set_new_1 (.str z t) (E := E) (Q₁ := fun ob s₁ => ∃ led : Bool, ob = .ref s.heap.objs.size ∧ s₁ = { s with heap := s.heap.push { cls := .type "set", dict := none, data := .set #[] 0 (.fresh 0 0 led) } }) fun led => ⟨led, rfl, rfl⟩) fun r s₁ hr => ?_
  cases r with
  | error e => exact hr
  | ok fl =>
    cases fl with
    | ret ob =>
      obtain ⟨led, rfl, rfl⟩ := hr
      have gS : (s.heap.push { cls := .type "set", dict := none, data := .set #[] 0 (.fresh 0 0 led) }).get? s.heap.objs.size =
          some { cls := .type "set", dict := none, data := .set #[] 0 (.fresh 0 0 led) } := Heap.get?_push_size _ rfl
      have gT : Shared.TypeIs { s with heap := s.heap.push { cls := .type "set", dict := none, data := .set #[] 0 (.fresh 0 0 led) } }
          (.ref s.heap.objs.size) "set" := ⟨_, gS, rfl⟩
      have q6 := PySem.F.called_set.init.lookup
      have q7 := PySem.F.called_set.init.bind (.ref s.heap.objs.size)
      repeat (any_goals (first | assumption | wp_step))
      refine codeAny_mono (codeAny_call_builtin (R := wants (fun r s₂ => r = .none ∧ ∃ h' tk, s₂ = { s with heap := h', toks := tk } ∧ InU prog w h' s.heap.objs.size z z.cps.size ∧
          (∀ b o, b < s.heap.objs.size → s.heap.get? b = some o → h'.get? b = some o)) E) PySem.F.called_set.init.plain PySem.F.entry_set_init (check_set_init_1 gT ?_)) fun r₂ s₂ hr₂ => ?_
      · have q8 := PySem.F.sub_str_set
        have q9 := PySem.F.sub_str_frozenset
        have qa : (Value.type "str" == Value.type "dict") = false := by decide
        unfold Builtin.«set.__init__» noKeywords Builtin.Frozenset.updateFrom
        generalize hPI : pyIter = PI
        wp_walk
        subst hPI
        generalize hso : ({ cls := .type "set", dict := none, data := .set #[] 0 (.fresh 0 0 led) } : Obj) = so at gS ⊢
        refine wpAny_pyIter_str fun o St W hst => ?_
        refine wpAny_bind (wpAny_runValue ?_)
        have sz : (s.heap.push so).objs.size = s.heap.objs.size + 1 := Heap.size_push ..
        have nI : s.heap.objs.size ∉ [(s.heap.push so).objs.size] := by
          rw [sz]; simp only [List.mem_singleton]; exact Nat.ne_of_lt (Nat.lt_succ_self _)
        refine loopSigns (W A.in1.in1.in1 (by simp [hh])).toS s.heap.objs.size nI hz (z.cps.size - 0) 0 _ (by omega) (Nat.zero_le _) hst ?hU ?hR
        case hU =>
          have g2 : ((s.heap.push so).push o).get? s.heap.objs.size = some so := Heap.get?_push_of_some _ gS
          unfold InU
          subst hso
          exact SetOf_congr ((setObjOf_fresh (knd := PySem.strKind prog w) led).setOf g2 (by unfold scanBound; omega)) (fun _ => by simp [uq]) (by simp [uq])
        case hR =>
          intro s' mv u
          obtain ⟨h', g', d', tk', os'⟩ := s'
          obtain rfl : g' = s.gens := mv.gens
          obtain rfl : d' = s.drawn := mv.drawn
          obtain rfl : os' = s.os := mv.os
          show wpAny _ _ _ _ _ _
          refine wpAny_pure ?_
          show wpAny _ _ (ret Value.none) _ _ _
          refine wpAny_pure ⟨rfl, h', tk', rfl, u, fun b o hb e => mv.heap b o (fun hm => ?_) (Heap.get?_push_of_some _ (Heap.get?_push_of_some _ e))⟩
          rcases List.mem_cons.mp hm with e1 | e1
          · exact Nat.ne_of_lt hb e1
          · rw [List.mem_singleton.mp e1, sz] at hb
            omega
      · cases r₂ with
        | error e => exact hr₂
        | ok fl₂ =>
          cases fl₂ with
          | ret r =>
            obtain ⟨rfl, h', tk, rfl, u, hk⟩ := hr₂
            repeat (any_goals (first | assumption | wp_step))
            exact h _ _ u hk
          | _ => exact hr₂.elim
    | _ => exact hr.elim
end
section
variable {X : Cx}
def tLenSetS (ta : TE) : TE := fun σ H Q => ta σ H fun x H1 => ∃ z : Str, x = .str z ∧ z.cps.size ≤ 1000 ∧ Q (.int ((uq z.cps.toList).length : Nat)) H1
theorem pe_lenSetS {a : Expr} {ta : TE} {p p2 q pos : Pos} (hc : X.calm = true) (hg : Gl X "len") (hm : X.mg "len" = none) (hg2 : Gl X "set") (hm2 : X.mg "set" = none) (ha : PE X a ta)
    (na : starEach [a] X.env = (false, eval a X.env) :: starEach [] X.env := by rfl) : PE X (.Call (.Name "len" p) [.Call (.Name "set" p2) [a] [] q] [] pos) (tLenSetS ta) := by
  refine ⟨fun pins s σ H Q I h => ?_⟩
  refine Call_ (ld_blt I hg hm PySem.boot_len ?_)
  refine callWith_builtin1 (args_cons ?_ rfl) rfl rfl
  refine Call_ (ld_blt I hg2 hm2 PyProof.Rows.boot_set ?_)
  refine callWith_type1 (args_cons (thn (ha.run pins s σ H _ I h) fun v s1 k => args_nil ?_) na) na rfl
  obtain ⟨x, H1, I1, r1, z, rfl, hz, q1⟩ := k
  obtain ⟨t, rfl⟩ := r1
  refine call_setS (I1.ok.hd hc) hz fun h' tk u hk => args_nil ?_
  unfold InU at u
  have ef : z.cps.toList.take z.cps.size = z.cps.toList := List.take_of_length_le (by rw [Array.length_toList]; exact Nat.le_refl _)
  rw [ef] at u
  have hl := uq_le z.cps.toList
  rw [Array.length_toList] at hl
  obtain ⟨o, es, ep, tb, ho, hex, hd, _, _, _, hf, hn⟩ := u
  have I2 : Inv X pins σ H1 { s1 with heap := h', toks := tk } := I1.kept fun b o e => hk b o (Heap.lt_size e) e
  exact call_len_set ho hex hd hf (by rw [hn]; exact Int.lt_of_le_of_lt (Int.ofNat_le.mpr (Nat.le_trans hl hz)) (by decide)) ⟨.int ((uq z.cps.toList).length : Nat), H1, I2.tok _, ⟨_, by rw [hn]⟩, q1⟩
end
end Kt
namespace Kt
open PySem PySem.Spec PyProof.Rows L2

/-! ### the test of a sign between two bounds -/
def pbIn (k1 k2 : Str) (c : Nat) : Bool := !decide ([c] < k1.cps.toList) && !decide (k2.cps.toList < [c])
theorem elt_in {prog : Program} {w : World} {scope : Scope} {x k1 k2 : Str} {j1 j2 : Nat} {p0 p1 p2 p3 : Pos} (hk : scope.kind = .function) (hl : scope.names.lookup x = some .local) (hd : (x == ("__debug__" : Str)) = false := by decide) :
    GxR.EltP prog w scope x (.Compare (.Constant (.str k1) j1 p0) [.LtE, .LtE] [.Name x p1, .Constant (.str k2) j2 p2] p3) (pbIn k1 k2) := by
  intro cenv A' E' c t s₂ m₂ hs hn hm
  refine Compare_chain (Calls.Constant_str (chain_link (wpAny_Name (wpAny_loadName_local (by rw [hs]; exact hk) (show cenv.scope.names.lookup x = some .local by rw [hs]; exact hl) ?_ hm ?_) hd))) (by rfl)
  · exact hn
  refine PySem.P.le_str (wpAny_truthy_bool ?_)
  show (if _ then _ else _)
  unfold pbIn
  cases h : decide ([c] < k1.cps.toList) with
  | true =>
    simp only [Bool.not_true, Bool.false_and]
    rw [if_neg Bool.false_ne_true]
    exact ⟨trivial, GxR.keeps_tok _ _⟩
  | false =>
    simp only [Bool.not_false, Bool.true_and]
    rw [if_pos trivial]
    refine chain_last (Calls.Constant_str (PySem.P.le_str ?_))
    exact ⟨rfl, ⟨_, _, rfl, fun _ _ e => e⟩⟩
theorem pbIn_32_126 (c : Nat) : pbIn " " "~" c = decide (32 ≤ c ∧ c ≤ 126) := by
  have e1 : (" " : Str).cps.toList = [32] := by decide
  have e2 : ("~" : Str).cps.toList = [126] := by decide
  unfold pbIn
  rw [e1, e2]
  by_cases h1 : c < 32
  · simp [List.cons_lt_cons_iff, h1]; omega
  · by_cases h2 : 126 < c
    · simp [List.cons_lt_cons_iff, h1, h2]
      try omega
    · simp [List.cons_lt_cons_iff, h1, h2]
      omega

/-! ### what stays, but for a table -/
/-- H' has all of H, the table at P may have grown -/
structure Kp (P : Addr) (H H' : Hp) : Prop where
  tab : GxR.TabG H' P
  at' : ∀ b o, b ≠ P → H b = some o → H' b = some o
theorem Kp.refl {P : Addr} {H : Hp} (t : GxR.TabG H P) : Kp P H H := ⟨t, fun _ _ _ h => h⟩
theorem Kp.trans {P : Addr} {H H1 H2 : Hp} (a : Kp P H H1) (b : Kp P H1 H2) : Kp P H H2 := ⟨b.tab, fun c o n h => b.at' c o n (a.at' c o n h)⟩
theorem Kp.of_tabbed {P : Addr} {H H' : Hp} (t : GxR.Tabbed P H H') : Kp P H H' := ⟨t.1, fun b o n h => by rw [t.2 b n]; exact h⟩
theorem tab_same {P : Addr} {H H' : Hp} (t : GxR.TabG H P) (k : ∀ o, H P = some o → H' P = some o) : GxR.TabG H' P := by
  obtain ⟨ps, h1, h2⟩ := t
  exact ⟨ps, k _ h1, h2⟩
theorem Kp.same {P : Addr} {H H' : Hp} (t : GxR.TabG H P) (s : Same H H') : Kp P H H' := ⟨tab_same t fun o e => s P o e, fun b o _ h => s b o h⟩
theorem tab_ne {P b : Addr} {H : Hp} {o : HO} (t : GxR.TabG H P) (h : H b = some o) (n : ∀ ps, o ≠ .tbl ps) : b ≠ P := fun e => by
  obtain ⟨ps, h1, _⟩ := t
  rw [e, h1] at h
  exact n ps (Option.some.inj h).symm
theorem tab_new {P b : Addr} {H : Hp} (t : GxR.TabG H P) (h : H b = none) : b ≠ P := fun e => by
  obtain ⟨ps, h1, _⟩ := t
  rw [e, h1] at h
  cases h
/-- what is no table stays -/
theorem Kp.get {P b : Addr} {H H' : Hp} {o : HO} (k : Kp P H H') (t : GxR.TabG H P) (h : H b = some o) (n : ∀ ps, o ≠ .tbl ps) : H' b = some o := k.at' b o (tab_ne t h n) h
theorem Kp.new {P b : Addr} {H H' : Hp} (k : Kp P H H') (t : GxR.TabG H P) (h : H' b = none) : H b = none := by
  cases q : H b with
  | none => rfl
  | some o =>
    by_cases e : b = P
    · exact absurd e (tab_new k.tab h)
    · rw [k.at' b o e q] at h
      cases h
theorem Kp.upd {P p : Addr} {H : Hp} {o : HO} (t : GxR.TabG H P) (n : H p = none) : Kp P H (upd H p o) :=
  Kp.same t fun b u e => by rw [upd_ne (ne_of_none e n)]; exact e
theorem same_new {H : Hp} {p : Addr} {o : HO} (h : H p = none) : Same H (upd H p o) := fun b x e => by
  rw [upd_ne (ne_of_none e h)]; exact e
/-- a list, a tuple that is read -/
theorem Kp.seqL {P a : Addr} {K : PySem.W.Frag} {H H' : Hp} {xs : List V} (k : Kp P H H') (t : GxR.TabG H P) (h : SqL K H a xs) : SqL K H' a xs := by
  rcases h with (h | ⟨o, h⟩) | h
  · exact .inl (.inl (k.get t h fun ps e => nomatch e))
  · exact .inl (.inr ⟨o, k.get t h fun ps e => nomatch e⟩)
  · exact .inr h
theorem Kp.seqT {P a : Addr} {K : PySem.W.Frag} {H H' : Hp} {xs : List V} (k : Kp P H H') (t : GxR.TabG H P) (h : SqT K H a xs) : SqT K H' a xs := by
  rcases h with (h | ⟨o, h⟩) | h
  · exact .inl (.inl (k.get t h fun ps e => nomatch e))
  · exact .inl (.inr ⟨o, k.get t h fun ps e => nomatch e⟩)
  · exact .inr h

/-! ### the end: the tables of the text's defs are empty where the law begins -/
theorem end_tab {l : PySem.W.OpenLaw} {n k : Nat} {q : Program} {loose : List Str} {XP : (Str → Option Value) → Heap → Prop} {YP : World → Heap → Prop} {d : DefRec} {K : Params → PySem.W.Frag} {CX : World → CXT} {x : Str}
    (hn : l.most = some n) (hn2 : n ≤ sizeLine) (hdf : d.params.defaults = []) (hr : Room k callerA) (hY : ∀ (w : World) (h : Heap), YP w h → (K w.params).In h)
    (F : ∀ (w : World) (mg : Str → Option Value) (fa : Addr) (h : Heap), YP w h → (K w.params).In h → h.Ns mainGlobals mg → mg d.name = some (.ref fa) →
      (∀ (y : Str) (c P : Addr), ((recsOf q).any fun r => r.name == y) = true → PySem.W.tabIn (K w.params) y = some (c, P) → PySem.W.CodeHd h c P ∧ h.get? P = some (PySem.W.tabObj #[])) →
      LamX.LawAtS l w (K w.params) (CX w) k n x mg fa h)
    (hC : ∀ (w : World) (H : Hp) (s : Shared) (e : Value) (s' : Shared), CX w [] H s (fun _ _ _ => False) e s' → False) :
    PySem.W.WalkO q loose XP YP l.row.toRowW d [] (fun f vs => PySem.call f vs) := by
  refine Att.attach_callB hn hdf fun w s0 s1 mg mb fa ob p1 p2 p3 a vs ns G Y h1 h2 h3 hmg hl hi hlen hbit hgen => ?_
  have KX := hY w _ Y
  have tabs : ∀ (y : Str) (c P : Addr), ((recsOf q).any fun r => r.name == y) = true → PySem.W.tabIn (K w.params) y = some (c, P) → PySem.W.CodeHd s1.heap c P ∧ s1.heap.get? P = some (PySem.W.tabObj #[]) := fun y c P u1 u2 => by
    have u3 : ((recsOf q).find? fun r => r.name == y).isSome = true := by
      rw [List.find?_isSome]
      obtain ⟨r, h1, h2⟩ := List.any_eq_true.mp u1
      exact ⟨r, h1, h2⟩
    obtain ⟨e, he⟩ := Option.isSome_iff_exists.mp u3
    exact PySem.W.tab_of G.T KX he u2
  obtain ⟨fd, cs, sp, t1, t2, t3, t4, t5, t6⟩ := F w mg fa _ Y KX G.T.g hmg tabs
  refine LamX.law_callTs KX G.T.g G.T.b G.T.builtins G.T.nolimit hgen t1 t2 t3 G.T.bmain hl hi (Nat.le_trans hlen hn2) hr t6 t4 (fun H u1 u2 => t5 H a ns hlen hbit u1 u2) ?_
  exact fun H e s' => hC w H s1 e s'
theorem gx_of {base : Heap} {mg : Str → Option Value} {c P : Addr} (t : LamX.TabB base mg c P) : GxR.TabB base mg c P := ⟨t.code, t.bm, t.gP⟩
end Kt
namespace Kt
open PySem PySem.Spec PyProof.Rows L2

/-! ### a def of the text -/
structure Df (K : PySem.W.Frag) (mg : Str → Option Value) (x : Str) (st : Stmt) (ps : List Str) (y : Str := x) where
  f : Addr
  fd : FuncData
  F : Fun K x x st f fd
  b : Binds K fd ps []
  g : mg y = some (.ref f)
/-- its code object is known -/
structure Coded (K : PySem.W.Frag) (x : Str) (st : Stmt) (f : Addr) (fd : FuncData) (c : Addr) : Prop where
  ex : ∃ (oc : Value) (od : Option Addr) (kV doc pm : Value) (an : Option Addr) (ct : Value) (osl : Array (Option Value)),
    fd = PySem.W.fnOf x x (defArgs st) (defBody st) (defScope st) .none kV doc pm an (.ref c) ct ∧ K.lookup f = some ⟨oc, od, .func fd, osl⟩ ∧ PySem.W.codeIn K (.ref c) x = true
section
variable {P : Program} {w : World} {K : PySem.W.Frag} {mg : Str → Option Value} {base : Heap}
theorem Coded.ok {x : Str} {st : Stmt} {f c : Addr} {fd : FuncData} {N ps : List Str} {k : Nat} {sp : Sp} (C : Coded K x st f fd c) (S : FnScope N ps (defScope st)) (len : ∀ vs H Q E, sp vs H Q E → vs.length = ps.length)
    (hb : ∀ (A : Around) (outer : List Env) (s : Shared) (H : Hp) (vs : List V) (Q : VK) (E : XK), Room k (A.deeper (envOfC x (defScope st) s.heap.objs.size f (.ref c))) → sp vs H Q E →
      ∃ t, PSs (cxOf CX0 P w K mg base N x (defScope st) f (.ref c) A outer s H E).nox (defBody st) t ∧
        t { nx := fun _ H' => Q .non H', rt := Q } (start N vs) H) : FnOk P w K mg base CX0 (k + 1) f fd ps sp := by
  obtain ⟨oc, od, kV, doc, pm, an, ct, osl, e, lk, hcd⟩ := C.ex
  subst e
  refine fn_of lk hcd S len fun A outer s H vs Q E room h => ?_
  obtain ⟨t, h1, h2⟩ := hb A outer s H vs Q E room h
  exact ⟨t, h1.nox, h2⟩
end

/-! ### lists of ints compared -/
theorem dpInts (K : PySem.W.Frag) (H : Hp) : ∀ ns : List Int, DpAll K H (ns.map V.int) (ns.map PyData.int)
  | [] => .nil
  | n :: r => .cons (.int n) (dpInts K H r)
theorem eqv_ints (ns ms : List Int) : PyData.eqv (.list (ns.map PyData.int)) (.list (ms.map PyData.int)) = decide (ns = ms) := by
  rw [← PySem.SeqAt.same_eq_eqv _ _ (by simp only [PySem.SeqAt.noMix]; exact PySem.W.noMix_ints ns ms), PySem.Spec.same]
  exact PySem.W.same_ints ns ms
section
variable {X : Cx}
def rEqI (K : PySem.W.Frag) (g : Bool → Bool) : R2 := fun x y H Q => ∃ (a b : Addr) (ns ms : List Int), x = .ref a ∧ y = .ref b ∧ SqL K H a (ns.map V.int) ∧ SqL K H b (ms.map V.int) ∧ Q (.bl (g (decide (ns = ms)))) H
theorem op_eqI (hu : X.A.units + 64 < cLine) : OpR X (compareOp .Eq) (rEqI X.K id) := by
  intro pins s σ H x y v u Q I rx ry h
  obtain ⟨a, b, ns, ms, rfl, rfl, h1, h2, q⟩ := h
  exact op_eqD hu pins s σ H _ _ v u Q I rx ry ⟨_, _, .lst h1 (dpInts _ _ ns), .lst h2 (dpInts _ _ ms), PySem.W.shaped_ints ns, PySem.W.shaped_ints ms, by rw [eqv_ints]; exact q⟩
theorem op_neI (hu : X.A.units + 64 < cLine) : OpR X (compareOp .NotEq) (rEqI X.K not) := by
  intro pins s σ H x y v u Q I rx ry h
  obtain ⟨a, b, ns, ms, rfl, rfl, h1, h2, q⟩ := h
  exact op_neD hu pins s σ H _ _ v u Q I rx ry ⟨_, _, .lst h1 (dpInts _ _ ns), .lst h2 (dpInts _ _ ms), PySem.W.shaped_ints ns, PySem.W.shaped_ints ms, by rw [eqv_ints]; exact q⟩
end

theorem ix_ok {n j : Nat} {z : Int} (e : z = (j : Int)) (h : j < n) : ixN n z = some j := by
  subst e
  unfold ixN
  rw [if_pos (by omega), if_pos (by omega)]
  rfl

theorem at_map {α β : Type} {f : α → β} {xs : List α} {i : Nat} {y : β} (h : (xs.map f)[i]? = some y) : ∃ x, xs[i]? = some x ∧ y = f x := by
  rw [List.getElem?_map] at h
  obtain ⟨x, h1, h2⟩ := Option.map_eq_some_iff.mp h
  exact ⟨x, h1, h2.symm⟩
theorem map_at {α β : Type} {f : α → β} {xs : List α} {i : Nat} {x : α} (h : xs[i]? = some x) : (xs.map f)[i]? = some (f x) := by
  rw [List.getElem?_map, h]; rfl
theorem dec_f {p : Prop} [Decidable p] (h : ¬ p) : V.bl (decide p) = V.bl false := by rw [decide_eq_false h]
theorem dec_t {p : Prop} [Decidable p] (h : p) : V.bl (decide p) = V.bl true := by rw [decide_eq_true h]

/-- the readings of len, list, by the written part alone -/
def rLenQ (K : PySem.W.Frag) : List V → Hp → VK → Prop := fun xs H Q => ∃ p ys, xs = [.ref p] ∧ (SqL K H p ys ∨ SqT K H p ys) ∧ Q (.int ys.length) H

theorem lc_yes {σ : L2.St} {H : Hp} {A B : Hp → Prop} (h : A H) : tYes σ H (fun b H3 => if b = true then A H3 else B H3) := by
  show (if true = true then A H else B H)
  rw [if_pos rfl]
  exact h

theorem perm_erase {α : Type} {x : α} : ∀ {l : List α} {k : Nat}, l[k]? = some x → ([x] ++ l.eraseIdx k).Perm l
  | [], k, h => by simp at h
  | a :: r, 0, h => by
    simp at h; subst h; simp
  | a :: r, k + 1, h => by
    have ih := perm_erase (l := r) (k := k) (by simpa using h)
    rw [List.eraseIdx_cons_succ]
    exact (List.Perm.swap a x _).trans (ih.cons a)
theorem erase_map {α β : Type} (f : α → β) : ∀ (l : List α) (k : Nat), (l.map f).eraseIdx k = (l.eraseIdx k).map f
  | [], k => by simp
  | a :: r, 0 => by simp
  | a :: r, k + 1 => by simp [erase_map f r k]

/-! ### the law's box -/
def BoxAt (H : Hp) (b l : Addr) : Prop := ∃ (ns : List Int) (st : Int), H b = some (.lst [.ref l, .int st]) ∧ H l = some (.lst (ns.map V.int))
theorem BoxAt.ne {H : Hp} {b l : Addr} (x : BoxAt H b l) : b ≠ l := by
  obtain ⟨ns, st, h1, h2⟩ := x
  refine ne_of h1 h2 fun e => ?_
  injection e with e
  cases ns with
  | nil => cases e
  | cons n r => injection e with e _; cases e
/-- the box was drawn from; what else stood, stands -/
structure Bxd (b l : Addr) (H H' : Hp) : Prop where
  box : BoxAt H' b l
  at' : ∀ a o, a ≠ b → a ≠ l → H a = some o → H' a = some o
theorem Bxd.refl {b l : Addr} {H : Hp} (x : BoxAt H b l) : Bxd b l H H := ⟨x, fun _ _ _ _ h => h⟩
theorem Bxd.trans {b l : Addr} {H H1 H2 : Hp} (x : Bxd b l H H1) (y : Bxd b l H1 H2) : Bxd b l H H2 := ⟨y.box, fun a o h1 h2 h => y.at' a o h1 h2 (x.at' a o h1 h2 h)⟩
theorem BoxAt.kp {b l : Addr} {H H' : Hp} (x : BoxAt H b l) (k1 : ∀ o, H b = some o → H' b = some o) (k2 : ∀ o, H l = some o → H' l = some o) : BoxAt H' b l := by
  obtain ⟨ns, st, h1, h2⟩ := x
  exact ⟨ns, st, k1 _ h1, k2 _ h2⟩
theorem BoxAt.same {b l : Addr} {H H' : Hp} (x : BoxAt H b l) (s : Same H H') : BoxAt H' b l := x.kp (fun o => s b o) fun o => s l o
theorem Bxd.same {b l : Addr} {H H' : Hp} (x : BoxAt H b l) (s : Same H H') : Bxd b l H H' := ⟨x.same s, fun a o _ _ h => s a o h⟩
theorem Bxd.new {b l p : Addr} {H H' : Hp} (x : Bxd b l H H') (bx : BoxAt H b l) (h : H' p = none) : H p = none := by
  cases q : H p with
  | none => rfl
  | some o =>
    obtain ⟨ns, st, h1, h2⟩ := x.box
    by_cases e1 : p = b
    · rw [e1, h1] at h; cases h
    · by_cases e2 : p = l
      · rw [e2, h2] at h; cases h
      · rw [x.at' p o e1 e2 q] at h; cases h
/-- a tuple stays, a list of other things too -/
theorem BoxAt.tup {H : Hp} {b l t : Addr} {xs : List V} (x : BoxAt H b l) (h : H t = some (.tup xs)) : t ≠ b ∧ t ≠ l := by
  obtain ⟨ns, st, h1, h2⟩ := x
  exact ⟨ne_of h h1 (fun e => nomatch e), ne_of h h2 (fun e => nomatch e)⟩
theorem Bxd.tup {H H' : Hp} {b l t : Addr} {xs : List V} (x : Bxd b l H H') (bx : BoxAt H b l) (h : H t = some (.tup xs)) : H' t = some (.tup xs) := x.at' t _ (bx.tup h).1 (bx.tup h).2 h
theorem Bxd.tab {H H' : Hp} {b l P : Addr} (x : Bxd b l H H') (bx : BoxAt H b l) (t : GxR.TabG H P) : GxR.TabG H' P := by
  obtain ⟨ps, h1, h2⟩ := t
  obtain ⟨ns, st, q1, q2⟩ := bx
  exact ⟨ps, x.at' P _ (ne_of h1 q1 fun e => nomatch e) (ne_of h1 q2 fun e => nomatch e) h1, h2⟩
theorem BoxAt.kpP {b l P : Addr} {H H' : Hp} (x : BoxAt H b l) (t : GxR.TabG H P) (k : Kp P H H') : BoxAt H' b l := by
  obtain ⟨ns, st, h1, h2⟩ := x
  exact ⟨ns, st, k.get t h1 (fun _ e => nomatch e), k.get t h2 (fun _ e => nomatch e)⟩

/-! ### the promises of the law's own helpers -/
def spTake : Sp := fun vs H Q _ => ∃ (b l : Addr) (m : Int), vs = [.ref b, .int m] ∧ BoxAt H b l ∧ 0 < m ∧ m.natAbs < 2 ^ 250 ∧
  ∀ v H', 0 ≤ v → v < m → Bxd b l H H' → Q (.int v) H'
def spBegun (K : PySem.W.Frag) : Sp := fun vs H Q _ => ∃ (a : Addr) (ns : List Int), vs = [.ref a] ∧ SqL K H a (ns.map V.int) ∧ ns.length ≤ 63 ∧
  ∀ b l H', Same H H' → BoxAt H' b l → H b = none → H l = none → Q (.ref b) H'
def spAlike : Sp := fun vs H Q _ => ((∃ s : Str, vs = [.str s, .str s]) ∨ ∃ i : Int, vs = [.int i, .int i]) ∧ Q (.bl true) H
/-- the list of one-sign texts -/
def sgs (ps : List Nat) : List V := (ps.map sg).map V.str
def spPicked : Sp := fun vs H Q _ => ∃ (b l : Addr) (z : Str) (m : Nat), vs = [.ref b, .str z, .int m] ∧ BoxAt H b l ∧ z.cps.size ≤ 1000 ∧ m ≤ z.cps.size ∧
  ∀ (D : Addr) (ps rest : List Nat) H', (ps ++ rest).Perm z.cps.toList → ps.length = m → Bxd b l H H' → H D = none → H' D = some (.lst (sgs ps)) → Q (.ref D) H'
/-- a sheet that can be -/
structure Good (z o : Str) (hm : V) : Prop where
  len : o.cps.size = z.cps.size
  pos : 1 ≤ z.cps.size
  le : z.cps.size ≤ 26
  nz : z.cps.toList.Nodup
  no : o.cps.toList.Nodup
  pz : ∀ c ∈ z.cps.toList, 32 ≤ c ∧ c ≤ 126
  po : ∀ c ∈ o.cps.toList, 32 ≤ c ∧ c ≤ 126
  home : hm = .non ∨ ∃ h : Nat, hm = .int h ∧ h < z.cps.size
/-- the sheet stands at t -/
def Sh (H : Hp) (t : Addr) (z o : Str) (hm : V) : Prop := H t = some (.tup [.str z, .str o, hm])
def spSheet : Sp := fun vs H Q _ => ∃ (b l : Addr) (most : Nat), vs = [.ref b, .int most] ∧ BoxAt H b l ∧ 1 ≤ most ∧ most ≤ 26 ∧
  ∀ t z o hm H', Good z o hm → z.cps.size ≤ most → Bxd b l H H' → H t = none → Sh H' t z o hm → Q (.ref t) H'
/-- codes of a sheet of n -/
def Codes (n : Nat) (cs : List Int) : Prop := ∀ c ∈ cs, 0 ≤ c ∧ c < (n : Int) + 2
def spTape : Sp := fun vs H Q _ => ∃ (b l t : Addr) (z o : Str) (hm : V) (most : Nat), vs = [.ref b, .ref t, .int most] ∧ BoxAt H b l ∧ Good z o hm ∧ Sh H t z o hm ∧ most ≤ 100 ∧
  ∀ (D : Addr) (cs : List Int) H', cs.length ≤ most → Codes z.cps.size cs → Bxd b l H H' → H D = none → H' D = some (.lst (cs.map V.int)) → Q (.ref D) H'

/-! ### reading -/
def rdStep (z o : Str) (hm : V) (s : Str × Int) (c : Int) : Str × Int :=
  if (z.cps.size : Int) ≤ c then (s.1, c - z.cps.size)
  else (s.1 ++ sg ((if s.2 = 0 then z else o).cps.toList.getD c.toNat 0), if V.int c = hm then 0 else s.2)
def rd (z o : Str) (hm : V) (cs : List Int) (b : Int) : Str × Int := cs.foldl (rdStep z o hm) (Str.ofString "", b)
def Is01 (b : Int) : Prop := b = 0 ∨ b = 1
theorem rd_snoc (z o : Str) (hm : V) (cs : List Int) (b c : Int) : rd z o hm (cs ++ [c]) b = rdStep z o hm (rd z o hm cs b) c := by
  unfold rd; rw [List.foldl_append]; rfl
theorem rd_take {z o : Str} {hm : V} {cs : List Int} {b c : Int} {i : Nat} (h : cs[i]? = some c) : rd z o hm (cs.take (i + 1)) b = rdStep z o hm (rd z o hm (cs.take i) b) c := by
  rw [List.take_add_one, h]; exact rd_snoc ..
theorem sg_len (c : Nat) : (sg c).length = 1 := rfl
theorem rdStep_ok {z o : Str} {hm : V} (s : Str × Int) {c : Int} (h1 : Is01 s.2) (h2 : 0 ≤ c ∧ c < (z.cps.size : Int) + 2) :
    Is01 (rdStep z o hm s c).2 ∧ (rdStep z o hm s c).1.length ≤ s.1.length + 1 := by
  unfold rdStep
  by_cases h : (z.cps.size : Int) ≤ c
  · rw [if_pos h]
    refine ⟨?_, Nat.le_succ _⟩
    show c - z.cps.size = 0 ∨ c - z.cps.size = 1
    omega
  · rw [if_neg h]
    refine ⟨?_, ?_⟩
    · show Is01 (if V.int c = hm then 0 else s.2)
      split
      · exact .inl rfl
      · exact h1
    · show (s.1 ++ sg _).length ≤ _
      rw [Str.length_append, sg_len]; exact Nat.le_refl _
theorem rd_ok {z o : Str} {hm : V} {b : Int} (hb : Is01 b) : ∀ {cs : List Int}, Codes z.cps.size cs → ∀ i, Is01 (rd z o hm (cs.take i) b).2 ∧ (rd z o hm (cs.take i) b).1.length ≤ i := by
  intro cs hc i
  induction i with
  | zero => exact ⟨hb, by rw [List.take_zero]; exact Nat.le_refl _⟩
  | succ i ih =>
    cases h : cs[i]? with
    | none =>
      have e : cs.take (i + 1) = cs.take i := by
        rw [List.take_add_one, h]; simp
      rw [e]; exact ⟨ih.1, Nat.le_succ_of_le ih.2⟩
    | some c =>
      rw [rd_take h]
      have := rdStep_ok (hm := hm) (o := o) (rd z o hm (cs.take i) b) ih.1 (hc c (List.mem_of_getElem? h))
      exact ⟨this.1, Nat.le_trans this.2 (Nat.succ_le_succ ih.2)⟩
/-- the law's own read, and the program's before its checks -/
def spRd (K : PySem.W.Frag) : Sp := fun vs H Q _ => ∃ (t a : Addr) (z o : Str) (hm : V) (cs : List Int) (b : Int), vs = [.ref t, .ref a, .int b] ∧ Good z o hm ∧ Sh H t z o hm ∧ SqL K H a (cs.map V.int) ∧ Codes z.cps.size cs ∧ cs.length ≤ 1000 ∧ Is01 b ∧
  ∀ p H', Same H H' → H p = none → H' p = some (.tup [.str (rd z o hm cs b).1, .int (rd z o hm cs b).2]) → Q (.ref p) H'
end Kt
namespace Kt
open PySem PySem.Spec PyProof.Rows L2
theorem joinL_one : ∀ ps : List Nat, TL.joinL [] (ps.map fun c => [c]) = ps
  | [] => rfl
  | [c] => rfl
  | c :: d :: r => by
    have ih := joinL_one (d :: r)
    show [c] ++ ([] ++ TL.joinL [] ((d :: r).map fun c => [c])) = c :: d :: r
    rw [ih]; rfl
theorem join_sg (ps : List Nat) : Txt.join (Str.ofString "") (ps.map sg) = ⟨ps.toArray⟩ := by
  rw [TL.join_eq]
  have e := TL.tl_join (Str.ofString "") (ps.map sg)
  have e0 : TL.tl (Str.ofString "") = [] := by decide +kernel
  have e1 : (ps.map sg).map TL.tl = ps.map fun c => [c] := by
    rw [List.map_map]; rfl
  rw [e0, e1, joinL_one] at e
  generalize Str.join (Str.ofString "") (ps.map sg) = s at e
  obtain ⟨a⟩ := s
  have e2 : a.toList = ps := e
  rw [← e2]
/-- the signs that a sheet's set is picked from -/
def SOk (s : Str) : Bool := decide (s.cps.toList.Nodup) && s.cps.toList.all (fun c => decide (32 ≤ c) && decide (c ≤ 126)) && decide (26 ≤ s.cps.size) && decide (s.cps.size ≤ 1000)
theorem SOk.elim {s : Str} (h : SOk s = true) : s.cps.toList.Nodup ∧ (∀ c ∈ s.cps.toList, 32 ≤ c ∧ c ≤ 126) ∧ 26 ≤ s.cps.size ∧ s.cps.size ≤ 1000 := by
  unfold SOk at h
  simp only [Bool.and_eq_true, decide_eq_true_eq, List.all_eq_true] at h
  exact ⟨h.1.1.1, h.1.1.2, h.1.2, h.2⟩
theorem picked_ok {s : Str} {ps rest : List Nat} (h : SOk s = true) (p : (ps ++ rest).Perm s.cps.toList) : ps.Nodup ∧ ∀ c ∈ ps, 32 ≤ c ∧ c ≤ 126 := by
  obtain ⟨h1, h2, _⟩ := SOk.elim h
  refine ⟨(List.nodup_append.mp (p.nodup_iff.mpr h1)).1, fun c hc => h2 c (p.mem_iff.mp (List.mem_append_left _ hc))⟩
theorem sgs_len (ps : List Nat) : (sgs ps).length = ps.length := by simp [sgs]
theorem sgs_at {ps : List Nat} {i : Nat} {c : Nat} (h : ps[i]? = some c) : (sgs ps)[i]? = some (.str (sg c)) := map_at (map_at h)
theorem sgs_flat (ps : List Nat) : (sgs ps).all flatV = true := by
  unfold sgs
  rw [List.all_eq_true]
  intro v hv
  obtain ⟨s, _, rfl⟩ := List.mem_map.mp hv
  rfl
theorem sgs_in (c : Nat) (ps : List Nat) : inV (.str (sg c)) (sgs ps) = decide (c ∈ ps) := by
  unfold inV sgs
  rw [Bool.eq_iff_iff, List.any_eq_true, decide_eq_true_eq]
  constructor
  · rintro ⟨v, hv, e⟩
    obtain ⟨s, hs, rfl⟩ := List.mem_map.mp hv
    obtain ⟨d, hd, rfl⟩ := List.mem_map.mp hs
    have e1 : (sg d == sg c) = true := e
    rw [← sg_inj (eq_of_beq e1)]
    exact hd
  · intro h
    refine ⟨.str (sg c), List.mem_map.mpr ⟨_, List.mem_map.mpr ⟨c, h, rfl⟩, rfl⟩, ?_⟩
    show (sg c == sg c) = true
    exact beq_self_eq_true _
theorem sgs_set (ps : List Nat) (i c : Nat) : (sgs ps).set i (.str (sg c)) = sgs (ps.set i c) := by
  unfold sgs; rw [List.map_set, List.map_set]
theorem nodup_set : ∀ {ps : List Nat} {i c : Nat}, ps.Nodup → c ∉ ps → (ps.set i c).Nodup
  | [], _, _, h, _ => h
  | a :: r, 0, c, h, hc => by
    rw [List.set_cons_zero]
    exact List.nodup_cons.mpr ⟨fun m => hc (List.mem_cons_of_mem _ m), (List.nodup_cons.mp h).2⟩
  | a :: r, i + 1, c, h, hc => by
    rw [List.set_cons_succ]
    obtain ⟨h1, h2⟩ := List.nodup_cons.mp h
    refine List.nodup_cons.mpr ⟨fun m => ?_, nodup_set h2 fun m => hc (List.mem_cons_of_mem _ m)⟩
    rcases List.mem_or_eq_of_mem_set m with q | q
    · exact h1 q
    · exact hc (q ▸ List.mem_cons_self)
theorem mem_set_or {α : Type} {ps : List α} {i : Nat} {c d : α} (h : d ∈ ps.set i c) : d ∈ ps ∨ d = c := List.mem_or_eq_of_mem_set h
theorem ix_pick {K : PySem.W.Frag} {H : Hp} {p : Addr} {s0 s1 : Str} {x : Int} {Q : VK} (hx : x = 0 ∨ x = 1) (hs : SqL K H p [.str s0, .str s1]) (k0 : SOk s0 = true) (k1 : SOk s1 = true)
    (h : ∀ s, SOk s = true → Q (.str s) H) : rIxL K (.ref p) (.int x) H Q := by
  rcases hx with e | e <;> rw [e]
  · exact ⟨p, _, 0, _, rfl, rfl, hs, atI_nat (j := 0) rfl, h s0 k0⟩
  · exact ⟨p, _, 1, _, rfl, rfl, hs, atI_nat (j := 1) rfl, h s1 k1⟩
theorem atI_nd {l : List Nat} {c : Int} (h : 0 ≤ c ∧ c < (l.length : Int)) : atI l c = some (l.getD c.toNat 0) := by
  obtain ⟨j, rfl⟩ := Int.eq_ofNat_of_zero_le h.1
  refine atI_nat ?_
  have hj : j < l.length := by omega
  rw [Int.toNat_natCast, List.getD_eq_getElem?_getD, List.getElem?_eq_getElem hj]
  rfl
theorem iteTd {p A B : Prop} [Decidable p] (h : p) (a : A) : if decide p = true then A else B := by rw [if_pos (decide_eq_true h)]; exact a
theorem iteFd {p A B : Prop} [Decidable p] (h : ¬ p) (a : B) : if decide p = true then A else B := by rw [if_neg (by simpa using h)]; exact a
end Kt
namespace Kt
open PySem PySem.Spec PyProof.Rows L2
theorem genS_by {env : Env} {scope : Scope} {x : Str} (h1 : scope.kind = .function) (h2 : scope.isCoroutine = false) (h3 : (scope.names.all fun y => !decide (y.2 = .cell) && !decide (y.2 = .free)) = true)
    (h4 : scope.names.lookup (".0" : Str) = some NameKind.local) (h5 : scope.names.lookup x = some .local) : GxR.GenS env scope x := by
  rw [List.all_eq_true] at h3
  refine ⟨h1, h2, fun y hy e => ?_, h4, h5, fun y hy e => ?_⟩
  · have := h3 y hy; rw [e] at this; simp at this
  · have := h3 y hy; rw [e] at this; simp at this
theorem tabbed_refl {P : Addr} {H : Hp} (t : GxR.TabG H P) : GxR.Tabbed P H H := ⟨t, fun _ _ => rfl⟩
/-- whether all signs are between the blank and the tilde -/
def spSigns (P : Addr) : Sp := fun vs H Q _ => ∃ z : Str, vs = [.str z] ∧ GxR.TabG H P ∧ ∀ H', GxR.Tabbed P H H' → Q (.bl (z.cps.toList.all fun c => decide (32 ≤ c ∧ c ≤ 126))) H'
/-- a set of signs that can be -/
def spCan (P : Addr) : Sp := fun vs H Q _ => ∃ z : Str, vs = [.str z] ∧ z.cps.size ≤ 1000 ∧ z.cps.toList.Nodup ∧ (∀ c ∈ z.cps.toList, 32 ≤ c ∧ c ≤ 126) ∧ GxR.TabG H P ∧ ∀ H', GxR.Tabbed P H H' → Q (.bl true) H'
def spCheckSheet (P : Addr) : Sp := fun vs H Q _ => ∃ (t : Addr) (z o : Str) (hm : V), vs = [.ref t] ∧ Good z o hm ∧ Sh H t z o hm ∧ GxR.TabG H P ∧ ∀ H', Kp P H H' → Q .non H'
def spCheckTape (K : PySem.W.Frag) : Sp := fun vs H Q _ => ∃ (t a : Addr) (z o : Str) (hm : V) (cs : List Int), vs = [.ref t, .ref a] ∧ Good z o hm ∧ Sh H t z o hm ∧ SqL K H a (cs.map V.int) ∧ Codes z.cps.size cs ∧ cs.length ≤ 100 ∧ ∀ H', Same H H' → Q .non H'
def spCheckSet : Sp := fun vs H Q _ => ∃ b : Int, vs = [.int b] ∧ Is01 b ∧ Q .non H
def behind (z : Str) (hm : V) (c nw : Int) : Int := if (z.cps.size : Int) ≤ c then c - z.cps.size else if V.int c = hm then 0 else nw
def spBehind : Sp := fun vs H Q _ => ∃ (t : Addr) (z o : Str) (hm : V) (c nw : Int), vs = [.ref t, .int c, .int nw] ∧ Good z o hm ∧ Sh H t z o hm ∧ Q (.int (behind z hm c nw)) H
def spBegun3 (K : PySem.W.Frag) (P : Addr) : Sp := fun vs H Q _ => ∃ (t a : Addr) (z o : Str) (hm : V) (cs : List Int) (b : Int), vs = [.ref t, .ref a, .int b] ∧ Good z o hm ∧ Sh H t z o hm ∧ SqL K H a (cs.map V.int) ∧ Codes z.cps.size cs ∧ cs.length ≤ 100 ∧ Is01 b ∧ GxR.TabG H P ∧
  ∀ H', Kp P H H' → Q .non H'
def spRead (K : PySem.W.Frag) (P : Addr) (last : Bool) : Sp := fun vs H Q _ => ∃ (t a : Addr) (z o : Str) (hm : V) (cs : List Int) (b : Int), vs = [.ref t, .ref a, .int b] ∧ Good z o hm ∧ Sh H t z o hm ∧ SqL K H a (cs.map V.int) ∧ Codes z.cps.size cs ∧ cs.length ≤ 100 ∧ Is01 b ∧ GxR.TabG H P ∧
  ∀ H', Kp P H H' → Q (if last then .int (rd z o hm cs b).2 else .str (rd z o hm cs b).1) H'
theorem rdStep_snd (z o : Str) (hm : V) (s : Str × Int) (c : Int) : (rdStep z o hm s c).2 = behind z hm c s.2 := by
  unfold rdStep behind
  by_cases h : (z.cps.size : Int) ≤ c
  · rw [if_pos h, if_pos h]
  · rw [if_neg h, if_neg h]
theorem tabIn_of {K : PySem.W.Frag} {x : Str} {f c P : Addr} {oc oc' : Value} {od od' : Option Addr} {fd : FuncData} {sl sl' : Array (Option Value)} {vs : Array Value} (a : PySem.W.nsIn K mainGlobals x = some (some (.ref f)))
    (l : K.lookup f = some ⟨oc, od, .func fd, sl⟩) (hc : fd.code = .ref c) (lc : K.lookup c = some ⟨oc', od', .fields vs, sl'⟩) (hv : (vs[11]? : Option Value) = some (.ref P)) : PySem.W.tabIn K x = some (c, P) := by
  unfold PySem.W.tabIn
  rw [a]
  simp only [l, hc, lc, hv]
end Kt
namespace Kt
open PySem PySem.Spec PyProof.Rows L2
/-! ### alike, at any depth -/
/-- the same data stand at both, to a depth -/
inductive Al (H : Hp) : Nat → V → V → Prop
  | non (n : Nat) : Al H n .non .non
  | bl (n : Nat) (b : Bool) : Al H n (.bl b) (.bl b)
  | int (n : Nat) (i : Int) : Al H n (.int i) (.int i)
  | str (n : Nat) (s : Str) : Al H n (.str s) (.str s)
  | lst {n : Nat} {a b : Addr} {xs ys : List V} (ha : H a = some (.lst xs)) (hb : H b = some (.lst ys)) (hl : xs.length = ys.length) (hz : xs.length ≤ 1000) (h : ∀ (i : Nat) (x y : V), xs[i]? = some x → ys[i]? = some y → Al H n x y) : Al H (n + 1) (.ref a) (.ref b)
  | tup {n : Nat} {a b : Addr} {xs ys : List V} (ha : H a = some (.tup xs)) (hb : H b = some (.tup ys)) (hl : xs.length = ys.length) (hz : xs.length ≤ 1000) (h : ∀ (i : Nat) (x y : V), xs[i]? = some x → ys[i]? = some y → Al H n x y) : Al H (n + 1) (.ref a) (.ref b)
def spAl (n : Nat) : Sp := fun vs H Q _ => ∃ a b, vs = [a, b] ∧ Al H n a b ∧ Q (.bl true) H
theorem Al.ints {H : Hp} {n : Nat} {a b : Addr} {ns : List Int} (ha : H a = some (.lst (ns.map V.int))) (hb : H b = some (.lst (ns.map V.int))) (hz : ns.length ≤ 1000) : Al H (n + 1) (.ref a) (.ref b) :=
  .lst ha hb rfl (by rw [List.length_map]; exact hz) fun i x y h1 h2 => by
    obtain ⟨k, _, rfl⟩ := at_map h1
    rw [h1] at h2
    cases h2
    exact .int n k
/-- the reading of list(..), by the written part alone -/
def rListQ (K : PySem.W.Frag) : List V → Hp → VK → Prop := fun xs H Q => ∃ p ys, xs = [.ref p] ∧ (SqL K H p ys ∨ SqT K H p ys) ∧ ∀ l, H l = none → Q (.ref l) (L2.upd H l (.lst ys))
/-! ### the tables of the text -/
structure TWs where
  gs : List Addr
  ls : List (Addr × Str)
structure Tb (W : TWs) (H : Hp) : Prop where
  g : ∀ P ∈ W.gs, GxR.TabG H P
  l : ∀ p ∈ W.ls, LamX.TabS H p.1 p.2
/-- all but the tables stays -/
structure Kz (W : TWs) (H H' : Hp) : Prop where
  tb : Tb W H'
  at' : ∀ b o, (∀ ps, o ≠ .tbl ps) → H b = some o → H' b = some o
  nn : ∀ b, H' b = none → H b = none
section
variable {W : TWs} {H H1 H' : Hp}
theorem Kz.refl (t : Tb W H) : Kz W H H := ⟨t, fun _ _ _ h => h, fun _ h => h⟩
theorem Kz.trans (a : Kz W H H1) (b : Kz W H1 H') : Kz W H H' := ⟨b.tb, fun c o n h => b.at' c o n (a.at' c o n h), fun c h => a.nn c (b.nn c h)⟩
theorem tabS_same {P : Addr} {q : Str} (t : LamX.TabS H P q) (s : Same H H') : LamX.TabS H' P q := t.ext s
theorem Tb.same (t : Tb W H) (s : Same H H') : Tb W H' := ⟨fun P h => tab_same (t.g P h) fun o e => s _ o e, fun p h => tabS_same (t.l p h) s⟩
theorem Kz.same (t : Tb W H) (s : Same H H') : Kz W H H' := ⟨t.same s, fun b o _ h => s b o h, fun b h => s.free h⟩
theorem Kz.lst {a : Addr} {xs : List V} (k : Kz W H H') (h : H a = some (.lst xs)) : H' a = some (.lst xs) := k.at' a _ (fun _ e => nomatch e) h
theorem Kz.tup {a : Addr} {xs : List V} (k : Kz W H H') (h : H a = some (.tup xs)) : H' a = some (.tup xs) := k.at' a _ (fun _ e => nomatch e) h
theorem Kz.sh {t : Addr} {z o : Str} {hm : V} (k : Kz W H H') (h : Sh H t z o hm) : Sh H' t z o hm := k.tup h
theorem sameD {H H' : Hp} {D : Addr} {o : HO} (s : Same H H') (n : H D = none) : Same H (upd H' D o) := fun b x e => by
  rw [upd_ne (ne_of_none e n)]; exact s b x e
/-- a list that was new is changed -/
theorem Kz.upd {D : Addr} {xs ys : List V} (k : Kz W H H') (n : H D = none) (e : H' D = some (.lst xs)) : Kz W H (L2.upd H' D (.lst ys)) := by
  have st : ∀ c (o : HO), (∀ us, o ≠ .lst us) → H' c = some o → L2.upd H' D (.lst ys) c = some o := fun c o m z => by
    rw [upd_ne (ne_of z e (m _))]; exact z
  refine ⟨⟨fun P h => ?_, fun p h => ?_⟩, fun b o m z => ?_, fun b z => ?_⟩
  · obtain ⟨ps, h1, h2⟩ := k.tb.g P h
    exact ⟨ps, st _ _ (fun _ e => nomatch e) h1, h2⟩
  · obtain ⟨ps, h1, h2, h3⟩ := k.tb.l p h
    refine ⟨ps, st _ _ (fun _ e => nomatch e) h1, h2, fun pos cv hc => ?_⟩
    obtain ⟨c, e1, e2⟩ := h3 pos cv hc
    exact ⟨c, e1, st _ _ (fun us e => by unfold LamX.CodeO at e; cases e) e2⟩
  · rw [upd_ne (ne_of_none z n)]; exact k.at' b o m z
  · by_cases q : b = D
    · rw [q, upd_same] at z; cases z
    · rw [upd_ne q] at z; exact k.nn b z
theorem Kz.seqL {a : Addr} {K : PySem.W.Frag} {xs : List V} (k : Kz W H H') (h : SqL K H a xs) : SqL K H' a xs := by
  rcases h with (h | ⟨o, h⟩) | h
  · exact .inl (.inl (k.at' _ _ (fun ps e => nomatch e) h))
  · exact .inl (.inr ⟨o, k.at' _ _ (fun ps e => nomatch e) h⟩)
  · exact .inr h
theorem Kz.seqT {a : Addr} {K : PySem.W.Frag} {xs : List V} (k : Kz W H H') (h : SqT K H a xs) : SqT K H' a xs := by
  rcases h with (h | ⟨o, h⟩) | h
  · exact .inl (.inl (k.at' _ _ (fun ps e => nomatch e) h))
  · exact .inl (.inr ⟨o, k.at' _ _ (fun ps e => nomatch e) h⟩)
  · exact .inr h
theorem BoxAt.kz {b l : Addr} (x : BoxAt H b l) (k : Kz W H H') : BoxAt H' b l := by
  obtain ⟨ns, st, h1, h2⟩ := x
  exact ⟨ns, st, k.lst h1, k.lst h2⟩
theorem tab_kept {P P' : Addr} (t : GxR.TabG H P) (t' : GxR.TabG H P') (k : Kp P' H H') : GxR.TabG H' P := by
  by_cases e : P = P'
  · rw [e]; exact k.tab
  · exact tab_same t fun o h => k.at' P o e h
theorem tabS_kept {P P' : Addr} {q : Str} (t : LamX.TabS H P q) (t' : GxR.TabG H P') (ne : P ≠ P') (k : Kp P' H H') : LamX.TabS H' P q := by
  obtain ⟨ps, h1, h2, h3⟩ := t
  refine ⟨ps, k.at' _ _ ne h1, h2, fun pos cv hc => ?_⟩
  obtain ⟨c, e1, e2⟩ := h3 pos cv hc
  exact ⟨c, e1, k.get t' e2 fun ps => LamX.codeO_ne ps⟩
/-- a call that may have grown one generator's table -/
theorem Kz.kp {P : Addr} (t : Tb W H) (hP : P ∈ W.gs) (ne : ∀ p ∈ W.ls, p.1 ≠ P) (k : Kp P H H') : Kz W H H' :=
  ⟨⟨fun P' h => tab_kept (t.g P' h) (t.g P hP) k, fun p h => tabS_kept (t.l p h) (t.g P hP) (ne p h) k⟩, fun b o n h => k.get (t.g P hP) h n, fun b h => k.new (t.g P hP) h⟩
theorem Bxd.tb {b l : Addr} (x : Bxd b l H H') (bx : BoxAt H b l) (t : Tb W H) : Tb W H' := by
  refine ⟨fun P h => x.tab bx (t.g P h), fun p h => ?_⟩
  obtain ⟨ps, h1, h2, h3⟩ := t.l p h
  obtain ⟨ns, st, q1, q2⟩ := bx
  have st : ∀ c (o : HO), (∀ us, o ≠ .lst us) → H c = some o → H' c = some o := fun c o n e => x.at' c o (ne_of e q1 (n _)) (ne_of e q2 (n _)) e
  refine ⟨ps, st _ _ (fun _ e => nomatch e) h1, h2, fun pos cv hc => ?_⟩
  obtain ⟨c, e1, e2⟩ := h3 pos cv hc
  exact ⟨c, e1, st _ _ (fun us e => by unfold LamX.CodeO at e; cases e) e2⟩
theorem Al.mono {n : Nat} {x y : V} (k : ∀ a o, (∀ ps, o ≠ .tbl ps) → H a = some o → H' a = some o) (h : Al H n x y) : Al H' n x y := by
  induction h with
  | non n => exact .non n
  | bl n b => exact .bl n b
  | int n i => exact .int n i
  | str n s => exact .str n s
  | lst ha hb hl hz _ ih => exact .lst (k _ _ (fun _ e => nomatch e) ha) (k _ _ (fun _ e => nomatch e) hb) hl hz ih
  | tup ha hb hl hz _ ih => exact .tup (k _ _ (fun _ e => nomatch e) ha) (k _ _ (fun _ e => nomatch e) hb) hl hz ih
end
end Kt
namespace Kt
open PySem PySem.Spec PyProof.Rows L2
/-! ### an own error's base is asked to begin it -/
section
variable {X : Cx}
theorem pe_cinit {x : Str} {B : Addr} {e : Expr} {es : List Expr} {ta : TA} {p1 p2 pos : Pos} {pl : Sem Bool} (hg : Gl X x) (hm : X.mg x = some (.ref B)) (rd : PySem.W.readsIn X.K B (.type "type") = true)
    (sg : PySem.W.specialIn X.K (.ref B) "__getattribute__" = some (some (.builtin "type.__getattribute__"))) (fc : PySem.W.findCls X.K (.ref B) (.type "type") "__init__" = some (.val (.builtin "ValueError.__init__"))) (ha : PA X (e :: es) ta) (hdb : (x == ("__debug__" : Str)) = false := by decide)
    (hc : eval (.Call (.Attribute (.Name x p1) "__init__" p2) (e :: es) [] pos) X.env = (do
      let ov ← eval (.Name x p1) X.env
      standAt p2.atName
      let (f, first) ← holding [ov] (getMethod ov "__init__" pl)
      callWith pos f first (backTo pos (starEach (e :: es) X.env)) (backToKw pos (keywordEach [] X.env))) := by rfl)
    (he : starEach (e :: es) X.env = (false, eval e X.env) :: starEach es X.env := by rfl) (hpl : (backTo pos (starEach es X.env)).any (·.1) = false := by rfl) :
    PE X (.Call (.Attribute (.Name x p1) "__init__" p2) (e :: es) [] pos) (tVeI X.K ta) := by
  refine ⟨fun pins s σ H Q I h => ?_⟩
  refine PySem.W.methodCall_KW (ld_glob I hg hm ?_ hdb) hc
  refine PySem.W.method_cls I.kIn sg (PySem.W.cls_value I.kIn rd fc (by decide +kernel) ?_)
  have I0 : Inv X pins σ H { s with toks := s.toks + 1 } := I.tok _
  show wpAny _ _ (callWith pos (Value.builtin "ValueError.__init__") [] (backTo pos (starEach (e :: es) X.env)) []) _ _ _
  refine PyProof.Rows.callWith_method1 (thn (ha.run pos pins _ σ H _ I0 h) fun us s1 hh => ?_) he hpl
  obtain ⟨vs, H1, I1, r1, a, C, ws, ev, hl, T, ea, q⟩ := hh
  subst ev
  cases r1 with
  | @cons _ u0 _ ur ra rw' =>
    obtain rfl : u0 = Value.ref a := ra
    exact oinit_ok T I1 ea (by rw [← Paired.length rw', sizeLine_eq]; omega) fun s' J => ⟨.non, H1, J, rfl, q⟩
/-! ### xs.count(y), flat things -/
theorem count_eqU {y : V} : ∀ {ys : List V} {us : List Value}, Vals ys us → ys.all flatV = true → us.countP (eqU y) = ys.countP fun z => eqV z y := by
  intro ys us r
  induction r with
  | nil => exact fun _ => rfl
  | cons h t ih =>
    intro a
    rw [List.all_cons, Bool.and_eq_true] at a
    rw [List.countP_cons, List.countP_cons, ih a.2, eqU_of h a.1]
def rCntF (K : PySem.W.Frag) : V → List V → Hp → VK → Prop := fun x xs H Q => ∃ (p : Addr) (ys : List V) (y : V), x = .ref p ∧ xs = [y] ∧ SqL K H p ys ∧ flatV y = true ∧ ys.all flatV = true ∧ Q (.int ((ys.countP fun z => eqV z y : Nat) : Int)) H
theorem mt_countF : MtR X "list.count" (rCntF X.K) := by
  intro pins s σ H x xs v us Q I rx rxs h
  obtain ⟨p, ys, y, rfl, rfl, hs, fy, fys, q⟩ := h
  cases rx
  obtain ⟨u, rfl, ry⟩ := rxs.one
  obtain ⟨its, rv, ⟨⟨cls, dd, data, sl⟩, n, ho, hc, hdn, hd⟩, hlen⟩ := I.list hs
  simp only at hc hd
  subst hc hd
  refine call_meets PySem.F.slot_list_count ⟨_, ho, rfl⟩ PySem.F.entry_list_count (PySem.F.args_list_count_2 _ _)
    (SeqAt.list_countAt p its.toArray n dd sl u (eqU y)) ⟨ho, fun u' hu' => mem_eqAt ry fy rv fys u' (by simpa using hu'), ?_⟩
  have ec : its.toArray.toList.countP (eqU y) = ys.countP fun z => eqV z y := count_eqU rv fys
  refine ⟨.int ((ys.countP fun z => eqV z y : Nat) : Int), H, I.tok _, ⟨s.toks, ?_⟩, q⟩
  show Value.int ((its.toArray.toList.countP (eqU y) : Nat) : Int) s.toks = _
  rw [ec]
end
/-! ### what a class of errors must say -/
structure ExC (K : PySem.W.Frag) (mg : Str → Option Value) (x : Str) (C : Addr) : Prop where
  g : mg x = some (.ref C)
  kp : PySem.W.keepIn K (.ref C) = true
  sb : PySem.W.subIn K (.ref C) (.type "BaseException") = some true
  ty : PySem.W.typeIn K (.ref C) = some (.type "type")
  ci : (PySem.W.clsIn K C).isSome = true
  ga : PySem.W.findIn K (.ref C) "__getattribute__" = some (some (.builtin "BaseException.__getattribute__"))
  gg : PySem.W.findIn K (.ref C) "__getattr__" = some none
  hd : PySem.W.hasDictIn K C = true
  cl : PySem.W.findIn K (.ref C) "__class__" = some (some (.builtin "object.__class__"))
  mr : PySem.W.mroIn K C (.type "object") = some true
theorem ExC.raises {X : Cx} {x : Str} {C : Addr} (T : ExC X.K X.mg x C) : Raises X (.ref C) := raises_own T.sb T.ty
theorem ExC.xf {K : PySem.W.Frag} {mg : Str → Option Value} {x : Str} {C : Addr} (T : ExC K mg x C) : XfC K C := ⟨T.ga, T.gg, T.sb, T.hd⟩
/-- what the word object.__class__ says -/
structure ObC (K : PySem.W.Frag) : Prop where
  hn : PySem.W.specialIn K (.builtin "object.__class__") "__get__" = some (some (.builtin "getset_descriptor.__get__"))
  ht : PySem.W.takesIn K (.builtin "object.__class__") = some true
/-- the error's dict, if it has one, is known -/
def DxAt (H : Hp) (d : Option Addr) : Prop := ∀ dd, d = some dd → ∃ fs, H dd = some (.xd fs)
/-- isinstance(e, c), e the error at a, which stands in the context -/
def rIsX (K : PySem.W.Frag) (C a : Addr) (d : Option Addr) : List V → Hp → VK → Prop := fun xs H Q => ∃ (c : V) (cv : Value) (b : Bool), xs = [.ref a, c] ∧ DxAt H d ∧ (∀ u, RelV c u → u = cv) ∧ PySem.W.kitOne K (.ref C) cv = some b ∧ Q (.bl b) H
theorem call_isX {X : Cx} {x : Str} {C a : Addr} {d : Option Addr} {oe : Obj} (T : ExC X.K X.mg x C) (O : ObC X.K) (hp : (a, oe) ∈ X.pn) (hz : Zc (.ref C) d oe) (hf : ∃ vs, oe.data = .fields vs) : CallR X (.builtin "isinstance") (rIsX X.K C a d) := by
  intro pins s σ H xs us Q I r h
  obtain ⟨c, cv, b, rfl, hd, hcv, e, q⟩ := h
  cases r with
  | cons rx rr =>
    cases rr with
    | cons rt rr =>
      cases rr
      cases rx
      have ec := hcv _ rt
      subst ec
      have hget := (I.pin (a, oe) (List.mem_append.mpr (.inl hp))).1
      obtain ⟨vs, hv⟩ := hf
      obtain ⟨od, J⟩ : ∃ od, PySem.W.InstAt s.heap a oe C od := by
        obtain ⟨oc, odd, oda, osl⟩ := oe
        obtain ⟨h1, h2⟩ := hz
        dsimp only at h1 h2 hv
        subst h1 h2 hv
        cases odd with
        | none => exact ⟨none, hget, rfl, rfl, trivial⟩
        | some dd =>
          obtain ⟨fs, ed⟩ := hd dd rfl
          obtain ⟨mA, ⟨o, _, _, ho, _⟩, _⟩ := (show ObjOk X.prog X.w H s.heap dd (.xd fs) from I.hok dd _ ed)
          exact ⟨some o, hget, rfl, rfl, ho⟩
      exact PySem.W.kia_one (PySem.W.kitx_exc T.ci T.ga T.gg T.sb T.cl O.hn O.ht T.mr) I.kIn J e (fun z => nomatch z) fun tk => ⟨.bl b, H, I.kept (t' := tk) fun _ _ z => z, rfl, q⟩
/-! ### a def that is called while an error is handled, and told of it -/
theorem run_hot {CX : CXT} {P : Program} {w : World} {K : PySem.W.Frag} {mg : Str → Option Value} {base : Heap} {k : Nat} {x qual : Str} {st : Stmt} {f : Addr} {fd : FuncData} {N ps : List Str} (F : Fun K x qual st f fd) (S : FnScope N ps (defScope st))
    {A : Around} {outer : List Env} {s : Shared} {H : Hp} {args : Args} {us : List Value} {vs : List V} {Q : VK} {E : XK} {p : Addr × Obj} (hr : L2H.RoomH (k + 1) A) (hp : L2H.PinOk outer H s p) (e0 : Env0 P w K mg base A outer s H) (hb : BindsTo s fd args (ps.zip us)) (r : Vals vs us) (hl : vs.length = ps.length)
    (body : ∀ cdv : Value, L2H.RoomH k (A.deeper (envOfC qual (defScope st) s.heap.objs.size f cdv)) → ∃ t, PSs (L2H.cxH CX P w K mg base N qual (defScope st) f cdv A outer s H E p) (defBody st) t ∧ t { nx := fun _ H' => Q .non H', rt := Q } (L2.start N vs) H) :
    codeAny (model P w) A (.call (.ref f) args) (CR CX outer P w H s Q E) s := by
  obtain ⟨oc, od, kV, doc, pm, an, cdv, ct, osl, rfl, lk, hcd⟩ := F.ex
  have KX : K.In s.heap := e0.mod.kin.keeps fun b o z => (e0.bs b o z).1
  have lim : s.heap.NoLimit := e0.mod.nolimit.keeps fun b o z => (e0.bs b o z).1
  refine codeAny_call_function hr.depth (KX _ _ lk) rfl S.co S.gen rfl (PySem.W.codeRec_of KX hcd) (hb _ _ _ _ (wpAny_newFunctionEnv_cells S.kind (fun y hy => ?_) fun env he s1 z => ?_))
  · rcases S.par y.1 (List.of_mem_zip (show (y.1, y.2) ∈ ps.zip us from hy)).1 with q | q
    · exact .inl q
    · exact .inr ⟨q, PySem.W.cellsFrom_some _ _ _ (.inl q)⟩
  · subst he
    refine ⟨lim.keeps z.toInCall.keep, codeAny_func ?_⟩
    obtain ⟨t, ht, hq⟩ := body cdv (hr.deeper _)
    refine wpAny_mono (ht.run [] s1 (L2.start N vs) H _ (L2H.inv_startH S hp e0 hl r z) hq) (fun fl s' g => ?_) fun _ _ g => g
    cases fl with
    | ret u =>
      obtain ⟨v, σ', H', J, rv, q⟩ := g
      exact ⟨v, H', J.os, J.bare, J.base, J.hok, rv, q⟩
    | next =>
      obtain ⟨σ', H', J, q⟩ := g
      exact ⟨.non, H', J.os, J.bare, J.base, J.hok, rfl, q⟩
    | brk => obtain ⟨_, _, _, q⟩ := g; exact q.elim
    | cont => obtain ⟨_, _, _, q⟩ := g; exact q.elim
end Kt
namespace Kt
open PySem PySem.Spec PyProof.Rows L2
/-! ### a def that is handed the error that is handled -/
abbrev SpX := Addr → Value → Option Addr → Sp
structure FnX (P : Program) (w : World) (K : PySem.W.Frag) (mg : Str → Option Value) (base : Heap) (CX : CXT) (k : Nat) (f : Addr) (fd : FuncData) (ps : List Str) (sp : SpX) : Prop where
  len : ∀ a cls d vs H Q E, sp a cls d vs H Q E → vs.length = ps.length
  run : ∀ (A : Around) (outer : List Env) (s : Shared) (H : Hp) (args : Args) (us : List Value) (vs : List V) (Q : VK) (E : XK) (p : Addr × Obj) (cls : Value) (d : Option Addr), L2H.RoomH k A → L2H.PinOk outer H s p → Zc cls d p.2 → (∃ vs, p.2.data = .fields vs) → Env0 P w K mg base A outer s H →
    BindsTo s fd args (ps.zip us) → Vals vs us → sp p.1 cls d vs H Q E → codeAny (model P w) A (.call (.ref f) args) (CR CX outer P w H s Q E) s
theorem fun_okX {CX : CXT} {P : Program} {w : World} {K : PySem.W.Frag} {mg : Str → Option Value} {base : Heap} {k : Nat} {x qual : Str} {st : Stmt} {f : Addr} {fd : FuncData} {N ps : List Str} {sp : SpX} (F : Fun K x qual st f fd) (S : FnScope N ps (defScope st)) (len : ∀ a cls d vs H Q E, sp a cls d vs H Q E → vs.length = ps.length)
    (body : ∀ (cdv : Value) (A : Around) (outer : List Env) (s : Shared) (H : Hp) (vs : List V) (Q : VK) (E : XK) (a : Addr) (oe : Obj) (cls : Value) (d : Option Addr), Zc cls d oe → (∃ vs, oe.data = .fields vs) → L2H.RoomH k (A.deeper (envOfC qual (defScope st) s.heap.objs.size f cdv)) → sp a cls d vs H Q E →
      ∃ t, PSs (L2H.cxH CX P w K mg base N qual (defScope st) f cdv A outer s H E (a, oe)) (defBody st) t ∧ t { nx := fun _ H' => Q .non H', rt := Q } (L2.start N vs) H) : FnX P w K mg base CX (k + 1) f fd ps sp := by
  refine ⟨len, fun A outer s H args us vs Q E p cls d hr hp hz hf e0 hb r h => ?_⟩
  obtain ⟨a, oe⟩ := p
  exact run_hot F S hr hp e0 hb r (len _ _ _ _ _ _ _ h) fun cdv hr' => body cdv A outer s H vs Q E a oe cls d hz hf hr' h
theorem roomH_mark {k : Nat} {A : Around} (r : Room k A) (u : Option Value) : L2H.RoomH k (A.mark u) := ⟨r.dp, r.un⟩
section
variable {X : Cx} {CX : CXT} {k : Nat} {f : Addr} {fd : FuncData} {ps : List Str} {sp : SpX} {E : XK} {x : Str} {q pos : Pos} {e : Expr} {es : List Expr} {t : TA} {a : Addr} {oe : Obj} {cls : Value} {d : Option Addr} {pn : List (Addr × Obj)}
theorem pe_callX (F : FnX X.prog X.w X.K X.mg X.base CX k f fd ps sp) (hr : Room k X.A) (hz : Zc cls d oe) (hf : ∃ vs, oe.data = .fields vs) (hg : Gl X x) (hm : X.mg x = some (.ref f)) (hk : PySem.W.keepIn X.K (.ref f) = true) (hb : Binds X.K fd ps []) (hx : Passes CX (X.suite a ((a, oe) :: pn)) E)
    (ha : PA (X.suite a ((a, oe) :: pn)) (e :: es) t) (hdb : (x == ("__debug__" : Str)) = false := by decide) (he : starEach (e :: es) X.env = (false, eval e X.env) :: starEach es X.env := by rfl) (hpl : (backTo pos (starEach es X.env)).any (·.1) = false := by rfl) :
    PE (X.suite a ((a, oe) :: pn)) (.Call (.Name x q) (e :: es) [] pos) (fun σ H Q => t σ H fun vs H1 => sp a cls d vs H1 Q E) := by
  refine ⟨fun pins s σ H Q I h => ?_⟩
  refine wpAny_Call_Name_kw (ld_glob I hg hm ?_ hdb)
  refine PySem.W.callWith_K (h₀ := X.base) I.ok.mod.kin hk (thn (ha.run pos pins s σ H _ I h) fun us s1 ⟨vs, H1, I1, r, h1⟩ => ⟨I1.kIn, ?_⟩) he hpl
  have hl : us.length = ps.length := by rw [← r.length]; exact F.len _ _ _ _ _ _ _ h1
  have b := hb s1 us I1.kIn (by rw [List.append_nil]; exact hl)
  rw [List.append_nil] at b
  have P1 := I1.pin (a, oe) (List.mem_append_left _ List.mem_cons_self)
  have hpin : L2H.PinOk X.stack H1 s1 (a, oe) := ⟨P1.1, P1.2.1, fun hm => (List.mem_cons.mp (I1.stkSub a hm)).elim P1.2.2.1 P1.2.2.2.1, P1.2.2.2.2⟩
  refine wpAny_call (codeAny_mono (F.run (X.A.mark (some (.ref a))) X.stack s1 H1 ⟨us, []⟩ us vs Q E (a, oe) cls d (roomH_mark hr _) hpin hz hf I1.env0 b r h1) fun r s' hq => ?_)
  cases r with
  | error e => exact hx pins σ H1 s1 e s' I1 hq
  | ok fl =>
    cases fl with
    | ret u => exact I1.after hq
    | next => exact False.elim hq
    | brk => exact False.elim hq
    | cont => exact False.elim hq
/-- err.f, whatever own class it is of -/
def tXfA (K : PySem.W.Frag) (a : Addr) (cls : Value) (d : Option Addr) (n : Str) (te : TE) : TE := fun σ H Q => te σ H fun x H1 => ∃ C : Addr, x = .ref a ∧ cls = .ref C ∧ XfC K C ∧ PySem.W.findIn K (.ref C) n = some none ∧
  ∃ (dd : Addr) (fs : List (Str × V)) (v : V), d = some dd ∧ H1 dd = some (.xd fs) ∧ fs.lookup n = some v ∧ Q v H1
theorem pe_xfA {n : Str} {te : TE} (hz : Zc cls d oe) (hf : ∃ vs, oe.data = .fields vs) (he : PE (X.suite a ((a, oe) :: pn)) e te) (hb : attributeBase e n X.env (eval e X.env) = eval e X.env := by rfl) :
    PE (X.suite a ((a, oe) :: pn)) (.Attribute e n pos) (tXfA X.K a cls d n te) := by
  refine ⟨fun pins s σ H Q I h => ?_⟩
  refine attr_of hb (thn (he.run pins s σ H _ I h) fun u s1 hh => ?_)
  obtain ⟨x, H1, I1, rx, C, ex, ec, T, hno, dd, fs, v, ed, ea, l, q⟩ := hh
  subst ex
  obtain rfl : u = Value.ref a := rx
  subst ec
  subst ed
  obtain ⟨ha, _⟩ := I1.pin (a, oe) (List.mem_append_left _ List.mem_cons_self)
  obtain ⟨vs, hd⟩ := hf
  have hx : ObjOk X.prog X.w H1 s1.heap dd (.xd fs) := I1.hok dd _ ea
  obtain ⟨mA, hns, hr⟩ := hx
  obtain ⟨od, ho, hl⟩ := lookIn_ns hns
  obtain ⟨u, hu, ru⟩ := RelO.some_of (v := v) (o := mA n) (by rw [← l]; exact hr n)
  have J : PySem.W.InstAt s1.heap a oe C (some od) := ⟨ha, hz.1, by unfold PySem.W.notCls; rw [hd] <;> rfl, by rw [hz.2]; exact ho⟩
  exact HandSPX.exc_get I1.kIn J T.ga T.gg T.exC (PySem.W.findObj_own T.hdC hno rfl (by rw [hl, hu])) (handed_of ru) ⟨v, H1, I1.tok _, ru, q⟩
end
/-! ### the six kinds of refusals -/
/-- class i of the six -/
structure Kind (K : PySem.W.Frag) (mg : Str → Option Value) (cs : List Addr) (CT : Addr) (i : Nat) (C : Addr) : Prop where
  ex : ∃ x, ExC K mg x C
  at' : cs[i]? = some C
  six : cs.length = 6
  ki : ∀ (j : Nat) (Cj : Addr), cs[j]? = some Cj → PySem.W.kitOne K (.ref C) (.ref Cj) = some (decide (i = j))
  kv : PySem.W.kitOne K (.ref C) (.type "ValueError") = some true
  em : PySem.W.exmOne K (.ref C) (.ref CT) = some true
def kindWord (i : Nat) : Str := (["BadSheet", "BadSet", "BadTape", "NoSign", "BadCount", "BadText"] : List Str).getD i ""
def spClass (K : PySem.W.Frag) (mg : Str → Option Value) (cs : List Addr) (CT : Addr) : SpX := fun a cls d vs H Q _ => ∃ (i : Nat) (C : Addr), vs = [.ref a] ∧ cls = .ref C ∧ Kind K mg cs CT i C ∧ DxAt H d ∧ ∀ H', Same H H' → Q (.str (kindWord i)) H'
end Kt
namespace Kt
open PySem PySem.Spec PyProof.Rows L2
/-! ### sheets as texts -/
def nl : Str := Str.ofString "\n"
def homeT : V → Str
  | .int i => Str.ofString (toString i)
  | _ => Str.ofString "-"
def sheetT (z o : Str) (hm : V) : Str := Txt.join nl [z, o, homeT hm]
def figs (x : Str) : Bool := x.cps.toList.all fun c => decide (48 ≤ c ∧ c ≤ 57)
/-- one or two figures without a needless 0 -/
def figOk (x : Str) : Bool := decide (1 ≤ x.cps.size ∧ x.cps.size ≤ 2) && !(decide (x.cps.size = 2) && decide (x.cps.toList.getD 0 0 = 48)) && figs x
def signsOk (x : Str) : Bool := x.cps.toList.all fun c => decide (32 ≤ c ∧ c ≤ 126)
def goodRow (n : Int) (x : Str) : Bool := if n < 2 then signsOk x else decide (n = 2) && (decide (x = Str.ofString "-") || figOk x)
theorem pbIn_fig (c : Nat) : pbIn "0" "9" c = decide (48 ≤ c ∧ c ≤ 57) := by
  have e1 : ("0" : Str).cps.toList = [48] := by decide
  have e2 : ("9" : Str).cps.toList = [57] := by decide
  unfold pbIn
  rw [e1, e2]
  by_cases h1 : c < 48
  · simp [List.cons_lt_cons_iff, h1]; omega
  · by_cases h2 : 57 < c
    · simp [List.cons_lt_cons_iff, h1, h2]
      try omega
    · simp [List.cons_lt_cons_iff, h1, h2]
      omega
theorem home_all : ∀ h : Fin 26, goodRow 2 (homeT (.int (h.val : Nat))) = true ∧ (homeT (.int (h.val : Nat))).cps.size ≤ 2 ∧ 10 ∉ TL.tl (homeT (.int (h.val : Nat))) ∧ homeT (.int (h.val : Nat)) ≠ Str.ofString "-" ∧ PySem.intText? (homeT (.int (h.val : Nat))) = some ((h.val : Nat) : Int) ∧
    ((h.val : Nat) : Int).natAbs.log2 < 1920 := by decide +kernel
theorem home_non : goodRow 2 (homeT .non) = true ∧ (homeT .non).cps.size ≤ 2 ∧ 10 ∉ TL.tl (homeT .non) := by decide +kernel
structure HomeOk (hm : V) : Prop where
  row : goodRow 2 (homeT hm) = true
  sz : (homeT hm).cps.size ≤ 2
  nl : 10 ∉ TL.tl (homeT hm)
theorem Good.homeOk {z o : Str} {hm : V} (g : Good z o hm) : HomeOk hm := by
  rcases g.home with e | ⟨h, e, lt⟩ <;> subst e
  · exact ⟨home_non.1, home_non.2.1, home_non.2.2⟩
  · have k := home_all ⟨h, Nat.lt_of_lt_of_le lt g.le⟩
    exact ⟨k.1, k.2.1, k.2.2.1⟩
theorem nl_tl : TL.tl nl = [10] := by decide +kernel
theorem Good.split {z o : Str} {hm : V} (g : Good z o hm) : Txt.split (sheetT z o hm) nl = [z, o, homeT hm] := by
  refine TL.split_join (s := 10) (S := []) nl_tl (by decide +kernel) (by simp) fun p hp => ?_
  rcases List.mem_cons.mp hp with e | hp
  · rw [e]; exact fun h => by have := g.pz 10 h; omega
  · rcases List.mem_cons.mp hp with e | hp
    · rw [e]; exact fun h => by have := g.po 10 h; omega
    · rw [List.mem_singleton.mp hp]; exact g.homeOk.nl
theorem sheetT_eq (z o : Str) (hm : V) : z ++ nl ++ o ++ nl ++ homeT hm = sheetT z o hm := by
  unfold sheetT
  rw [TL.join_eq]
  have e := TL.tl_join nl [z, o, homeT hm]
  have e2 : TL.tl (z ++ nl ++ o ++ nl ++ homeT hm) = TL.joinL (TL.tl nl) ([z, o, homeT hm].map TL.tl) := by
    simp only [TL.tl_append, List.map_cons, List.map_nil, TL.joinL, List.append_assoc]
  have e3 := e2.trans e.symm
  generalize z ++ nl ++ o ++ nl ++ homeT hm = a at e3
  generalize Str.join nl [z, o, homeT hm] = b at e3
  obtain ⟨a⟩ := a
  obtain ⟨b⟩ := b
  have e4 : a.toList = b.toList := e3
  rw [Array.toList_inj.mp e4]
theorem sheetT_len {z o : Str} {hm : V} (g : Good z o hm) : (sheetT z o hm).length ≤ 60 := by
  rw [← sheetT_eq]
  have a := g.le
  have b := g.len
  have c := g.homeOk.sz
  have e : nl.length = 1 := by decide +kernel
  simp only [Str.length_append, e]
  show z.cps.size + 1 + o.cps.size + 1 + (homeT hm).cps.size ≤ 60
  omega
def spWritten (P : Addr) : Sp := fun vs H Q _ => ∃ (t : Addr) (z o : Str) (hm : V), vs = [.ref t] ∧ Good z o hm ∧ Sh H t z o hm ∧ GxR.TabG H P ∧ ∀ H', Kp P H H' → Q (.str (sheetT z o hm)) H'
def spFigures (P : Addr) : Sp := fun vs H Q _ => ∃ x : Str, vs = [.str x] ∧ x.cps.size ≤ 100000 ∧ GxR.TabG H P ∧ ∀ H', GxR.Tabbed P H H' → Q (.bl (figOk x)) H'
def spIsGood (P1 P3 : Addr) : Sp := fun vs H Q _ => ∃ (n : Int) (x : Str), vs = [.int n, .str x] ∧ x.cps.size ≤ 100000 ∧ GxR.TabG H P1 ∧ GxR.TabG H P3 ∧ ∀ H', (GxR.Tabbed P1 H H' ∨ GxR.Tabbed P3 H H') → Q (.bl (goodRow n x)) H'
def spRowsOk (K : PySem.W.Frag) (W : TWs) : Sp := fun vs H Q _ => ∃ (a : Addr) (r0 r1 r2 : Str), vs = [.ref a] ∧ SqL K H a [.str r0, .str r1, .str r2] ∧ signsOk r0 = true ∧ signsOk r1 = true ∧ goodRow 2 r2 = true ∧ r0.cps.size ≤ 1000 ∧ r1.cps.size ≤ 1000 ∧ r2.cps.size ≤ 1000 ∧ Tb W H ∧ ∀ H', Kz W H H' → Q .non H'
def spReadSheet (W : TWs) : Sp := fun vs H Q _ => ∃ (z o : Str) (hm : V), vs = [.str (sheetT z o hm)] ∧ Good z o hm ∧ Tb W H ∧ ∀ t H', Kz W H H' → H t = none → Sh H' t z o hm → Q (.ref t) H'
theorem Good.signs {z o : Str} {hm : V} (g : Good z o hm) : signsOk z = true ∧ signsOk o = true :=
  ⟨List.all_eq_true.mpr fun c hc => decide_eq_true (g.pz c hc), List.all_eq_true.mpr fun c hc => decide_eq_true (g.po c hc)⟩
end Kt
namespace Kt
open PySem PySem.Spec PyProof.Rows L2
/-! ### a text cut at one sign -/
theorem pre_one {s c : Nat} {r : List Nat} : TL.pre [s] (c :: r) = decide (c = s) := by
  unfold TL.pre
  by_cases h : c = s
  · subst h; simp
  · simp [h]
theorem spl_sum (s : Nat) : ∀ (l acc : List Nat), ((TL.spl [s] 0 acc l).map List.length).sum + (TL.spl [s] 0 acc l).length = acc.length + l.length + 1
  | [], acc => by rw [TL.spl_nil]; simp
  | c :: r, acc => by
    by_cases h : c = s
    · rw [TL.spl_hit (by rw [pre_one]; exact decide_eq_true h), show [s].length - 1 = 0 from rfl]
      have ih := spl_sum s r []
      simp only [List.map_cons, List.sum_cons, List.length_cons, List.length_nil, show [s].length - 1 = 0 from rfl] at ih ⊢
      omega
    · rw [TL.spl_miss (by rw [pre_one]; exact decide_eq_false h)]
      have ih := spl_sum s r (acc ++ [c])
      rw [List.length_append] at ih
      simp only [List.length_cons, List.length_nil] at ih ⊢
      omega
theorem spl_in (s : Nat) : ∀ (l acc : List Nat), s ∉ acc → ∀ p ∈ TL.spl [s] 0 acc l, ∀ c ∈ p, c ≠ s ∧ (c ∈ acc ∨ c ∈ l)
  | [], acc, h, p, hp, c, hc => by
    rw [TL.spl_nil] at hp
    rw [List.mem_singleton.mp hp] at hc
    exact ⟨fun e => h (e ▸ hc), .inl hc⟩
  | a :: r, acc, h, p, hp, c, hc => by
    by_cases ha : a = s
    · rw [TL.spl_hit (by rw [pre_one]; exact decide_eq_true ha)] at hp
      rcases List.mem_cons.mp hp with e | hp
      · rw [e] at hc
        exact ⟨fun e => h (e ▸ hc), .inl hc⟩
      · obtain ⟨k1, k2⟩ := spl_in s r [] (by simp) p hp c hc
        exact ⟨k1, .inr (List.mem_cons_of_mem _ (k2.resolve_left (by simp)))⟩
    · rw [TL.spl_miss (by rw [pre_one]; exact decide_eq_false ha)] at hp
      obtain ⟨k1, k2⟩ := spl_in s r (acc ++ [a]) (fun m => by
        rcases List.mem_append.mp m with m | m
        · exact h m
        · exact ha (List.mem_singleton.mp m).symm) p hp c hc
      refine ⟨k1, ?_⟩
      rcases k2 with m | m
      · rcases List.mem_append.mp m with m | m
        · exact .inl m
        · rw [List.mem_singleton.mp m]; exact .inr List.mem_cons_self
      · exact .inr (List.mem_cons_of_mem _ m)
/-- only signs and line feeds -/
def Tx (x : Str) : Prop := ∀ c ∈ TL.tl x, c = 10 ∨ (32 ≤ c ∧ c ≤ 126)
abbrev rowsOf (x : Str) : List Str := Txt.split x nl
theorem rows_tl (x : Str) : (rowsOf x).map TL.tl = TL.spl [10] 0 [] (TL.tl x) := by
  have e := TL.split_spl x nl (by rw [nl_tl]; simp) (TL.kind_ok (by decide +kernel))
  rw [nl_tl] at e
  exact e
theorem tl_len (x : Str) : (TL.tl x).length = x.length := rfl
theorem rows_sum (x : Str) : ((rowsOf x).map (·.length)).sum + (rowsOf x).length = x.length + 1 := by
  have e := spl_sum 10 (TL.tl x) []
  rw [← rows_tl, List.map_map, List.length_map, tl_len] at e
  rw [show (List.length ∘ TL.tl) = fun r : Str => r.length from rfl] at e
  simpa using e
theorem rows_pos (x : Str) : 1 ≤ (rowsOf x).length := by
  cases h : rowsOf x with
  | nil =>
    have e := rows_sum x
    rw [h] at e
    simp at e
  | cons a r => simp
theorem rows_len (x : Str) : (rowsOf x).length ≤ x.length + 1 := by have := rows_sum x; omega
theorem len_le_sum : ∀ {l : List Str} {r : Str}, r ∈ l → r.length ≤ (l.map (·.length)).sum
  | a :: l, r, h => by
    rw [List.map_cons, List.sum_cons]
    rcases List.mem_cons.mp h with e | h
    · rw [e]; omega
    · have := len_le_sum h; omega
theorem row_len {x r : Str} (h : r ∈ rowsOf x) : r.length ≤ x.length := by
  have a := rows_sum x
  have b := len_le_sum h
  have c := rows_pos x
  omega
theorem row_signs {x r : Str} (t : Tx x) (h : r ∈ rowsOf x) : ∀ c ∈ TL.tl r, 32 ≤ c ∧ c ≤ 126 := fun c hc => by
  have m : TL.tl r ∈ TL.spl [10] 0 [] (TL.tl x) := by rw [← rows_tl]; exact List.mem_map.mpr ⟨r, h, rfl⟩
  obtain ⟨k1, k2⟩ := spl_in 10 (TL.tl x) [] (by simp) _ m c hc
  exact (t c (k2.resolve_left (by simp))).resolve_left k1
theorem row_ok {x r : Str} (t : Tx x) (h : r ∈ rowsOf x) : signsOk r = true := List.all_eq_true.mpr fun c hc => decide_eq_true (row_signs t h c hc)
/-- what is joined has no others -/
theorem joinL_in : ∀ {ps : List (List Nat)} {c : Nat}, c ∈ TL.joinL [10] ps → c = 10 ∨ ∃ p ∈ ps, c ∈ p
  | [], c, h => by cases h
  | [p], c, h => .inr ⟨p, List.mem_cons_self, h⟩
  | p :: q :: r, c, h => by
    have h : c ∈ p ++ ([10] ++ TL.joinL [10] (q :: r)) := h
    rcases List.mem_append.mp h with h | h
    · exact .inr ⟨p, List.mem_cons_self, h⟩
    · rcases List.mem_append.mp h with h | h
      · exact .inl (List.mem_singleton.mp h)
      · rcases joinL_in h with e | ⟨p', hp, hc⟩
        · exact .inl e
        · exact .inr ⟨p', List.mem_cons_of_mem _ hp, hc⟩
theorem join_tx {rs : List Str} (h : ∀ r ∈ rs, Tx r) : Tx (Txt.join nl rs) := fun c hc => by
  rw [TL.join_eq, TL.tl_join, nl_tl] at hc
  rcases joinL_in hc with e | ⟨p, hp, hc⟩
  · exact .inl e
  · obtain ⟨r, hr, rfl⟩ := List.mem_map.mp hp
    exact h r hr c hc
theorem joinL_len : ∀ ps : List (List Nat), (TL.joinL [10] ps).length ≤ (ps.map List.length).sum + ps.length
  | [] => by simp [TL.joinL]
  | [p] => by simp [TL.joinL]
  | p :: q :: r => by
    have ih := joinL_len (q :: r)
    show (p ++ ([10] ++ TL.joinL [10] (q :: r))).length ≤ _
    simp only [List.length_append, List.map_cons, List.sum_cons, List.length_cons, List.length_nil] at ih ⊢
    omega
theorem join_len (rs : List Str) : (Txt.join nl rs).length ≤ (rs.map (·.length)).sum + rs.length := by
  have e := joinL_len (rs.map TL.tl)
  rw [List.map_map, List.length_map] at e
  rw [TL.join_eq, ← tl_len, TL.tl_join, nl_tl]
  exact e
/-! ### all unlike -/
theorem uq_all : ∀ {l : List Nat}, (uq l).length = l.length → l.Nodup := by
  intro l
  suffices g : ∀ n (l : List Nat), l.length = n → (uq l).length = l.length → l.Nodup from g _ l rfl
  intro n
  induction n with
  | zero =>
    intro l h _
    rw [List.eq_nil_of_length_eq_zero h]
    exact List.nodup_nil
  | succ n ih =>
    intro l h e
    obtain ⟨r, c, rfl⟩ : ∃ r c, l = r ++ [c] := by
      have hne : l ≠ [] := fun z => by rw [z] at h; cases h
      exact ⟨l.dropLast, l.getLast hne, (List.dropLast_concat_getLast hne).symm⟩
    rw [List.length_append] at h
    have hr : r.length = n := by simpa using h
    rw [uq_snoc] at e
    unfold uqs at e
    split at e
    · have := uq_le r
      rw [List.length_append] at e
      simp at e
      omega
    · rename_i hc
      rw [List.length_append, List.length_append] at e
      have nr := ih r hr (by simpa using e)
      rw [uq_nodup nr] at hc
      exact List.nodup_append.mpr ⟨nr, by simp, fun a ha b hb => by rw [List.mem_singleton.mp hb]; exact fun k => hc (k ▸ ha)⟩
theorem uq_dec (l : List Nat) : decide ((uq l).length = l.length) = decide l.Nodup := by
  by_cases h : l.Nodup
  · rw [decide_eq_true h, uq_nodup h]; simp
  · rw [decide_eq_false h]; exact decide_eq_false fun e => h (uq_all e)
/-! ### the verdict -/
def canB (z : Str) : Bool := signsOk z && decide z.cps.toList.Nodup
def homeB (z : Str) : V → Bool
  | .non => true
  | .int i => decide (0 ≤ i ∧ i < (z.cps.size : Int))
  | _ => false
def goodB (z o : Str) (hm : V) : Bool := decide (z.cps.size = o.cps.size) && (decide (1 ≤ z.cps.size ∧ z.cps.size ≤ 26) && ((canB z && canB o) && homeB z hm))
theorem goodB_iff {z o : Str} {hm : V} : goodB z o hm = true ↔ Good z o hm := by
  unfold goodB canB
  simp only [Bool.and_eq_true, decide_eq_true_eq]
  constructor
  · rintro ⟨e, ⟨a, b⟩, ⟨⟨s1, n1⟩, s2, n2⟩, h⟩
    refine ⟨e.symm, a, b, n1, n2, fun c hc => of_decide_eq_true (List.all_eq_true.mp s1 c hc), fun c hc => of_decide_eq_true (List.all_eq_true.mp s2 c hc), ?_⟩
    match hm, h with
    | .non, _ => exact .inl rfl
    | .int i, h =>
      have h := of_decide_eq_true h
      exact .inr ⟨i.toNat, by rw [Int.toNat_of_nonneg h.1], by omega⟩
  · intro g
    refine ⟨g.len.symm, ⟨g.pos, g.le⟩, ⟨⟨g.signs.1, g.nz⟩, g.signs.2, g.no⟩, ?_⟩
    rcases g.home with e | ⟨h, e, lt⟩
    · rw [e]; rfl
    · rw [e]; exact decide_eq_true ⟨by omega, by omega⟩
def homeV (r : Str) : V := if r = Str.ofString "-" then .non else .int ((PySem.intText? r).getD 0)
def homeL (r : Str) : V := if r = Str.ofString "-" then .non else if figOk r = true then .int ((PySem.intText? r).getD 0) else .int (-1)
theorem fig1 : ∀ a : Fin 10, PySem.intText? ⟨#[48 + a.val]⟩ = some ((a.val : Nat) : Int) := by decide +kernel
theorem fig2 : ∀ a b : Fin 10, PySem.intText? ⟨#[48 + a.val, 48 + b.val]⟩ = some ((10 * a.val + b.val : Nat) : Int) := by decide +kernel
theorem fig_num {r : Str} (h : figOk r = true) : ∃ n : Nat, n < 100 ∧ PySem.intText? r = some (n : Int) := by
  obtain ⟨a⟩ := r
  obtain ⟨l⟩ := a
  unfold figOk figs at h
  simp only [Bool.and_eq_true, decide_eq_true_eq, List.all_eq_true] at h
  obtain ⟨⟨⟨h1, h2⟩, _⟩, hf⟩ := h
  match l, h1, h2, hf with
  | [a], _, _, hf =>
    have ha := hf a (by simp)
    have e := fig1 ⟨a - 48, by omega⟩
    rw [show 48 + (⟨a - 48, by omega⟩ : Fin 10).val = a from by show 48 + (a - 48) = a; omega] at e
    exact ⟨_, by show a - 48 < 100; omega, e⟩
  | [a, b], _, _, hf =>
    have ha := hf a (by simp)
    have hb := hf b (by simp)
    have e := fig2 ⟨a - 48, by omega⟩ ⟨b - 48, by omega⟩
    rw [show 48 + (⟨a - 48, by omega⟩ : Fin 10).val = a from by show 48 + (a - 48) = a; omega, show 48 + (⟨b - 48, by omega⟩ : Fin 10).val = b from by show 48 + (b - 48) = b; omega] at e
    exact ⟨_, by show 10 * (a - 48) + (b - 48) < 100; omega, e⟩
theorem fig_sz {r : Str} (h : goodRow 2 r = true) (e : r ≠ Str.ofString "-") : r.cps.size ≤ 2 := by
  unfold goodRow at h
  rw [if_neg (by decide), decide_eq_true (rfl : (2 : Int) = 2), Bool.true_and, decide_eq_false e, Bool.false_or] at h
  unfold figOk at h
  simp only [Bool.and_eq_true, decide_eq_true_eq] at h
  exact h.1.1.2
def firstBad : Nat → List Str → Option Nat
  | _, [] => none
  | i, r :: rs => if goodRow i r = true then firstBad (i + 1) rs else some i
theorem firstBad_some : ∀ {rs : List Str} {k i : Nat} {r : Str}, (∀ (j : Nat) (x : Str), j < i → rs[j]? = some x → goodRow ((k + j : Nat) : Int) x = true) → rs[i]? = some r → goodRow ((k + i : Nat) : Int) r = false → firstBad k rs = some (k + i)
  | [], k, i, r, _, h, _ => by simp at h
  | a :: rs, k, 0, r, _, h, g => by
    have e : a = r := Option.some.inj h
    subst e
    unfold firstBad
    rw [if_neg (by rw [show ((k : Nat) : Int) = ((k + 0 : Nat) : Int) from rfl, g]; simp)]
    rfl
  | a :: rs, k, i + 1, r, p, h, g => by
    unfold firstBad
    rw [if_pos (by have := p 0 a (by omega) rfl; exact this)]
    rw [firstBad_some (k := k + 1) (i := i) (r := r) (fun j x hj e => by
      have := p (j + 1) x (by omega) e
      rw [show k + 1 + j = k + (j + 1) by omega]; exact this) h (by rw [show k + 1 + i = k + (i + 1) by omega]; exact g)]
    rw [show k + 1 + i = k + (i + 1) by omega]
theorem firstBad_none : ∀ {rs : List Str} {k : Nat}, (∀ (j : Nat) (x : Str), rs[j]? = some x → goodRow ((k + j : Nat) : Int) x = true) → firstBad k rs = none
  | [], _, _ => rfl
  | a :: rs, k, p => by
    unfold firstBad
    rw [if_pos (by have := p 0 a rfl; exact this)]
    exact firstBad_none fun j x e => by
      have := p (j + 1) x e
      rw [show k + 1 + j = k + (j + 1) by omega]; exact this
def badRow (rs : List Str) : Option Nat := match firstBad 0 rs with
  | some i => some i
  | none => if rs.length < 3 then some rs.length else none
theorem badRow_at {rs : List Str} {i : Nat} {r : Str} (p : ∀ (j : Nat) (x : Str), j < i → rs[j]? = some x → goodRow ((j : Nat) : Int) x = true) (h : rs[i]? = some r) (g : goodRow ((i : Nat) : Int) r = false) : badRow rs = some i := by
  have e := firstBad_some (k := 0) (fun j x hj e => by rw [Nat.zero_add]; exact p j x hj e) h (by rw [Nat.zero_add]; exact g)
  unfold badRow
  rw [e, Nat.zero_add]
theorem badRow_short {rs : List Str} (p : ∀ (j : Nat) (x : Str), rs[j]? = some x → goodRow ((j : Nat) : Int) x = true) (h : rs.length < 3) : badRow rs = some rs.length := by
  have e := firstBad_none (k := 0) (fun j x e => by rw [Nat.zero_add]; exact p j x e)
  unfold badRow
  rw [e]
  exact if_pos h
theorem badRow_none {rs : List Str} (p : ∀ (j : Nat) (x : Str), rs[j]? = some x → goodRow ((j : Nat) : Int) x = true) (h : ¬ rs.length < 3) : badRow rs = none := by
  have e := firstBad_none (k := 0) (fun j x e => by rw [Nat.zero_add]; exact p j x e)
  unfold badRow
  rw [e]
  exact if_neg h
theorem good3 (x : Str) (i : Nat) (h : 2 < i) : goodRow ((i : Nat) : Int) x = false := by
  unfold goodRow
  rw [if_neg (by omega), decide_eq_false (by omega), Bool.false_and]
theorem three_of {rs : List Str} (p : ∀ (j : Nat) (x : Str), rs[j]? = some x → goodRow ((j : Nat) : Int) x = true) (h : ¬ rs.length < 3) : ∃ z o r, rs = [z, o, r] := by
  match rs, h with
  | [z, o, r], _ => exact ⟨z, o, r, rfl⟩
  | z :: o :: r :: q :: l, _ =>
    have e := p 3 q rfl
    rw [good3 q 3 (by omega)] at e
    cases e
  | [], h => exact absurd (by simp) h
  | [_], h => exact absurd (by simp) h
  | [_, _], h => exact absurd (by simp) h
inductive Ver where
  | told (z o : Str) (hm : V)
  | text (n : Nat)
  | sheet
def verOf (rs : List Str) : Ver := match badRow rs with
  | some n => .text n
  | none => match rs with
    | [z, o, r] => if goodB z o (homeV r) = true then .told z o (homeV r) else .sheet
    | _ => .sheet
theorem verOf_text {rs : List Str} {n : Nat} (h : badRow rs = some n) : verOf rs = .text n := by unfold verOf; rw [h]
theorem verOf_told {z o r : Str} (h : badRow [z, o, r] = none) (g : goodB z o (homeV r) = true) : verOf [z, o, r] = .told z o (homeV r) := by unfold verOf; rw [h]; exact if_pos g
theorem verOf_sheet {z o r : Str} (h : badRow [z, o, r] = none) (g : goodB z o (homeV r) = false) : verOf [z, o, r] = .sheet := by unfold verOf; rw [h]; exact if_neg (by rw [g]; simp)
/-- the law's own test of a row -/
theorem law_row {r : Str} (s : signsOk r = true) (i : Nat) : goodRow ((i : Nat) : Int) r = true ↔ ¬ (2 < i ∨ (i = 2 ∧ homeL r = .int (-1))) := by
  unfold goodRow homeL
  by_cases h1 : i < 2
  · rw [if_pos (by omega)]
    exact ⟨fun _ => by omega, fun _ => s⟩
  · rw [if_neg (by omega)]
    by_cases h2 : i = 2
    · subst h2
      rw [decide_eq_true (by rfl), Bool.true_and]
      by_cases h3 : r = Str.ofString "-"
      · rw [if_pos h3, decide_eq_true h3]
        exact ⟨fun _ k => k.elim (fun k => by omega) fun k => (nomatch k.2), fun _ => rfl⟩
      · rw [if_neg h3, decide_eq_false h3, Bool.false_or]
        by_cases h4 : figOk r = true
        · obtain ⟨n, hn, e⟩ := fig_num h4
          rw [if_pos h4, e]
          exact ⟨fun _ k => k.elim (fun k => by omega) (fun k => by have := V.int.inj k.2; simp only [Option.getD_some] at this; omega), fun _ => h4⟩
        · rw [if_neg h4]
          exact ⟨fun k => absurd k h4, fun k => absurd (Or.inr ⟨rfl, rfl⟩) k⟩
    · exact ⟨fun k => (by rw [decide_eq_false (by omega), Bool.false_and] at k; cases k), fun k => absurd (Or.inl (by omega)) k⟩
theorem homeV_eq {r : Str} (g : goodRow 2 r = true) : homeL r = homeV r ∧ (r ≠ Str.ofString "-" → ∃ n : Nat, n < 100 ∧ PySem.intText? r = some (n : Int) ∧ homeV r = .int n) := by
  unfold goodRow at g
  rw [if_neg (by decide), decide_eq_true (rfl : (2 : Int) = 2), Bool.true_and] at g
  unfold homeL homeV
  by_cases h3 : r = Str.ofString "-"
  · rw [if_pos h3, if_pos h3]
    exact ⟨rfl, fun k => absurd h3 k⟩
  · rw [decide_eq_false h3, Bool.false_or] at g
    obtain ⟨n, hn, e⟩ := fig_num g
    rw [if_neg h3, if_neg h3, if_pos g, e]
    exact ⟨rfl, fun _ => ⟨n, hn, rfl, rfl⟩⟩
end Kt
namespace Kt
open PySem PySem.Spec PyProof.Rows L2
/-! ### isinstance by the written part -/
theorem kit_ref {K : PySem.W.Frag} {C D : Addr} {b : Bool} (hc : PySem.W.isClsIn K D = true) (ht : PySem.W.typeIn K (.ref D) = some (.type "type")) (hs : PySem.W.subIn K (.ref C) (.ref C) = some true) (h : PySem.W.subIn K (.ref C) (.ref D) = some b) : PySem.W.kitOne K (.ref C) (.ref D) = some b := by
  unfold PySem.W.kitOne
  by_cases e : C = D
  · subst e
    rw [hs] at h
    rw [← h]
    exact if_pos (beq_self_eq_true _)
  · have ne : ((Value.ref C) == (Value.ref D)) = false := by
      rw [beq_eq_false_iff_ne]
      intro k
      exact e (Value.ref.inj k)
    rw [ne, if_neg (by decide)]
    have hc' : (PySem.W.clsIn K D).isSome = true := hc
    have e2 : ((PySem.W.clsIn K D).isSome && PySem.W.typeIn K (.ref D) == some (.type "type")) = true := by rw [hc', ht]; rfl
    show (if ((PySem.W.clsIn K D).isSome && PySem.W.typeIn K (.ref D) == some (.type "type")) = true then PySem.W.subIn K (.ref C) (.ref D) else none) = some b
    rw [if_pos e2]
    exact h
theorem kit_ve {K : PySem.W.Frag} {C : Addr} (h : PySem.W.subIn K (.ref C) (.type "ValueError") = some true) : PySem.W.kitOne K (.ref C) (.type "ValueError") = some true := by
  unfold PySem.W.kitOne
  have ne : ((Value.ref C) == (Value.type "ValueError")) = false := rfl
  rw [ne, if_neg (by decide)]
  show (if PySem.W.kitMeta "ValueError" = true then PySem.W.subIn K (.ref C) (.type "ValueError") else none) = some true
  rw [if_pos (by decide +kernel)]
  exact h
theorem kind_mk {K : PySem.W.Frag} {mg : Str → Option Value} {x : Str} {C CT c0 c1 c2 c3 c4 c5 : Addr} {i : Nat} (e : ExC K mg x C) (h : [c0, c1, c2, c3, c4, c5][i]? = some C)
    (h0 : PySem.W.kitOne K (.ref C) (.ref c0) = some (decide (i = 0))) (h1 : PySem.W.kitOne K (.ref C) (.ref c1) = some (decide (i = 1))) (h2 : PySem.W.kitOne K (.ref C) (.ref c2) = some (decide (i = 2)))
    (h3 : PySem.W.kitOne K (.ref C) (.ref c3) = some (decide (i = 3))) (h4 : PySem.W.kitOne K (.ref C) (.ref c4) = some (decide (i = 4))) (h5 : PySem.W.kitOne K (.ref C) (.ref c5) = some (decide (i = 5)))
    (kv : PySem.W.kitOne K (.ref C) (.type "ValueError") = some true) (em : PySem.W.exmOne K (.ref C) (.ref CT) = some true) : Kind K mg [c0, c1, c2, c3, c4, c5] CT i C :=
  ⟨⟨x, e⟩, h, rfl, fun j Cj hj => match j, hj with
    | 0, hj => by cases hj; exact h0
    | 1, hj => by cases hj; exact h1
    | 2, hj => by cases hj; exact h2
    | 3, hj => by cases hj; exact h3
    | 4, hj => by cases hj; exact h4
    | 5, hj => by cases hj; exact h5
    | j + 6, hj => by simp at hj, kv, em⟩
/-! ### the base of the refusals, those that bear a number -/
structure BaseC (K : PySem.W.Frag) (mg : Str → Option Value) (B : Addr) : Prop where
  g : mg "TapeError" = some (.ref B)
  rd : PySem.W.readsIn K B (.type "type") = true
  sg : PySem.W.specialIn K (.ref B) "__getattribute__" = some (some (.builtin "type.__getattribute__"))
  fc : PySem.W.findCls K (.ref B) (.type "type") "__init__" = some (.val (.builtin "ValueError.__init__"))
def inOf : Stmt → Stmt
  | .ClassDef _ _ _ (b :: _) _ _ _ _ _ _ _ => b
  | s => s
structure InC (K : PySem.W.Frag) (mg : Str → Option Value) (x qual fld : Str) (st : Stmt) (C : Addr) where
  f : Addr
  fd : FuncData
  ox : OexC K C
  ii : PySem.W.findIn K (.ref C) "__init__" = some (some (.ref f))
  ti : PySem.W.typeIn K (.ref f) = some (.type "function")
  F : Fun K "__init__" qual st f fd
  b : Binds K fd ["self", fld] []
  no : PySem.W.findIn K (.ref C) fld = some none
def spInit (K : PySem.W.Frag) (C : Addr) (fld : Str) : Sp := fun vs H Q _ => ∃ (a : Addr) (n : Int), vs = [.ref a, .int n] ∧ n.natAbs.log2 < 1920 ∧ H a = some (exo a C none) ∧
  ∀ dx, H dx = none → dx ≠ a → Q .non (upd (upd H dx (exd dx [(fld, .int n)])) a (exo a C (some dx)))
theorem heap_init {H : Hp} {a C dx : Addr} {o o1 : HO} (ha : H a = none) (hd : dx ≠ a) : upd (del (upd (upd (upd H a o) dx o1) a (exo a C (some dx))) a) dx (.xd fs) = upd H dx (.xd fs) := by
  funext b
  by_cases h : b = dx
  · rw [h, upd_same, upd_same]
  · rw [upd_ne h, upd_ne h]
    by_cases k : b = a
    · rw [k, del_same, ha]
    · rw [del_ne k, upd_ne k, upd_ne h, upd_ne k]
theorem mk_init {K : PySem.W.Frag} {C : Addr} {fld : Str} {n : Int} {H1 : Hp} {Q : XK} (hn : n.natAbs.log2 < 1920) (q : ∀ dx, H1 dx = none → Q (.ref C) (some dx) (upd H1 dx (.xd [(fld, .int n)]))) :
    ([V.int n]).length ≤ 1000 ∧ ∀ a, H1 a = none → spInit K C fld (.ref a :: ([V.int n] ++ [])) (upd H1 a (exo a C none))
      (fun v H2 => v = .non ∧ ∃ (d : Addr) (fs : List (Str × V)), H2 a = some (exo a C (some d)) ∧ H2 d = some (exd d fs) ∧ H1 d = none ∧ Q (.ref C) (some d) (upd (del H2 a) d (.xd fs))) (fun _ _ _ => False) := by
  refine ⟨by simp, fun a ha => ⟨a, n, rfl, hn, upd_same, fun dx hd ne => ⟨rfl, dx, [(fld, .int n)], upd_same, by rw [upd_ne ne]; exact upd_same, by rw [upd_ne ne] at hd; exact hd, ?_⟩⟩⟩
  rw [heap_init ha ne]
  exact q dx (by rw [upd_ne ne] at hd; exact hd)
/-! ### what the program promises of anything that is handed in -/
def spCanG (P : Addr) : Sp := fun vs H Q _ => ∃ z : Str, vs = [.str z] ∧ z.cps.size ≤ 1000 ∧ GxR.TabG H P ∧ ∀ H', GxR.Tabbed P H H' → Q (.bl (canB z)) H'
def HomeV (hm : V) : Prop := hm = .non ∨ ∃ i : Int, hm = .int i
def spCheckG (P CS : Addr) : Sp := fun vs H Q E => ∃ (t : Addr) (z o : Str) (hm : V), vs = [.ref t] ∧ HomeV hm ∧ Sh H t z o hm ∧ z.cps.size ≤ 1000 ∧ o.cps.size ≤ 1000 ∧ GxR.TabG H P ∧
  (goodB z o hm = true → ∀ H', Kp P H H' → Q .non H') ∧ (goodB z o hm = false → ∀ H', Kp P H H' → E (.ref CS) none H')
def spRowsG (K : PySem.W.Frag) (W : TWs) (CT : Addr) : Sp := fun vs H Q E => ∃ (a : Addr) (rs : List Str), vs = [.ref a] ∧ SqL K H a (rs.map V.str) ∧ rs.length ≤ 1000 ∧ (∀ r ∈ rs, r.cps.size ≤ 1000) ∧ Tb W H ∧
  (∀ n, badRow rs = some n → ∀ H1 dx, Kz W H H1 → H1 dx = none → E (.ref CT) (some dx) (upd H1 dx (.xd [("row", .int (n : Nat))]))) ∧
  (badRow rs = none → (∀ (j : Nat) (x : Str), rs[j]? = some x → goodRow ((j : Nat) : Int) x = true) → ∀ H', Kz W H H' → Q .non H')
def spReadG (W : TWs) (CT CS : Addr) : Sp := fun vs H Q E => ∃ x : Str, vs = [.str x] ∧ x.cps.size ≤ 900 ∧ Tb W H ∧ match verOf (rowsOf x) with
  | .told z o hm => HomeV hm → ∀ t H', Kz W H H' → H t = none → Sh H' t z o hm → Q (.ref t) H'
  | .text n => ∀ H1 dx, Kz W H H1 → H1 dx = none → E (.ref CT) (some dx) (upd H1 dx (.xd [("row", .int (n : Nat))]))
  | .sheet => ∀ H1, Kz W H H1 → E (.ref CS) none H1
/-! ### the law's -/
def spHome : Sp := fun vs H Q _ => ∃ r : Str, vs = [.str r] ∧ r.cps.size ≤ 1000 ∧ signsOk r = true ∧ ∀ H', Same H H' → Q (homeL r) H'
/-- a word and what was told -/
def DueAt (H : Hp) (p : Addr) : Ver → Prop
  | .told z o hm => HomeV hm ∧ ∃ q, H p = some (.tup [.str "told", .ref q]) ∧ H q = some (.tup [.str z, .str o, hm])
  | .text n => H p = some (.tup [.str "BadText", .int (n : Nat)])
  | .sheet => H p = some (.tup [.str "BadSheet", .int 0])
def spDue13 : Sp := fun vs H Q _ => ∃ x : Str, vs = [.str x] ∧ x.cps.size ≤ 900 ∧ Tx x ∧ ∀ p H', Same H H' → DueAt H' p (verOf (rowsOf x)) → Q (.ref p) H'
def spTold (W : TWs) : Sp := fun vs H Q _ => ∃ x : Str, vs = [.str x] ∧ x.cps.size ≤ 900 ∧ Tb W H ∧ ∀ p H', Kz W H H' → DueAt H' p (verOf (rowsOf x)) → Q (.ref p) H'
theorem DueAt.al {H : Hp} {p q : Addr} {v : Ver} (a : DueAt H p v) (b : DueAt H q v) : Al H 2 (.ref p) (.ref q) := by
  cases v with
  | told z o hm =>
    obtain ⟨hh, p', a1, a2⟩ := a
    obtain ⟨_, q', b1, b2⟩ := b
    refine .tup a1 b1 rfl (by simp) fun i x y h1 h2 => ?_
    match i, h1, h2 with
    | 0, h1, h2 => cases h1; cases h2; exact .str _ _
    | 1, h1, h2 =>
      cases h1; cases h2
      refine .tup a2 b2 rfl (by simp) fun i x y h1 h2 => ?_
      rw [h1] at h2
      cases h2
      match i, h1 with
      | 0, h1 => cases h1; exact .str _ _
      | 1, h1 => cases h1; exact .str _ _
      | 2, h1 =>
        cases h1
        rcases hh with e | ⟨i, e⟩ <;> rw [e]
        · exact .non _
        · exact .int _ _
  | text n =>
    refine .tup a b rfl (by simp) fun i x y h1 h2 => ?_
    rw [h1] at h2
    cases h2
    match i, h1 with
    | 0, h1 => cases h1; exact .str _ _
    | 1, h1 => cases h1; exact .int _ _
  | sheet =>
    refine .tup a b rfl (by simp) fun i x y h1 h2 => ?_
    rw [h1] at h2
    cases h2
    match i, h1 with
    | 0, h1 => cases h1; exact .str _ _
    | 1, h1 => cases h1; exact .int _ _
theorem DueAt.kz {W : TWs} {H H' : Hp} {p : Addr} {v : Ver} (a : DueAt H p v) (k : Kz W H H') : DueAt H' p v := by
  cases v with
  | told z o hm =>
    obtain ⟨hh, p', a1, a2⟩ := a
    exact ⟨hh, p', k.tup a1, k.tup a2⟩
  | text n => exact k.tup a
  | sheet => exact k.tup a
/-- the text that the law spoils: only signs and line feeds, a bound -/
def spSpoil13 : Sp := fun vs H Q _ => ∃ (b l : Addr) (x : Str) (m : Nat), vs = [.ref b, .str x] ∧ BoxAt H b l ∧ Tx x ∧ x.cps.size ≤ m ∧ m ≤ 400 ∧
  ∀ (y : Str) H', Tx y → y.cps.size ≤ 3 * m + 10 → Bxd b l H H' → Q (.str y) H'
end Kt
namespace Kt
open PySem PySem.Spec PyProof.Rows L2
/-! ### lists of texts as data -/
def sD (ss : List Str) : List PyData := ss.map PyData.str
theorem dp_strs (K : PySem.W.Frag) (H : Hp) : ∀ ss : List Str, DpAll K H (ss.map V.str) (sD ss)
  | [] => .nil
  | s :: r => .cons (.str s) (dp_strs K H r)
theorem strOk_small {x : Str} (h : ∀ c ∈ x.cps.toList, c ≤ 126) : PyData.strOk x = true := by
  unfold PyData.strOk
  rw [← Array.all_toList, List.all_eq_true]
  exact fun c hc => decide_eq_true (by have := h c hc; omega)
theorem canLay_s : ∀ {ss : List Str}, (∀ s ∈ ss, ∀ c ∈ s.cps.toList, c ≤ 126) → PyData.canLayAll0 (sD ss) = true
  | [], _ => by simp [sD, PyData.canLayAll0]
  | p :: e, h => by
    have a := canLay_s (ss := e) fun q hq => h q (List.mem_cons_of_mem _ hq)
    have b := strOk_small (h p List.mem_cons_self)
    simp only [sD, List.map_cons, PyData.canLayAll0, PyData.canLay0, b, Bool.and_true, Bool.true_and]
    exact a
theorem depth_s : ∀ ss : List Str, PyData.depthAll (sD ss) ≤ 4
  | [] => by simp [sD, PyData.depthAll]
  | p :: e => by
    have a := depth_s e
    simp only [sD, List.map_cons, PyData.depthAll, PyData.depth]
    unfold sD at a
    omega
theorem shaped_s {ss : List Str} (h : ∀ s ∈ ss, ∀ c ∈ s.cps.toList, c ≤ 126) : SeqAt.shaped (.list (sD ss)) = true := by
  have a := depth_s ss
  show (PyData.canLay0 (.list (sD ss)) && decide (PyData.depth (.list (sD ss)) ≤ 64)) = true
  rw [Bool.and_eq_true]
  refine ⟨by simp only [PyData.canLay0]; exact canLay_s h, decide_eq_true ?_⟩
  simp only [PyData.depth]; omega
theorem eqv_nil_s (ss : List Str) : PyData.eqv (.list (sD ss)) (.list []) = decide (ss = []) := by
  cases ss with
  | nil => simp [sD, PyData.eqv, PyData.eqvAll]
  | cons p e => simp [sD, PyData.eqv, PyData.eqvAll]
/-! ### the six answers -/
def kindsOf (i : Nat) : List V := [.bl (decide (i = 0)), .bl (decide (i = 1)), .bl (decide (i = 2)), .bl (decide (i = 3)), .bl (decide (i = 4)), .bl (decide (i = 5))]
theorem kinds_cnt : ∀ i : Fin 6, (kindsOf i.val).countP (fun z => eqV z (.bl true)) = 1 := by decide
theorem kinds_at : ∀ i : Fin 6, ∃ z, (kindsOf i.val)[i.val]? = some z ∧ eqV z (.bl true) = true := by
  intro i
  match i with
  | ⟨0, _⟩ => exact ⟨_, rfl, rfl⟩
  | ⟨1, _⟩ => exact ⟨_, rfl, rfl⟩
  | ⟨2, _⟩ => exact ⟨_, rfl, rfl⟩
  | ⟨3, _⟩ => exact ⟨_, rfl, rfl⟩
  | ⟨4, _⟩ => exact ⟨_, rfl, rfl⟩
  | ⟨5, _⟩ => exact ⟨_, rfl, rfl⟩
theorem kinds_at' (i m : Fin 6) : m.val < i.val → ((kindsOf i.val)[m.val]?.all fun z => !eqV z (.bl true)) = true := by
  revert i m; decide
theorem kinds_before {i : Nat} (hi : i < 6) (m : Nat) (z : V) (h : m < i) (e : (kindsOf i)[m]? = some z) : eqV z (.bl true) = false := by
  have k := kinds_at' ⟨i, hi⟩ ⟨m, by omega⟩ h
  have k : ((kindsOf i)[m]?.all fun z => !eqV z (.bl true)) = true := k
  rw [e] at k
  simpa using k
theorem kinds_flat (i : Nat) : (kindsOf i).all flatV = true := rfl
theorem kind_word : ∀ i : Fin 6, ([.str "BadSheet", .str "BadSet", .str "BadTape", .str "NoSign", .str "BadCount", .str "BadText"] : List V)[i.val]? = some (.str (kindWord i.val)) := by
  intro i
  match i with
  | ⟨0, _⟩ => rfl
  | ⟨1, _⟩ => rfl
  | ⟨2, _⟩ => rfl
  | ⟨3, _⟩ => rfl
  | ⟨4, _⟩ => rfl
  | ⟨5, _⟩ => rfl
theorem Kind.lt {K : PySem.W.Frag} {mg : Str → Option Value} {cs : List Addr} {CT C : Addr} {i : Nat} (k : Kind K mg cs CT i C) : i < 6 := by
  have h := (List.getElem?_eq_some_iff.mp k.at').1
  rw [k.six] at h
  exact h
theorem DxAt.same {H H' : Hp} {d : Option Addr} (x : DxAt H d) (s : Same H H') : DxAt H' d := fun dd e => by
  obtain ⟨fs, h⟩ := x dd e
  exact ⟨fs, s _ _ h⟩
/-- signs of a word that are no figures, up to a place -/
def noFig (r : Str) (i : Nat) : List Str := ((r.cps.toList.take i).filter fun c => !decide (48 ≤ c ∧ c ≤ 57)).map sg
theorem noFig_snoc {r : Str} {i c : Nat} (h : r.cps[i]? = some c) : noFig r (i + 1) = if 48 ≤ c ∧ c ≤ 57 then noFig r i else noFig r i ++ [sg c] := by
  have h' : r.cps.toList[i]? = some c := by rw [Array.getElem?_toList]; exact h
  unfold noFig
  rw [List.take_add_one, h', List.filter_append, List.map_append]
  by_cases k : 48 ≤ c ∧ c ≤ 57
  · rw [if_pos k]
    simp [k]
  · rw [if_neg k]
    have e : (!decide (48 ≤ c ∧ c ≤ 57)) = true := by rw [decide_eq_false k]; rfl
    simp only [Option.toList_some, List.filter_cons, e, if_true, List.filter_nil, List.map_cons, List.map_nil]
theorem noFig_nil {r : Str} : noFig r r.cps.size = [] ↔ figs r = true := by
  unfold noFig figs
  rw [show r.cps.size = r.cps.toList.length by simp, List.take_length, List.map_eq_nil_iff, List.filter_eq_nil_iff, List.all_eq_true]
  constructor
  · intro h c hc
    have := h c hc
    simpa using this
  · intro h c hc
    have := h c hc
    simpa using this
theorem fig_mem {c : Nat} (h : c ≤ 126) : (c ∈ (Str.ofString "0123456789").cps.toList) ↔ (48 ≤ c ∧ c ≤ 57) := by
  have e : (Str.ofString "0123456789").cps.toList = [48, 49, 50, 51, 52, 53, 54, 55, 56, 57] := by decide +kernel
  rw [e]
  simp only [List.mem_cons, List.not_mem_nil, or_false]
  omega
end Kt
namespace Kt
open PySem PySem.Spec PyProof.Rows L2
def cutR (rs : List Str) (lo hi : Option Int) : List Str := (rs.drop (HT.sIx rs.length 0 lo)).take (HT.sIx rs.length rs.length hi - HT.sIx rs.length 0 lo)
theorem cutV_str (rs : List Str) (lo hi : Option Int) : cutV (rs.map V.str) lo hi = (cutR rs lo hi).map V.str := by
  unfold cutV cutR
  rw [List.map_take, List.map_drop, List.length_map]
theorem cutR_sub (rs : List Str) (lo hi : Option Int) : (cutR rs lo hi).Sublist rs := (List.take_sublist _ _).trans (List.drop_sublist _ _)
theorem sum_sub {a b : List Str} (h : a.Sublist b) : (a.map (·.length)).sum ≤ (b.map (·.length)).sum := by
  induction h with
  | slnil => exact Nat.le_refl _
  | cons _ _ ih => rw [List.map_cons, List.sum_cons]; omega
  | cons_cons _ _ ih => rw [List.map_cons, List.sum_cons, List.map_cons, List.sum_cons]; omega
theorem cutS_sub (x : Str) (lo hi : Option Int) : (TL.tl (cutS x lo hi)).Sublist (TL.tl x) := by
  show (((x.cps.toList.drop (HT.sIx x.length 0 lo)).take (HT.sIx x.length x.length hi - HT.sIx x.length 0 lo)).toArray).toList.Sublist x.cps.toList
  exact (List.take_sublist _ _).trans (List.drop_sublist _ _)
theorem cutS_tx {x : Str} (t : Tx x) (lo hi : Option Int) : Tx (cutS x lo hi) := fun c hc => t c ((cutS_sub x lo hi).subset hc)
theorem cutS_len (x : Str) (lo hi : Option Int) : (cutS x lo hi).length ≤ x.length := (cutS_sub x lo hi).length_le
theorem app_tx {x y : Str} (a : Tx x) (b : Tx y) : Tx (x ++ y) := fun c hc => by
  rw [TL.tl_append] at hc
  exact (List.mem_append.mp hc).elim (a c) (b c)
theorem row_tx {x r : Str} (t : Tx x) (h : r ∈ rowsOf x) : Tx r := fun c hc => .inr (row_signs t h c hc)
def txB (x : Str) : Bool := (TL.tl x).all fun c => decide (c = 10) || (decide (32 ≤ c) && decide (c ≤ 126))
theorem txB_ok {x : Str} (h : txB x = true) : Tx x := fun c hc => by
  have := List.all_eq_true.mp h c hc
  simpa using this
def odds : List Str := ["", " ", "-", "0", "00", "3", "12", "25", "26", "100", "-1", "ab", "aa", "--", "+1", "a"]
theorem odds_ok : ∀ s ∈ odds, Tx s ∧ s.length ≤ 3 := by
  have e : (odds.all fun s => txB s && decide (s.length ≤ 3)) = true := by decide +kernel
  intro s hs
  have := List.all_eq_true.mp e s hs
  rw [Bool.and_eq_true] at this
  exact ⟨txB_ok this.1, of_decide_eq_true this.2⟩
theorem BoxAt.new_ne {H : Hp} {b l p : Addr} (x : BoxAt H b l) (n : H p = none) : p ≠ b ∧ p ≠ l := by
  obtain ⟨ns, st, h1, h2⟩ := x
  exact ⟨(ne_of_none h1 n).symm, (ne_of_none h2 n).symm⟩
theorem Bxd.nw {b l p : Addr} {H H' : Hp} {o : HO} (x : Bxd b l H H') (n : H' p = none) : Bxd b l H (upd H' p o) := x.trans (Bxd.same x.box (same_new n))
theorem tx_sg {x : Str} (t : Tx x) {c : Nat} (h : c ∈ x.cps.toList) : Tx ⟨#[c]⟩ := fun d hd => by
  have e : d = c := by
    have : d ∈ [c] := hd
    exact List.mem_singleton.mp this
  rw [e]; exact t c h
end Kt
namespace Kt
open PySem PySem.Spec PyProof.Rows L2
/-! ### objects that stand as they are -/
def Fz (o : Obj) : HO := .frz o (.own 0)
abbrev Fxs := List (Addr × Obj)
def addF (H : Hp) (L : Fxs) : Hp := fun b => match L.lookup b with
  | some o => some (Fz o)
  | none => H b
def delF (H : Hp) (L : Fxs) : Hp := fun b => match L.lookup b with
  | some _ => none
  | none => H b
theorem addF_in {H : Hp} {L : Fxs} {b : Addr} {o : Obj} (h : L.lookup b = some o) : addF H L b = some (Fz o) := by unfold addF; rw [h]
theorem addF_out {H : Hp} {L : Fxs} {b : Addr} (h : L.lookup b = none) : addF H L b = H b := by unfold addF; rw [h]
theorem delF_in {H : Hp} {L : Fxs} {b : Addr} {o : Obj} (h : L.lookup b = some o) : delF H L b = none := by unfold delF; rw [h]
theorem delF_out {H : Hp} {L : Fxs} {b : Addr} (h : L.lookup b = none) : delF H L b = H b := by unfold delF; rw [h]
theorem add_del {H : Hp} {L : Fxs} (h : ∀ b o, L.lookup b = some o → H b = some (Fz o)) : addF (delF H L) L = H := by
  funext b
  cases e : L.lookup b with
  | none => rw [addF_out e, delF_out e]
  | some o => rw [addF_in e, h b o e]
theorem fz_get {P : Program} {w : World} {H : Hp} {h : Heap} {a : Addr} {o : Obj} (x : HOk P w H h) (e : H a = some (Fz o)) : h.get? a = some o := (x a _ e).1
/-- what is known of the fixed ones at a heap -/
structure FxAt (H : Hp) (fs : List Addr) (h : Heap) (L : Fxs) : Prop where
  get : ∀ b o, L.lookup b = some o → h.get? b = some o
  free : ∀ b o, L.lookup b = some o → H b = none
  nofs : ∀ b o, L.lookup b = some o → b ∉ fs
section
variable {P : Program} {w : World} {H H' : Hp} {h h' B : Heap} {fs : List Addr} {L : Fxs}
theorem hok_add (x : HOk P w H h) (l : ∀ b o, L.lookup b = some o → h.get? b = some o) (n : ∀ b o, L.lookup b = some o → H b = none) : HOk P w (addF H L) h := fun a o e => by
  cases q : L.lookup a with
  | some u =>
    rw [addF_in q] at e
    cases e
    exact ⟨l a u q, u, l a u q⟩
  | none =>
    rw [addF_out q] at e
    have up : ∀ b v, H b = some v → addF H L b = some v := fun b v z => by
      cases q2 : L.lookup b with
      | none => rw [addF_out q2]; exact z
      | some u => rw [n b u q2] at z; cases z
    exact (x a o e).stay (fun _ _ _ z => z) (fun b z => up b _ z) fun b xs z => up b _ z
theorem hok_del (x : HOk P w H h) (l : ∀ b o, L.lookup b = some o → H b = some (Fz o)) : HOk P w (delF H L) h := fun a o e => by
  cases q : L.lookup a with
  | some u => rw [delF_in q] at e; cases e
  | none =>
    rw [delF_out q] at e
    have up : ∀ b v, (∀ u, v ≠ Fz u) → H b = some v → delF H L b = some v := fun b v m z => by
      cases q2 : L.lookup b with
      | none => rw [delF_out q2]; exact z
      | some u => rw [l b u q2] at z; exact absurd (Option.some.inj z).symm (m u)
    exact (x a o e).stay (fun _ _ _ z => z) (fun b z => up b _ (fun u k => by unfold Fz at k; cases k) z) fun b xs z => up b _ (fun u k => by unfold Fz at k; cases k) z
theorem un_add (u : Un fs [] H H' h h') (x : FxAt H fs h L) : Un fs [] (addF H L) (addF H' L) h h' where
  keep := fun b o e n hf hx => by
    cases q : L.lookup b with
    | some v => rw [addF_in q] at n; cases n
    | none => rw [addF_out q] at n; exact u.keep b o e n hf hx
  slot := fun b o e n hf hx => by
    cases q : L.lookup b with
    | some v => rw [addF_in q] at n; cases n
    | none => rw [addF_out q] at n; exact u.slot b o e n hf hx
  free := fun b o e n hx => by
    cases q : L.lookup b with
    | some v => rw [addF_in q] at n; cases n
    | none => rw [addF_out q] at n ⊢; exact u.free b o e n hx
  there := u.there
  tups := fun b xs e => by
    cases q : L.lookup b with
    | some v => rw [addF_in q] at e; cases e
    | none => rw [addF_out q] at e ⊢; exact u.tups b xs e
  frzs := fun b o v e => by
    cases q : L.lookup b with
    | some z => rw [addF_in q] at e ⊢; exact e
    | none => rw [addF_out q] at e ⊢; exact u.frzs b o v e
  tbls := fun b ps e => by
    cases q : L.lookup b with
    | some v => rw [addF_in q] at e; cases e
    | none => rw [addF_out q] at e ⊢; exact u.tbls b ps e
theorem ub_add (u : UB fs H H' h B h') (x : FxAt H fs h L) : UB fs (addF H L) (addF H' L) h B h' where
  keep := fun b o e n hf => by
    cases q : L.lookup b with
    | some v => rw [addF_in q] at n; cases n
    | none => rw [addF_out q] at n; exact u.keep b o e n hf
  slot := u.slot
  free := fun b o e n => by
    cases q : L.lookup b with
    | some v => rw [addF_in q] at n; cases n
    | none => rw [addF_out q] at n ⊢; exact u.free b o e n
  there := u.there
  tups := fun b xs e => by
    cases q : L.lookup b with
    | some v => rw [addF_in q] at e; cases e
    | none => rw [addF_out q] at e ⊢; exact u.tups b xs e
  frzs := fun b o v e => by
    cases q : L.lookup b with
    | some z => rw [addF_in q] at e ⊢; exact e
    | none => rw [addF_out q] at e ⊢; exact u.frzs b o v e
  tbls := fun b ps e => by
    cases q : L.lookup b with
    | some v => rw [addF_in q] at e; cases e
    | none => rw [addF_out q] at e ⊢; exact u.tbls b ps e
/-- the fixed ones were tracked during the call; now they are let go -/
theorem un_del (u : Un fs [] (addF H L) H' h h') (x : FxAt H fs h L) (y : HOk P w H' h') : Un fs [] H (delF H' L) h h' where
  keep := fun b o e n hf hx => by
    cases q : L.lookup b with
    | some v =>
      have e2 := x.get b v q
      rw [e] at e2
      cases e2
      exact fz_get y (u.frzs b o (.own 0) (addF_in q))
    | none => exact u.keep b o e (by rw [addF_out q]; exact n) hf hx
  slot := fun b o e n hf hx => by
    cases q : L.lookup b with
    | some v => exact absurd hf (x.nofs b v q)
    | none => exact u.slot b o e (by rw [addF_out q]; exact n) hf hx
  free := fun b o e n hx => by
    cases q : L.lookup b with
    | some v => exact delF_in q
    | none => rw [delF_out q]; exact u.free b o e (by rw [addF_out q]; exact n) hx
  there := u.there
  tups := fun b xs e => by
    cases q : L.lookup b with
    | some v => rw [x.free b v q] at e; cases e
    | none => rw [delF_out q]; exact u.tups b xs (by rw [addF_out q]; exact e)
  frzs := fun b o v e => by
    cases q : L.lookup b with
    | some z => rw [x.free b z q] at e; cases e
    | none => rw [delF_out q]; exact u.frzs b o v (by rw [addF_out q]; exact e)
  tbls := fun b ps e => by
    cases q : L.lookup b with
    | some v => rw [x.free b v q] at e; cases e
    | none => rw [delF_out q]; exact u.tbls b ps (by rw [addF_out q]; exact e)
end
/-- the fixed ones are none of what is tracked -/
def Fre (L : Fxs) (H : Hp) : Prop := ∀ b o, L.lookup b = some o → H b = none
/-- a call's end, told with the fixed ones -/
theorem cr_add {P : Program} {w : World} {outer : List Env} {H : Hp} {s s' : Shared} {Q : VK} {E : XK} {r : Result} {L : Fxs} (x : FxAt H (frs outer) s.heap L)
    (c : CR (L2.CX P w) outer P w H s (fun v H' => Fre L H' → Q v (addF H' L)) (fun cls d H' => Fre L H' → E cls d (addF H' L)) r s') : CR (L2.CX P w) outer P w (addF H L) s Q E r s' := by
  cases r with
  | ok fl =>
    cases fl with
    | ret u =>
      obtain ⟨v, H', os, ag, un, hok, rv, q⟩ := c
      have fr : Fre L H' := fun b o e => un.free b o (x.get b o e) (x.free b o e) (by simp)
      exact ⟨v, addF H' L, os, ag, un_add un x, hok_add hok (fun b o e => un.keep b o (x.get b o e) (x.free b o e) (x.nofs b o e) (by simp)) fr, rv, q fr⟩
    | next => exact c
    | brk => exact c
    | cont => exact c
  | error e =>
    obtain ⟨a, B, H', cls, d, eu, fl, hok, ub, na, os, ag, q⟩ := c
    have gb : ∀ b o, L.lookup b = some o → B.get? b = some o := fun b o e => ub.keep b o (x.get b o e) (x.free b o e) (x.nofs b o e)
    have fr : Fre L H' := fun b o e => ub.free b o (x.get b o e) (x.free b o e)
    refine ⟨a, B, addF H' L, cls, d, eu, fl, hok_add hok gb fr, ub_add ub x, ?_, os, ag, q fr⟩
    cases e : L.lookup a with
    | none => rw [addF_out e]; exact na
    | some o =>
      have z := gb a o e
      rw [fl.2.1] at z
      cases z
end Kt
namespace Kt
open PySem PySem.Spec PyProof.Rows L2
/-! ### a lambda is made -/
/-- the function object at f, made by a lambda; nd: it has one default, 0 -/
def LamAt (H : Hp) (f : Addr) (q : Str) (params : Arguments) (body : Expr) (scope : Scope) (clo : List (Str × Addr)) (nd : Bool) : Prop :=
  ∃ (c' : Addr) (dV doc pm ctv : Value), H f = some (Fz (PySem.W.kdv_obj "<lambda>" q params (.expr body) scope clo dV doc pm c' ctv)) ∧ H c' = some (LamX.CodeO c' q) ∧
    (nd = false → dV = .none) ∧ (nd = true → ∃ (T : Addr) (tk : Tok), dV = .ref T ∧ H T = some (Fz (PySem.W.kdv_tup [.int 0 tk])))
theorem LamAt.mono {H H' : Hp} {f : Addr} {q : Str} {params : Arguments} {body : Expr} {scope : Scope} {clo : List (Str × Addr)} {nd : Bool} (l : LamAt H f q params body scope clo nd) (k : ∀ b o, (∀ ps, o ≠ .tbl ps) → H b = some o → H' b = some o) : LamAt H' f q params body scope clo nd := by
  obtain ⟨c', dV, doc, pm, ctv, h1, h2, h3, h4⟩ := l
  refine ⟨c', dV, doc, pm, ctv, k _ _ (fun ps e => by unfold Fz at e; cases e) h1, k _ _ (fun ps => LamX.codeO_ne ps) h2, h3, fun e => ?_⟩
  obtain ⟨T, tk, e1, e2⟩ := h4 e
  exact ⟨T, tk, e1, k _ _ (fun ps e => by unfold Fz at e; cases e) e2⟩
section
variable {X : Cx} {pins : List (Addr × Obj)} {σ : L2.St} {H : Hp} {s : Shared}
theorem fz_ne (o : Obj) (ps : Array Value) : Fz o ≠ .tbl ps := fun e => by unfold Fz at e; cases e
/-- the tables, when one has grown by a code object -/
theorem tb_grown {W : TWs} {P c' : Addr} {q : Str} {ps : Array Value} {pos : Pos} {H2 : Hp} (tw : Tb W H) (hP : H P = some (.tbl ps)) (ht : TriplesOk ps.toList) (hm : (P, q) ∈ W.ls) (hu : ∀ p ∈ W.ls, p.1 = P → p.2 = q) (hg : P ∉ W.gs)
    (at' : ∀ b o, b ≠ P → H b = some o → H2 b = some o) (eP : H2 P = some (.tbl (ps ++ #[rawInt pos.line, rawInt pos.col, .ref c']))) (eC : H2 c' = some (LamX.CodeO c' q)) : Tb W H2 := by
  have st : ∀ b o, (∀ qs, o ≠ .tbl qs) → H b = some o → H2 b = some o := fun b o n e => at' b o (fun z => by rw [z, hP] at e; exact n ps (Option.some.inj e).symm) e
  refine ⟨fun P' hP' => ?_, fun p hp => ?_⟩
  · obtain ⟨ps', h1, h2⟩ := tw.g P' hP'
    exact ⟨ps', at' _ _ (fun z => hg (z ▸ hP')) h1, h2⟩
  · obtain ⟨ps', a1, a2, a3⟩ := tw.l p hp
    by_cases hb : p.1 = P
    · rw [hu p hp hb, hb]
      rw [hb, hP] at a1
      cases a1
      rw [hu p hp hb] at a3
      refine ⟨_, eP, by rw [Array.toList_append]; exact PySem.TriplesOk_snoc _ _ _ _ ht, fun pos' cv hcv => ?_⟩
      rw [Array.toList_append] at hcv
      rcases LamX.among_app _ ht hcv with z | z
      · obtain ⟨c0, e1, e2⟩ := a3 pos' cv z
        exact ⟨c0, e1, st _ _ LamX.codeO_ne e2⟩
      · exact ⟨c', z, eC⟩
    · refine ⟨ps', at' _ _ hb a1, a2, fun pos' cv hcv => ?_⟩
      obtain ⟨c0, e1, e2⟩ := a3 pos' cv hcv
      exact ⟨c0, e1, st _ _ LamX.codeO_ne e2⟩
theorem lam_tail {W : TWs} {c P : Addr} {params : Arguments} {body : Expr} {scope : Scope} {pos : Pos} {dV : Value} {E : Value → Shared → Prop} {Q : Value → Shared → Prop} (I : Inv X pins σ H s) (TB : LamX.TabB X.base X.mg c P) (hcode : X.env.code = .ref c) (tw : Tb W H)
    (hm : (P, X.env.qual ++ "<lambda>") ∈ W.ls) (hu : ∀ p ∈ W.ls, p.1 = P → p.2 = X.env.qual ++ "<lambda>") (hg : P ∉ W.gs) (hfree : ∀ y ∈ scope.names, y.2 = .free → ∃ c, X.env.cells.lookup y.1 = some c)
    (h : ∀ (f c' : Addr) (doc pm ctv : Value) (H1 : Hp) (s' : Shared), Inv X pins σ H1 s' → Kz W H H1 → H f = none → H1 f = some (Fz (PySem.W.kdv_obj "<lambda>" (X.env.qual ++ "<lambda>") params (.expr body) scope (cloFrom X.env.cells scope.names []) dV doc pm c' ctv)) →
      H1 c' = some (LamX.CodeO c' (X.env.qual ++ "<lambda>")) → Q (.ref f) s') :
    wpAny (model X.prog X.w) X.A (makeTail "<lambda>" (X.env.qual ++ "<lambda>") params (.expr body) scope X.env dV .none none pos pos.line) Q E s := by
  obtain ⟨ps, hP, ht, ha⟩ := tw.l _ hm
  have bP : s.heap.BuiltinsAt X.mg P := TB.bm.keeps I.bk
  have hP' : s.heap.get? P = some { cls := .none, data := .fields ps } := I.hok P _ hP
  cases hc : codeAmong pos ps.toList with
  | none =>
    refine PySem.W.kdv_makeTail (mg := X.mg) (c := c) (P := P) (ps := ps) (closure_ok hfree) I.ok.glob (I.mod.glob.keeps I.bk) hcode (TB.code.keeps I.bk) hP' ht hc TB.gP bP fun c' ctv doc h' tk hx hge hlt hrec htb => ?_
    obtain ⟨c2, oc, vs, t, e2, hoc, hd, hv⟩ := hrec
    cases e2
    have I1 := LamX.inv_table (t' := tk) (more := #[rawInt pos.line, rawInt pos.col, .ref c']) (h' := h') (q := X.env.qual ++ "<lambda>") I hP (fun b o hb e => hx b o hb e) htb hge ⟨oc, vs, t, hoc, hd, hv⟩
    have nC : H c' = none := I.hok.fresh hge
    have I2 := I1.laid (t' := tk) (a := h'.objs.size) (o := Fz (PySem.W.kdv_obj "<lambda>" (X.env.qual ++ "<lambda>") params (.expr body) scope (cloFrom X.env.cells scope.names []) dV doc ((X.mg "__name__").getD .none) c' ctv))
      (h' := h'.push (PySem.W.kdv_obj "<lambda>" (X.env.qual ++ "<lambda>") params (.expr body) scope (cloFrom X.env.cells scope.names []) dV doc ((X.mg "__name__").getD .none) c' ctv))
      (fun b o e => Heap.get?_push_of_some _ e) (Nat.le_refl _) ⟨Heap.get?_push_size _ rfl, _, Heap.get?_push_size _ rfl⟩
    have nf1 := I1.hok.fresh (Nat.le_refl _ : h'.objs.size ≤ h'.objs.size)
    have nfc : h'.objs.size ≠ c' := Nat.ne_of_gt hlt
    have nPc : P ≠ c' := ne_of_none hP nC
    have nPf : P ≠ h'.objs.size := fun z => by rw [← z, upd_ne nPc, upd_same] at nf1; cases nf1
    have nf : H h'.objs.size = none := by
      rw [upd_ne nfc, upd_ne (Ne.symm nPf)] at nf1
      exact nf1
    have at' : ∀ b o, b ≠ P → H b = some o → upd (upd (upd H P (.tbl (ps ++ #[rawInt pos.line, rawInt pos.col, .ref c']))) c' (LamX.CodeO c' (X.env.qual ++ "<lambda>"))) h'.objs.size (Fz (PySem.W.kdv_obj "<lambda>" (X.env.qual ++ "<lambda>") params (.expr body) scope (cloFrom X.env.cells scope.names []) dV doc ((X.mg "__name__").getD .none) c' ctv)) b = some o := fun b o hb e => by
      rw [upd_ne (ne_of_none e nf), upd_ne (ne_of_none e nC), upd_ne hb]
      exact e
    refine h h'.objs.size c' doc ((X.mg "__name__").getD .none) ctv _ _ I2 ⟨?_, fun b o n e => at' b o (fun z => n ps (Option.some.inj (e.symm.trans (by rw [z]; exact hP)))) e, fun b e => ?_⟩ nf upd_same (by rw [upd_ne (Ne.symm nfc), upd_same])
    · exact tb_grown tw hP ht hm hu hg at' (by rw [upd_ne nPf, upd_ne nPc, upd_same]) (by rw [upd_ne (Ne.symm nfc), upd_same])
    · cases z : H b with
      | none => rfl
      | some o =>
        by_cases hb : b = P
        · rw [hb, upd_ne nPf, upd_ne nPc, upd_same] at e; cases e
        · rw [at' b o hb z] at e; cases e
  | some cv =>
    obtain ⟨c', e, hco⟩ := ha pos cv hc
    subst e
    refine PySem.W.kdv_makeTailHit (mg := X.mg) (c := c) (P := P) (ps := ps) (closure_ok hfree) I.ok.glob (I.mod.glob.keeps I.bk) hcode (TB.code.keeps I.bk) hP' ht hc bP fun ctv doc h' tk hx hsz => ?_
    have I1 : Inv X pins σ H { s with heap := h', toks := tk } := I.kept hx
    have I2 := I1.laid (t' := tk) (a := h'.objs.size) (o := Fz (PySem.W.kdv_obj "<lambda>" (X.env.qual ++ "<lambda>") params (.expr body) scope (cloFrom X.env.cells scope.names []) dV doc ((X.mg "__name__").getD .none) c' ctv))
      (h' := h'.push (PySem.W.kdv_obj "<lambda>" (X.env.qual ++ "<lambda>") params (.expr body) scope (cloFrom X.env.cells scope.names []) dV doc ((X.mg "__name__").getD .none) c' ctv))
      (fun b o e => Heap.get?_push_of_some _ e) (Nat.le_refl _) ⟨Heap.get?_push_size _ rfl, _, Heap.get?_push_size _ rfl⟩
    have nf : H h'.objs.size = none := I1.hok.fresh (Nat.le_refl _)
    exact h h'.objs.size c' doc ((X.mg "__name__").getD .none) ctv _ _ I2 (Kz.same tw (same_new nf)) nf upd_same (same_new nf _ _ hco)
/-- the reading of a lambda -/
def tLm (W : TWs) (q : Str) (params : Arguments) (body : Expr) (scope : Scope) (clo : List (Str × Addr)) (nd : Bool) : TE := fun σ H Q => Tb W H ∧ ∀ f H1, Kz W H H1 → H f = none → LamAt H1 f q params body scope clo nd → Q (.ref f) H1
theorem pe_lam0 {W : TWs} {c P : Addr} {params : Arguments} {body : Expr} {scope : Scope} {pos : Pos} (TB : LamX.TabB X.base X.mg c P) (hcode : X.env.code = .ref c)
    (hm : (P, X.env.qual ++ "<lambda>") ∈ W.ls) (hu : ∀ p ∈ W.ls, p.1 = P → p.2 = X.env.qual ++ "<lambda>") (hg : P ∉ W.gs) (hfree : X.Ok → ∀ y ∈ scope.names, y.2 = .free → ∃ c, X.env.cells.lookup y.1 = some c) (hdef : defaultsOf params X.env = ([], []) := by rfl) :
    PE X (.Lambda params body scope pos) (tLm W (X.env.qual ++ "<lambda>") params body scope (cloFrom X.env.cells scope.names []) false) := by
  refine ⟨fun pins s σ H Q I h => ?_⟩
  obtain ⟨tw, h⟩ := h
  refine PySem.W.kla_eval hdef ?_
  rw [makeFunction_eq]
  simp only [List.zip_nil_right, List.filterMap_nil, List.isEmpty_nil, if_true, pure_bind]
  exact lam_tail I TB hcode tw hm hu hg (hfree I.ok) fun f c' doc pm ctv H1 s' I1 kz nf hf hc => ⟨.ref f, H1, I1, rfl, h f H1 kz nf ⟨c', _, doc, pm, ctv, hf, hc, fun _ => rfl, fun e => nomatch e⟩⟩
theorem pe_lam1 {W : TWs} {c P : Addr} {params : Arguments} {body : Expr} {scope : Scope} {pos p0 : Pos} {j : Nat} (TB : LamX.TabB X.base X.mg c P) (hcode : X.env.code = .ref c)
    (hm : (P, X.env.qual ++ "<lambda>") ∈ W.ls) (hu : ∀ p ∈ W.ls, p.1 = P → p.2 = X.env.qual ++ "<lambda>") (hg : P ∉ W.gs) (hfree : X.Ok → ∀ y ∈ scope.names, y.2 = .free → ∃ c, X.env.cells.lookup y.1 = some c)
    (hd : params.defaults = [.Constant (.int 0) j p0] := by rfl) (hk : params.kw_defaults = [] := by rfl) :
    PE X (.Lambda params body scope pos) (tLm W (X.env.qual ++ "<lambda>") params body scope (cloFrom X.env.cells scope.names []) true) := by
  refine ⟨fun pins s σ H Q I h => ?_⟩
  obtain ⟨tw, h⟩ := h
  refine PySem.W.kdv_lam (by rw [hd]; rfl) hk ?_
  rw [hd]
  refine PySem.W.kdv_all1 (thn ((pe_int (X := X) (i := 0)).run pins s σ H (fun v H' => v = .int 0 ∧ H' = H) I ⟨rfl, rfl⟩) fun u s1 hh => ?_)
  obtain ⟨v, H1, I1, rv, ev, eH⟩ := hh
  subst ev
  subst eH
  obtain ⟨tk, rfl⟩ := rv
  refine PySem.W.kdv_all0 ?_
  rw [makeFunction_eq]
  simp only [List.zip_nil_right, List.filterMap_nil, List.isEmpty_nil, if_true, pure_bind, List.isEmpty_cons, Bool.false_eq_true, if_false]
  refine wpAny_bind (wpAny_newTextTuple ?_)
  have nT : H1 s1.heap.objs.size = none := I1.hok.fresh (Nat.le_refl _)
  have I2 := I1.laid (t' := s1.toks) (a := s1.heap.objs.size) (o := Fz (PySem.W.kdv_tup [.int 0 tk])) (h' := s1.heap.push (PySem.W.kdv_tup [.int 0 tk])) (fun b o e => Heap.get?_push_of_some _ e) (Nat.le_refl _) ⟨Heap.get?_push_size _ rfl, _, Heap.get?_push_size _ rfl⟩
  have k1 := Kz.same tw (same_new (o := Fz (PySem.W.kdv_tup [.int 0 tk])) nT)
  exact lam_tail I2 TB hcode k1.tb hm hu hg (hfree I.ok) fun f c' doc pm ctv H2 s' I3 kz nf hf hc => ⟨.ref f, H2, I3, rfl, h f H2 (k1.trans kz) (k1.nn f nf) ⟨c', _, doc, pm, ctv, hf, hc, (fun e => nomatch e), fun _ => ⟨_, tk, rfl, kz.at' _ _ (fz_ne _) upd_same⟩⟩⟩
end
end Kt
namespace Kt
open PySem PySem.Spec PyProof.Rows L2
def Stays (H H' : Hp) : Prop := ∀ b o, (∀ ps, o ≠ .tbl ps) → H b = some o → H' b = some o
theorem Stays.refl (H : Hp) : Stays H H := fun _ _ _ h => h
theorem Stays.trans {H H1 H2 : Hp} (a : Stays H H1) (b : Stays H1 H2) : Stays H H2 := fun c o n h => b c o n (a c o n h)
theorem Kz.stays {W : TWs} {H H' : Hp} (k : Kz W H H') : Stays H H' := k.at'
/-! ### names that are captured -/
structure Caps (cells : List (Str × Addr)) (N : List Str) (σ : L2.St) (ns : List Str) (L : Fxs) : Prop where
  at' : ∀ n ∈ ns, ∃ (c : Addr) (o : Obj) (ov : Option Value), cells.lookup n = some c ∧ L.lookup c = some o ∧ o.data = .cell ov ∧ ∀ (i : Nat) (v : V), N[i]? = some n → σ[i]? = some (some v) → ∃ u, ov = some u ∧ RelV v u
section
variable {X : Cx} {pins : List (Addr × Obj)} {σ : L2.St} {H : Hp} {s : Shared}
theorem look_cons {L : Fxs} {c b : Addr} {o : Obj} : List.lookup b ((c, o) :: L) = if b = c then some o else L.lookup b := by
  by_cases h : b = c
  · subst h; simp [List.lookup]
  · have e : (b == c) = false := by simpa using h
    rw [if_neg h]
    simp [List.lookup, e]
theorem caps_of (I : Inv X pins σ H s) (hfn : ∀ n, X.fn n = true) : ∀ (ns : List Str), (∀ n ∈ ns, X.env.kindOf n = some .cell) →
    ∃ L : Fxs, Caps X.env.cells X.N σ ns L ∧ (∀ b o, L.lookup b = some o → s.heap.get? b = some o ∧ (∃ ov, o.data = .cell ov) ∧ H b = none ∧ X.s_0.heap.objs.size ≤ b)
  | [], _ => ⟨[], ⟨fun n h => nomatch h⟩, fun b o h => nomatch h⟩
  | n :: ns, hk => by
    obtain ⟨L, cp, fx⟩ := caps_of I hfn ns fun m hm => hk m (List.mem_cons_of_mem _ hm)
    have hkn := hk n List.mem_cons_self
    obtain ⟨c, hc⟩ := I.ok.has n (.inl hkn)
    obtain ⟨ov, o, ho, hd⟩ := I.cell n c hc
    refine ⟨(c, o) :: L, ⟨fun m hm => ?_⟩, fun b o' e => ?_⟩
    · rcases List.mem_cons.mp hm with e | hm
      · subst e
        refine ⟨c, o, ov, hc, by rw [look_cons, if_pos rfl], hd, fun i v e1 e2 => ?_⟩
        obtain ⟨m', hn, hl⟩ := I.loc
        obtain ⟨u, ru, lk⟩ := hl i m v e1 e2 (.inr (.inl hkn))
        refine ⟨u, ?_, ru⟩
        rcases lk with ⟨k', _⟩ | ⟨_, c2, e3, o2, ho2, hd2⟩
        · rw [hkn] at k'; cases k'
        · rw [hc] at e3
          cases e3
          rw [ho] at ho2
          cases ho2
          rw [hd] at hd2
          cases hd2
          rfl
      · obtain ⟨c2, o2, ov2, h1, h2, h3, h4⟩ := cp.at' m hm
        refine ⟨c2, o2, ov2, h1, ?_, h3, h4⟩
        rw [look_cons]
        by_cases e : c2 = c
        · rw [if_pos e]
          have g2 := (fx c2 o2 h2).1
          rw [e, ho] at g2
          exact g2
        · rw [if_neg e]; exact h2
    · rw [look_cons] at e
      by_cases hb : b = c
      · rw [if_pos hb] at e
        cases e
        subst hb
        exact ⟨ho, ⟨ov, hd⟩, I.freeC n b hc, I.ok.cab n b (hfn n) hc⟩
      · rw [if_neg hb] at e
        exact fx b o' e
end
/-! ### a lambda is called -/
structure ThS (N ns : List Str) (scope : Scope) : Prop where
  kind : scope.kind = .function
  co : scope.isCoroutine = false
  gen : scope.isGenerator = false
  nocell : ∀ y ∈ scope.names, y.2 ≠ .cell
  free : ∀ y ∈ scope.names, y.2 = .free → y.1 ∈ ns
  noloc : ∀ n ∈ N, scope.names.lookup n ≠ some .local
def thSB (N ns : List Str) (scope : Scope) : Bool :=
  decide (scope.kind = .function) && (!scope.isCoroutine && (!scope.isGenerator && ((scope.names.all fun y => !decide (y.2 = .cell) && (!decide (y.2 = .free) || decide (y.1 ∈ ns))) && N.all fun n => !decide (scope.names.lookup n = some .local))))
theorem thS_by {N ns : List Str} {scope : Scope} (h : thSB N ns scope = true) : ThS N ns scope := by
  unfold thSB at h
  simp only [Bool.and_eq_true, Bool.or_eq_true, Bool.not_eq_true', decide_eq_true_eq, decide_eq_false_iff_not, List.all_eq_true] at h
  obtain ⟨h1, h2, h3, h4, h5⟩ := h
  exact ⟨h1, h2, h3, fun y hy => (h4 y hy).1, fun y hy e => (h4 y hy).2.resolve_left (fun k => k e), h5⟩
abbrev thEnv (q : Str) (scope : Scope) (L f c' : Addr) (clo : List (Str × Addr)) : Env := PySem.W.envX q scope L f (.ref c') clo
def thCx (P : Program) (w : World) (K : PySem.W.Frag) (mg : Str → Option Value) (base : Heap) (N : List Str) (q : Str) (scope : Scope) (f c' : Addr) (clo : List (Str × Addr)) (A : Around) (outer : List Env) (s : Shared) (H : Hp) (E : XK) : Cx :=
  { cxOf (L2.CX P w) P w K mg base N q scope f (.ref c') A outer s H E with
    A := A.deeper (thEnv q scope s.heap.objs.size f c' clo), env := thEnv q scope s.heap.objs.size f c' clo, stack := thEnv q scope s.heap.objs.size f c' clo :: outer, fn := fun _ => false
    xe := fun e s' => wpAny (model P w) (A.deeper (thEnv q scope s.heap.objs.size f c' clo)) (leaving (thEnv q scope s.heap.objs.size f c' clo) e) (fun _ s'' => L2.CX P w outer H s E e s'') (fun e' s'' => L2.CX P w outer H s E e' s'') s' }
section
variable {P : Program} {w : World} {K : PySem.W.Frag} {mg : Str → Option Value} {base : Heap} {N ns : List Str} {q : Str} {scope : Scope} {f c' : Addr} {clo cells : List (Str × Addr)} {A : Around} {outer : List Env} {s : Shared} {H : Hp} {E : XK} {L : Fxs} {σ : L2.St}
theorem clo_look (S : ThS N ns scope) (cp : Caps cells N σ ns L) {n : Str} (h : scope.names.lookup n = some .free) : ∃ c, (cloFrom cells scope.names []).lookup n = some c := by
  have hy : (n, NameKind.free) ∈ scope.names := PySem.mem_of_lookup h
  exact mem_lookup (cloFrom_has (cells := cells) (acc := []) hy)
theorem clo_cell (S : ThS N ns scope) (cp : Caps cells N σ ns L) {n : Str} {c : Addr} (h : (cloFrom cells scope.names []).lookup n = some c) : cells.lookup n = some c ∧ n ∈ ns := by
  rcases cloFrom_mem (PySem.mem_of_lookup h) with hm | ⟨h1, h2⟩
  · cases hm
  · have hn := S.free _ h1 rfl
    obtain ⟨c1, _, _, e1, _⟩ := cp.at' n hn
    rw [e1] at h2
    rw [h2]
    exact ⟨e1, hn⟩
theorem th_inv {h₁ : Heap} {tk : Nat} {m' : Str → Option Value} (e0 : Env0 P w K mg base A outer s H) (hd : A.handled = none) (S : ThS N ns scope) (cp : Caps cells N σ ns L) (hinj : ∀ x y c, cells.lookup x = some c → cells.lookup y = some c → x = y)
    (fx : ∀ b o, L.lookup b = some o → s.heap.get? b = some o ∧ H b = none) (hns : h₁.Ns s.heap.objs.size m') (kp : ∀ b o, s.heap.get? b = some o → h₁.get? b = some o) (hlen : σ.length = N.length) :
    Inv (thCx P w K mg base N q scope f c' (cloFrom cells scope.names []) A outer s H E) [] σ H { s with heap := h₁, toks := tk } := by
  have noA : ∀ b : Addr, b ∉ (thCx P w K mg base N q scope f c' (cloFrom cells scope.names []) A outer s H E).ex := fun b z => absurd (show b ∈ ([] : List Addr) from z) (by simp)
  have cellAt : ∀ {n : Str} {c : Addr}, (cloFrom cells scope.names []).lookup n = some c → ∃ (o : Obj) (ov : Option Value), L.lookup c = some o ∧ o.data = .cell ov ∧ ∀ (i : Nat) (v : V), N[i]? = some n → σ[i]? = some (some v) → ∃ u, ov = some u ∧ RelV v u := fun {n c} h => by
    obtain ⟨h1, h2⟩ := clo_cell S cp h
    obtain ⟨c2, o, ov, e1, e2, e3, e4⟩ := cp.at' n h2
    rw [h1] at e1
    cases e1
    exact ⟨o, ov, e2, e3, e4⟩
  refine ⟨⟨e0.mod, S.kind, rfl, rfl, Nat.le_refl _, fun y z c e1 e2 => hinj y z c (clo_cell S cp e1).1 (clo_cell S cp e2).1, fun y hy => ?_, fun y c z _ => ?_, fun _ => hd, Around.frames_deeper e0.frames, .inr ⟨rfl, rfl⟩, fun b z => absurd z (noA b), e0.bs, e0.bsz, fun b _ _ => noA b,
      fun b z => absurd z (noA b), e0.funs, e0.frf⟩,
    rfl, e0.bare, Un.kept kp, ⟨_, hns, fun i y v e1 e2 e3 => ?_⟩, fun y c e => ?_, e0.hok.fresh (Nat.le_refl _), fun y c e => ?_, fun q hq => absurd (show q ∈ ([] : List (Addr × Obj)) ++ [] from hq) (by simp), e0.hok.kept kp, hlen⟩
  · have hy : scope.names.lookup y = some .cell ∨ scope.names.lookup y = some .free := hy
    rcases hy with hy | hy
    · exact absurd rfl (S.nocell _ (PySem.mem_of_lookup hy))
    · exact clo_look S cp hy
  · have z : false = true := z
    cases z
  · have e3 : Vis scope y := e3
    rcases e3 with k | k | k
    · exact absurd k (S.noloc y (List.mem_of_getElem? e1))
    · exact absurd rfl (S.nocell _ (PySem.mem_of_lookup k))
    · obtain ⟨c, hc⟩ := clo_look S cp k
      obtain ⟨o, ov, l1, l2, l3⟩ := cellAt hc
      obtain ⟨u, eu, ru⟩ := l3 i v e1 e2
      refine ⟨u, ru, .inr ⟨.inr k, c, hc, o, kp _ _ (fx c o l1).1, ?_⟩⟩
      rw [l2, eu]
  · obtain ⟨o, ov, l1, l2, _⟩ := cellAt e
    exact ⟨ov, o, kp _ _ (fx c o l1).1, l2⟩
  · obtain ⟨o, ov, l1, _, _⟩ := cellAt e
    exact (fx c o l1).2
end
/-- a function without parameters that may be called, and what it promises -/
structure ThOk (P : Program) (w : World) (K : PySem.W.Frag) (mg : Str → Option Value) (base : Heap) (k : Nat) (H : Hp) (f : Addr) (sp : Hp → VK → XK → Prop) : Prop where
  fn : ∃ (c : Value) (d : Option Addr) (fd : FuncData) (sl : Array (Option Value)), H f = some (Fz ⟨c, d, .func fd, sl⟩)
  run : ∀ (A : Around) (outer : List Env) (s : Shared) (H1 : Hp) (Q : VK) (E : XK), Room k A → Env0 P w K mg base A outer s H1 → Stays H H1 → sp H1 Q E → codeAny (model P w) A (.call (.ref f) ⟨[], []⟩) (CR (L2.CX P w) outer P w H1 s Q E) s
theorem ThOk.mono {P : Program} {w : World} {K : PySem.W.Frag} {mg : Str → Option Value} {base : Heap} {k : Nat} {H H' : Hp} {f : Addr} {sp : Hp → VK → XK → Prop} (t : ThOk P w K mg base k H f sp) (st : Stays H H') : ThOk P w K mg base k H' f sp :=
  ⟨let ⟨c, d, fd, sl, e⟩ := t.fn; ⟨c, d, fd, sl, st _ _ (fz_ne _) e⟩, fun A outer s H1 Q E hr e0 st' h => t.run A outer s H1 Q E hr e0 (st.trans st') h⟩
/-- what the parameters of a lambda make of a call without arguments -/
def Bd (q : Str) (params : Arguments) (body : Expr) (scope : Scope) (clo : List (Str × Addr)) (nd : Bool) : Prop := ∀ (s : Shared) (doc pm cv ctv dV : Value), (nd = false → dV = .none) → (nd = true → ∃ (T : Addr) (tk : Tok), dV = .ref T ∧ s.heap.get? T = some (PySem.W.kdv_tup [.int 0 tk])) →
  ∃ binds, BindsTo s (PySem.W.kdv_fn "<lambda>" q params (.expr body) scope clo dV doc pm cv ctv) ⟨[], []⟩ binds ∧ ∀ y ∈ binds, scope.names.lookup y.1 = some .local
theorem bd0 {q : Str} {params : Arguments} {body : Expr} {scope : Scope} {clo : List (Str × Addr)} (h : ∀ doc pm cv ctv : Value, bindArgs (PySem.W.kdv_fn "<lambda>" q params (.expr body) scope clo .none doc pm cv ctv) ⟨[], []⟩ = pure []) : Bd q params body scope clo false :=
  fun s doc pm cv ctv dV h0 _ => ⟨[], by rw [h0 rfl]; exact .of_eq (h doc pm cv ctv), fun y hy => nomatch hy⟩
theorem bd1 {q n : Str} {params : Arguments} {body : Expr} {scope : Scope} {clo : List (Str × Addr)} (hn : scope.names.lookup n = some .local) (h : ∀ (T : Addr) (doc pm cv ctv : Value), ∃ k, bindArgs (PySem.W.kdv_fn "<lambda>" q params (.expr body) scope clo (.ref T) doc pm cv ctv) ⟨[], []⟩ = seqItems? (.ref T) >>= k ∧ ∀ v, k (some #[v]) = pure [(n, v)]) : Bd q params body scope clo true :=
  fun s doc pm cv ctv dV _ h1 => by
    obtain ⟨T, tk, rfl, hT⟩ := h1 rfl
    obtain ⟨k, e1, e2⟩ := h T doc pm cv ctv
    exact ⟨[(n, .int 0 tk)], .of_defaults rfl hT rfl e1 (e2 _), fun y hy => by rw [List.mem_singleton.mp hy]; exact hn⟩
theorem th_of {P : Program} {w : World} {K : PySem.W.Frag} {mg : Str → Option Value} {base : Heap} {k : Nat} {H : Hp} {f : Addr} {q : Str} {params : Arguments} {body : Expr} {scope : Scope} {cells : List (Str × Addr)} {N ns : List Str} {σ : L2.St} {L : Fxs} {nd : Bool} {sp : Hp → VK → XK → Prop}
    (la : LamAt H f q params body scope (cloFrom cells scope.names []) nd) (hL : ∀ b o, L.lookup b = some o → H b = some (Fz o)) (cp : Caps cells N σ ns L) (S : ThS N ns scope) (hinj : ∀ x y c, cells.lookup x = some c → cells.lookup y = some c → x = y) (hlen : σ.length = N.length) (bd : Bd q params body scope (cloFrom cells scope.names []) nd)
    (hbody : ∀ (A : Around) (outer : List Env) (s : Shared) (H1 : Hp) (Q : VK) (E : XK) (c' : Addr), Room k (A.deeper (thEnv q scope s.heap.objs.size f c' (cloFrom cells scope.names []))) → Stays H H1 → sp H1 Q E →
      ∃ t, PE (thCx P w K mg base N q scope f c' (cloFrom cells scope.names []) A outer s (delF H1 L) (fun cls d H' => Fre L H' → E cls d (addF H' L))) body t ∧ t σ (delF H1 L) (fun v H' => Fre L H' → Q v (addF H' L))) : ThOk P w K mg base (k + 1) H f sp := by
  obtain ⟨c', dV, doc, pm, ctv, hf, hc, hd0, hd1⟩ := la
  refine ⟨⟨_, _, _, _, hf⟩, fun A outer s H1 Q E hr e0 st h => ?_⟩
  have gf := fz_get e0.hok (st f _ (fz_ne _) hf)
  obtain ⟨⟨oc, vs, t0, hoc, hdc, hvc⟩, _, _⟩ := e0.hok c' _ (st c' _ (fun ps => LamX.codeO_ne ps) hc)
  have hL1 : ∀ b o, L.lookup b = some o → H1 b = some (Fz o) := fun b o e => st b _ (fz_ne _) (hL b o e)
  have eH : addF (delF H1 L) L = H1 := add_del hL1
  have fx : FxAt (delF H1 L) (frs outer) s.heap L := ⟨fun b o e => fz_get e0.hok (hL1 b o e), fun b o e => delF_in e, fun b o e hm => by have z := e0.frf b hm; rw [hL1 b o e] at z; cases z⟩
  have e0' : Env0 P w K mg base A outer s (delF H1 L) := by
    refine ⟨e0.frames, e0.mod, fun b o e => ⟨(e0.bs b o e).1, ?_⟩, e0.bsz, e0.funs, fun b hb => ?_, hok_del e0.hok hL1, e0.bare⟩
    · cases z : L.lookup b with
      | some _ => exact delF_in z
      | none => rw [delF_out z]; exact (e0.bs b o e).2
    · cases z : L.lookup b with
      | some _ => exact delF_in z
      | none => rw [delF_out z]; exact e0.frf b hb
  refine codeAny_mono (R := CR (L2.CX P w) outer P w (delF H1 L) s (fun v H' => Fre L H' → Q v (addF H' L)) (fun cls d H' => Fre L H' → E cls d (addF H' L))) ?_ fun r s' c => by have z := cr_add fx c; rw [eH] at z; exact z
  refine PySem.W.kla_callFunE hr.depth gf rfl S.co S.gen rfl ⟨c', oc, vs, t0, rfl, hoc, hdc, hvc⟩ ?_
  obtain ⟨binds, hb, hbl⟩ := bd s doc pm (.ref c') ctv dV hd0 fun e => by
    obtain ⟨T, tk, e1, e2⟩ := hd1 e
    exact ⟨T, tk, e1, fz_get e0.hok (st T _ (fz_ne _) e2)⟩
  refine hb _ _ _ _ ?_
  have lim : s.heap.NoLimit := e0.mod.nolimit.keeps fun b o e => (e0.bs b o e).1
  refine wpAny_newFunctionEnv S.nocell hbl (fun h₁ hns hsb => ⟨lim.fresh _ hsb, ?_⟩) S.kind
  show codeAny _ _ (.expr body (thEnv q scope s.heap.objs.size f c' (cloFrom cells scope.names []))) _ _
  have kp : ∀ b o, s.heap.get? b = some o → h₁.get? b = some o := fun b o e => hsb.extBut b o (Nat.ne_of_lt (Heap.lt_size e)) (Heap.get?_push_of_some _ e)
  obtain ⟨t, ht, hq⟩ := hbody A outer s H1 Q E c' (hr.deeper _) st h
  have J := th_inv (q := q) (f := f) (c' := c') (E := fun cls d H' => Fre L H' → E cls d (addF H' L)) (tk := s.toks + binds.length) e0' hr.hd S cp hinj (fun b o e => ⟨fx.get b o e, fx.free b o e⟩) hns kp hlen
  refine PySem.W.kla_codeExpr (wpAny_mono (ht.run [] _ σ (delF H1 L) _ J hq) (fun v s' hq => ?_) fun e s' hq => hq)
  obtain ⟨w', H', J', rv, q⟩ := hq
  exact ⟨w', H', J'.os, J'.bare, J'.base, J'.hok, rv, q⟩
end Kt
namespace Kt
open PySem PySem.Spec PyProof.Rows L2
/-! ### a body that ends by its return, told with the slots -/
def PSR (X : Cx) (body : List Stmt) (t : L2.St → Hp → (V → L2.St → Hp → Prop) → Prop) : Prop :=
  ∀ (pins : List (Addr × Obj)) (s : Shared) (σ : L2.St) (H : Hp) (R : V → L2.St → Hp → Prop), Inv X pins σ H s → t σ H R →
    wpAny (model X.prog X.w) X.A (execs body X.env) (fun fl s' => ∃ u v σ' H', fl = .ret u ∧ Inv X pins σ' H' s' ∧ RelV v u ∧ R v σ' H') X.xe s
theorem psr_ret {X : Cx} {e : Expr} {te : TE} {pos : Pos} (he : PE X e te) : PSR X [.Return (some e) pos] (fun σ H R => te σ H fun v H' => R v σ H') := by
  intro pins s σ H R I h
  refine wpAny_execs_cons (wpAny_Return_some (thn (he.run pins s σ H _ I h) fun v s1 ⟨x, H1, I1, r1, q1⟩ => ?_))
  exact ⟨v, x, σ, H1, rfl, I1, r1, q1⟩
theorem psr_cons {X : Cx} {st : Stmt} {rest : List Stmt} {t1 : TS} {t2 : L2.St → Hp → (V → L2.St → Hp → Prop) → Prop} (h1 : PS X st t1) (h2 : PSR X rest t2) :
    PSR X (st :: rest) (fun σ H R => t1 { nx := fun σ' H' => t2 σ' H' R, rt := fun _ _ => False } σ H) := by
  intro pins s σ H R I h
  refine wpAny_execs_cons (wpAny_mono (h1.run pins s σ H _ I h) (fun fl s' hs => ?_) fun _ _ x => x)
  cases fl with
  | next =>
    obtain ⟨σ', H', J, q⟩ := hs
    exact h2 pins s' σ' H' R J q
  | ret u => obtain ⟨_, _, _, _, _, q⟩ := hs; exact q.elim
  | brk => obtain ⟨_, _, _, q⟩ := hs; exact q.elim
  | cont => obtain ⟨_, _, _, q⟩ := hs; exact q.elim
theorem un_new {fs : List Addr} {H H' : Hp} {h h' : Heap} {L : Fxs} (u : Un fs [] H H' h h') (x : ∀ b o, L.lookup b = some o → h.objs.size ≤ b ∧ H' b = none) : Un fs [] H (addF H' L) h h' where
  keep := u.keep
  slot := u.slot
  free := fun b o e n hx => by
    cases q : L.lookup b with
    | some v => exact absurd (Nat.lt_of_lt_of_le (Heap.lt_size e) (x b v q).1) (Nat.lt_irrefl _)
    | none => rw [addF_out q]; exact u.free b o e n hx
  there := u.there
  tups := fun b xs e => by
    have z := u.tups b xs e
    cases q : L.lookup b with
    | some v => rw [(x b v q).2] at z; cases z
    | none => rw [addF_out q]; exact z
  frzs := fun b o v e => by
    have z := u.frzs b o v e
    cases q : L.lookup b with
    | some v => rw [(x b v q).2] at z; cases z
    | none => rw [addF_out q]; exact z
  tbls := fun b ps e => by
    obtain ⟨more, z⟩ := u.tbls b ps e
    cases q : L.lookup b with
    | some v => rw [(x b v q).2] at z; cases z
    | none => rw [addF_out q]; exact ⟨more, z⟩
/-- a def that hands out lambdas: behind its end its captured names' cells stand as they are -/
theorem coded_okR {CX : CXT} {P : Program} {w : World} {K : PySem.W.Frag} {mg : Str → Option Value} {base : Heap} {k : Nat} {x : Str} {st : Stmt} {f c : Addr} {fd : FuncData} {N ps ns : List Str} {sp : Sp} (C : Coded K x st f fd c) (S : FnScope N ps (defScope st)) (len : ∀ vs H Q E, sp vs H Q E → vs.length = ps.length)
    (hcap : ∀ n ∈ ns, (defScope st).names.lookup n = some .cell)
    (hbody : ∀ (A : Around) (outer : List Env) (s : Shared) (H : Hp) (vs : List V) (Q : VK) (E : XK), Room k (A.deeper (envOfC x (defScope st) s.heap.objs.size f (.ref c))) → sp vs H Q E →
      ∃ t, PSR (cxOf CX P w K mg base N x (defScope st) f (.ref c) A outer s H E) (defBody st) t ∧ t (start N vs) H fun v σ' H' => ∀ L : Fxs,
        (∀ x y d, (cellsFrom (s.heap.objs.size + 1) (defScope st).names []).lookup x = some d → (cellsFrom (s.heap.objs.size + 1) (defScope st).names []).lookup y = some d → x = y) → σ'.length = N.length →
        Caps (cellsFrom (s.heap.objs.size + 1) (defScope st).names []) N σ' ns L → (∀ b o, L.lookup b = some o → H' b = none) → Q v (addF H' L)) : FnOk P w K mg base CX (k + 1) f fd ps sp := by
  obtain ⟨oc, od, kV, doc, pm, an, ct, osl, rfl, lk, hcd⟩ := C.ex
  refine ⟨len, fun A outer s H args us vs Q E hr e0 hb r hsp => ?_⟩
  have hl := len _ _ _ _ hsp
  have KX : K.In s.heap := e0.mod.kin.keeps fun b o z => (e0.bs b o z).1
  have lim : s.heap.NoLimit := e0.mod.nolimit.keeps fun b o z => (e0.bs b o z).1
  refine codeAny_call_function hr.depth (KX _ _ lk) rfl S.co S.gen rfl (PySem.W.codeRec_of KX hcd) (hb _ _ _ _ (wpAny_newFunctionEnv_cells S.kind (fun y hy => ?_) fun env he s1 z => ?_))
  · rcases S.par y.1 (List.of_mem_zip (show (y.1, y.2) ∈ ps.zip us from hy)).1 with q | q
    · exact .inl q
    · exact .inr ⟨q, PySem.W.cellsFrom_some _ _ _ (.inl q)⟩
  · subst he
    refine ⟨lim.keeps z.toInCall.keep, codeAny_func ?_⟩
    obtain ⟨t, ht, hq⟩ := hbody A outer s H vs Q E (hr.deeper _) hsp
    refine wpAny_mono (ht [] s1 (start N vs) H _ (inv_start S hr.hd e0 hl r z) hq) (fun fl s' g => ?_) fun _ _ g => g
    obtain ⟨u, v, σ', H', rfl, J, rv, q⟩ := g
    obtain ⟨L, cp, fx⟩ := caps_of J (fun _ => rfl) ns hcap
    have un := un_new J.base fun b o e => ⟨(fx b o e).2.2.2, (fx b o e).2.2.1⟩
    exact ⟨v, addF H' L, J.os, J.bare, un, hok_add J.hok (fun b o e => (fx b o e).1) (fun b o e => (fx b o e).2.2.1), rv, q L J.ok.inj J.len cp fun b o e => (fx b o e).2.2.1⟩
section
variable {X : Cx} {k : Nat} {f : Addr} {fd : FuncData} {ps : List Str} {sp : Sp} {x : Str} {p pos : Pos} {e : Expr} {es : List Expr} {t : TA}
/-- a call of a def that is handed lambdas of ours: our captured names' cells are told of meanwhile -/
theorem pe_callW (ns : List Str) (F : FnOk X.prog X.w X.K X.mg X.base CX0 k f fd ps sp) (hr : Room k X.A) (hg : Gl X x) (hm : X.mg x = some (.ref f)) (hk : PySem.W.keepIn X.K (.ref f) = true) (hb : Binds X.K fd ps []) (hfn : ∀ n, X.fn n = true) (hcap : ∀ n ∈ ns, X.env.kindOf n = some .cell)
    (ha : PA X (e :: es) t) (hdb : (x == ("__debug__" : Str)) = false := by decide) (he : starEach (e :: es) X.env = (false, eval e X.env) :: starEach es X.env := by rfl) (hpl : (backTo pos (starEach es X.env)).any (·.1) = false := by rfl) :
    PE X (.Call (.Name x p) (e :: es) [] pos) (fun σ H Q => t σ H fun vs H1 => ∀ L : Fxs, (∀ x y c, X.env.cells.lookup x = some c → X.env.cells.lookup y = some c → x = y) → σ.length = X.N.length → Caps X.env.cells X.N σ ns L → (∀ b o, L.lookup b = some o → H1 b = none) →
      sp vs (addF H1 L) (fun v H' => Q v (delF H' L)) E0) := by
  refine ⟨fun pins s σ H Q I h => ?_⟩
  refine wpAny_Call_Name_kw (ld_glob I hg hm ?_ hdb)
  refine PySem.W.callWith_K (h₀ := X.base) I.ok.mod.kin hk (thn (ha.run pos pins s σ H _ I h) fun us s1 ⟨vs, H1, I1, r, h1⟩ => ⟨I1.kIn, ?_⟩) he hpl
  obtain ⟨L, cp, fx⟩ := caps_of I1 hfn ns hcap
  have h2 := h1 L I1.ok.inj I1.len cp fun b o e => (fx b o e).2.2.1
  have hl : us.length = ps.length := by rw [← r.length]; exact F.len _ _ _ _ h2
  have b := hb s1 us I1.kIn (by rw [List.append_nil]; exact hl)
  rw [List.append_nil] at b
  have fa : FxAt H1 (frs X.stack) s1.heap L := by
    refine ⟨fun b o e => (fx b o e).1, fun b o e => (fx b o e).2.2.1, fun b o e hm => ?_⟩
    rcases List.mem_cons.mp (I1.stkSub b hm) with z | z
    · obtain ⟨m, ⟨o2, es2, ep2, g2, d2⟩, _⟩ := I1.loc
      rw [← z, (fx b o e).1] at g2
      cases g2
      obtain ⟨ov, hov⟩ := (fx b o e).2.1
      rw [hov] at d2
      exact nomatch d2.1
    · obtain ⟨_, o2, g2, _⟩ := I1.ok.funs.mem z
      exact absurd (Nat.lt_of_lt_of_le (Heap.lt_size g2) (fx b o e).2.2.2) (Nat.lt_irrefl _)
  have e0 := I1.env0
  have e0' : Env0 X.prog X.w X.K X.mg X.base X.A X.stack s1 (addF H1 L) := by
    refine ⟨e0.frames, e0.mod, fun b o e => ⟨(e0.bs b o e).1, ?_⟩, e0.bsz, e0.funs, fun b hb => ?_, hok_add e0.hok fa.get fa.free, e0.bare⟩
    · cases z : L.lookup b with
      | some v => exact absurd (Nat.lt_of_lt_of_le (Heap.lt_size e) (Nat.le_trans I1.ok.bsz (fx b v z).2.2.2)) (Nat.lt_irrefl _)
      | none => rw [addF_out z]; exact (e0.bs b o e).2
    · cases z : L.lookup b with
      | some v => exact absurd hb (fa.nofs b v z)
      | none => rw [addF_out z]; exact e0.frf b hb
  refine wpAny_call (codeAny_mono (F.run X.A X.stack s1 (addF H1 L) ⟨us, []⟩ us vs _ E0 hr e0' b r h2) fun r s' hq => ?_)
  cases r with
  | error e => exact False.elim hq
  | ok fl =>
    cases fl with
    | ret u =>
      obtain ⟨v, H', os, ag, un, hok, rv, q⟩ := hq
      exact I1.after ⟨v, delF H' L, os, ag, un_del un fa hok, hok_del hok fun b o e => un.frzs b o (.own 0) (addF_in e), rv, q⟩
    | next => exact False.elim hq
    | brk => exact False.elim hq
    | cont => exact False.elim hq
/-- x(), x the name of a value of ours -/
def tThk (P : Program) (w : World) (K : PySem.W.Frag) (mg : Str → Option Value) (base : Heap) (k i : Nat) (E : L2.St → XK) : TE := fun σ H Q => ∃ (f : Addr) (sp : Hp → VK → XK → Prop), σ[i]? = some (some (.ref f)) ∧ ThOk P w K mg base k H f sp ∧ sp H Q (E σ)
theorem pe_callT {i : Nat} {a : Str} {E : L2.St → XK} {p1 p2 : Pos} (hr : Room k X.A) (hx : ∀ σ, PassesAt (L2.CX X.prog X.w) X σ (E σ)) (hN : X.N[i]? = some a) (hv : Vis X.env.scope a) (hd : (a == ("__debug__" : Str)) = false := by decide) (hcd : (a == ("__classdict__" : Str)) = false := by decide) :
    PE X (.Call (.Name a p1) [] [] p2) (tThk X.prog X.w X.K X.mg X.base k i E) := by
  refine ⟨fun pins s σ H Q I h => ?_⟩
  obtain ⟨f, sp, hs, th, h⟩ := h
  refine wpAny_Call_Name_kw (thn ((pe_var (pos := p1) (i := i) hN hv hd hcd).run pins s σ H (fun v H1 => v = .ref f ∧ H1 = H) I ⟨.ref f, hs, rfl, rfl⟩) fun u s1 ⟨v, H1, I1, r1, q1⟩ => ?_)
  obtain ⟨ev, eH⟩ := q1
  subst ev
  subst eH
  obtain rfl : u = Value.ref f := r1
  obtain ⟨oc, od, fd, sl, hf⟩ := th.fn
  refine PySem.W.callWith_F0 ⟨_, _, _, _, fz_get I1.hok hf⟩ ?_
  refine wpAny_call (codeAny_mono (th.run X.A X.stack s1 H1 Q (E σ) hr I1.env0 (Stays.refl _) h) fun r s' hq => ?_)
  cases r with
  | error e => exact hx σ pins H1 s1 e s' I1 hq
  | ok fl =>
    cases fl with
    | ret u => exact I1.after hq
    | next => exact False.elim hq
    | brk => exact False.elim hq
    | cont => exact False.elim hq
end
end Kt
namespace Kt
open PySem PySem.Spec PyProof.Rows L2
/-! ### zip(s, t), two texts -/
def ItzS (x y : Str) : It :=
  ⟨fun i _ => i < x.cps.size ∧ i < y.cps.size, fun i H v H' => ∃ T c d, v = .ref T ∧ H T = none ∧ H' = upd H T (.tup [.str (sg c), .str (sg d)]) ∧ x.cps[i]? = some c ∧ y.cps[i]? = some d, fun i _ => x.cps.size ≤ i ∨ y.cps.size ≤ i⟩
theorem turn_zipS {P : Program} {w : World} {K : PySem.W.Frag} {elts : List Expr} {kk : Nat} {tpos : Pos} (x y : Str) (t u : Tok) {z TI TO i1 i2 : Addr} (S : ZipSep2 z TI TO i1 i2 [i1] [i2]) :
    Turn P w K (.Tuple elts kk tpos) (ItzS x y) [z, TI, TO, i1, i2] z (fun i h => IsZip h z TI TO .none ∧ IsTupOf2 h TI (.ref i1) (.ref i2) ∧ (∃ a b, IsTupOf2 h TO a b) ∧ h.IsStrIter i1 (strIterType x) x t i ∧ h.IsStrIter i2 (strIterType y) y u i ∧ i ≤ x.cps.size ∧ i ≤ y.cps.size) where
  mem := by simp
  obj := fun i h st c hc => by
    obtain ⟨hz, hTI, ⟨a, b, hTO⟩, ⟨o1, e1, _, d1⟩, ⟨o2, e2, _, d2⟩, _⟩ := st
    have e' : c = z ∨ c = TI ∨ c = TO ∨ c = i1 ∨ c = i2 := by simpa using hc
    rcases e' with q | q | q | q | q
    · rw [q]; exact ⟨_, hz, fun v q => nomatch q⟩
    · rw [q]; exact ⟨_, hTI, fun v q => nomatch q⟩
    · rw [q]; exact ⟨_, hTO, fun v q => nomatch q⟩
    · rw [q]; exact ⟨o1, e1, fun v q => by rw [d1] at q; cases q⟩
    · rw [q]; exact ⟨o2, e2, fun v q => by rw [d2] at q; cases q⟩
  keep := fun i h h' st k => by
    obtain ⟨hz, hTI, ⟨a, b, hTO⟩, ⟨o1, e1, r1⟩, ⟨o2, e2, r2⟩, hl⟩ := st
    exact ⟨k z (by simp) _ hz, k TI (by simp) _ hTI, ⟨a, b, k TO (by simp) _ hTO⟩, ⟨o1, k i1 (by simp) _ e1, r1⟩, ⟨o2, k i2 (by simp) _ e2, r2⟩, hl⟩
  item := by
    intro X hP hw hK hc i pins s σ H E I hf st hg
    subst hP hw hK
    obtain ⟨hz, hTI, ⟨a, b, hTO⟩, h1, h2, _, _⟩ := st
    obtain ⟨g1, g2⟩ := hg
    have hzl : z < s.heap.objs.size := Heap.lt_size hz
    refine wpAny_pyNext_zipD2_item S (Draws.text (A := X.A.in1) (I.ok.hd hc) i1 x t) (Draws.text (A := X.A.in1) (I.ok.hd hc) i2 y u) hz hTI hTO h1 h2 g1 g2 fun x1 x2 h' tk p1 p2 z' TO' h1' h2' hT hsz hk => ?_
    obtain ⟨c, k1, hc1, rfl⟩ := p1
    obtain ⟨d, k2, hd1, rfl⟩ := p2
    refine ⟨_, rfl, wpAny_letOwnedTupleGo_zip (s := { s with heap := h', toks := tk }) z' fun h'' z'' sb => ?_⟩
    have hT2 : h''.get? s.heap.objs.size = some { cls := .type "tuple", data := .seq #[.str ⟨#[c]⟩ k1, .str ⟨#[d]⟩ k2] } := (sb.2 _ (Nat.ne_of_gt hzl)).trans hT
    have new : ObjOk X.prog X.w (upd H s.heap.objs.size (.tup [.str (sg c), .str (sg d)])) h'' s.heap.objs.size (.tup [.str (sg c), .str (sg d)]) :=
      ⟨by show 2 ≤ sizeLine; decide, [.str ⟨#[c]⟩ k1, .str ⟨#[d]⟩ k2], .cons ⟨_, rfl⟩ (.cons ⟨_, rfl⟩ .nil), ⟨_, hT2, rfl, _, rfl⟩⟩
    have I1 : Inv X pins σ (upd H s.heap.objs.size (.tup [.str (sg c), .str (sg d)])) { s with heap := h'', toks := tk } :=
      I.turnedNew (t' := tk) (ch := [z, TI, TO, i1, i2]) (fun c o hb q => (sb.2 c (fun q' => hb (by simp [q']))).trans (hk c o (fun q' => hb (by simp [q'])) (fun q' => hb (by simp [q'])) (fun q' => hb (by simp [q'])) (fun q' => hb (by simp [q'])) q)) hf (Nat.le_refl _) new
    refine ⟨.ref s.heap.objs.size, _, I1, rfl, ⟨_, c, d, rfl, I.hok.fresh (Nat.le_refl _), rfl, hc1, hd1⟩, ⟨z'', ?_, ⟨.str ⟨#[c]⟩ k1, .str ⟨#[d]⟩ k2, ?_⟩, ?_, ?_, g1, g2⟩, fun c hcm => ?_⟩
    · exact (sb.2 _ S.TIz).trans (hk _ _ S.TIz S.TITO S.TIi1 S.TIi2 hTI)
    · exact (sb.2 _ S.TOz).trans TO'
    · obtain ⟨o, q, r⟩ := h1'
      exact ⟨o, (sb.2 _ S.zi1.symm).trans q, r⟩
    · obtain ⟨o, q, r⟩ := h2'
      exact ⟨o, (sb.2 _ S.zi2.symm).trans q, r⟩
    · have hlt : c < s.heap.objs.size := by
        have e' : c = z ∨ c = TI ∨ c = TO ∨ c = i1 ∨ c = i2 := by simpa using hcm
        rcases e' with q | q | q | q | q
        · rw [q]; exact hzl
        · rw [q]; exact Heap.lt_size hTI
        · rw [q]; exact Heap.lt_size hTO
        · rw [q]; obtain ⟨_, e1, _⟩ := h1; exact Heap.lt_size e1
        · rw [q]; obtain ⟨_, e2, _⟩ := h2; exact Heap.lt_size e2
      rw [upd_ne (Nat.ne_of_lt hlt)]
      exact (hf c hcm).1
  done := by
    intro X hP hw hK hc i pins s σ H E I hf st hg
    subst hP hw hK
    obtain ⟨hz, hTI, ⟨a, b, hTO⟩, h1, h2, l1, l2⟩ := st
    have hend : i = x.cps.size ∨ i = y.cps.size := by
      rcases hg with q | q
      · exact .inl (Nat.le_antisymm l1 q)
      · exact .inr (Nat.le_antisymm l2 q)
    exact wpAny_pyNext_zipD2_end S (Draws.text (A := X.A.in1) (I.ok.hd hc) i1 x t) (Draws.text (A := X.A.in1) (I.ok.hd hc) i2 y u) hz hTI hTO h1 h2 l1 l2 hend fun h' tk hk => ⟨rfl, I.turnedL (t' := tk) (ch := [z, TI, TO, i1, i2]) (fun c o hb q =>
      hk c o (fun q' => hb (by simp [q'])) (fun q' => hb (by simp [q'])) (fun q' => hb (by simp [q'])) (fun q' => hb (by simp [q'])) q) hf⟩
  self := fun A i s Q E st h => wpAny_pyIter_zip st.1 h
def iZipS (ta : TA) : TI := fun σ H R => ta σ H fun vs H1 => ∃ x y : Str, vs = [.str x, .str y] ∧ R (ItzS x y) H1
theorem pi_zipS {X : Cx} {e e2 : Expr} {ta : TA} {p pos tpos : Pos} {elts : List Expr} {kk : Nat} (hg : Gl X "zip") (hm : X.mg "zip" = none) (ha : PA X [e, e2] ta)
    (hs : starEach [e, e2] X.env = (false, eval e X.env) :: starEach [e2] X.env := by rfl) (hpl : (backTo pos (starEach [e2] X.env)).any (·.1) = false := by rfl) :
    PI X (.Tuple elts kk tpos) (.Call (.Name "zip" p) [e, e2] [] pos) (iZipS ta) := by
  refine ⟨fun pins s σ H R I h => ?_⟩
  refine Call_ (ld_blt I hg hm PyProof.Rows.boot_zip (PyProof.Rows.callWith_type1 (thn (ha.run pos pins s σ H _ I h) fun us s1 ⟨vs, H1, I1, r1, q1⟩ => ?_) hs hpl))
  obtain ⟨x, y, ex, q⟩ := q1
  subst ex
  cases r1 with
  | cons r rr =>
    cases rr with
    | cons r' rr =>
      cases rr
      obtain ⟨t, rfl⟩ := r
      obtain ⟨u, rfl⟩ := r'
      refine zip_begins2 (begins_text x t) (begins_text y u) trivial trivial fun h' hz hTI hTO h1 h2 hsz hk => wpAny_pyIter_zip hz ?_
      have I2 : Inv X pins σ H1 { s1 with heap := h' } := I1.kept (t' := s1.toks) hk
      refine ⟨s1.heap.objs.size + 4, [s1.heap.objs.size + 4, s1.heap.objs.size + 2, s1.heap.objs.size + 3, s1.heap.objs.size, s1.heap.objs.size + 1], _, _, H1, rfl, I2, turn_zipS x y t u (zip_sep2 (N := s1.heap.objs.size) (fp1 := []) (fp2 := []) (fun b h => nomatch h) (fun b h => nomatch h)),
        ⟨hz, hTI, ⟨_, _, hTO⟩, ⟨_, h1, rfl, rfl⟩, ⟨_, h2, rfl, rfl⟩, Nat.zero_le _, Nat.zero_le _⟩, fun c hcm => ?_, q⟩
      have e' : c = s1.heap.objs.size + 4 ∨ c = s1.heap.objs.size + 2 ∨ c = s1.heap.objs.size + 3 ∨ c = s1.heap.objs.size ∨ c = s1.heap.objs.size + 1 := by simpa using hcm
      have hle : s1.heap.objs.size ≤ c := by
        rcases e' with z | z | z | z | z
        · rw [z]; exact Nat.le_add_right _ _
        · rw [z]; exact Nat.le_add_right _ _
        · rw [z]; exact Nat.le_add_right _ _
        · rw [z]; exact Nat.le_refl _
        · rw [z]; exact Nat.le_add_right _ _
      exact I1.fpOk hle (I1.hok.fresh hle)
end Kt
namespace Kt
open PySem PySem.Spec PyProof.Rows L2
/-! ### comprehensions over enumerate and zip -/
theorem lc_enum {K : PySem.W.Frag} {a : Addr} {xs : List V} {g : TG} {tt : TT} {te : TE} {vs : List Nat} {σ : L2.St} {H1 : Hp} {D : Addr} {Qd : Hp → Prop} (Pv : Nat → Hp → Prop) (h0 : Pv 0 (upd H1 D (.lst []))) (hl : ∀ i H, i ≤ xs.length → Pv i H → SqL K H a xs)
    (hs : ∀ (i : Nat) (x : V) (T : Addr) (H : Hp), xs[i]? = some x → Pv i H → H T = none → g (.ref T) (wipe σ vs) (upd H T (.tup [.int (i : Nat), x])) fun σ2 H2 => wipe σ2 vs = wipe σ vs ∧ tt σ2 H2 fun b H3 =>
      if b = true then te σ2 H3 fun y H4 => ∃ acc, H4 D = some (.lst acc) ∧ acc.length < sizeLine ∧ Pv (i + 1) (upd H4 D (.lst (acc ++ [y]))) else Pv (i + 1) H3) (hd : ∀ H, Pv xs.length H → Qd H) :
    ∃ W : Nat → Nat → Hp → Prop, (∃ m, W 0 m (upd H1 D (.lst []))) ∧ ∀ i m H, W i m H →
      ((Ite K a).stop i H ∧ Qd H) ∨ ((Ite K a).go i H ∧ ∃ Nx : Hp → Prop, (∀ H', Nx H' → ∃ m', m' < m ∧ W (i + 1) m' H') ∧ ∀ x H', (Ite K a).yld i H x H' → g x (wipe σ vs) H' fun σ2 H2 => wipe σ2 vs = wipe σ vs ∧ tt σ2 H2 fun b H3 =>
        if b = true then te σ2 H3 fun y H4 => ∃ acc, H4 D = some (.lst acc) ∧ acc.length < sizeLine ∧ Nx (upd H4 D (.lst (acc ++ [y]))) else Nx H3) := by
  refine ⟨fun i m H => m = xs.length - i ∧ i ≤ xs.length ∧ Pv i H, ⟨xs.length, by simp, Nat.zero_le _, h0⟩, ?_⟩
  rintro i m H ⟨rfl, hi, p⟩
  have hS := hl i H hi p
  by_cases hlt : i < xs.length
  · refine .inr ⟨⟨xs, xs[i], hS, List.getElem?_eq_getElem hlt⟩, Pv (i + 1), fun H' p' => ⟨xs.length - (i + 1), by omega, rfl, hlt, p'⟩, fun v H' hy => ?_⟩
    obtain ⟨T, x2, rfl, nT, rfl, f⟩ := hy
    exact hs i x2 T H (f xs hS) p nT
  · obtain rfl : i = xs.length := by omega
    exact .inl ⟨⟨xs, hS, Nat.le_refl _⟩, hd H p⟩
theorem lc_zipS {x y : Str} {g : TG} {tt : TT} {te : TE} {vs : List Nat} {σ : L2.St} {H1 : Hp} {D : Addr} {Qd : Hp → Prop} (hxy : x.cps.size = y.cps.size) (Pv : Nat → Hp → Prop) (h0 : Pv 0 (upd H1 D (.lst [])))
    (hs : ∀ (i c d : Nat) (T : Addr) (H : Hp), x.cps.toList[i]? = some c → y.cps.toList[i]? = some d → Pv i H → H T = none → g (.ref T) (wipe σ vs) (upd H T (.tup [.str (sg c), .str (sg d)])) fun σ2 H2 => wipe σ2 vs = wipe σ vs ∧ tt σ2 H2 fun b H3 =>
      if b = true then te σ2 H3 fun y H4 => ∃ acc, H4 D = some (.lst acc) ∧ acc.length < sizeLine ∧ Pv (i + 1) (upd H4 D (.lst (acc ++ [y]))) else Pv (i + 1) H3) (hd : ∀ H, Pv x.cps.size H → Qd H) :
    ∃ W : Nat → Nat → Hp → Prop, (∃ m, W 0 m (upd H1 D (.lst []))) ∧ ∀ i m H, W i m H →
      ((ItzS x y).stop i H ∧ Qd H) ∨ ((ItzS x y).go i H ∧ ∃ Nx : Hp → Prop, (∀ H', Nx H' → ∃ m', m' < m ∧ W (i + 1) m' H') ∧ ∀ v H', (ItzS x y).yld i H v H' → g v (wipe σ vs) H' fun σ2 H2 => wipe σ2 vs = wipe σ vs ∧ tt σ2 H2 fun b H3 =>
        if b = true then te σ2 H3 fun y H4 => ∃ acc, H4 D = some (.lst acc) ∧ acc.length < sizeLine ∧ Nx (upd H4 D (.lst (acc ++ [y]))) else Nx H3) := by
  refine ⟨fun i m H => m = x.cps.size - i ∧ i ≤ x.cps.size ∧ Pv i H, ⟨x.cps.size, by simp, Nat.zero_le _, h0⟩, ?_⟩
  rintro i m H ⟨rfl, hi, p⟩
  by_cases hlt : i < x.cps.size
  · refine .inr ⟨⟨hlt, by omega⟩, Pv (i + 1), fun H' p' => ⟨x.cps.size - (i + 1), by omega, rfl, hlt, p'⟩, fun v H' hy => ?_⟩
    obtain ⟨T, c, d, rfl, nT, rfl, e1, e2⟩ := hy
    exact hs i c d T H (by rw [Array.getElem?_toList]; exact e1) (by rw [Array.getElem?_toList]; exact e2) p nT
  · obtain rfl : i = x.cps.size := by omega
    exact .inl ⟨Or.inl (Nat.le_refl _), hd H p⟩
/-! ### lost shifts -/
/-- the places of all shift codes -/
def plc (n : Nat) (cs : List Int) : List Nat := (List.range cs.length).filter fun i => decide ((n : Int) ≤ cs.getD i 0)
def plcV (n : Nat) (cs : List Int) (k : Nat) : List Nat := (List.range k).filter fun i => decide ((n : Int) ≤ cs.getD i 0)
theorem plcV_all (n : Nat) (cs : List Int) : plcV n cs cs.length = plc n cs := rfl
theorem plcV_succ (n : Nat) (cs : List Int) (k : Nat) : plcV n cs (k + 1) = plcV n cs k ++ if (n : Int) ≤ cs.getD k 0 then [k] else [] := by
  unfold plcV
  rw [List.range_succ, List.filter_append]
  congr 1
  by_cases h : (n : Int) ≤ cs.getD k 0
  · rw [if_pos h]; simp only [List.filter_cons, List.filter_nil, decide_eq_true h]; rfl
  · rw [if_neg h]; simp only [List.filter_cons, List.filter_nil, decide_eq_false h]; rfl
theorem plcV_le (n : Nat) (cs : List Int) (k : Nat) : (plcV n cs k).length ≤ k := by
  unfold plcV
  exact Nat.le_trans (List.length_filter_le _ _) (by rw [List.length_range]; exact Nat.le_refl _)
theorem plc_lt {n : Nat} {cs : List Int} {i : Nat} (h : i ∈ plc n cs) : i < cs.length ∧ (n : Int) ≤ cs.getD i 0 := by
  unfold plc at h
  obtain ⟨h1, h2⟩ := List.mem_filter.mp h
  exact ⟨List.mem_range.mp h1, of_decide_eq_true h2⟩
def inZ (l : List Nat) : List V := l.map fun k => V.int ((k : Nat) : Int)
theorem inZ_at {l : List Nat} {i k : Nat} (h : l[i]? = some k) : (inZ l)[i]? = some (.int ((k : Nat) : Int)) := map_at h
/-- the tape without the code at a place -/
def cutAt (cs : List Int) (i : Nat) : List Int := cs.take i ++ cs.drop (i + 1)
theorem cut_lo (cs : List Int) (i : Nat) (h : i ≤ cs.length) : cutV (cs.map V.int) none (some ((i : Nat) : Int)) = (cs.take i).map V.int := by
  unfold cutV
  rw [HT.sIx_none, HT.sIx_nat, List.length_map, List.drop_zero, Nat.sub_zero, Nat.min_eq_left h, List.map_take]
theorem cut_hi (cs : List Int) (i : Nat) (h : i ≤ cs.length) : cutV (cs.map V.int) (some ((i : Nat) : Int)) none = (cs.drop i).map V.int := by
  unfold cutV
  rw [HT.sIx_none, HT.sIx_nat, List.length_map, Nat.min_eq_left h, List.map_drop, List.take_of_length_le]
  rw [List.length_drop, List.length_map]
  exact Nat.le_refl _
theorem cutAt_codes {n : Nat} {cs : List Int} (h : Codes n cs) (i : Nat) : Codes n (cutAt cs i) := fun c hc => by
  rcases List.mem_append.mp hc with m | m
  · exact h c (List.mem_of_mem_take m)
  · exact h c (List.mem_of_mem_drop m)
theorem cutAt_len (cs : List Int) (i : Nat) : (cutAt cs i).length ≤ cs.length := by
  unfold cutAt
  rw [List.length_append, List.length_take, List.length_drop]; omega
/-- how many signs a tape has -/
def signN (n : Nat) (cs : List Int) : Nat := (cs.filter fun c => decide (c < (n : Int))).length
theorem rd_size (z o : Str) (hm : V) (cs : List Int) (b : Int) : (rd z o hm cs b).1.cps.size = signN z.cps.size cs := by
  suffices h : ∀ (cs : List Int) (s : Str × Int), (cs.foldl (rdStep z o hm) s).1.cps.size = s.1.cps.size + signN z.cps.size cs by
    have e : (Str.ofString "").cps.size = 0 := by decide +kernel
    have := h cs (Str.ofString "", b)
    unfold rd
    rw [this, e, Nat.zero_add]
  intro cs
  induction cs with
  | nil => intro s; rfl
  | cons c cs ih =>
    intro s
    rw [List.foldl_cons, ih]
    unfold signN rdStep
    by_cases h : (z.cps.size : Int) ≤ c
    · rw [if_pos h, List.filter_cons_of_neg (by simpa using h)]
    · rw [if_neg h, List.filter_cons_of_pos (by simp; omega)]
      rw [Str.cps_append, Array.size_append]
      simp [sg]; omega
theorem cutAt_sign {n : Nat} {cs : List Int} {i : Nat} (h1 : i < cs.length) (h2 : (n : Int) ≤ cs.getD i 0) : signN n (cutAt cs i) = signN n cs := by
  have e : cs = cs.take i ++ cs[i] :: cs.drop (i + 1) := by
    rw [← List.drop_eq_getElem_cons h1, List.take_append_drop]
  have e2 : cs.getD i 0 = cs[i] := by simp [List.getD_eq_getElem?_getD, h1]
  rw [e2] at h2
  unfold signN cutAt
  conv => rhs; rw [e]
  rw [List.filter_append, List.filter_append, List.filter_cons_of_neg (by simpa using h2)]
/-- the text without the code at a place -/
def wo (z o : Str) (hm : V) (cs : List Int) (b : Int) (i : Nat) : Str := (rd z o hm (cutAt cs i) b).1
theorem wo_size {z o : Str} {hm : V} {cs : List Int} {b : Int} {i : Nat} (h : i ∈ plc z.cps.size cs) : (wo z o hm cs b i).cps.size = (rd z o hm cs b).1.cps.size := by
  unfold wo
  rw [rd_size, rd_size, cutAt_sign (plc_lt h).1 (plc_lt h).2]
/-- at how many places two texts are unlike -/
def unlikeV (x y : Str) (k : Nat) : Nat := ((List.range k).filter fun i => decide (x.cps.toList.getD i 0 ≠ y.cps.toList.getD i 0)).length
def unlike (x y : Str) : Nat := unlikeV x y x.cps.size
theorem unlikeV_succ (x y : Str) (k : Nat) : unlikeV x y (k + 1) = unlikeV x y k + if x.cps.toList.getD k 0 ≠ y.cps.toList.getD k 0 then 1 else 0 := by
  unfold unlikeV
  rw [List.range_succ, List.filter_append, List.length_append]
  congr 1
  by_cases h : x.cps.toList.getD k 0 ≠ y.cps.toList.getD k 0
  · rw [if_pos h, List.filter_cons_of_pos (by exact decide_eq_true h)]; rfl
  · rw [if_neg h, List.filter_cons_of_neg (by simpa using h)]; rfl
theorem unlikeV_le (x y : Str) (k : Nat) : unlikeV x y k ≤ k := by
  unfold unlikeV
  exact Nat.le_trans (List.length_filter_le _ _) (by rw [List.length_range]; exact Nat.le_refl _)
/-- pairs that stand as tuples -/
def Prs (H : Hp) : List Addr → List (Int × Int) → Prop
  | [], [] => True
  | a :: as, p :: L => H a = some (.tup [.int p.1, .int p.2]) ∧ Prs H as L
  | _, _ => False
theorem Prs.mono {H H' : Hp} (k : ∀ a xs, H a = some (.tup xs) → H' a = some (.tup xs)) : ∀ {as : List Addr} {L : List (Int × Int)}, Prs H as L → Prs H' as L
  | [], [], _ => trivial
  | a :: as, u :: L, h => ⟨k _ _ h.1, Prs.mono k h.2⟩
  | [], _ :: _, h => h.elim
  | _ :: _, [], h => h.elim
theorem Prs.len {H : Hp} : ∀ {as : List Addr} {L : List (Int × Int)}, Prs H as L → as.length = L.length
  | [], [], _ => rfl
  | a :: as, u :: L, h => congrArg (· + 1) (Prs.len h.2)
  | [], _ :: _, h => h.elim
  | _ :: _, [], h => h.elim
theorem Prs.app {H : Hp} : ∀ {as bs : List Addr} {L M : List (Int × Int)}, Prs H as L → Prs H bs M → Prs H (as ++ bs) (L ++ M)
  | [], _, [], _, _, g => g
  | a :: as, _, u :: L, _, h, g => ⟨h.1, Prs.app h.2 g⟩
  | [], _, _ :: _, _, h, _ => h.elim
  | _ :: _, _, [], _, h, _ => h.elim
theorem Prs.get {H : Hp} : ∀ {as : List Addr} {L : List (Int × Int)}, Prs H as L → ∀ {i : Nat} {a : Addr}, as[i]? = some a → ∃ p, L[i]? = some p ∧ H a = some (.tup [.int p.1, .int p.2])
  | [], [], _, i, a, e => by simp at e
  | b :: as, u :: L, h, 0, a, e => by
    simp at e; subst e
    exact ⟨u, rfl, h.1⟩
  | b :: as, u :: L, h, i + 1, a, e => by
    obtain ⟨v, e1, e2⟩ := Prs.get h.2 (i := i) (a := a) (by simpa using e)
    exact ⟨v, by simpa using e1, e2⟩
  | [], _ :: _, h, _, _, _ => h.elim
  | _ :: _, [], h, _, _, _ => h.elim
theorem atI_0 {l : List Nat} {j : Nat} (h : j < l.length) : atI l (0 + (j : Int)) = some (l.getD j 0) := by
  rw [Int.zero_add]
  exact atI_nat (j := j) (by rw [List.getD_eq_getElem?_getD, List.getElem?_eq_getElem h]; rfl)
theorem cut_read {K : PySem.W.Frag} {σ : L2.St} {H : Hp} {i j : Nat} {D : Addr} {cs : List Int} {k : Nat} {Q : VK} (h1 : σ[i]? = some (some (.ref D))) (h2 : σ[j]? = some (some (.int ((k : Nat) : Int)))) (hS : SqL K H D (cs.map V.int)) (hk : k < cs.length) (hl : cs.length ≤ 1000)
    (q : ∀ p H', Same H H' → H p = none → H' p = some (.lst ((cutAt cs k).map V.int)) → Q (.ref p) H') :
    tOp rCat (tSl (rSlL K) (tVar i) tNoPart (tPart (tVar j))) (tSl (rSlL K) (tVar i) (tPart (tOp (rI0 fun i j => V.int (i + j)) (tVar j) (tC (.int 1)))) tNoPart) σ H Q := by
  refine ⟨.ref D, h1, .int (k : Nat), h2, (k : Nat), rfl, D, _, rfl, hS, fun p1 n1 => ?_⟩
  have s1 := same_new (o := HO.lst (cutV (cs.map V.int) none (some (k : Nat)))) n1
  refine ⟨.ref D, h1, .int (k : Nat), h2, (k : Nat), 1, rfl, rfl, _, rfl, D, _, rfl, s1.seq hS, fun p2 n2 => ?_⟩
  have s2 := s1.trans (same_new (o := HO.lst (cutV (cs.map V.int) (some ((k : Nat) + 1)) none)) n2)
  have e1 := cut_lo cs k (by omega)
  have e2 := cut_hi cs (k + 1) (by omega)
  refine ⟨p1, p2, _, _, rfl, rfl, same_new n2 _ _ upd_same, upd_same, Nat.le_trans (Nat.add_le_add (cutV_length _ _ _) (cutV_length _ _ _)) (by rw [List.length_map]; exact Nat.le_trans (Nat.add_le_add hl hl) (by decide)), fun p3 n3 => ?_⟩
  refine q p3 _ (s2.trans (same_new n3)) (s2.free n3) ?_
  rw [upd_same, e1]
  unfold cutAt
  rw [List.map_append, ← e2]
  rfl
theorem BoxAt.fresh {H : Hp} {b l p : Addr} (bx : BoxAt H b l) (n : H p = none) : p ≠ b ∧ p ≠ l := by
  obtain ⟨ns, st, h1, h2⟩ := bx
  exact ⟨(ne_of_none h1 n).symm, (ne_of_none h2 n).symm⟩
def unl (x y : Str) (k : Nat) : List Nat := (List.range k).filter fun i => decide (x.cps.toList.getD i 0 ≠ y.cps.toList.getD i 0)
theorem unl_succ (x y : Str) (k : Nat) : unl x y (k + 1) = unl x y k ++ if x.cps.toList.getD k 0 ≠ y.cps.toList.getD k 0 then [k] else [] := by
  unfold unl
  rw [List.range_succ, List.filter_append]
  congr 1
  by_cases h : x.cps.toList.getD k 0 ≠ y.cps.toList.getD k 0
  · rw [if_pos h, List.filter_cons_of_pos (by exact decide_eq_true h)]; rfl
  · rw [if_neg h, List.filter_cons_of_neg (by simpa using h)]; rfl
theorem unl_len (x y : Str) (k : Nat) : (unl x y k).length = unlikeV x y k := rfl
theorem filt_succ {α : Type} {l : List α} {i : Nat} {k : α} (p : α → Bool) (hk : l[i]? = some k) : (l.take (i + 1)).filter p = (l.take i).filter p ++ if p k = true then [k] else [] := by
  rw [List.take_add_one, hk, List.filter_append]
  congr 1
  by_cases e : p k = true
  · rw [if_pos e]; exact List.filter_cons_of_pos e
  · rw [if_neg e]; exact List.filter_cons_of_neg e
def prD (p : Int × Int) : PyData := .tuple [.int p.1, .int p.2]
theorem canLay_prs : ∀ L : List (Int × Int), PyData.canLayAll0 (L.map prD) = true
  | [] => by simp [PyData.canLayAll0]
  | p :: r => by simp [PyData.canLayAll0, PyData.canLay0, prD, canLay_prs r]
theorem depth_prs : ∀ L : List (Int × Int), PyData.depthAll (L.map prD) ≤ 1
  | [] => by simp [PyData.depthAll]
  | p :: r => by
    have := depth_prs r
    simp only [List.map_cons, PyData.depthAll, PyData.depth, prD]
    omega
theorem shaped_prs (L : List (Int × Int)) : SeqAt.shaped (.list (L.map prD)) = true := by
  have h1 := depth_prs L
  have h2 : PyData.depth (.list (L.map prD)) ≤ 64 := by simp only [PyData.depth]; omega
  show (PyData.canLay0 (.list (L.map prD)) && decide (PyData.depth (.list (L.map prD)) ≤ 64)) = true
  rw [Bool.and_eq_true]
  exact ⟨by simp only [PyData.canLay0]; exact canLay_prs L, decide_eq_true h2⟩
theorem eqv_none : ∀ L : List (Int × Int), PyData.eqv (.list (L.map prD)) (.list []) = L.isEmpty
  | [] => by simp [PyData.eqv, PyData.eqvAll]
  | p :: r => by simp [PyData.eqv, PyData.eqvAll]
theorem Prs.dp {K : PySem.W.Frag} {H : Hp} : ∀ {as : List Addr} {L : List (Int × Int)}, Prs H as L → DpAll K H (as.map V.ref) (L.map prD)
  | [], [], _ => .nil
  | a :: as, p :: L, h => .cons (.tup (SqT.of h.1) (.cons (.int _) (.cons (.int _) .nil))) (Prs.dp h.2)
  | [], _ :: _, h => h.elim
  | _ :: _, [], h => h.elim
theorem Prs.al {H : Hp} {as bs : List Addr} {L : List (Int × Int)} {a b : Addr} (ha : H a = some (.lst (as.map V.ref))) (hb : H b = some (.lst (bs.map V.ref))) (pa : Prs H as L) (pb : Prs H bs L) (hl : L.length ≤ 1000) : Al H 2 (.ref a) (.ref b) := by
  have l1 := pa.len
  have l2 := pb.len
  refine .lst ha hb (by rw [List.length_map, List.length_map, l1, l2]) (by rw [List.length_map, l1]; exact hl) fun i x y h1 h2 => ?_
  obtain ⟨u, hu, rfl⟩ := at_map h1
  obtain ⟨v, hv, rfl⟩ := at_map h2
  obtain ⟨p, hp, eu⟩ := pa.get hu
  obtain ⟨p', hp', ev⟩ := pb.get hv
  rw [hp] at hp'
  cases hp'
  refine .tup eu ev rfl (by show 2 ≤ 1000; decide) fun j x y e1 e2 => ?_
  match j, e1, e2 with
  | 0, e1, e2 => cases e1; cases e2; exact .int _ _
  | 1, e1, e2 => cases e1; cases e2; exact .int _ _
  | j + 2, e1, e2 => simp at e1
theorem inZ_al {H : Hp} {l : List Nat} {n : Nat} {a b : Addr} (ha : H a = some (.lst (inZ l))) (hb : H b = some (.lst (inZ l))) (hl : l.length ≤ 1000) : Al H (n + 1) (.ref a) (.ref b) := by
  refine .lst ha hb rfl (by unfold inZ; rw [List.length_map]; exact hl) fun i x y h1 h2 => ?_
  obtain ⟨u, hu, rfl⟩ := at_map h1
  rw [h1] at h2
  cases h2
  exact .int _ _
/-- what is told spoilt -/
def lossOf (z o : Str) (hm : V) (cs : List Int) (b : Int) (i : Nat) : Int × Int := (((i : Nat) : Int), ((unlike (rd z o hm cs b).1 (wo z o hm cs b i) : Nat) : Int))
def losses (z o : Str) (hm : V) (cs : List Int) (b : Int) : List (Int × Int) := (plc z.cps.size cs).map (lossOf z o hm cs b)
def lostAt (z o : Str) (hm : V) (cs : List Int) (b : Int) (x : Str) : List Nat := (plc z.cps.size cs).filter fun i => decide (wo z o hm cs b i = x)
def kept (z o : Str) (hm : V) (cs : List Int) (b : Int) (most : Int) : Bool := (losses z o hm cs b).all fun p => decide (p.2 ≤ most)
theorem losses_len (z o : Str) (hm : V) (cs : List Int) (b : Int) : (losses z o hm cs b).length ≤ cs.length := by
  unfold losses
  rw [List.length_map]
  exact plcV_le z.cps.size cs cs.length
/-! ### the promises -/
def spPlaces (K : PySem.W.Frag) : Sp := fun vs H Q _ => ∃ (t a : Addr) (z o : Str) (hm : V) (cs : List Int), vs = [.ref t, .ref a] ∧ Good z o hm ∧ Sh H t z o hm ∧ SqL K H a (cs.map V.int) ∧ cs.length ≤ 1000 ∧
  ∀ p H', Same H H' → H p = none → H' p = some (.lst (inZ (plc z.cps.size cs))) → Q (.ref p) H'
def spWo (K : PySem.W.Frag) : Sp := fun vs H Q _ => ∃ (t a : Addr) (z o : Str) (hm : V) (cs : List Int) (b : Int) (i : Nat), vs = [.ref t, .ref a, .int b, .int (i : Nat)] ∧ Good z o hm ∧ Sh H t z o hm ∧ SqL K H a (cs.map V.int) ∧ Codes z.cps.size cs ∧ cs.length ≤ 100 ∧ Is01 b ∧ i < cs.length ∧
  ∀ H', Same H H' → Q (.str (wo z o hm cs b i)) H'
def spUnlike : Sp := fun vs H Q _ => ∃ x y : Str, vs = [.str x, .str y] ∧ x.cps.size = y.cps.size ∧ x.cps.size ≤ 1000 ∧ ∀ H', Same H H' → Q (.int ((unlike x y : Nat) : Int)) H'
def spSpoilt (K : PySem.W.Frag) (P : Addr) : Sp := fun vs H Q _ => ∃ (t a : Addr) (z o : Str) (hm : V) (cs : List Int) (b : Int), vs = [.ref t, .ref a, .int b] ∧ Good z o hm ∧ Sh H t z o hm ∧ SqL K H a (cs.map V.int) ∧ Codes z.cps.size cs ∧ cs.length ≤ 100 ∧ Is01 b ∧ GxR.TabG H P ∧
  ∀ p as H', Kp P H H' → H p = none → H' p = some (.lst (as.map V.ref)) → Prs H' as (losses z o hm cs b) → (∀ a ∈ as, H a = none) → Q (.ref p) H'
def spLostAt (K : PySem.W.Frag) (P : Addr) : Sp := fun vs H Q _ => ∃ (t a : Addr) (z o : Str) (hm : V) (cs : List Int) (b : Int) (x : Str), vs = [.ref t, .ref a, .int b, .str x] ∧ Good z o hm ∧ Sh H t z o hm ∧ SqL K H a (cs.map V.int) ∧ Codes z.cps.size cs ∧ cs.length ≤ 100 ∧ Is01 b ∧ GxR.TabG H P ∧
  ∀ p H', Kp P H H' → H p = none → H' p = some (.lst (inZ (lostAt z o hm cs b x))) → Q (.ref p) H'
def spCount : Sp := fun vs H Q _ => ∃ m n : Int, vs = [.int m, .int n] ∧ 0 ≤ m ∧ m ≤ n ∧ Q .non H
def spIsGuarded (K : PySem.W.Frag) (P : Addr) : Sp := fun vs H Q _ => ∃ (t a : Addr) (z o : Str) (hm : V) (cs : List Int) (b m : Int), vs = [.ref t, .ref a, .int b, .int m] ∧ Good z o hm ∧ Sh H t z o hm ∧ SqL K H a (cs.map V.int) ∧ Codes z.cps.size cs ∧ cs.length ≤ 100 ∧ Is01 b ∧ 0 ≤ m ∧ m ≤ 32 ∧ GxR.TabG H P ∧
  ∀ H', Kp P H H' → Q (.bl (kept z o hm cs b m)) H'
end Kt
namespace Kt
open PySem PySem.Spec PyProof.Rows L2
/-! ### joined and cut -/
theorem ne_f {x y : V} (h : x = y) : V.bl (!decide (x = y)) = V.bl false := by rw [decide_eq_true h]; rfl
theorem ne_t {x y : V} (h : x ≠ y) : V.bl (!decide (x = y)) = V.bl true := by rw [decide_eq_false h]; rfl
theorem str_ext {x y : Str} (h : x.cps.toList = y.cps.toList) : x = y := by
  obtain ⟨a⟩ := x
  obtain ⟨b⟩ := y
  have h2 : a.toList = b.toList := h
  rw [Array.toList_inj.mp h2]
theorem app_list (x y : Str) : (x ++ y).cps.toList = x.cps.toList ++ y.cps.toList := by
  rw [Str.cps_append, Array.toList_append]
theorem app_as (x y z : Str) : x ++ y ++ z = x ++ (y ++ z) := str_ext (by simp only [app_list, List.append_assoc])
theorem nil_list : (Str.ofString "").cps.toList = [] := by decide +kernel
theorem app_nil (x : Str) : x ++ Str.ofString "" = x := str_ext (by rw [app_list, nil_list, List.append_nil])
theorem nil_app (x : Str) : Str.ofString "" ++ x = x := str_ext (by rw [app_list, nil_list, List.nil_append])
theorem rdStep_from (z o : Str) (hm : V) (s x : Str) (b c : Int) : rdStep z o hm (s ++ x, b) c = (s ++ (rdStep z o hm (x, b) c).1, (rdStep z o hm (x, b) c).2) := by
  unfold rdStep
  by_cases h : (z.cps.size : Int) ≤ c
  · rw [if_pos h, if_pos h]
  · rw [if_neg h, if_neg h]
    show (s ++ x ++ _, _) = (s ++ (x ++ _), _)
    rw [app_as]
theorem fold_from (z o : Str) (hm : V) : ∀ (cs : List Int) (s x : Str) (b : Int), cs.foldl (rdStep z o hm) (s ++ x, b) = (s ++ (cs.foldl (rdStep z o hm) (x, b)).1, (cs.foldl (rdStep z o hm) (x, b)).2)
  | [], _, _, _ => rfl
  | c :: cs, s, x, b => by
    rw [List.foldl_cons, List.foldl_cons, rdStep_from]
    exact fold_from z o hm cs s _ _
theorem rd_from (z o : Str) (hm : V) (cs : List Int) (s : Str) (b : Int) : cs.foldl (rdStep z o hm) (s, b) = (s ++ (rd z o hm cs b).1, (rd z o hm cs b).2) := by
  have h := fold_from z o hm cs s (Str.ofString "") b
  rw [app_nil] at h
  exact h
theorem rd_app (z o : Str) (hm : V) (u v : List Int) (b : Int) : rd z o hm (u ++ v) b = ((rd z o hm u b).1 ++ (rd z o hm v (rd z o hm u b).2).1, (rd z o hm v (rd z o hm u b).2).2) := by
  show (u ++ v).foldl (rdStep z o hm) (Str.ofString "", b) = _
  rw [List.foldl_append]
  exact rd_from z o hm v (rd z o hm u b).1 (rd z o hm u b).2
theorem rd_shift {z o : Str} {hm : V} {e : Int} (he : Is01 e) (cs : List Int) (b : Int) : rd z o hm (((z.cps.size : Int) + e) :: cs) b = rd z o hm cs e := by
  show cs.foldl (rdStep z o hm) (rdStep z o hm (Str.ofString "", b) ((z.cps.size : Int) + e)) = _
  have h : rdStep z o hm (Str.ofString "", b) ((z.cps.size : Int) + e) = (Str.ofString "", e) := by
    unfold rdStep
    rw [if_pos (by rcases he with y | y <;> omega)]
    show (_, (z.cps.size : Int) + e - z.cps.size) = _
    congr 1; omega
  rw [h]; rfl
theorem rd_end {z o : Str} {hm : V} {cs : List Int} {b : Int} (hb : Is01 b) (hc : Codes z.cps.size cs) : Is01 (rd z o hm cs b).2 := by
  have := (rd_ok (z := z) (o := o) (hm := hm) hb hc cs.length).1
  rwa [List.take_length] at this
/-- the shift ahead, if it is read otherwise -/
def ahd (z o : Str) (hm : V) (cs : List Int) (now wanted : Int) : List Int := if (rd z o hm cs now).1 = (rd z o hm cs wanted).1 then [] else [(z.cps.size : Int) + wanted]
theorem ahd_len (z o : Str) (hm : V) (cs : List Int) (n w : Int) : (ahd z o hm cs n w).length ≤ 1 := by
  unfold ahd; split <;> simp
theorem ahd_codes {z o : Str} {hm : V} {cs : List Int} {n w : Int} (hw : Is01 w) (hc : Codes z.cps.size cs) : Codes z.cps.size (ahd z o hm cs n w ++ cs) := fun c h => by
  rcases List.mem_append.mp h with m | m
  · unfold ahd at m
    split at m
    · cases m
    · rw [List.mem_singleton.mp m]
      rcases hw with y | y <;> omega
  · exact hc c m
theorem ahd_read {z o : Str} {hm : V} (cs : List Int) (n : Int) {w : Int} (hw : Is01 w) : (rd z o hm (ahd z o hm cs n w ++ cs) n).1 = (rd z o hm cs w).1 := by
  unfold ahd
  by_cases h : (rd z o hm cs n).1 = (rd z o hm cs w).1
  · rw [if_pos h]; exact h
  · rw [if_neg h]
    show (rd z o hm (((z.cps.size : Int) + w) :: cs) n).1 = _
    rw [rd_shift hw]
theorem ahd_self (z o : Str) (hm : V) (cs : List Int) (b : Int) : ahd z o hm cs b b = [] := by
  unfold ahd; rw [if_pos rfl]
def jpart (z o : Str) (hm : V) (bg : Int) (now : Int) (cs : List Int) : List Int := ahd z o hm cs now bg ++ cs
def jstep (z o : Str) (hm : V) (bg : Int) (s : List Int × Int) (cs : List Int) : List Int × Int := (s.1 ++ jpart z o hm bg s.2 cs, (rd z o hm (jpart z o hm bg s.2 cs) s.2).2)
def jns (z o : Str) (hm : V) (bg : Int) (L : List (List Int)) : List Int × Int := L.foldl (jstep z o hm bg) ([], bg)
def catT (z o : Str) (hm : V) (bg : Int) (L : List (List Int)) : Str := L.foldl (fun s cs => s ++ (rd z o hm cs bg).1) (Str.ofString "")
theorem jns_snoc (z o : Str) (hm : V) (bg : Int) (L : List (List Int)) (cs : List Int) : jns z o hm bg (L ++ [cs]) = jstep z o hm bg (jns z o hm bg L) cs := by
  unfold jns; rw [List.foldl_append]; rfl
theorem catT_snoc (z o : Str) (hm : V) (bg : Int) (L : List (List Int)) (cs : List Int) : catT z o hm bg (L ++ [cs]) = catT z o hm bg L ++ (rd z o hm cs bg).1 := by
  unfold catT; rw [List.foldl_append]; rfl
theorem snoc_ind {α : Type} {p : List α → Prop} (h0 : p []) (h1 : ∀ l a, p l → p (l ++ [a])) (l : List α) : p l := by
  rw [← List.reverse_reverse l]
  induction l.reverse with
  | nil => exact h0
  | cons a r ih => rw [List.reverse_cons]; exact h1 _ _ ih
theorem jns_read {z o : Str} {hm : V} {bg : Int} (hb : Is01 bg) (L : List (List Int)) : rd z o hm (jns z o hm bg L).1 bg = (catT z o hm bg L, (jns z o hm bg L).2) := by
  induction L using snoc_ind with
  | h0 => rfl
  | h1 L cs ih =>
    rw [jns_snoc, catT_snoc]
    unfold jstep
    rw [rd_app, ih]
    show (_ ++ (rd z o hm (jpart z o hm bg (jns z o hm bg L).2 cs) (jns z o hm bg L).2).1, _) = _
    unfold jpart
    rw [ahd_read cs _ hb]
theorem jns_codes {z o : Str} {hm : V} {bg : Int} (hb : Is01 bg) {L : List (List Int)} (h : ∀ cs ∈ L, Codes z.cps.size cs) : Codes z.cps.size (jns z o hm bg L).1 ∧ Is01 (jns z o hm bg L).2 := by
  induction L using snoc_ind with
  | h0 => exact ⟨(fun c h => nomatch h), hb⟩
  | h1 L cs ih =>
    obtain ⟨i1, i2⟩ := ih fun c hc => h c (List.mem_append_left _ hc)
    have hcs := h cs (List.mem_append_right _ (List.mem_singleton.mpr rfl))
    have hp : Codes z.cps.size (jpart z o hm bg (jns z o hm bg L).2 cs) := ahd_codes hb hcs
    rw [jns_snoc]
    refine ⟨fun c hc => ?_, rd_end i2 hp⟩
    rcases List.mem_append.mp hc with m | m
    · exact i1 c m
    · exact hp c m
theorem jns_len {z o : Str} {hm : V} {bg : Int} {m : Nat} {L : List (List Int)} (h : ∀ cs ∈ L, cs.length ≤ m) : (jns z o hm bg L).1.length ≤ L.length * (m + 1) := by
  induction L using snoc_ind with
  | h0 => exact Nat.zero_le _
  | h1 L cs ih =>
    have i1 := ih fun c hc => h c (List.mem_append_left _ hc)
    have hcs := h cs (List.mem_append_right _ (List.mem_singleton.mpr rfl))
    have ha := ahd_len z o hm cs (jns z o hm bg L).2 bg
    rw [jns_snoc]
    show ((jns z o hm bg L).1 ++ (ahd z o hm cs (jns z o hm bg L).2 bg ++ cs)).length ≤ _
    simp only [List.length_append, List.length_cons, List.length_nil]
    rw [Nat.add_mul]
    omega
/-- joined by two steps -/
theorem jns_two {z o : Str} {hm : V} {bg : Int} (hb : Is01 bg) (L : List (List Int)) (k : Nat) : jns z o hm bg ((jns z o hm bg (L.take k)).1 :: L.drop k) = jns z o hm bg L := by
  have h1 : jstep z o hm bg ([], bg) (jns z o hm bg (L.take k)).1 = jns z o hm bg (L.take k) := by
    unfold jstep jpart
    show (_ ++ (ahd z o hm _ bg bg ++ _), _) = _
    rw [ahd_self, List.nil_append, List.nil_append, jns_read hb]
  have e : jns z o hm bg L = (L.drop k).foldl (jstep z o hm bg) (jns z o hm bg (L.take k)) := by
    conv => lhs; rw [← List.take_append_drop k L]
    unfold jns; rw [List.foldl_append]
  show (L.drop k).foldl _ (jstep z o hm bg ([], bg) _) = _
  rw [h1, e]
theorem rd_signs (z o : Str) (hm : V) (cs : List Int) (b : Int) : (rd z o hm cs b).1.cps.size ≤ cs.length := by
  rw [rd_size]; exact List.length_filter_le _ _
/-! ### tapes that stand -/
def Tps (H : Hp) : List Addr → List (List Int) → Prop
  | [], [] => True
  | a :: as, u :: L => H a = some (.lst (u.map V.int)) ∧ Tps H as L
  | _, _ => False
theorem Tps.mono {H H' : Hp} (k : ∀ a us, H a = some (.lst us) → H' a = some (.lst us)) : ∀ {as : List Addr} {L : List (List Int)}, Tps H as L → Tps H' as L
  | [], [], _ => trivial
  | a :: as, u :: L, h => ⟨k _ _ h.1, Tps.mono k h.2⟩
  | [], _ :: _, h => h.elim
  | _ :: _, [], h => h.elim
theorem Tps.len {H : Hp} : ∀ {as : List Addr} {L : List (List Int)}, Tps H as L → as.length = L.length
  | [], [], _ => rfl
  | a :: as, u :: L, h => congrArg (· + 1) (Tps.len h.2)
  | [], _ :: _, h => h.elim
  | _ :: _, [], h => h.elim
theorem Tps.app {H : Hp} : ∀ {as bs : List Addr} {L M : List (List Int)}, Tps H as L → Tps H bs M → Tps H (as ++ bs) (L ++ M)
  | [], _, [], _, _, g => g
  | a :: as, _, u :: L, _, h, g => ⟨h.1, Tps.app h.2 g⟩
  | [], _, _ :: _, _, h, _ => h.elim
  | _ :: _, _, [], _, h, _ => h.elim
theorem Tps.get {H : Hp} : ∀ {as : List Addr} {L : List (List Int)}, Tps H as L → ∀ {i : Nat} {a : Addr}, as[i]? = some a → ∃ u, L[i]? = some u ∧ H a = some (.lst (u.map V.int))
  | [], [], _, i, a, e => by simp at e
  | b :: as, u :: L, h, 0, a, e => by
    simp at e; subst e
    exact ⟨u, rfl, h.1⟩
  | b :: as, u :: L, h, i + 1, a, e => by
    obtain ⟨v, e1, e2⟩ := Tps.get h.2 (i := i) (a := a) (by simpa using e)
    exact ⟨v, by simpa using e1, e2⟩
  | [], _ :: _, h, _, _, _ => h.elim
  | _ :: _, [], h, _, _, _ => h.elim
def spAhead (K : PySem.W.Frag) : Sp := fun vs H Q _ => ∃ (t a : Addr) (z o : Str) (hm : V) (cs : List Int) (n w : Int), vs = [.ref t, .ref a, .int n, .int w] ∧ Good z o hm ∧ Sh H t z o hm ∧ SqL K H a (cs.map V.int) ∧ Codes z.cps.size cs ∧ cs.length ≤ 1000 ∧ Is01 n ∧ Is01 w ∧
  ∀ p H', Same H H' → H p = none → H' p = some (.lst ((ahd z o hm cs n w).map V.int)) → Q (.ref p) H'
def spJoined (K : PySem.W.Frag) (P : Addr) : Sp := fun vs H Q _ => ∃ (t l : Addr) (z o : Str) (hm : V) (as : List Addr) (L : List (List Int)) (bg : Int), vs = [.ref t, .ref l, .int bg] ∧ Good z o hm ∧ Sh H t z o hm ∧ H l = some (.lst (as.map V.ref)) ∧ Tps H as L ∧ (∀ cs ∈ L, Codes z.cps.size cs ∧ cs.length ≤ 100) ∧ L.length ≤ 300 ∧ Is01 bg ∧ GxR.TabG H P ∧
  ∀ p H', Kp P H H' → H p = none → H' p = some (.lst ((jns z o hm bg L).1.map V.int)) → Q (.ref p) H'
def cutB (z o : Str) (hm : V) (cs : List Int) (bg : Int) (i : Nat) : List Int := ahd z o hm (cs.drop i) bg (rd z o hm (cs.take i) bg).2 ++ cs.drop i
def spCut (K : PySem.W.Frag) (P : Addr) : Sp := fun vs H Q _ => ∃ (t a : Addr) (z o : Str) (hm : V) (cs : List Int) (bg : Int) (i : Nat), vs = [.ref t, .ref a, .int bg, .int (i : Nat)] ∧ Good z o hm ∧ Sh H t z o hm ∧ SqL K H a (cs.map V.int) ∧ Codes z.cps.size cs ∧ cs.length ≤ 100 ∧ Is01 bg ∧ i ≤ cs.length ∧ GxR.TabG H P ∧
  ∀ p f k H', Kp P H H' → H p = none → H f = none → H k = none → f ≠ k → H' p = some (.tup [.ref f, .ref k]) → H' f = some (.lst ((cs.take i).map V.int)) → H' k = some (.lst ((cutB z o hm cs bg i).map V.int)) → Q (.ref p) H'
theorem codes_take {n : Nat} {cs : List Int} (h : Codes n cs) (i : Nat) : Codes n (cs.take i) := fun c hc => h c (List.mem_of_mem_take hc)
theorem codes_drop {n : Nat} {cs : List Int} (h : Codes n cs) (i : Nat) : Codes n (cs.drop i) := fun c hc => h c (List.mem_of_mem_drop hc)
theorem cutB_codes {z o : Str} {hm : V} {cs : List Int} {bg : Int} (hb : Is01 bg) (h : Codes z.cps.size cs) (i : Nat) : Codes z.cps.size (cutB z o hm cs bg i) := ahd_codes (rd_end hb (codes_take h i)) (codes_drop h i)
/-- the front and the back are the parts of the text -/
theorem cut_text {z o : Str} {hm : V} {cs : List Int} {bg : Int} (hb : Is01 bg) (h : Codes z.cps.size cs) (i : Nat) : (rd z o hm (cs.take i) bg).1 ++ (rd z o hm (cutB z o hm cs bg i) bg).1 = (rd z o hm cs bg).1 := by
  have e := rd_app z o hm (cs.take i) (cs.drop i) bg
  rw [List.take_append_drop] at e
  unfold cutB
  rw [ahd_read _ _ (rd_end hb (codes_take h i)), e]
end Kt
namespace Kt
open PySem PySem.Spec PyProof.Rows L2
/-! ### tapes in order: by length, then as lists ascend -/
def lx : List Int → List Int → Bool
  | _, [] => false
  | [], _ :: _ => true
  | x :: a, y :: b => if x = y then lx a b else decide (x < y)
/-- the datum of the key -/
def keyD (a : List Int) : PyData := .tuple [.int (a.length : Nat), .list (a.map PyData.int)]
def ltK (a b : List Int) : Bool := if a.length = b.length then lx a b else decide (a.length < b.length)
theorem alikeAll_ints : ∀ a b : List Int, PySem.W.alikeAll (a.map PyData.int) (b.map PyData.int) = true
  | [], b => by simp [PySem.W.alikeAll]
  | x :: a, [] => by simp [PySem.W.alikeAll]
  | x :: a, y :: b => by simp [PySem.W.alikeAll, PySem.W.alike, alikeAll_ints a b]
theorem dl_nil_cons (y : PyData) (ys : List PyData) : PyProof.Rows.lexLt PyProof.Rows.itemOrd (PySem.W.keyToksAll []) (PySem.W.keyToksAll (y :: ys)) = true := by
  simp only [PySem.W.keyToksAll]
  rw [PySem.W.lex_atom (by intro h; injection h with h; exact absurd h (by decide))]
  exact (PySem.W.dataLt_int 0 1).trans (by decide)
theorem dl_cons_nil (y : PyData) (ys : List PyData) : PyProof.Rows.lexLt PyProof.Rows.itemOrd (PySem.W.keyToksAll (y :: ys)) (PySem.W.keyToksAll []) = false := by
  simp only [PySem.W.keyToksAll]
  rw [PySem.W.lex_atom (by intro h; injection h with h; exact absurd h (by decide))]
  exact (PySem.W.dataLt_int 1 0).trans (by decide)
theorem dl_nil_nil : PyProof.Rows.lexLt PyProof.Rows.itemOrd (PySem.W.keyToksAll []) (PySem.W.keyToksAll []) = false := (PySem.W.dataLt_list [] []).symm.trans (PyProof.Rows.lex_irrefl _)
theorem dl_ints : ∀ a b : List Int, PyProof.Rows.lexLt PyProof.Rows.itemOrd (PySem.W.keyToksAll (a.map PyData.int)) (PySem.W.keyToksAll (b.map PyData.int)) = lx a b
  | [], [] => dl_nil_nil
  | [], y :: b => dl_nil_cons _ _
  | x :: a, [] => dl_cons_nil _ _
  | x :: a, y :: b => by
    have ih := dl_ints a b
    rw [List.map_cons, List.map_cons]
    unfold lx
    by_cases e : x = y
    · rw [if_pos e, PySem.W.dataLt_all_yes (by simp [PySem.W.alike]) (by simp [PyData.eqv, e])]
      exact ih
    · rw [if_neg e, PySem.W.dataLt_all_no (by simp [PySem.W.alike]) (by simp [PyData.eqv, e])]
      exact PySem.W.dataLt_int x y
theorem lx_irrefl : ∀ a : List Int, lx a a = false
  | [] => rfl
  | x :: a => by
    unfold lx
    rw [if_pos rfl]; exact lx_irrefl a
theorem keyD_lt (a b : List Int) : PySem.W.dataLt (keyD a) (keyD b) = ltK a b := by
  unfold keyD ltK
  rw [PySem.W.dataLt_tuple]
  by_cases e : a.length = b.length
  · rw [if_pos e, PySem.W.dataLt_all_yes (by simp [PySem.W.alike]) (by simp [PyData.eqv, e])]
    cases h : PyData.eqv (.list (a.map PyData.int)) (.list (b.map PyData.int)) with
    | true =>
      rw [PySem.W.dataLt_all_yes (by simp only [PySem.W.alike]; exact alikeAll_ints a b) h, dl_nil_nil]
      rw [eqv_ints] at h
      rw [of_decide_eq_true h, lx_irrefl]
    | false =>
      rw [PySem.W.dataLt_all_no (by simp only [PySem.W.alike]; exact alikeAll_ints a b) h, PySem.W.dataLt_list]
      exact dl_ints a b
  · rw [if_neg e, PySem.W.dataLt_all_no (by simp [PySem.W.alike]) (by simp [PyData.eqv]; omega), PySem.W.dataLt_int]
    exact decide_eq_decide.mpr (by omega)
theorem keyD_alike (a b : List Int) : PySem.W.alike (keyD a) (keyD b) = true := by
  unfold keyD
  simp [PySem.W.alike, PySem.W.alikeAll, alikeAll_ints]
theorem keyD_depth (a : List Int) : PyData.depth (keyD a) ≤ 3 := by
  have h := PySem.W.depthAll_ints a
  unfold keyD
  simp only [PyData.depth, PyData.depthAll]
  omega

/-! ### min(tapes, key = ..) over the heap -/
/-- all that stood stands -/
def Ext (h h' : Heap) : Prop := ∀ b o, h.get? b = some o → h'.get? b = some o
/-- the key of the tape ns, that stands at a -/
def KeyAt (h : Heap) (a : Addr) (ns : List Int) (v : Value) : Prop := ∃ T t n, v = .ref T ∧ h.get? T = some (seqObj "tuple" #[.int (ns.length : Nat) t, .ref a] n)
def TapeAt (h : Heap) (a : Addr) (ns : List Int) : Prop := ∃ vs, h.IsList a vs ∧ IntsAre vs.toList ns
theorem TapeAt.ext {h h' : Heap} {a : Addr} {ns : List Int} (x : TapeAt h a ns) (e : Ext h h') : TapeAt h' a ns := let ⟨vs, l, i⟩ := x; ⟨vs, l.at fun o q => e _ o q, i⟩
theorem KeyAt.ext {h h' : Heap} {a : Addr} {ns : List Int} {v : Value} (x : KeyAt h a ns v) (e : Ext h h') : KeyAt h' a ns v := let ⟨T, t, n, q, k⟩ := x; ⟨T, t, n, q, e _ _ k⟩
theorem KeyAt.reads {h : Heap} {a : Addr} {ns : List Int} {v : Value} (x : KeyAt h a ns v) (y : TapeAt h a ns) : ∃ as, Reads h v (keyD ns) as := by
  obtain ⟨T, t, n, rfl, k⟩ := x
  obtain ⟨vs, ⟨o, ho, hc, m, hd⟩, hi⟩ := y
  exact ⟨_, Reads.tuple k rfl rfl (.cons (.int _ _) (.cons (.list ho hc hd (PySem.W.readsAll_of_ints (h := h) hi)) .nil))⟩
end Kt
namespace Kt
open PySem PySem.Spec PyProof.Rows L2
theorem lx_trans : ∀ {a b c : List Int}, lx a b = true → lx b c = true → lx a c = true
  | _, [], _, h, _ => by unfold lx at h; cases h
  | _, _ :: _, [], _, h => by unfold lx at h; cases h
  | [], y :: b, z :: c, _, _ => rfl
  | x :: a, y :: b, z :: c, h1, h2 => by
    unfold lx at h1 h2 ⊢
    by_cases e1 : x = y
    · subst e1
      rw [if_pos rfl] at h1
      by_cases e2 : x = z
      · rw [if_pos e2] at h2 ⊢
        exact lx_trans h1 h2
      · rw [if_neg e2] at h2 ⊢
        exact h2
    · rw [if_neg e1] at h1
      have h1 := of_decide_eq_true h1
      by_cases e2 : y = z
      · subst e2
        rw [if_neg e1]; exact decide_eq_true h1
      · rw [if_neg e2] at h2
        have h2 := of_decide_eq_true h2
        rw [if_neg (by omega)]
        exact decide_eq_true (by omega)
theorem lx_tri : ∀ {a b : List Int}, lx a b = false → a = b ∨ lx b a = true
  | [], [], _ => .inl rfl
  | x :: a, [], _ => .inr rfl
  | [], y :: b, h => by unfold lx at h; cases h
  | x :: a, y :: b, h => by
    unfold lx at h ⊢
    by_cases e : x = y
    · subst e
      rw [if_pos rfl] at h ⊢
      rcases lx_tri h with q | q
      · exact .inl (by rw [q])
      · exact .inr q
    · rw [if_neg e] at h
      rw [if_neg (Ne.symm e)]
      have := of_decide_eq_false h
      exact .inr (decide_eq_true (by omega))
theorem ltK_trans {a b c : List Int} (h1 : ltK a b = true) (h2 : ltK b c = true) : ltK a c = true := by
  unfold ltK at h1 h2 ⊢
  by_cases e1 : a.length = b.length <;> by_cases e2 : b.length = c.length
  · rw [if_pos e1] at h1; rw [if_pos e2] at h2; rw [if_pos (e1.trans e2)]; exact lx_trans h1 h2
  · rw [if_neg e2] at h2; rw [if_neg (by omega)]; have := of_decide_eq_true h2; exact decide_eq_true (by omega)
  · rw [if_neg e1] at h1; rw [if_neg (by omega)]; have := of_decide_eq_true h1; exact decide_eq_true (by omega)
  · rw [if_neg e1] at h1; rw [if_neg e2] at h2
    have := of_decide_eq_true h1; have := of_decide_eq_true h2
    rw [if_neg (by omega)]; exact decide_eq_true (by omega)
theorem ltK_tri {a b : List Int} (h : ltK a b = false) : a = b ∨ ltK b a = true := by
  unfold ltK at h ⊢
  by_cases e : a.length = b.length
  · rw [if_pos e] at h; rw [if_pos e.symm]; exact lx_tri h
  · rw [if_neg e] at h; rw [if_neg (Ne.symm e)]
    have := of_decide_eq_false h
    exact .inr (decide_eq_true (by omega))
theorem ltK_irrefl (a : List Int) : ltK a a = false := by
  unfold ltK; rw [if_pos rfl]; exact lx_irrefl a

section
variable {prog : Program} {w : World} {A : Around} {E : Value → Shared → Prop} {s : Shared} {R : Result → Shared → Prop}
/-- the i-th tape is the first least of those up to j -/
def Best (tp : Nat → List Int) (i j : Nat) : Prop := i ≤ j ∧ ∀ k, k ≤ j → ltK (tp k) (tp i) = false ∧ (k < i → ltK (tp i) (tp k) = true)
theorem Best.keep {tp : Nat → List Int} {i j : Nat} (b : Best tp i j) (h : ltK (tp (j + 1)) (tp i) = false) : Best tp i (j + 1) := by
  refine ⟨Nat.le_succ_of_le b.1, fun k hk => ?_⟩
  by_cases e : k = j + 1
  · subst e
    exact ⟨h, fun q => absurd b.1 (by omega)⟩
  · exact b.2 k (by omega)
theorem Best.next {tp : Nat → List Int} {i j : Nat} (b : Best tp i j) (h : ltK (tp (j + 1)) (tp i) = true) : Best tp (j + 1) (j + 1) := by
  have all : ∀ k, k ≤ j → ltK (tp (j + 1)) (tp k) = true := fun k hk => by
    rcases ltK_tri (b.2 k hk).1 with e | e
    · rw [e]; exact h
    · exact ltK_trans h e
  refine ⟨Nat.le_refl _, fun k hk => ?_⟩
  by_cases e : k = j + 1
  · subst e
    exact ⟨ltK_irrefl _, fun q => absurd q (Nat.lt_irrefl _)⟩
  · have q := all k (by omega)
    refine ⟨?_, fun _ => q⟩
    cases z : ltK (tp k) (tp (j + 1)) with
    | false => rfl
    | true => rw [← ltK_irrefl (tp k), ltK_trans z q]
/-- what the loop of min over tapes knows: the heap at its start, the list, the key, the iterator, the best so far -/
structure MinW (prog : Program) (w : World) (A : Around) (s : Shared) (h0 : Heap) (l f J S : Addr) (as : List Addr) (tp : Nat → List Int) : Prop where
  hh : A.handled = none
  hu : A.units + 80 < cLine
  list : h0.IsList l (as.map Value.ref).toArray
  tapes : ∀ i a, as[i]? = some a → TapeAt h0 a (tp i)
  lJ : l ≠ J
  SJ : S ≠ J
  nJ : h0.get? J = none
  nS : h0.get? S = none
  key : ∀ i a, as[i]? = some a → ∀ h tk, Ext h0 h → wpAny (model prog w) A.in1 (call (.ref f) [.ref a]) (fun v s' => ∃ h' tk', s' = { s with heap := h', toks := tk' } ∧ Ext h h' ∧ KeyAt h' a (tp i) v) (fun _ _ => False) { s with heap := h, toks := tk }
set_option maxHeartbeats 4000000 in
theorem minLoop {h0 : Heap} {l f J S : Addr} {as : List Addr} {tp : Nat → List Int} (M : MinW prog w A s h0 l f J S as tp)
    (fin : ∀ i a h' tk', as[i]? = some a → Best tp i (as.length - 1) → Ext h0 h' → R (.ok (.ret (.ref a))) { s with heap := h', toks := tk' }) :
    ∀ (r j i : Nat) (h : Heap) (tk : Nat) (b : Addr) (kv : Value) (c : Nat), as.length - (j + 1) = r → j + 1 ≤ as.length → Ext h0 h → h.get? S = some (seqObj "list" #[.ref b, kv] c) → h.IsListIter J l (j + 1) → KeyAt h b (tp i) kv → as[i]? = some b → Best tp i j →
      codeAny (model prog w) A (.builtin "min.loop" ⟨[.ref J, .ref f, .ref S], []⟩) R { s with heap := h, toks := tk } := by
  have nm : (toString "min" ++ toString ".loop" : String) = "min.loop" := by decide
  have W := Walks.list (prog := prog) (w := w) (A := A.in1) M.hh J l M.lJ (as.map Value.ref).toArray
  have size : (as.map Value.ref).toArray.size = as.length := by simp
  have keepJ : ∀ {h h' : Heap}, Ext h0 h → (∀ b o, b ∉ [J] → h.get? b = some o → h'.get? b = some o) → Ext h0 h' := fun e k b o q => k b o (fun z => by
    rw [List.mem_singleton.mp z, M.nJ] at q; cases q) (e b o q)
  have keepS : ∀ {h h' : Heap}, Ext h0 h → Heap.SameBut S h h' → Ext h0 h' := fun e k b o q => (k.2 b (fun z => by
    rw [z, M.nS] at q; cases q)).trans (e b o q)
  intro r
  induction r with
  | zero =>
    intro j i h tk b kv c hr hj e hS hit hk hb best
    obtain rfl : j = as.length - 1 := by omega
    refine codeAny_builtin PySem.F.entry_min_loop ?_
    rw [Around.under_plainId PySem.F.plain_min_loop _]
    refine wpAny_bind (m := seqItems? (.ref S)) (wpAny_seqItems hS rfl ?_)
    refine wpAny_bind (wpAny_tryCatch (W.done _ _ _ ⟨by rw [size, ← show as.length - 1 + 1 = as.length by omega]; exact hit, M.list.at fun o q => e _ o q⟩ fun h' tk' k => ?_))
    have S' := k S _ (by simpa using M.SJ) hS
    have sb := Heap.SameBut.update h' S (Obj.mapSeq fun _ => (#[] : Array Value))
    refine wpAny_bind (m := updateSeq S (fun _ => #[])) ?_
    refine wpAny_updateSeq S' rfl (wpAny_bind (wpAny_letGo (wpAny_pure ?_)))
    exact fin i b _ _ hb best (keepS (keepJ e k) sb)
  | succ r ih =>
    intro j i h tk b kv c hr hj e hS hit hk hb best
    have lt : j + 1 < as.length := by omega
    refine codeAny_builtin PySem.F.entry_min_loop ?_
    rw [Around.under_plainId PySem.F.plain_min_loop _]
    refine wpAny_bind (m := seqItems? (.ref S)) (wpAny_seqItems hS rfl ?_)
    refine wpAny_bind (wpAny_tryCatch (W.item (j + 1) _ _ _ (by rw [size]; exact lt) ⟨hit, M.list.at fun o q => e _ o q⟩ fun v h1 tk1 hv st k => ?_))
    obtain ⟨d, hd, rfl⟩ : ∃ d, as[j + 1]? = some d ∧ v = .ref d := by
      have q : (as.map Value.ref)[j + 1]? = some v := by simpa using hv
      obtain ⟨d, q1, q2⟩ := at_map q
      exact ⟨d, q1, q2⟩
    have e1 := keepJ e k
    have S1 := k S _ (by simpa using M.SJ) hS
    have k1 : KeyAt h1 b (tp i) kv := by
      obtain ⟨T, t, n, q, z⟩ := hk
      refine ⟨T, t, n, q, k T _ (fun y => ?_) z⟩
      obtain ⟨oJ, y1, y2, _⟩ := hit
      rw [List.mem_singleton.mp y, y1] at z
      rw [Option.some.inj z] at y2
      exact absurd y2 (by show ¬ Value.type "tuple" = Value.type "list_iterator"; decide)
    refine wpAny_bind (m := tryCatch (holding [Value.ref d] (call (.ref f) [.ref d])) _) (wpAny_tryCatch (wpAny_holding (wpAny_mono (M.key (j + 1) d hd h1 tk1 e1) (fun x s2 he => ?_) fun _ _ z => z.elim)))
    obtain ⟨h2, tk2, rfl, g, k2⟩ := he
    have e2 : Ext h0 h2 := fun b o q => g b o (e1 b o q)
    have S2 := g _ _ S1
    have k3 := k1.ext g
    obtain ⟨as1, r1⟩ := k2.reads ((M.tapes _ _ hd).ext e2)
    obtain ⟨as2, r2⟩ := k3.reads ((M.tapes _ _ hb).ext e2)
    have nN : keyD (tp (j + 1)) ≠ .none := fun z => by cases z
    have room : A.in1.units + min (keyD (tp (j + 1))).depth (keyD (tp i)).depth < cLine := by
      have q1 := keyD_depth (tp (j + 1))
      have q2 := M.hu
      have q3 : min (keyD (tp (j + 1))).depth (keyD (tp i)).depth ≤ (keyD (tp (j + 1))).depth := Nat.min_le_left _ _
      have q4 : A.in1.units ≤ A.units + 8 := by simp [Around.in1, Around.units]
      omega
    refine wpAny_bind (wpAny_tryCatch (wpAny_holding (wpAny_bind (m := compareOp .Lt x kv) (PySem.W.lt_data r1 r2 (keyD_alike _ _) nN room ?_))))
    rw [keyD_lt]
    refine wpAny_bind (wpAny_holding (wpAny_truthy_bool ?_))
    refine wpAny_bind (wpAny_letGo (wpAny_pure ?_))
    have it2 : h2.IsListIter J l (j + 1 + 1) := let ⟨o, y1, y2⟩ := st.1; ⟨o, g _ _ y1, y2⟩
    cases z : ltK (tp (j + 1)) (tp i) with
    | true =>
      rw [if_pos rfl]
      have sb := Heap.SameBut.update h2 S (Obj.mapSeq fun _ => #[Value.ref d, x])
      obtain ⟨c2, hc2⟩ : ∃ c2, (h2.update S (Obj.mapSeq fun _ => #[Value.ref d, x])).get? S = some (seqObj "list" #[Value.ref d, x] c2) := ⟨_, get?_update_seq S2 fun _ => #[Value.ref d, x]⟩
      refine wpAny_bind (m := updateSeq S (fun _ => #[Value.ref d, x])) ?_
      refine wpAny_updateSeq S2 rfl (wpAny_bind (wpAny_letGo ?_))
      rw [nm]
      refine wpAny_pure ⟨plainId_quiet PySem.F.plain_min_loop _, ih (j + 1) (j + 1) _ _ d x c2 (by omega) lt (keepS e2 sb) hc2 ?_ ?_ hd (best.next z)⟩
      · obtain ⟨o, y1, y2⟩ := it2
        exact ⟨o, (sb.2 J M.SJ.symm).trans y1, y2⟩
      · obtain ⟨T, t, n, q, y⟩ := k2
        refine ⟨T, t, n, q, (sb.2 T fun q2 => ?_).trans y⟩
        rw [q2, S2] at y
        have q3 : Value.type "list" = Value.type "tuple" := congrArg Obj.cls (Option.some.inj y)
        exact absurd q3 (by decide)
    | false =>
      rw [if_neg Bool.false_ne_true]
      refine wpAny_bind (wpAny_letGo ?_)
      rw [nm]
      exact wpAny_pure ⟨plainId_quiet PySem.F.plain_min_loop _, ih (j + 1) i _ _ b kv c (by omega) lt e2 S2 it2 k3 hb (best.keep z)⟩
end
end Kt
namespace Kt
open PySem PySem.Spec PyProof.Rows L2
/-! ### where a sign stands -/
def fi (s : Str) (c : Nat) : Int := Txt.find s (sg c)
theorem fi_spec (s : Str) (c : Nat) : (fi s c = -1 ∧ c ∉ s.cps.toList) ∨ ∃ k : Nat, fi s c = k ∧ s.cps.toList[k]? = some c := by
  unfold fi Txt.find
  rcases PySem.StrLaws.occ_head s (sg c) 1 (Nat.le_refl _) with ⟨h1, h2⟩ | ⟨i, r, h1, h2, _⟩
  · rw [h1]
    refine .inl ⟨rfl, fun hm => ?_⟩
    obtain ⟨i, hi⟩ := List.mem_iff_getElem?.mp hm
    exact h2 i ((PySem.StrLaws.subAt_one s c i).mpr hi)
  · rw [h1]
    exact .inr ⟨i, rfl, (PySem.StrLaws.subAt_one s c i).mp h2⟩
/-- the one set, or the other -/
def at01 (z o : Str) (b : Int) : Str := if b = 0 then z else o
/-- the code of the sign c in the set now, or in both (2) -/
def cod (z o : Str) (c : Nat) (now : Int) : Int := if now ≠ 2 then fi (at01 z o now) c else if fi o c ≠ fi z c then -1 else fi z c
/-- the set behind the code -/
def bhd (hm : V) (k now : Int) : Int := if V.int k = hm then 0 else now
/-- three tapes -/
structure T3 where
  t0 : List Int
  t1 : List Int
  t2 : List Int
def T3.at (t : T3) (b : Int) : List Int := if b = 0 then t.t0 else if b = 1 then t.t1 else t.t2
/-- the tapes without a shift -/
def plainL (z o : Str) (hm : V) (c : Nat) (r : T3) (now : Int) : List (List Int) := if cod z o c now < 0 then [] else [cod z o c now :: r.at (bhd hm (cod z o c now) now)]
def shiftL (z o : Str) (hm : V) (c : Nat) (r : T3) : List (List Int) := (plainL z o hm c r 0).map (fun t => ((z.cps.size : Int) + 0) :: t) ++ (plainL z o hm c r 1).map fun t => ((z.cps.size : Int) + 1) :: t
def IsFirst (L : List (List Int)) (t : List Int) : Prop := t ∈ L ∧ ∀ u ∈ L, ltK u t = false
/-- what is told of a text, from its end on -/
inductive Tells (z o : Str) (hm : V) : List Nat → T3 → Prop
  | nil : Tells z o hm [] ⟨[], [], []⟩
  | cons {c : Nat} {cs : List Nat} {r t : T3} (h : Tells z o hm cs r) (h0 : IsFirst (plainL z o hm c r 0 ++ shiftL z o hm c r) t.t0) (h1 : IsFirst (plainL z o hm c r 1 ++ shiftL z o hm c r) t.t1)
      (h2 : IsFirst (plainL z o hm c r 2 ++ shiftL z o hm c r) t.t2) : Tells z o hm (c :: cs) t
theorem IsFirst.eq {L : List (List Int)} {t u : List Int} (h : IsFirst L t) (g : IsFirst L u) : t = u := by
  rcases ltK_tri (g.2 t h.1) with e | e
  · exact e
  · rw [h.2 u g.1] at e; cases e
theorem ltK_len {a b : List Int} (h : a.length < b.length) : ltK a b = true := by
  unfold ltK; rw [if_neg (by omega)]; exact decide_eq_true h
theorem ltK_ge {a b : List Int} (h : b.length < a.length) : ltK a b = false := by
  unfold ltK; rw [if_neg (by omega)]; exact decide_eq_false (by omega)
theorem ltK_hd {x y : Int} {a b : List Int} (h : a.length = b.length) (hx : y < x) : ltK (x :: a) (y :: b) = false := by
  unfold ltK; rw [if_pos (by simp [h])]
  unfold lx; rw [if_neg (by omega)]; exact decide_eq_false (by omega)
end Kt
namespace Kt
open PySem PySem.Spec PyProof.Rows L2
/-- the sign can be written -/
def InSet (z o : Str) (c : Nat) : Prop := c ∈ z.cps.toList ∨ c ∈ o.cps.toList
def pOf (z o : Str) (hm : V) (c : Nat) (r : T3) (b : Int) : List Int := cod z o c b :: r.at (bhd hm (cod z o c b) b)
theorem cod01 {z o : Str} {c : Nat} {b : Int} (hb : Is01 b) : cod z o c b = fi (at01 z o b) c := by
  unfold cod; rw [if_pos (by rcases hb with e | e <;> omega)]
theorem at01_size {z o : Str} {hm : V} (g : Good z o hm) (b : Int) : (at01 z o b).cps.size = z.cps.size := by
  unfold at01; split
  · rfl
  · exact g.len
theorem cod_lt {z o : Str} {hm : V} (g : Good z o hm) (c : Nat) (b : Int) : cod z o c b < z.cps.size ∧ -1 ≤ cod z o c b := by
  have one : ∀ s : Str, s.cps.size = z.cps.size → fi s c < z.cps.size ∧ -1 ≤ fi s c := fun s hs => by
    rcases fi_spec s c with ⟨e, _⟩ | ⟨k, e, hk⟩
    · rw [e]; have := g.pos; omega
    · rw [e]
      have := (List.getElem?_eq_some_iff.mp hk).1
      rw [Array.length_toList] at this
      omega
  unfold cod
  split
  · exact one _ (at01_size g b)
  · split
    · have := g.pos; omega
    · exact one z rfl
theorem cod_sign {z o : Str} {c : Nat} {b : Int} (hb : Is01 b) (h : 0 ≤ cod z o c b) : (at01 z o b).cps.toList.getD (cod z o c b).toNat 0 = c := by
  rw [cod01 hb] at h ⊢
  rcases fi_spec (at01 z o b) c with ⟨e, _⟩ | ⟨k, e, hk⟩
  · omega
  · rw [e, Int.toNat_natCast, List.getD_eq_getElem?_getD, hk]; rfl
theorem cod_some {z o : Str} {c : Nat} (h : InSet z o c) (b : Int) (hb : Is01 b) : 0 ≤ cod z o c b ∨ 0 ≤ cod z o c (1 - b) := by
  have one : ∀ s : Str, c ∈ s.cps.toList → 0 ≤ fi s c := fun s hs => by
    rcases fi_spec s c with ⟨_, e⟩ | ⟨k, e, _⟩
    · exact absurd hs e
    · omega
  rcases hb with e | e <;> subst e
  · rw [cod01 (.inl rfl), cod01 (b := 1 - 0) (.inr rfl)]
    rcases h with h | h
    · exact .inl (one z h)
    · exact .inr (one o h)
  · rw [cod01 (.inr rfl), cod01 (b := 1 - 1) (.inl rfl)]
    rcases h with h | h
    · exact .inr (one z h)
    · exact .inl (one o h)
theorem mem_plain {z o : Str} {hm : V} {c : Nat} {r : T3} {b : Int} {u : List Int} : u ∈ plainL z o hm c r b ↔ 0 ≤ cod z o c b ∧ u = pOf z o hm c r b := by
  unfold plainL pOf
  split
  · rename_i h
    constructor
    · intro h'; cases h'
    · intro h'; omega
  · rename_i h
    rw [List.mem_singleton]
    exact ⟨fun e => ⟨by omega, e⟩, fun e => e.2⟩
theorem mem_shift {z o : Str} {hm : V} {c : Nat} {r : T3} {u : List Int} : u ∈ shiftL z o hm c r ↔ ∃ b, Is01 b ∧ 0 ≤ cod z o c b ∧ u = ((z.cps.size : Int) + b) :: pOf z o hm c r b := by
  unfold shiftL
  rw [List.mem_append, List.mem_map, List.mem_map]
  constructor
  · rintro (⟨t, h, e⟩ | ⟨t, h, e⟩)
    · obtain ⟨h1, h2⟩ := mem_plain.mp h
      exact ⟨0, .inl rfl, h1, by rw [← e, h2]⟩
    · obtain ⟨h1, h2⟩ := mem_plain.mp h
      exact ⟨1, .inr rfl, h1, by rw [← e, h2]⟩
  · rintro ⟨b, hb, h1, e⟩
    rcases hb with q | q <;> subst q
    · exact .inl ⟨_, mem_plain.mpr ⟨h1, rfl⟩, e.symm⟩
    · exact .inr ⟨_, mem_plain.mpr ⟨h1, rfl⟩, e.symm⟩
/-- the sign's own code is best -/
def GoodNow (z o : Str) (hm : V) (c : Nat) (r : T3) (b : Int) : Prop := 0 ≤ cod z o c b ∧ (0 ≤ cod z o c (1 - b) → (pOf z o hm c r b).length ≤ (pOf z o hm c r (1 - b)).length + 1)
theorem Tells.first {z o : Str} {hm : V} {c : Nat} {r t : T3} {b : Int} (hb : Is01 b) (h0 : IsFirst (plainL z o hm c r 0 ++ shiftL z o hm c r) t.t0) (h1 : IsFirst (plainL z o hm c r 1 ++ shiftL z o hm c r) t.t1) :
    IsFirst (plainL z o hm c r b ++ shiftL z o hm c r) (t.at b) := by
  rcases hb with e | e <;> subst e
  · exact h0
  · exact h1
theorem first_good {z o : Str} {hm : V} (g : Good z o hm) {c : Nat} {r : T3} {b : Int} {u : List Int} (hb : Is01 b) (h : IsFirst (plainL z o hm c r b ++ shiftL z o hm c r) u) (q : GoodNow z o hm c r b) : u = pOf z o hm c r b := by
  refine h.eq ⟨List.mem_append_left _ (mem_plain.mpr ⟨q.1, rfl⟩), fun v hv => ?_⟩
  rcases List.mem_append.mp hv with k | k
  · rw [(mem_plain.mp k).2]; exact ltK_irrefl _
  · obtain ⟨e, he, k1, k2⟩ := mem_shift.mp k
    rw [k2]
    by_cases eb : e = b
    · subst eb
      exact ltK_ge (by simp)
    · obtain rfl : e = 1 - b := by rcases hb with y | y <;> rcases he with y' | y' <;> omega
      have l := q.2 k1
      by_cases l2 : (pOf z o hm c r b).length = (pOf z o hm c r (1 - b)).length + 1
      · have lt := (cod_lt g c b).1
        unfold pOf at l2 ⊢
        refine ltK_hd (by simpa using l2.symm) ?_
        rcases he with y | y <;> omega
      · exact ltK_ge (by simp only [List.length_cons] at *; omega)
theorem first_else {z o : Str} {hm : V} (g : Good z o hm) {c : Nat} {r : T3} {b : Int} {u : List Int} (hs : InSet z o c) (hb : Is01 b) (h : IsFirst (plainL z o hm c r b ++ shiftL z o hm c r) u) (q : ¬ GoodNow z o hm c r b) :
    0 ≤ cod z o c (1 - b) ∧ GoodNow z o hm c r (1 - b) ∧ (0 ≤ cod z o c b → (pOf z o hm c r (1 - b)).length + 1 < (pOf z o hm c r b).length) ∧ u = ((z.cps.size : Int) + (1 - b)) :: pOf z o hm c r (1 - b) := by
  have hb' : Is01 (1 - b) := by rcases hb with y | y <;> subst y; exact .inr rfl; exact .inl rfl
  have e2 : 1 - (1 - b) = b := by omega
  have other : 0 ≤ cod z o c (1 - b) := by
    rcases cod_some hs b hb with k | k
    · by_cases k2 : 0 ≤ cod z o c (1 - b)
      · exact k2
      · exact absurd ⟨k, fun k3 => absurd k3 k2⟩ q
    · exact k
  have far : 0 ≤ cod z o c b → (pOf z o hm c r (1 - b)).length + 1 < (pOf z o hm c r b).length := fun k => by
    by_cases l : (pOf z o hm c r b).length ≤ (pOf z o hm c r (1 - b)).length + 1
    · exact absurd ⟨k, fun _ => l⟩ q
    · omega
  refine ⟨other, ⟨other, fun k => ?_⟩, far, ?_⟩
  · rw [e2] at k ⊢
    have := far k
    omega
  refine h.eq ⟨List.mem_append_right _ (mem_shift.mpr ⟨1 - b, hb', other, rfl⟩), fun v hv => ?_⟩
  rcases List.mem_append.mp hv with k | k
  · obtain ⟨k1, k2⟩ := mem_plain.mp k
    rw [k2]
    exact ltK_ge (by have := far k1; simpa using this)
  · obtain ⟨e, he, k1, k2⟩ := mem_shift.mp k
    rw [k2]
    by_cases eb : e = b
    · subst eb
      exact ltK_ge (by have := far k1; simp only [List.length_cons]; omega)
    · obtain rfl : e = 1 - b := by rcases hb with y | y <;> rcases he with y' | y' <;> omega
      exact ltK_irrefl _
/-- all that is told is short, and of codes -/
theorem Tells.short {z o : Str} {hm : V} (g : Good z o hm) : ∀ {cs : List Nat} {t : T3}, Tells z o hm cs t → ∀ b, (t.at b).length ≤ 2 * cs.length ∧ Codes z.cps.size (t.at b) := by
  intro cs t h
  induction h with
  | nil =>
    intro b
    unfold T3.at
    split
    · exact ⟨Nat.zero_le _, fun c hc => by cases hc⟩
    · split <;> exact ⟨Nat.zero_le _, fun c hc => by cases hc⟩
  | @cons c cs r t h h0 h1 h2 ih =>
    have plain : ∀ b u, u ∈ plainL z o hm c r b → u.length ≤ 2 * cs.length + 1 ∧ Codes z.cps.size u := fun b u hu => by
      obtain ⟨k1, k2⟩ := mem_plain.mp hu
      have i := ih (bhd hm (cod z o c b) b)
      have lt := (cod_lt g c b).1
      rw [k2]
      unfold pOf
      refine ⟨by simp only [List.length_cons]; omega, fun d hd => ?_⟩
      rcases List.mem_cons.mp hd with y | y
      · rw [y]; omega
      · exact i.2 d y
    have all : ∀ b u, u ∈ plainL z o hm c r b ++ shiftL z o hm c r → u.length ≤ 2 * (c :: cs).length ∧ Codes z.cps.size u := fun b u hu => by
      rcases List.mem_append.mp hu with k | k
      · have := plain b u k
        exact ⟨by simp only [List.length_cons]; omega, this.2⟩
      · obtain ⟨e, he, k1, k2⟩ := mem_shift.mp k
        have i := plain e _ (mem_plain.mpr ⟨k1, rfl⟩)
        rw [k2]
        refine ⟨by simp only [List.length_cons]; omega, fun d hd => ?_⟩
        rcases List.mem_cons.mp hd with y | y
        · rw [y]; rcases he with y' | y' <;> omega
        · exact i.2 d y
    intro b
    unfold T3.at
    split
    · exact all 0 _ h0.1
    · split
      · exact all 1 _ h1.1
      · exact all 2 _ h2.1
end Kt
namespace Kt
open PySem PySem.Spec PyProof.Rows L2
theorem is01_bhd {hm : V} {k b : Int} (hb : Is01 b) : Is01 (bhd hm k b) := by
  unfold bhd; split
  · exact .inl rfl
  · exact hb
theorem is01_other {b : Int} (hb : Is01 b) : Is01 (1 - b) := by rcases hb with y | y <;> subst y; exact .inr rfl; exact .inl rfl
/-- s and the signs cs behind -/
def catS (s : Str) (cs : List Nat) : Str := cs.foldl (fun s c => s ++ sg c) s
theorem catS_list : ∀ (cs : List Nat) (s : Str), (catS s cs).cps.toList = s.cps.toList ++ cs
  | [], s => by simp [catS]
  | c :: cs, s => by
    have ih := catS_list cs (s ++ sg c)
    have e : (s ++ sg c).cps.toList = s.cps.toList ++ [c] := by
      rw [Str.cps_append]; simp [sg]
    show (catS (s ++ sg c) cs).cps.toList = _
    rw [ih, e]; simp
theorem catS_all (x : Str) : catS (Str.ofString "") x.cps.toList = x := by
  have h := catS_list x.cps.toList (Str.ofString "")
  have e : (Str.ofString "").cps.toList = [] := by decide +kernel
  rw [e, List.nil_append] at h
  obtain ⟨a⟩ := x
  generalize catS (Str.ofString "") a.toList = y at h
  obtain ⟨b⟩ := y
  have h2 : b.toList = a.toList := h
  rw [Array.toList_inj.mp h2]
theorem rdStep_own {z o : Str} {hm : V} (g : Good z o hm) {c : Nat} {b : Int} (s : Str) (hb : Is01 b) (h : 0 ≤ cod z o c b) : rdStep z o hm (s, b) (cod z o c b) = (s ++ sg c, bhd hm (cod z o c b) b) := by
  have lt := (cod_lt g c b).1
  unfold rdStep bhd
  rw [if_neg (by omega)]
  have e := cod_sign hb h
  unfold at01 at e
  show (s ++ sg ((if b = 0 then z else o).cps.toList.getD (cod z o c b).toNat 0), _) = _
  rw [e]
theorem rdStep_shift {z o : Str} {hm : V} {b e : Int} (s : Str) (he : Is01 e) : rdStep z o hm (s, b) ((z.cps.size : Int) + e) = (s, e) := by
  unfold rdStep
  rw [if_pos (by rcases he with y | y <;> omega)]
  show (s, (z.cps.size : Int) + e - z.cps.size) = (s, e)
  congr 1; omega
theorem Tells.read {z o : Str} {hm : V} (g : Good z o hm) : ∀ {cs : List Nat} {t : T3}, Tells z o hm cs t → (∀ c ∈ cs, InSet z o c) → ∀ b s, Is01 b → ((t.at b).foldl (rdStep z o hm) (s, b)).1 = catS s cs := by
  intro cs t h
  induction h with
  | nil =>
    intro _ b s hb
    rcases hb with e | e <;> subst e <;> rfl
  | @cons c cs r t h h0 h1 h2 ih =>
    intro hs b s hb
    have ins := hs c List.mem_cons_self
    have ih' := ih fun d hd => hs d (List.mem_cons_of_mem _ hd)
    have own : ∀ e, Is01 e → 0 ≤ cod z o c e → ((pOf z o hm c r e).foldl (rdStep z o hm) (s, e)).1 = catS s (c :: cs) := fun e he k => by
      unfold pOf
      rw [List.foldl_cons, rdStep_own g s he k, ih' _ _ (is01_bhd he)]
      rfl
    have f := Tells.first hb h0 h1
    by_cases q : GoodNow z o hm c r b
    · rw [first_good g hb f q]; exact own b hb q.1
    · obtain ⟨k, _, _, e⟩ := first_else g ins hb f q
      rw [e, List.foldl_cons, rdStep_shift s (is01_other hb)]
      exact own _ (is01_other hb) k
/-- what the law reckons: the least length by the sign's own code -/
def rowC (z o : Str) (hm : V) (c : Nat) (r : T3) (b : Int) : Int := if 0 ≤ cod z o c b then min 1000 (1 + ((r.at (bhd hm (cod z o c b) b)).length : Int)) else 1000
theorem pOf_len (z o : Str) (hm : V) (c : Nat) (r : T3) (b : Int) : ((pOf z o hm c r b).length : Int) = 1 + ((r.at (bhd hm (cod z o c b) b)).length : Int) := by
  unfold pOf; rw [List.length_cons]; omega
theorem cost_of {z o : Str} {hm : V} (g : Good z o hm) {c : Nat} {cs : List Nat} {r t : T3} {b : Int} (hr : Tells z o hm cs r) (hl : cs.length ≤ 400) (ins : InSet z o c) (hb : Is01 b) (f : IsFirst (plainL z o hm c r b ++ shiftL z o hm c r) (t.at b)) :
    ((t.at b).length : Int) = min (rowC z o hm c r b) (rowC z o hm c r (1 - b) + 1) := by
  have s1 := (Tells.short g hr (bhd hm (cod z o c b) b)).1
  have s2 := (Tells.short g hr (bhd hm (cod z o c (1 - b)) (1 - b))).1
  have l1 := pOf_len z o hm c r b
  have l2 := pOf_len z o hm c r (1 - b)
  unfold rowC
  by_cases q : GoodNow z o hm c r b
  · rw [first_good g hb f q, if_pos q.1]
    by_cases k : 0 ≤ cod z o c (1 - b)
    · have := q.2 k
      rw [if_pos k]; omega
    · rw [if_neg k]; omega
  · obtain ⟨k, _, far, e⟩ := first_else g ins hb f q
    rw [e, if_pos k, List.length_cons]
    by_cases k2 : 0 ≤ cod z o c b
    · have := far k2
      rw [if_pos k2]; omega
    · rw [if_neg k2]; omega
/-- the law's own look: the code is good where it leads to as few -/
theorem good_iff {z o : Str} {hm : V} (g : Good z o hm) {c : Nat} {cs : List Nat} {r t : T3} {b : Int} (ins : InSet z o c) (hb : Is01 b) (f : IsFirst (plainL z o hm c r b ++ shiftL z o hm c r) (t.at b)) (h : 0 ≤ cod z o c b) :
    (1 + ((r.at (bhd hm (cod z o c b) b)).length : Int) = ((t.at b).length : Int)) ↔ GoodNow z o hm c r b := by
  have l1 := pOf_len z o hm c r b
  constructor
  · intro e
    by_cases q : GoodNow z o hm c r b
    · exact q
    · obtain ⟨k, _, far, e2⟩ := first_else g ins hb f q
      have := far h
      rw [e2, List.length_cons] at e
      omega
  · intro q
    rw [first_good g hb f q]; omega
/-- the codes of a sign in a set, as the law finds them -/
def codesL (s : Str) (c : Nat) : List Int := ((List.range s.cps.size).filter fun k => decide (s.cps.toList[k]? = some c)).map fun k => ((k : Nat) : Int)
theorem filter_one {p : Nat → Bool} {k : Nat} : ∀ n, k < n → p k = true → (∀ j, j < n → p j = true → j = k) → (List.range n).filter p = [k]
  | 0, h, _, _ => absurd h (Nat.not_lt_zero _)
  | n + 1, h, hk, hu => by
    rw [List.range_succ, List.filter_append]
    by_cases e : k = n
    · subst e
      have : (List.range k).filter p = [] := List.filter_eq_nil_iff.mpr fun j hj q => by
        have hj := List.mem_range.mp hj
        have := hu j (by omega) q
        omega
      rw [this]; simp [hk]
    · rw [filter_one n (by omega) hk fun j hj q => hu j (by omega) q]
      have : p n = false := by
        cases q : p n with
        | false => rfl
        | true => exact absurd (hu n (Nat.lt_succ_self _) q) (Ne.symm e)
      simp [this]
theorem codesL_eq {s : Str} (hn : s.cps.toList.Nodup) (c : Nat) : codesL s c = if 0 ≤ fi s c then [fi s c] else [] := by
  unfold codesL
  rcases fi_spec s c with ⟨e, h⟩ | ⟨k, e, h⟩
  · rw [e, if_neg (by decide), List.filter_eq_nil_iff.mpr fun j _ q => h (List.mem_of_getElem? (of_decide_eq_true q))]; rfl
  · rw [e, if_pos (by omega)]
    have hk := (List.getElem?_eq_some_iff.mp h).1
    rw [Array.length_toList] at hk
    rw [filter_one s.cps.size hk (decide_eq_true h) fun j hj q => nd_ix hn (of_decide_eq_true q) h]; rfl
end Kt
namespace Kt
open PySem PySem.Spec PyProof.Rows L2
/-! ### reversed(s), s a text -/
theorem str_norev : typeLookup (.type "str") "__reversed__" = pure none := by
  rw [typeLookup_type, builtinLookup_eq_fast]; kernel_rfl
theorem str_item : typeLookup (.type "str") "__getitem__" = pure (some (.builtin "str.__getitem__")) := by
  rw [typeLookup_type, builtinLookup_eq_fast]; kernel_rfl
/-- the iterator it over x from its end, the next place i -/
def RevS (h : Heap) (it : Addr) (x : Str) (u : Tok) (i : Int) : Prop := ∃ o, h.get? it = some o ∧ o.cls = .type "reversed" ∧ o.data = .fields #[.str x u, rawInt i]
section
variable {prog : Program} {w : World} {A : Around} {E : Value → Shared → Prop} {s : Shared}
theorem RevS.ty {it : Addr} {x : Str} {u : Tok} {i : Int} (r : RevS s.heap it x u i) : s.TypeIs (.ref it) "reversed" := let ⟨o, ho, hc, _⟩ := r; ⟨o, ho, hc⟩
set_option maxHeartbeats 1000000 in
theorem rev_new {x : Str} {u : Tok} {Q : Value → Shared → Prop} (hz : x.length ≤ sizeLine)
    (h : ∀ tk, Q (.ref s.heap.objs.size) { s with heap := s.heap.push { cls := .type "reversed", data := .fields #[.str x u, rawInt ((x.length : Int) - 1)] }, toks := tk }) : wpAny (model prog w) A (call (.type "reversed") [.str x u]) Q E s := by
  have ty : s.TypeIs (.str x u) "str" := typeIs_str s x u
  rw [sizeLine_eq] at hz
  refine callType_codes (Q₁ := fun ob s₁ => s₁.TypeIs ob "reversed" ∧ Q ob s₁) RT.called_rt (PySem.F.typeCall_reversed_1 _) PySem.F.entry_object_init (codeAny_of_tree ?_) fun ob s₁ k => ?_
  · show wpAny _ _ (do checkBuiltinCall "reversed.__new__" ⟨[.type "reversed", .str x u], []⟩; again (.builtin "reversed.__new__" ⟨[.type "reversed", .str x u], []⟩)) _ _ s
    refine wpAny_bind (wpAny_of_eq (PySem.F.newCall_reversed_1 _) (wpAny_pure ⟨plainId_quiet PySem.F.plain_reversed_new _, codeAny_builtin PySem.F.entry_reversed_new ?_⟩))
    rw [Around.under_plainId PySem.F.plain_reversed_new _]
    unfold Builtin.«reversed.__new__»
    refine wpAny_bind (wpAny_of_eq (newClass_reversed _) ?_); try dsimp only
    refine wpAny_bind (wpAny_of_eq (a := ()) (by first | rfl | kernel_rfl) ?_); try dsimp only
    refine wpAny_bind (wpAny_of_eq (a := ()) (by first | rfl | kernel_rfl) ?_); try dsimp only
    refine wpAny_bind (wpAny_specialOf ty str_norev ?_); try dsimp only
    refine wpAny_bind ?_
    wp_delta
    refine wpAny_bind (wpAny_isInstance (T := "str") (U := "dict") (b := false) ty PySem.F.sub_str_dict ?_); try dsimp only
    try rw [if_neg Bool.false_ne_true]
    try dsimp only
    refine wpAny_bind (wpAny_specialOf ty str_item ?_); try dsimp only
    try rw [if_pos (by decide +kernel)]
    refine wpAny_pure ?_
    try dsimp only
    try rw [if_neg (by decide)]
    try dsimp only
    refine wpAny_bind (PySem.P.len_str (by omega) ?_)
    refine wpAny_bind (wpAny_of_eq (a := some ((x.length : Nat) : Int)) rfl ?_); try dsimp only
    refine wpAny_bind (m := newObj (.type "reversed") (.fields #[.str x u, rawInt ((x.length : Int) - 1)])) ?_
    exact wpAny_newObj_type (wpAny_pure ⟨⟨_, Heap.get?_push_size _ rfl, rfl⟩, h _⟩)
  · exact ⟨k.1, PySem.F.args_object_init_2 ob _, object_init_meets RT.called_rt.init.lookup RT.called_rt.made (by decide) prog w A.in1 _ s₁ ⟨k.1, rfl, k.2⟩⟩
set_option maxHeartbeats 1000000 in
theorem rev_item {it : Addr} {x : Str} {u : Tok} {i c : Nat} {Q : Option Value → Shared → Prop} (r : RevS s.heap it x u (i : Int)) (hx : x.cps[i]? = some c) (hz : x.length ≤ sizeLine)
    (hQ : ∀ h' t tk, RevS h' it x u ((i : Int) - 1) → Heap.SameBut it s.heap h' → Q (some (.str (sg c) t)) { s with heap := h', toks := tk }) : wpAny (model prog w) A (pyNext (.ref it)) Q E s := by
  obtain ⟨o, ho, hc, hd⟩ := id r
  have hi : i < x.length := (Array.getElem?_eq_some_iff.mp hx).1
  have ty : s.TypeIs (.str x u) "str" := typeIs_str s x u
  rw [sizeLine_eq] at hz
  unfold pyNext
  refine wpAny_bind (wpAny_attempt (wpAny_callSpecial?_slot (name := Str.ofString "__next__") r.ty RT.slot_rt_next (wpAny_call_entry RT.slot_rt_next r.ty RT.entry_rt_next ?_ (RT.args_rt_next _))))
  unfold Builtin.«reversed.__next__»
  refine wpAny_bind (wpAny_of_eq (a := (Value.ref it, [])) rfl ?_); try dsimp only
  refine wpAny_bind (wpAny_field ho hd (x := .str x u) rfl ?_); try dsimp only
  refine wpAny_bind (wpAny_field ho hd (x := rawInt (i : Int)) rfl ?_)
  show wpAny _ _ (if (i : Int) < 0 then _ else _) _ _ s
  rw [if_neg (by omega)]
  try dsimp only
  refine wpAny_bind (wpAny_specialOf ty str_item ?_); try dsimp only
  try rw [if_neg (by decide)]
  try dsimp only
  refine wpAny_bind (wpAny_mkInt (wpAny_bind (wpAny_attempt ?_)))
  have sq : (seqIndex? (i : Int) x.length).bind (x.cps[·]?) = some c := by
    rw [(ixN_seq (ix_ok rfl hi)).1]; exact hx
  refine PySem.P.getItem_str (s := { s with toks := s.toks + 1 }) (by
    have e1 : decide ((i : Int) < -(2 ^ 63 : Int)) = false := decide_eq_false (by omega)
    have e2 : decide ((i : Int) ≥ 2 ^ 63) = false := decide_eq_false (by omega)
    rw [e1, e2] <;> rfl) sq ?_
  try dsimp only
  refine wpAny_bind (wpAny_field (s := { s with toks := s.toks + 1 + 1 }) ho hd (x := rawInt (i : Int)) rfl ?_); try dsimp only
  refine wpAny_bind (wpAny_setField (s := { s with toks := s.toks + 1 + 1 }) ho hd (by simp) ?_)
  have new : RevS (s.heap.update it (Obj.mapFields (·.setIfInBounds 1 (rawInt ((i : Int) - 1))))) it x u ((i : Int) - 1) :=
    ⟨_, Heap.get?_update_self _ ho (Obj.isFreed_of_fields (Obj.data_mapFields hd _)), (Obj.cls_mapFields ..).trans hc, by rw [Obj.data_mapFields hd]; simp⟩
  first
  | exact wpAny_pure ⟨_, rfl, wpAny_pure (hQ _ _ _ new (Heap.SameBut.update ..))⟩
  | exact wpAny_bind (wpAny_pure (wpAny_pure ⟨_, rfl, wpAny_pure (hQ _ _ _ new (Heap.SameBut.update ..))⟩))
set_option maxHeartbeats 1000000 in
theorem rev_end {it : Addr} {x : Str} {u : Tok} {Q : Option Value → Shared → Prop} (hh : A.handled = none) (r : RevS s.heap it x u (-1))
    (hQ : ∀ h', Heap.ExtBut it s.heap h' → Q none { s with heap := h' }) : wpAny (model prog w) A (pyNext (.ref it)) Q E s := by
  obtain ⟨o, ho, hc, hd⟩ := id r
  unfold pyNext
  refine wpAny_bind (wpAny_attempt (wpAny_callSpecial?_slot (name := Str.ofString "__next__") r.ty RT.slot_rt_next (wpAny_call_entry RT.slot_rt_next r.ty RT.entry_rt_next ?_ (RT.args_rt_next _))))
  unfold Builtin.«reversed.__next__»
  refine wpAny_bind (wpAny_of_eq (a := (Value.ref it, [])) rfl ?_); try dsimp only
  refine wpAny_bind (wpAny_field ho hd (x := .str x u) rfl ?_); try dsimp only
  refine wpAny_bind (wpAny_field ho hd (x := rawInt (-1)) rfl ?_)
  show wpAny _ _ (if (-1 : Int) < 0 then _ else _) _ _ s
  rw [if_pos (by decide)]
  try dsimp only
  refine wpAny_bind (wpAny_rule (wpAny_bind ?_))
  wp_delta
  refine wpAny_bind (wpAny_setField ho hd (by simp) ?_)
  have ho2 := Heap.get?_update_self (Obj.mapFields (·.setIfInBounds 1 (rawInt (-1)))) ho (Obj.isFreed_of_fields (Obj.data_mapFields hd _))
  refine wpAny_setField (s := { s with heap := s.heap.update it (Obj.mapFields (·.setIfInBounds 1 (rawInt (-1)))) }) ho2 (Obj.data_mapFields hd _) (by simp) ?_
  try dsimp only
  first
  | show wpAny _ _ (newExc (.type "StopIteration") [] >>= _) _ _ _
  | (refine wpAny_bind ?_; show wpAny _ _ (newExc (.type "StopIteration") [] >>= _) _ _ _)
  | (refine wpAny_bind ?_; wp_delta; show wpAny _ _ (newExc (.type "StopIteration") [] >>= _) _ _ _)
  refine wpAny_bind ?_
  simp only [newExc, newTuple]
  refine wpAny_bind (wpAny_newObj_type (wpAny_bind (m := firstArgMember _ _) (wpAny_of_eq (a := Value.none) (by first | rfl | (simp only [firstArgMember]; rfl)) ?_)) (by size_fits))
  refine wpAny_newObj_type ?_ (by size_fits)
  simp only [raiseNew]
  refine wpAny_bind (wpAny_handled ?_)
  first | rw [show A.in1.handled = none from hh] | rw [hh]
  refine wpAny_bind (wpAny_pure (wpAny_throw ?_))
  refine wpAny_bind (wpAny_isInstance (T := "StopIteration") (b := true) ⟨_, Heap.get?_push_size _ rfl, rfl⟩ isSubtype_stop (wpAny_pure (hQ _ ?_)))
  refine ((?_ : Heap.ExtBut it s.heap _).push _).push _
  exact fun b ob hb e => (Heap.get?_update_other _ _ (Ne.symm hb)).trans ((Heap.get?_update_other _ _ (Ne.symm hb)).trans e)
theorem rev_iter {it : Addr} {x : Str} {u : Tok} {i : Int} {Q : Value → Shared → Prop} (r : RevS s.heap it x u i) (h : Q (.ref it) s) : wpAny (model prog w) A (pyIter (.ref it)) Q E s :=
  wpAny_pyIter_slot r.ty RT.slot_rt_iter (wpAny_call_entry RT.slot_rt_iter r.ty RT.entry_rt_iter (show wpAny _ _ (ret (.ref it)) _ _ s from wpAny_pure ⟨_, rfl, "reversed", _, r.ty, RT.slot_rt_next.lookup, h⟩) (RT.args_rt_iter _))
end
/-- the signs of x from its end -/
def ItRs (x : Str) : It := ⟨fun i _ => i < x.cps.size, fun i H v H' => H' = H ∧ ∃ c, x.cps[x.cps.size - 1 - i]? = some c ∧ v = .str (sg c), fun i _ => x.cps.size ≤ i⟩
theorem turn_rs {P : Program} {w : World} {K : PySem.W.Frag} {tg : Expr} (x : Str) (u : Tok) (it : Addr) (hz : x.length ≤ sizeLine) : Turn P w K tg (ItRs x) [it] it (fun i h => i ≤ x.cps.size ∧ RevS h it x u ((x.cps.size : Int) - 1 - (i : Nat))) where
  mem := by simp
  obj := fun i h st b hb => by
    obtain rfl : b = it := by simpa using hb
    obtain ⟨_, o, e, _, d⟩ := st
    exact ⟨o, e, fun v z => by rw [d] at z; cases z⟩
  keep := fun i h h' ⟨a, o, e, r⟩ k => ⟨a, o, k it (by simp) o e, r⟩
  item := by
    intro X hP hw hK hc i pins s σ H E I hf st hg
    subst hP hw hK
    have hin : i < x.cps.size := hg
    obtain ⟨f0, f1, f2, f3, f4, f5⟩ := hf it (by simp)
    obtain ⟨_, hit⟩ := st
    rw [show (x.cps.size : Int) - 1 - ((i : Nat) : Int) = ((x.cps.size - 1 - i : Nat) : Int) by omega] at hit
    obtain ⟨c, hx⟩ : ∃ c, x.cps[x.cps.size - 1 - i]? = some c := ⟨_, Array.getElem?_eq_getElem (by omega)⟩
    refine rev_item hit hx hz fun h' t tk st' sb => ?_
    rw [show ((x.cps.size - 1 - i : Nat) : Int) - 1 = (x.cps.size : Int) - 1 - ((i + 1 : Nat) : Int) by omega] at st'
    have I1 : Inv X pins σ H { s with heap := h', toks := tk } := I.turned (t' := tk) (fun b o hb e => (sb.2 b hb).trans e) f0 f1 f3 f4 f5
    obtain ⟨o, e, y, d⟩ := id st'
    exact ⟨_, rfl, go_of (s := { s with heap := h', toks := tk }) e y d (by decide) ⟨.str (sg c), H, I1, ⟨t, rfl⟩, ⟨rfl, c, hx, rfl⟩, ⟨hin, st'⟩, fun b hb => (hf b hb).1⟩⟩
  done := by
    intro X hP hw hK hc i pins s σ H E I hf st hg
    subst hP hw hK
    obtain ⟨f0, f1, f2, f3, f4, f5⟩ := hf it (by simp)
    obtain ⟨hin, hit⟩ := st
    have hge : x.cps.size ≤ i := hg
    rw [show (x.cps.size : Int) - 1 - ((i : Nat) : Int) = -1 by omega] at hit
    exact rev_end (I.ok.hd hc) hit fun h' eb => ⟨rfl, I.turned (t' := s.toks) (fun b o hb e => eb b o hb e) f0 f1 f3 f4 f5⟩
  self := fun A i s Q E st h => rev_iter st.2 h
def iRevS (te : TE) : TI := fun σ H R => te σ H fun v H1 => ∃ x : Str, v = .str x ∧ x.length ≤ sizeLine ∧ R (ItRs x) H1
theorem pi_revS {X : Cx} {tg e : Expr} {te : TE} {p pos : Pos} (hg : Gl X "reversed") (hm : X.mg "reversed" = none) (he : PE X e te) (hs : starEach [e] X.env = (false, eval e X.env) :: starEach [] X.env := by rfl) : PI X tg (.Call (.Name "reversed" p) [e] [] pos) (iRevS te) := by
  refine ⟨fun pins s σ H R I h => ?_⟩
  refine Call_ (ld_blt I hg hm PyProof.Rows.boot_reversed (callWith_type1 (args_cons (thn (he.run pins s σ H _ I h) fun v s1 q => args_nil ?_) hs) hs rfl))
  obtain ⟨y, H1, I1, r1, x, rfl, hz, q⟩ := q
  obtain ⟨u, rfl⟩ := r1
  refine rev_new hz fun tk => rev_iter (x := x) (u := u) (i := (x.length : Int) - 1) ⟨_, Heap.get?_push_size _ rfl, rfl, rfl⟩ ?_
  refine pi_one I1 _ (turn_rs x u _ hz) ⟨Nat.zero_le _, ?_⟩ q
  exact ⟨_, Heap.get?_push_size _ rfl, rfl, by show Data.fields _ = Data.fields _; rw [show (x.cps.size : Int) - 1 - ((0 : Nat) : Int) = (x.length : Int) - 1 by show (x.cps.size : Int) - 1 - 0 = (x.cps.size : Int) - 1; omega]⟩
end Kt
namespace Kt
open PySem PySem.Spec PyProof.Rows L2
section
variable {prog : Program} {w : World} {A : Around} {E : Value → Shared → Prop} {s : Shared} {Q : Value → Shared → Prop}
set_option maxHeartbeats 4000000 in
theorem minTapes {l f : Addr} {as : List Addr} {tp : Nat → List Int} (hh : A.handled = none) (hu : A.units + 80 < cLine) (hl : s.heap.IsList l (as.map Value.ref).toArray) (ht : ∀ i a, as[i]? = some a → TapeAt s.heap a (tp i)) (hne : 0 < as.length)
    (key : ∀ i a, as[i]? = some a → ∀ h tk, Ext s.heap h → wpAny (model prog w) A.in1 (call (.ref f) [.ref a]) (fun v s' => ∃ h' tk', s' = { s with heap := h', toks := tk' } ∧ Ext h h' ∧ KeyAt h' a (tp i) v) (fun _ _ => False) { s with heap := h, toks := tk })
    (hQ : ∀ i a h' tk', as[i]? = some a → Best tp i (as.length - 1) → Ext s.heap h' → Q (.ref a) { s with heap := h', toks := tk' }) :
    wpAny (model prog w) A (call (.builtin "min") [.ref l] [(Str.ofString "key", .ref f)]) Q E s := by
  have nm : (toString "min" ++ toString ".loop" : String) = "min.loop" := by decide
  obtain ⟨ol, hol, hlr⟩ := id hl
  have ll : l < s.heap.objs.size := Heap.lt_size hol
  refine kmk_tree PySem.F.kind_min PySem.F.plain_min PySem.F.entry_min (kmk_min_key _ _) ?_
  refine wpAny_bind (m := Builtin.Builtins.bindParams "min" ["key", "default"] 0 ⟨[], [(Str.ofString "key", .ref f)]⟩) (wpAny_of_eq (a := [some (.ref f), none]) rfl ?_)
  refine wpAny_bind (wpAny_pure ?_)
  refine wpAny_bind (wpAny_pyIter_list hl ?_)
  refine wpAny_bind (wpAny_newList ?_ (Nat.zero_le _))
  rw [nm]
  generalize hJo : ({ cls := .type "list_iterator", data := .fields #[.ref l, .int 0 0] } : Obj) = oJ
  have fJ : oJ.isFreed = false := by rw [← hJo] <;> rfl
  have zS : (s.heap.push oJ).objs.size = s.heap.objs.size + 1 := Heap.size_push ..
  generalize hH : (s.heap.push oJ).push { cls := .type "list", data := .seq ([] : List Value).toArray } = H
  have eH : Ext s.heap H := fun b o q => by rw [← hH]; exact Heap.get?_push_of_some _ (Heap.get?_push_of_some _ q)
  have gJ : H.get? s.heap.objs.size = some oJ := by rw [← hH]; exact Heap.get?_push_of_some _ (Heap.get?_push_size _ fJ)
  have gS : H.get? (s.heap.push oJ).objs.size = some (seqObj "list" #[] 0) := by rw [← hH]; exact Heap.get?_push_size _ rfl
  have zJ : s.heap.get? s.heap.objs.size = none := Heap.get?_none_of_le (Nat.le_refl _)
  have zS0 : s.heap.get? (s.heap.push oJ).objs.size = none := Heap.get?_none_of_le (by rw [zS]; exact Nat.le_succ _)
  have lJ : l ≠ s.heap.objs.size := Nat.ne_of_lt ll
  have SJ : (s.heap.push oJ).objs.size ≠ s.heap.objs.size := by rw [zS]; exact Nat.ne_of_gt (Nat.lt_succ_self _)
  generalize (s.heap.push oJ).objs.size = S at gS zS0 SJ
  generalize hJ : s.heap.objs.size = J at gJ zJ lJ SJ
  refine wpAny_pure ⟨plainId_quiet PySem.F.plain_min_loop _, ?_⟩
  have M : MinW prog w A s s.heap l f J S as tp := ⟨hh, hu, hl, ht, lJ, SJ, zJ, zS0, key⟩
  have W := Walks.list (prog := prog) (w := w) (A := A.in1) hh J l lJ (as.map Value.ref).toArray
  have size : (as.map Value.ref).toArray.size = as.length := by simp
  refine codeAny_builtin PySem.F.entry_min_loop ?_
  rw [Around.under_plainId PySem.F.plain_min_loop _]
  refine wpAny_bind (m := seqItems? (.ref S)) (wpAny_seqItems gS rfl ?_)
  refine wpAny_bind (wpAny_tryCatch (W.item 0 _ _ _ (by rw [size]; exact hne) ⟨⟨oJ, gJ, by rw [← hJo], by rw [← hJo] <;> rfl⟩, hl.at fun o q => eH _ o q⟩ fun v h1 tk1 hv st k => ?_))
  obtain ⟨d, hd, rfl⟩ : ∃ d, as[0]? = some d ∧ v = .ref d := by
    have q : (as.map Value.ref)[0]? = some v := by simpa using hv
    obtain ⟨d, q1, q2⟩ := at_map q
    exact ⟨d, q1, q2⟩
  have e1 : Ext s.heap h1 := fun b o q => k b o (fun z => by
    rw [List.mem_singleton.mp z, zJ] at q; cases q) (eH b o q)
  have S1 := k S _ (by simpa using SJ) gS
  refine wpAny_bind (m := tryCatch (holding [Value.ref d] (call (.ref f) [.ref d])) _) (wpAny_tryCatch (wpAny_holding (wpAny_mono (key 0 d hd h1 tk1 e1) (fun x s2 he => ?_) fun _ _ z => z.elim)))
  obtain ⟨h2, tk2, rfl, g, k2⟩ := he
  have S2 := g _ _ S1
  have sb := Heap.SameBut.update h2 S (Obj.mapSeq fun _ => #[Value.ref d, x])
  obtain ⟨c2, hc2⟩ : ∃ c2, (h2.update S (Obj.mapSeq fun _ => #[Value.ref d, x])).get? S = some (seqObj "list" #[Value.ref d, x] c2) := ⟨_, get?_update_seq S2 fun _ => #[Value.ref d, x]⟩
  refine wpAny_bind (m := updateSeq S (fun _ => #[Value.ref d, x])) ?_
  refine wpAny_updateSeq S2 rfl ?_
  rw [nm]
  refine wpAny_pure ⟨plainId_quiet PySem.F.plain_min_loop _, minLoop M (fun i a h' tk' ha b e => hQ i a h' tk' ha b e) _ 0 0 _ _ d x c2 rfl hne (fun b o q => (sb.2 b fun z => by rw [z, zS0] at q; cases q).trans (g b o (e1 b o q))) hc2 ?_ ?_ hd ?_⟩
  · obtain ⟨o, y1, y2⟩ := st.1
    exact ⟨o, (sb.2 J SJ.symm).trans (g _ _ y1), y2⟩
  · obtain ⟨T, t, n, q, y⟩ := k2
    refine ⟨T, t, n, q, (sb.2 T fun q2 => ?_).trans y⟩
    rw [q2, S2] at y
    have q3 : Value.type "list" = Value.type "tuple" := congrArg Obj.cls (Option.some.inj y)
    exact absurd q3 (by decide)
  · refine ⟨Nat.le_refl _, fun k hk => ?_⟩
    obtain rfl : k = 0 := by omega
    exact ⟨ltK_irrefl _, fun q => absurd q (Nat.lt_irrefl _)⟩
end
end Kt
namespace Kt
open PySem PySem.Spec PyProof.Rows L2
section
variable {prog : Program} {w : World} {A : Around} {E : Value → Shared → Prop} {s : Shared}
/-- x ↦ (len(x), x) of a tape -/
theorem lamKey {f a c' : Addr} {name qual x : Str} {params : Arguments} {scope : Scope} {cl : List (Str × Addr)} {pm ctv : Value} {p1 p2 p3 p4 p5 : Pos} {k : Nat} {ns : List Int} {mg mb : Str → Option Value}
    (hf : s.heap.get? f = some (PySem.W.kla_obj name qual params (.Tuple [.Call (.Name ("len" : Str) p1) [.Name x p2] [] p3, .Name x p4] k p5) scope cl pm c' ctv)) (hcd : s.heap.CodeRec (.ref c') qual)
    (hd : A.depth < recursionLimit) (hk : scope.kind = .function) (hco : scope.isCoroutine = false) (hgen : scope.isGenerator = false) (cell : ∀ y ∈ scope.names, y.2 ≠ .cell) (hx : scope.names.lookup x = some .local) (hlen : scope.names.lookup ("len" : Str) = some .globalImplicit)
    (hbind : bindArgs (PySem.W.kla_fn name qual params (.Tuple [.Call (.Name ("len" : Str) p1) [.Name x p2] [] p3, .Name x p4] k p5) scope cl pm (.ref c') ctv) ⟨[.ref a], []⟩ = pure [(x, .ref a)])
    (glob : s.heap.Ns mainGlobals mg) (hm : mg ("len" : Str) = none) (blt : s.heap.Ns builtinsNs mb) (hb : mb ("len" : Str) = some (.builtin "len")) (lim : s.heap.NoLimit) (ha : TapeAt s.heap a ns) (hz : ns.length ≤ 1000000) (hdb : (x == ("__debug__" : Str)) = false) :
    wpAny (model prog w) A (call (.ref f) [.ref a]) (fun v s' => ∃ h' tk', s' = { s with heap := h', toks := tk' } ∧ Ext s.heap h' ∧ KeyAt h' a ns v) E s := by
  refine wpAny_call (codeAny_mono (R := fun r s' => ∃ v, r = .ok (.ret v) ∧ ∃ h' tk', s' = { s with heap := h', toks := tk' } ∧ Ext s.heap h' ∧ KeyAt h' a ns v) (PySem.W.kla_callFunE hd hf rfl hco hgen rfl hcd ?_) fun r s' h => ?_)
  · rw [hbind]
    refine wpAny_pure (wpAny_newFunctionEnv cell (fun y hy => ?_) (fun h1 hns hsb => ⟨lim.fresh _ hsb, ?_⟩) hk)
    · rw [List.mem_singleton.mp hy]; exact hx
    have g1 : Ext s.heap h1 := fun b o q => (hsb.2 b (Nat.ne_of_lt (Heap.lt_size q))).trans (Heap.get?_push_of_some _ q)
    generalize hL : s.heap.objs.size = L at hns hsb ⊢
    show codeAny _ _ (.expr _ (PySem.W.envX qual scope L f (.ref c') cl)) _ _
    refine PySem.W.kla_codeExpr ?_
    have nm : ([((x, .ref a) : Str × Value)].reverse.lookup x) = some (.ref a) := by simp
    refine Tuple_ (args_cons (Call_ (Calls.Name_function_global hk (show Env.kindOf _ _ = _ from hlen) (Calls.loadGlobal_builtin (glob.keeps g1) hm (blt.keeps g1) hb ?_) (by decide)) rfl) rfl)
    refine callWith_builtin1 (args_cons (wpAny_Name (wpAny_loadName_local hk hx hns nm ?_) hdb) rfl) rfl rfl
    refine args_nil ?_
    obtain ⟨vs, hl, hi⟩ := ha.ext g1
    have hlen2 : vs.size = ns.length := by rw [← Array.length_toList]; exact hi.length
    refine Calls.call_len_list hl (by rw [hlen2]; omega) ?_
    refine args_cons (wpAny_Name (wpAny_loadName_local hk hx hns nm ?_) hdb) rfl
    refine args_nil ?_
    refine wpAny_newTuple ?_ (by show 2 ≤ sizeLine; decide)
    rw [hlen2]
    exact ⟨_, rfl, _, _, rfl, fun b o q => Heap.get?_push_of_some _ (g1 b o q), _, _, 0, rfl, Heap.get?_push_size _ rfl⟩
  · obtain ⟨v, rfl, q⟩ := h
    exact q
end
end Kt
namespace Kt
open PySem PySem.Spec PyProof.Rows L2
theorem vals_refs_inv : ∀ {as : List Addr} {us : List Value}, Vals (as.map V.ref) us → us = as.map Value.ref
  | [], _, .nil => rfl
  | a :: r, _, .cons h t => by
    have e : _ = Value.ref a := h
    rw [e, vals_refs_inv t]; rfl
section
variable {X : Cx} {pins : List (Addr × Obj)} {σ : L2.St} {H : Hp} {s : Shared}
/-- a lambda is made: all but the table of the def stays as it is -/
theorem lam3 {c P : Addr} {params : Arguments} {body : Expr} {scope : Scope} {pos : Pos} {E : Value → Shared → Prop} {Q : Value → Shared → Prop} (I : Inv X pins σ H s) (TB : LamX.TabB X.base X.mg c P) (hcode : X.env.code = .ref c)
    (hT : LamX.TabS H P (X.env.qual ++ "<lambda>")) (hdef : defaultsOf params X.env = ([], [])) (hfree : ∀ y ∈ scope.names, y.2 = .free → ∃ c, X.env.cells.lookup y.1 = some c)
    (h : ∀ (f c' : Addr) (pm ctv : Value) (H1 : Hp) (s' : Shared), Inv X pins σ H1 s' → (∀ b o, b ≠ P → H b = some o → H1 b = some o) → LamX.TabS H1 P (X.env.qual ++ "<lambda>") →
      s'.heap.get? f = some (PySem.W.kla_obj "<lambda>" (X.env.qual ++ "<lambda>") params body scope (cloFrom X.env.cells scope.names []) pm c' ctv) → H1 c' = some (LamX.CodeO c' (X.env.qual ++ "<lambda>")) → Q (.ref f) s') :
    wpAny (model X.prog X.w) X.A (eval (.Lambda params body scope pos) X.env) Q E s := by
  obtain ⟨ps, hP, ht, ha⟩ := hT
  refine PySem.W.kla_eval hdef ?_
  have bm := TB.bm.keeps I.bk
  have oP : s.heap.get? P = some { cls := .none, data := .fields ps } := I.hok P _ hP
  cases hc : codeAmong pos ps.toList with
  | none =>
    refine PySem.W.kla_makeFunction (mg := X.mg) (c := c) (P := P) (ps := ps) (closure_ok hfree) I.ok.glob (I.mod.glob.keeps I.bk) hcode (TB.code.keeps I.bk) oP ht hc TB.gP bm fun c' ctv h' tk hx hge hlt hrec htb => ?_
    obtain ⟨c2, oc, vs, t, e2, hoc, hd, hv⟩ := hrec
    cases e2
    have nC : H c' = none := I.hok.fresh hge
    have J := LamX.inv_table (t' := tk) (more := #[rawInt pos.line, rawInt pos.col, .ref c']) (h' := h'.push (PySem.W.kla_obj "<lambda>" (X.env.qual ++ "<lambda>") params body scope (cloFrom X.env.cells scope.names []) ((X.mg "__name__").getD .none) c' ctv)) I hP
      (fun b o hb e => Heap.get?_push_of_some _ (hx b o hb e)) (Heap.get?_push_of_some _ htb) hge ⟨oc, vs, t, Heap.get?_push_of_some _ hoc, hd, hv⟩
    have stay : ∀ b o, b ≠ P → H b = some o → upd (upd H P (.tbl (ps ++ #[rawInt pos.line, rawInt pos.col, .ref c']))) c' (LamX.CodeO c' (X.env.qual ++ "<lambda>")) b = some o := fun b o n e => by
      rw [upd_ne (ne_of_none e nC), upd_ne n]; exact e
    have eL : (ps ++ #[rawInt pos.line, rawInt pos.col, .ref c']).toList = ps.toList ++ [rawInt pos.line, rawInt pos.col, .ref c'] := by simp
    refine h h'.objs.size c' ((X.mg "__name__").getD .none) ctv _ _ J stay ⟨_, by rw [upd_ne (ne_of_none hP nC), upd_same], by rw [eL]; exact PySem.TriplesOk_snoc _ _ _ _ ht, fun p' cv hcv => ?_⟩ (Heap.get?_push_size _ rfl) upd_same
    rw [eL] at hcv
    rcases LamX.among_app _ ht hcv with z | z
    · obtain ⟨c0, e1, e2⟩ := ha p' cv z
      refine ⟨c0, e1, stay _ _ (fun q => ?_) e2⟩
      rw [q, hP] at e2
      exact LamX.codeO_ne ps (Option.some.inj e2).symm
    · exact ⟨c', z, upd_same⟩
  | some cv =>
    obtain ⟨c', rfl, hco⟩ := ha pos cv hc
    refine PySem.W.kla_makeFunctionHit (mg := X.mg) (c := c) (P := P) (ps := ps) (closure_ok hfree) I.ok.glob (I.mod.glob.keeps I.bk) hcode (TB.code.keeps I.bk) oP ht hc bm fun ctv h' tk hx hsz => ?_
    exact h h'.objs.size c' ((X.mg "__name__").getD .none) ctv H _ (I.kept fun b o e => Heap.get?_push_of_some _ (hx b o e)) (fun _ _ _ e => e) ⟨ps, hP, ht, ha⟩ (Heap.get?_push_size _ rfl) hco
end
/-- what stays where only the table at P may grow -/
def But (P : Addr) (H H' : Hp) : Prop := ∀ b o, b ≠ P → H b = some o → H' b = some o
theorem seqL_but {K : PySem.W.Frag} {P a : Addr} {H H' : Hp} {xs : List V} {ps : Array Value} (e : But P H H') (hP : H P = some (.tbl ps)) (h : SqL K H a xs) : SqL K H' a xs := by
  rcases h with (h | ⟨o, h⟩) | h
  · exact .inl (.inl (e _ _ (ne_of h hP (fun q => nomatch q)) h))
  · exact .inl (.inr ⟨o, e _ _ (ne_of h hP (fun q => nomatch q)) h⟩)
  · exact .inr h
/-- what the reading of min(.., key = lambda x: (len(x), x)) asks -/
def tMinK (K : PySem.W.Frag) (P : Addr) (q : Str) (ta : TE) : TE := fun σ H Q => ta σ H fun x H1 => ∃ (l : Addr) (as : List Addr) (tp : Nat → List Int), x = .ref l ∧ SqL K H1 l (as.map V.ref) ∧ 0 < as.length ∧
  (∀ i a, as[i]? = some a → SqL K H1 a ((tp i).map V.int) ∧ (tp i).length ≤ 1000000) ∧ LamX.TabS H1 P q ∧
  ∀ i a H2, as[i]? = some a → Best tp i (as.length - 1) → But P H1 H2 → LamX.TabS H2 P q → Q (.ref a) H2
section
variable {X : Cx}
theorem pe_minKey {c P : Addr} {k j : Nat} {x : Str} {params : Arguments} {scope : Scope} {a : Expr} {ta : TE} {p p1 p2 p3 p4 p5 lpos kpos pos : Pos} (hc : X.calm = true) (hr : Room j X.A) (hg : Gl X "min") (hm : X.mg "min" = none) (hml : X.mg "len" = none)
    (TB : LamX.TabB X.base X.mg c P) (hcode : X.env.code = .ref c) (ha : PE X a ta) (hk : scope.kind = .function) (hco : scope.isCoroutine = false) (hgen : scope.isGenerator = false) (cell : (scope.names.all fun y => !decide (y.2 = .cell) && !decide (y.2 = .free)) = true)
    (hx : scope.names.lookup x = some .local) (hlen : scope.names.lookup ("len" : Str) = some .globalImplicit) (hdef : defaultsOf params X.env = ([], []))
    (hbind : ∀ (q : Str) (cl : List (Str × Addr)) (pm cv ctv u : Value), bindArgs (PySem.W.kla_fn "<lambda>" q params (.Tuple [.Call (.Name ("len" : Str) p1) [.Name x p2] [] p3, .Name x p4] k p5) scope cl pm cv ctv) ⟨[u], []⟩ = pure [(x, u)])
    (hdb : (x == ("__debug__" : Str)) = false)
    (h1 : starEach [a] X.env = (false, eval a X.env) :: starEach [] X.env := by rfl) :
    PE X (.Call (.Name "min" p) [a] [⟨some "key", .Lambda params (.Tuple [.Call (.Name ("len" : Str) p1) [.Name x p2] [] p3, .Name x p4] k p5) scope lpos, kpos⟩] pos) (tMinK X.K P (X.env.qual ++ "<lambda>") ta) := by
  refine ⟨fun pins s σ H Q I h => ?_⟩
  have hfree : ∀ y ∈ scope.names, y.2 = .free → ∃ c, X.env.cells.lookup y.1 = some c := fun y hy e => by
    have := List.all_eq_true.mp cell y hy
    rw [e] at this; simp at this
  have hcell : ∀ y ∈ scope.names, y.2 ≠ .cell := fun y hy e => by
    have := List.all_eq_true.mp cell y hy
    rw [e] at this; simp at this
  refine wpAny_Call_Name_kw (ld_blt I hg hm PyProof.Rows.boot_min ?_)
  refine callWith_kw (args_cons (thn (ha.run pins s σ H _ I h) fun v s1 q => args_nil ?_) h1) (by rw [h1]; rfl) (by rw [h1]; rfl) rfl rfl
  · obtain ⟨x1, H1, I1, r1, l, as, tp, rfl, hl, hne, ht, hT, q⟩ := q
    cases r1
    show wpAny _ _ (evalAll ((do let v ← eval _ X.env; standAt pos; pure v) :: [])) _ _ s1
    have hP := hT
    obtain ⟨ps0, hP, _⟩ := hP
    refine wpAny_evalAll_cons (wpAny_bind (lam3 I1 TB hcode hT hdef hfree fun f c' pm ctv H2 s2 I2 eN T2 hf hcod => wpAny_bind (wpAny_standAt (wpAny_pure (wpAny_evalAll_nil ?_)))))
    show wpAny _ _ (call (.builtin "min") [.ref l] [(Str.ofString "key", .ref f)]) _ _ s2
    obtain ⟨its, rv, pl, hz⟩ := I2.list (seqL_but eN hP hl)
    have ei := vals_refs_inv rv
    subst ei
    have hlim := I2.nolimit
    have hgl := I2.mod.glob.keeps I2.bk
    obtain ⟨mb, hb1, hb2⟩ := I2.mod.blt
    have hb3 := hb1.keeps I2.bk
    obtain ⟨⟨oc, vs, t, y1, y2, y3⟩, _, _⟩ := I2.hok c' _ hcod
    have un := hr.un
    have tapes : ∀ i d, as[i]? = some d → TapeAt s2.heap d (tp i) := fun i d hd => by
      obtain ⟨its2, rv2, pl2, _⟩ := I2.list (seqL_but eN hP (ht i d hd).1)
      exact ⟨its2.toArray, pl2.isList, by simpa using ints_of_vals rv2⟩
    refine minTapes (I2.ok.hd hc) (by omega) pl.isList tapes hne (fun i d hd h tk e => ?_) fun i d h' tk' hd best e => ?_
    · have hf2 := e _ _ hf
      refine lamKey (s := { s2 with heap := h, toks := tk }) hf2 ⟨c', oc, vs, t, rfl, e _ _ y1, y2, y3⟩ ?_ hk hco hgen hcell hx hlen (hbind _ _ _ _ _ _) (hgl.keeps e) hml (hb3.keeps e) ((hb2 _ (by decide)).trans PySem.boot_len) (hlim.keeps e) ((tapes i d hd).ext e) (ht i d hd).2 hdb
      show X.A.depth < recursionLimit
      have := hr.dp; omega
    · exact ⟨.ref d, H2, I2.kept e, rfl, q i d H2 hd best eN T2⟩
end
end Kt
namespace Kt
open PySem PySem.Spec PyProof.Rows L2
/-! ### enumerate(s), s a text -/
def ItEs (x : Str) : It :=
  ⟨fun i _ => i < x.cps.size, fun i H v H' => ∃ T c, v = .ref T ∧ H T = none ∧ H' = upd H T (.tup [.int (i : Nat), .str (sg c)]) ∧ x.cps[i]? = some c, fun i _ => x.cps.size ≤ i⟩
theorem turn_enumS {P : Program} {w : World} {K : PySem.W.Frag} {elts : List Expr} {kk : Nat} {tpos : Pos} (x : Str) (t : Tok) (e it : Addr) (ty : String) (hty : ty = "str_ascii_iterator" ∨ ty = "str_iterator") :
    Turn P w K (.Tuple elts kk tpos) (ItEs x) [e, it] e (fun i h => (∃ old, IsEnum h e it ((i : Nat) : Int) old) ∧ i ≤ x.cps.size ∧ h.IsStrIter it ty x t i ∧ e ≠ it) where
  mem := by simp
  obj := fun i h st b hb => by
    obtain ⟨⟨old, he⟩, _, ⟨o, ho, hc, hd⟩, _⟩ := st
    have e' : b = e ∨ b = it := by simpa using hb
    rcases e' with z | z
    · rw [z]; exact ⟨_, he, fun v q => nomatch q⟩
    · rw [z]; exact ⟨o, ho, fun v q => by rw [hd] at q; cases q⟩
  keep := fun i h h' st k => let ⟨⟨old, he⟩, hle, ⟨o, ho, r⟩, hne⟩ := st; ⟨⟨old, k e (by simp) _ he⟩, hle, ⟨o, k it (by simp) o ho, r⟩, hne⟩
  item := by
    intro X hP hw hK hc i pins s σ H E I hf st hg
    subst hP hw hK
    obtain ⟨⟨old, he⟩, _, hit, hne⟩ := st
    have hin : i < x.cps.size := hg
    have hel : e < s.heap.objs.size := Heap.lt_size he
    have hil : it < s.heap.objs.size := by obtain ⟨_, q, _⟩ := hit; exact Heap.lt_size q
    have D : Draws X.prog X.w X.A.in1 it [it] x.cps.size (fun i v => ∃ c u, x.cps[i]? = some c ∧ v = .str ⟨#[c]⟩ u) (fun i h => h.IsStrIter it ty x t i) := by
      rcases hty with z | z
      · rw [z]; exact Draws.strAscii (A := X.A.in1) (I.ok.hd hc) it x t
      · rw [z]; exact Draws.strWide (A := X.A.in1) (I.ok.hd hc) it x t
    refine wpAny_pyNext_enum_itemD D he hit hin hne (by simpa using hne) fun v h' tk hv ho hit' hT hsz hk => ?_
    obtain ⟨c, u, hcx, rfl⟩ := hv
    refine ⟨_, rfl, wpAny_letOwnedTupleGo_enum (s := { s with heap := h', toks := tk + 1 }) ho fun h'' he' sb => ?_⟩
    have hT2 : h''.get? s.heap.objs.size = some { cls := .type "tuple", data := .seq #[.int i tk, .str ⟨#[c]⟩ u] } := (sb.2 _ (Nat.ne_of_gt hel)).trans hT
    have new : ObjOk X.prog X.w (upd H s.heap.objs.size (.tup [.int (i : Nat), .str (sg c)])) h'' s.heap.objs.size (.tup [.int (i : Nat), .str (sg c)]) :=
      ⟨by show 2 ≤ sizeLine; decide, [.int i tk, .str ⟨#[c]⟩ u], .cons ⟨_, rfl⟩ (.cons ⟨_, rfl⟩ .nil), ⟨_, hT2, rfl, _, rfl⟩⟩
    have I1 : Inv X pins σ (upd H s.heap.objs.size (.tup [.int (i : Nat), .str (sg c)])) { s with heap := h'', toks := tk + 1 } :=
      I.turnedNew (ch := [e, it]) (fun b ob hb q => (sb.2 b (fun z => hb (by simp [z]))).trans (hk b ob (fun z => hb (by simp [z])) (fun z => hb (by simp [z])) q)) hf (Nat.le_refl _) new
    refine ⟨.ref s.heap.objs.size, _, I1, rfl, ⟨_, c, rfl, I.hok.fresh (Nat.le_refl _), rfl, hcx⟩, ⟨⟨.str ⟨#[c]⟩ u, ?_⟩, hin, ?_, hne⟩, fun b hb => ?_⟩
    · have e1 : ((i + 1 : Nat) : Int) = (i : Int) + 1 := by omega
      rw [e1]; exact he'
    · obtain ⟨o, q, r⟩ := hit'
      exact ⟨o, (sb.2 it (Ne.symm hne)).trans q, r⟩
    · have hb' : b < s.heap.objs.size := by
        have e' : b = e ∨ b = it := by simpa using hb
        rcases e' with z | z
        · rw [z]; exact hel
        · rw [z]; exact hil
      rw [upd_ne (Nat.ne_of_lt hb')]
      exact (hf b hb).1
  done := by
    intro X hP hw hK hc i pins s σ H E I hf st hg
    subst hP hw hK
    obtain ⟨⟨old, he⟩, hle, hit, hne⟩ := st
    have hge : x.cps.size ≤ i := hg
    obtain rfl : i = x.cps.size := Nat.le_antisymm hle hge
    obtain ⟨f0, f1, f2, f3, f4, f5⟩ := hf it (by simp)
    have D : Draws X.prog X.w X.A.in1 it [it] x.cps.size (fun i v => ∃ c u, x.cps[i]? = some c ∧ v = .str ⟨#[c]⟩ u) (fun i h => h.IsStrIter it ty x t i) := by
      rcases hty with z | z
      · rw [z]; exact Draws.strAscii (A := X.A.in1) (I.ok.hd hc) it x t
      · rw [z]; exact Draws.strWide (A := X.A.in1) (I.ok.hd hc) it x t
    exact wpAny_pyNext_enum_endD D he hit fun h' eb => ⟨rfl, I.turned (t' := s.toks) (fun b o hb q => eb b o hb q) f0 f1 f3 f4 f5⟩
  self := fun A i s Q E st h => let ⟨⟨_, he⟩, _⟩ := st; wpAny_pyIter_enum he h
def iEnumS (ta : TA) : TI := fun σ H R => ta σ H fun vs H1 => ∃ x : Str, vs = [.str x] ∧ R (ItEs x) H1
theorem pi_enumS {X : Cx} {e : Expr} {ta : TA} {p pos tpos : Pos} {elts : List Expr} {kk : Nat} (hg : Gl X "enumerate") (hm : X.mg "enumerate" = none) (ha : PA X [e] ta) (hs : starEach [e] X.env = [(false, eval e X.env)] := by rfl) :
    PI X (.Tuple elts kk tpos) (.Call (.Name "enumerate" p) [e] [] pos) (iEnumS ta) := by
  refine ⟨fun pins s σ H R I h => ?_⟩
  refine Call_ (ld_blt I hg hm boot_enumerate (PyProof.Rows.callWith_type1 (thn (ha.run pos pins s σ H _ I h) fun us s1 ⟨vs, H1, I1, r1, q1⟩ => ?_) hs rfl))
  obtain ⟨x, ex, q⟩ := q1
  subst ex
  cases r1 with
  | cons r rr =>
    cases rr
    obtain ⟨t, rfl⟩ := r
    refine call_enumerate_str fun h' he hit hsz hk => wpAny_pyIter_enum he ?_
    have I2 : Inv X pins σ H1 { s1 with heap := h' } := I1.kept (t' := s1.toks) hk
    have hty : strIterType x = "str_ascii_iterator" ∨ strIterType x = "str_iterator" := by
      unfold strIterType
      split
      · first | exact .inl rfl | exact .inr rfl
      · first | exact .inr rfl | exact .inl rfl
    refine ⟨s1.heap.objs.size + 1, [s1.heap.objs.size + 1, s1.heap.objs.size], _, _, H1, rfl, I2, turn_enumS x t (s1.heap.objs.size + 1) s1.heap.objs.size _ hty, ⟨⟨.none, he⟩, Nat.zero_le _, hit, Nat.succ_ne_self _⟩, fun b hb => ?_, q⟩
    have e' : b = s1.heap.objs.size + 1 ∨ b = s1.heap.objs.size := by simpa using hb
    have hle : s1.heap.objs.size ≤ b := by
      rcases e' with z | z
      · rw [z]; exact Nat.le_add_right _ _
      · rw [z]; exact Nat.le_refl _
    exact I1.fpOk hle (I1.hok.fresh hle)
end Kt
namespace Kt
open PySem PySem.Spec PyProof.Rows L2
/-! ### two tables -/
structure Tw (P1 P2 : Addr) (q : Str) (H : Hp) : Prop where
  t1 : GxR.TabG H P1
  t2 : LamX.TabS H P2 q
structure Kq (P1 P2 : Addr) (q : Str) (H H' : Hp) : Prop where
  tw : Tw P1 P2 q H'
  at' : ∀ b o, b ≠ P1 → b ≠ P2 → H b = some o → H' b = some o
section
variable {P1 P2 : Addr} {q : Str} {H H1 H' : Hp}
theorem tabS_ne {b : Addr} {o : HO} (t : LamX.TabS H P2 q) (h : H b = some o) (n : ∀ ps, o ≠ .tbl ps) : b ≠ P2 := fun e => by
  obtain ⟨ps, h1, _⟩ := t
  rw [e, h1] at h
  exact n ps (Option.some.inj h).symm
theorem tabS_new {b : Addr} (t : LamX.TabS H P2 q) (h : H b = none) : b ≠ P2 := fun e => by
  obtain ⟨ps, h1, _⟩ := t
  rw [e, h1] at h
  cases h
theorem Kq.refl (t : Tw P1 P2 q H) : Kq P1 P2 q H H := ⟨t, fun _ _ _ _ h => h⟩
theorem Kq.trans (a : Kq P1 P2 q H H1) (b : Kq P1 P2 q H1 H') : Kq P1 P2 q H H' := ⟨b.tw, fun c o n1 n2 h => b.at' c o n1 n2 (a.at' c o n1 n2 h)⟩
theorem Tw.same (t : Tw P1 P2 q H) (s : Same H H') : Tw P1 P2 q H' := ⟨tab_same t.t1 fun o e => s _ o e, t.t2.ext s⟩
theorem Kq.same (t : Tw P1 P2 q H) (s : Same H H') : Kq P1 P2 q H H' := ⟨t.same s, fun b o _ _ h => s b o h⟩
theorem Kq.get {b : Addr} {o : HO} (k : Kq P1 P2 q H H') (t : Tw P1 P2 q H) (h : H b = some o) (n : ∀ ps, o ≠ .tbl ps) : H' b = some o := k.at' b o (tab_ne t.t1 h n) (tabS_ne t.t2 h n) h
theorem Kq.new {b : Addr} (k : Kq P1 P2 q H H') (h : H' b = none) : H b = none := by
  cases z : H b with
  | none => rfl
  | some o =>
    rw [k.at' b o (tab_new k.tw.t1 h) (tabS_new k.tw.t2 h) z] at h
    cases h
theorem Kq.kp (ne : P1 ≠ P2) (t : Tw P1 P2 q H) (k : Kp P1 H H') : Kq P1 P2 q H H' := by
  refine ⟨⟨k.tab, ?_⟩, fun b o n1 _ h => k.at' b o n1 h⟩
  obtain ⟨ps, h1, h2, h3⟩ := t.t2
  refine ⟨ps, k.at' _ _ ne.symm h1, h2, fun pos cv hc => ?_⟩
  obtain ⟨c, e1, e2⟩ := h3 pos cv hc
  exact ⟨c, e1, k.get t.t1 e2 fun ps => LamX.codeO_ne ps⟩
theorem Kq.but (ne : P1 ≠ P2) (t : Tw P1 P2 q H) (b : But P2 H H') (t2 : LamX.TabS H' P2 q) : Kq P1 P2 q H H' :=
  ⟨⟨tab_same t.t1 fun o e => b _ o ne e, t2⟩, fun c o _ n h => b c o n h⟩
theorem Kq.sh {t : Addr} {z o : Str} {hm : V} (k : Kq P1 P2 q H H') (tw : Tw P1 P2 q H) (h : Sh H t z o hm) : Sh H' t z o hm := k.get tw h fun _ e => (nomatch e)
theorem Kq.lst {a : Addr} {xs : List V} (k : Kq P1 P2 q H H') (tw : Tw P1 P2 q H) (h : H a = some (.lst xs)) : H' a = some (.lst xs) := k.get tw h fun _ e => (nomatch e)
theorem BoxAt.kq {b l : Addr} (x : BoxAt H b l) (tw : Tw P1 P2 q H) (k : Kq P1 P2 q H H') : BoxAt H' b l := by
  obtain ⟨ns, st, h1, h2⟩ := x
  exact ⟨ns, st, k.lst tw h1, k.lst tw h2⟩
theorem Bxd.tw {b l : Addr} (x : Bxd b l H H') (bx : BoxAt H b l) (t : Tw P1 P2 q H) : Tw P1 P2 q H' := by
  refine ⟨x.tab bx t.t1, ?_⟩
  obtain ⟨ps, h1, h2, h3⟩ := t.t2
  obtain ⟨ns, st, q1, q2⟩ := bx
  have st : ∀ c (o : HO), (∀ us, o ≠ .lst us) → H c = some o → H' c = some o := fun c o n e => x.at' c o (ne_of e q1 (n _)) (ne_of e q2 (n _)) e
  refine ⟨ps, st _ _ (fun _ e => nomatch e) h1, h2, fun pos cv hc => ?_⟩
  obtain ⟨c, e1, e2⟩ := h3 pos cv hc
  exact ⟨c, e1, st _ _ (fun us e => by unfold LamX.CodeO at e; cases e) e2⟩
end
/-! ### lists of tapes -/
def Rows (H : Hp) : List Addr → List (List Int) → Prop
  | [], [] => True
  | a :: as, u :: L => H a = some (.lst (u.map V.int)) ∧ Rows H as L
  | _, _ => False
theorem Rows.mono {H H' : Hp} (k : ∀ a (u : List Int), H a = some (.lst (u.map V.int)) → H' a = some (.lst (u.map V.int))) : ∀ {as : List Addr} {L : List (List Int)}, Rows H as L → Rows H' as L
  | [], [], _ => trivial
  | a :: as, u :: L, h => ⟨k _ _ h.1, Rows.mono k h.2⟩
  | [], _ :: _, h => h.elim
  | _ :: _, [], h => h.elim
theorem Rows.same {H H' : Hp} (s : Same H H') {as : List Addr} {L : List (List Int)} (h : Rows H as L) : Rows H' as L := h.mono fun a u e => s _ _ e
theorem Rows.len {H : Hp} : ∀ {as : List Addr} {L : List (List Int)}, Rows H as L → as.length = L.length
  | [], [], _ => rfl
  | a :: as, u :: L, h => congrArg (· + 1) (Rows.len h.2)
  | [], _ :: _, h => h.elim
  | _ :: _, [], h => h.elim
theorem Rows.app {H : Hp} : ∀ {as bs : List Addr} {L M : List (List Int)}, Rows H as L → Rows H bs M → Rows H (as ++ bs) (L ++ M)
  | [], _, [], _, _, g => g
  | a :: as, _, u :: L, _, h, g => ⟨h.1, Rows.app h.2 g⟩
  | [], _, _ :: _, _, h, _ => h.elim
  | _ :: _, _, [], _, h, _ => h.elim
theorem Rows.get {H : Hp} : ∀ {as : List Addr} {L : List (List Int)}, Rows H as L → ∀ {i : Nat} {a : Addr}, as[i]? = some a → ∃ u, L[i]? = some u ∧ H a = some (.lst (u.map V.int))
  | [], [], _, i, a, e => by simp at e
  | b :: as, u :: L, h, 0, a, e => by
    simp at e; subst e
    exact ⟨u, rfl, h.1⟩
  | b :: as, u :: L, h, i + 1, a, e => by
    obtain ⟨v, e1, e2⟩ := Rows.get h.2 (i := i) (a := a) (by simpa using e)
    exact ⟨v, by simpa using e1, e2⟩
  | [], _ :: _, h, _, _, _ => h.elim
  | _ :: _, [], h, _, _, _ => h.elim
def Three (H : Hp) (rs a0 a1 a2 : Addr) (r : T3) : Prop := H rs = some (.lst [.ref a0, .ref a1, .ref a2]) ∧ H a0 = some (.lst (r.t0.map V.int)) ∧ H a1 = some (.lst (r.t1.map V.int)) ∧ H a2 = some (.lst (r.t2.map V.int))
theorem Three.mono {H H' : Hp} {rs a0 a1 a2 : Addr} {r : T3} (k : ∀ a (us : List V), H a = some (.lst us) → H' a = some (.lst us)) (h : Three H rs a0 a1 a2 r) : Three H' rs a0 a1 a2 r := ⟨k _ _ h.1, k _ _ h.2.1, k _ _ h.2.2.1, k _ _ h.2.2.2⟩
def Is012 (b : Int) : Prop := b = 0 ∨ b = 1 ∨ b = 2
theorem Three.at {H : Hp} {rs a0 a1 a2 : Addr} {r : T3} (h : Three H rs a0 a1 a2 r) {b : Int} (hb : Is012 b) : ∃ a, atI [V.ref a0, V.ref a1, V.ref a2] b = some (.ref a) ∧ H a = some (.lst ((r.at b).map V.int)) ∧ (a = a0 ∨ a = a1 ∨ a = a2) := by
  rcases hb with e | e | e <;> subst e
  · exact ⟨a0, atI_nat (j := 0) rfl, h.2.1, .inl rfl⟩
  · exact ⟨a1, atI_nat (j := 1) rfl, h.2.2.1, .inr (.inl rfl)⟩
  · exact ⟨a2, atI_nat (j := 2) rfl, h.2.2.2, .inr (.inr rfl)⟩
def Short3 (r : T3) : Prop := ∀ b, (r.at b).length ≤ 500
theorem is012_bhd {hm : V} {k b : Int} (hb : Is012 b) : Is012 (bhd hm k b) := by
  unfold bhd; split
  · exact .inl rfl
  · exact hb
theorem behind_own {z o : Str} {hm : V} (g : Good z o hm) (c : Nat) (b : Int) : behind z hm (cod z o c b) b = bhd hm (cod z o c b) b := by
  have := (cod_lt g c b).1
  unfold behind bhd
  rw [if_neg (by omega)]
theorem best_first {L : List (List Int)} {i : Nat} (h : L ≠ []) (hi : i < L.length) (b : Best (fun j => L.getD j []) i (L.length - 1)) : IsFirst L (L.getD i []) := by
  have gd : ∀ j, j < L.length → L.getD j [] = L[j]! := fun j hj => by simp [List.getD_eq_getElem?_getD, hj]
  refine ⟨?_, fun u hu => ?_⟩
  · rw [List.getD_eq_getElem?_getD, List.getElem?_eq_getElem hi]
    exact List.getElem_mem hi
  · obtain ⟨k, hk, e⟩ := List.mem_iff_getElem.mp hu
    have := (b.2 k (by omega)).1
    have e2 : L.getD k [] = u := by rw [List.getD_eq_getElem?_getD, List.getElem?_eq_getElem hk, e]; rfl
    rw [← e2]; exact this
/-! ### the promises of the program -/
def spCheckText : Sp := fun vs H Q _ => ∃ (t : Addr) (z o : Str) (hm : V) (x : Str), vs = [.ref t, .str x] ∧ Good z o hm ∧ Sh H t z o hm ∧ x.cps.size ≤ 32 ∧ (∀ c ∈ x.cps.toList, InSet z o c) ∧ ∀ H', Same H H' → Q .non H'
def spCodeOf : Sp := fun vs H Q _ => ∃ (t : Addr) (z o : Str) (hm : V) (c : Nat) (now : Int), vs = [.ref t, .str (sg c), .int now] ∧ Good z o hm ∧ Sh H t z o hm ∧ Is012 now ∧ Q (.int (cod z o c now)) H
def spWithout : Sp := fun vs H Q _ => ∃ (t : Addr) (z o : Str) (hm : V) (c : Nat) (now : Int) (rs a0 a1 a2 : Addr) (r : T3), vs = [.ref t, .str (sg c), .int now, .ref rs] ∧ Good z o hm ∧ Sh H t z o hm ∧ Is012 now ∧ Three H rs a0 a1 a2 r ∧ Short3 r ∧
  ∀ p as H', Same H H' → H p = none → H' p = some (.lst (as.map V.ref)) → Rows H' as (plainL z o hm c r now) → (∀ a ∈ as, H a = none) → Q (.ref p) H'
def spFirst (P2 : Addr) (q : Str) : Sp := fun vs H Q _ => ∃ (l : Addr) (as : List Addr) (L : List (List Int)), vs = [.ref l] ∧ H l = some (.lst (as.map V.ref)) ∧ Rows H as L ∧ L ≠ [] ∧ (∀ u ∈ L, u.length ≤ 1000000) ∧ LamX.TabS H P2 q ∧
  ∀ a u H', But P2 H H' → LamX.TabS H' P2 q → a ∈ as → H a = some (.lst (u.map V.int)) → IsFirst L u → Q (.ref a) H'
def spWith (P1 P2 : Addr) (q : Str) : Sp := fun vs H Q _ => ∃ (t : Addr) (z o : Str) (hm : V) (c : Nat) (rs a0 a1 a2 : Addr) (r : T3), vs = [.ref t, .str (sg c), .ref rs] ∧ Good z o hm ∧ Sh H t z o hm ∧ Three H rs a0 a1 a2 r ∧ Short3 r ∧ InSet z o c ∧ Tw P1 P2 q H ∧
  ∀ p b0 b1 b2 T H', Kq P1 P2 q H H' → H b0 = none → H b1 = none → H b2 = none → Three H' p b0 b1 b2 T → (∀ b, Is012 b → IsFirst (plainL z o hm c r b ++ shiftL z o hm c r) (T.at b)) → Q (.ref p) H'
def spBestTapes (P1 P2 : Addr) (q : Str) : Sp := fun vs H Q _ => ∃ (t : Addr) (z o : Str) (hm : V) (x : Str), vs = [.ref t, .str x] ∧ Good z o hm ∧ Sh H t z o hm ∧ x.cps.size ≤ 32 ∧ (∀ c ∈ x.cps.toList, InSet z o c) ∧ Tw P1 P2 q H ∧
  ∀ p b0 b1 b2 T H', Kq P1 P2 q H H' → H b0 = none → H b1 = none → H b2 = none → Three H' p b0 b1 b2 T → Tells z o hm x.cps.toList T → Q (.ref p) H'
def spShortest (P1 P2 : Addr) (q : Str) : Sp := fun vs H Q _ => ∃ (t : Addr) (z o : Str) (hm : V) (x : Str) (b : Int), vs = [.ref t, .str x, .int b] ∧ Good z o hm ∧ Sh H t z o hm ∧ x.cps.size ≤ 32 ∧ (∀ c ∈ x.cps.toList, InSet z o c) ∧ Is01 b ∧ Tw P1 P2 q H ∧
  ∀ a T H', Kq P1 P2 q H H' → H a = none → Tells z o hm x.cps.toList T → H' a = some (.lst ((T.at b).map V.int)) → Q (.ref a) H'
end Kt
namespace Kt
open PySem PySem.Spec PyProof.Rows L2
/-! ### two kinds of tables in one -/
theorem Tb.tw {W : TWs} {P1 P2 : Addr} {q : Str} {H : Hp} (t : Tb W H) (h1 : P1 ∈ W.gs) (h2 : (P2, q) ∈ W.ls) : Tw P1 P2 q H := ⟨t.g P1 h1, t.l (P2, q) h2⟩
theorem Kz.kq {W : TWs} {P1 P2 : Addr} {q : Str} {H H' : Hp} (t : Tb W H) (h1 : P1 ∈ W.gs) (h2 : (P2, q) ∈ W.ls) (hg : ∀ P ∈ W.gs, P ≠ P2) (hl : ∀ p ∈ W.ls, p = (P2, q)) (k : Kq P1 P2 q H H') : Kz W H H' := by
  refine ⟨⟨fun P hP => ?_, fun p hp => ?_⟩, fun b o n h => k.get (t.tw h1 h2) h n, fun b h => k.new h⟩
  · by_cases e : P = P1
    · rw [e]; exact k.tw.t1
    · exact tab_same (t.g P hP) fun o h => k.at' P o e (hg P hP) h
  · rw [hl p hp]; exact k.tw.t2
theorem Tb.updL {W : TWs} {H : Hp} {D : Addr} {xs ys : List V} (t : Tb W H) (e : H D = some (.lst xs)) : Tb W (L2.upd H D (.lst ys)) :=
  (Kz.upd (W := W) (H := fun c => if c = D then none else H c) (H' := H) (D := D) ⟨t, fun c o n e => by
    by_cases k : c = D
    · rw [if_pos k] at e; cases e
    · rw [if_neg k] at e; exact e, fun c e => by
    show (if c = D then none else H c) = none
    by_cases k : c = D
    · rw [if_pos k]
    · rw [if_neg k]; exact e⟩ (if_pos rfl) e).tb
/-! ### slices, lists of tapes as data -/
theorem cutV_take (xs : List V) (k : Nat) : cutV xs none (some ((k : Nat) : Int)) = xs.take k := by
  unfold cutV
  rw [HT.sIx_none, HT.sIx_nat, List.drop_zero, Nat.sub_zero]
  rcases Nat.le_total k xs.length with h | h
  · rw [Nat.min_eq_left h]
  · rw [Nat.min_eq_right h, List.take_of_length_le (Nat.le_refl _), List.take_of_length_le h]
theorem cutV_drop (xs : List V) (k : Nat) : cutV xs (some ((k : Nat) : Int)) none = xs.drop k := by
  unfold cutV
  rw [HT.sIx_none, HT.sIx_nat]
  rcases Nat.le_total k xs.length with h | h
  · rw [Nat.min_eq_left h, List.take_of_length_le]
    rw [List.length_drop]; exact Nat.le_refl _
  · rw [Nat.min_eq_right h, List.drop_of_length_le (Nat.le_refl _), List.drop_of_length_le h, List.take_nil]
theorem Tps.take {H : Hp} (k : Nat) : ∀ {as : List Addr} {L : List (List Int)}, Tps H as L → Tps H (as.take k) (L.take k) := by
  induction k with
  | zero => intro as L _; exact True.intro
  | succ k ih =>
    intro as L h
    cases as with
    | nil => cases L with
      | nil => exact True.intro
      | cons _ _ => exact h.elim
    | cons a as => cases L with
      | nil => exact h.elim
      | cons u L => exact ⟨h.1, ih h.2⟩
theorem Tps.drop {H : Hp} (k : Nat) : ∀ {as : List Addr} {L : List (List Int)}, Tps H as L → Tps H (as.drop k) (L.drop k) := by
  induction k with
  | zero => intro as L h; exact h
  | succ k ih =>
    intro as L h
    cases as with
    | nil => cases L with
      | nil => exact True.intro
      | cons _ _ => exact h.elim
    | cons a as => cases L with
      | nil => exact h.elim
      | cons u L => exact ih h.2
theorem Tps.upd {H : Hp} {D : Addr} {o : HO} : ∀ {as : List Addr} {L : List (List Int)}, Tps H as L → (∀ a ∈ as, a ≠ D) → Tps (L2.upd H D o) as L
  | [], [], _, _ => trivial
  | a :: as, u :: L, h, n => ⟨by rw [upd_ne (n a List.mem_cons_self)]; exact h.1, Tps.upd h.2 fun b hb => n b (List.mem_cons_of_mem _ hb)⟩
  | [], _ :: _, h, _ => h.elim
  | _ :: _, [], h, _ => h.elim
theorem Tps.stay {H H' : Hp} : ∀ {as : List Addr} {L : List (List Int)}, Tps H as L → (∀ a ∈ as, ∀ o, H a = some o → H' a = some o) → Tps H' as L
  | [], [], _, _ => trivial
  | a :: as, u :: L, h, n => ⟨n a List.mem_cons_self _ h.1, Tps.stay h.2 fun b hb => n b (List.mem_cons_of_mem _ hb)⟩
  | [], _ :: _, h, _ => h.elim
  | _ :: _, [], h, _ => h.elim
def tpD (u : List Int) : PyData := .list (u.map PyData.int)
theorem canLay_tps : ∀ L : List (List Int), PyData.canLayAll0 (L.map tpD) = true
  | [] => by simp [PyData.canLayAll0]
  | u :: r => by
    simp only [List.map_cons, PyData.canLayAll0, tpD, PyData.canLay0, canLay_tps r, Bool.and_true]
    exact PySem.W.canLayAll0_ints u
theorem depth_tps : ∀ L : List (List Int), PyData.depthAll (L.map tpD) ≤ 2
  | [] => by simp [PyData.depthAll]
  | u :: r => by
    have h := depth_tps r
    have h2 := PySem.W.depthAll_ints u
    simp only [List.map_cons, PyData.depthAll, PyData.depth, tpD]
    omega
theorem shaped_tps (L : List (List Int)) : SeqAt.shaped (.list (L.map tpD)) = true := by
  have h1 := depth_tps L
  have h2 : PyData.depth (.list (L.map tpD)) ≤ 64 := by simp only [PyData.depth]; omega
  show (PyData.canLay0 (.list (L.map tpD)) && decide (PyData.depth (.list (L.map tpD)) ≤ 64)) = true
  rw [Bool.and_eq_true]
  exact ⟨by simp only [PyData.canLay0]; exact canLay_tps L, decide_eq_true h2⟩
theorem eqv_tps (L : List (List Int)) : PyData.eqv (.list (L.map tpD)) (.list (L.map tpD)) = true :=
  SeqAt.eqv_refl _ (by simp only [PyData.canLay0]; exact canLay_tps L)
theorem Tps.dp {K : PySem.W.Frag} {H : Hp} : ∀ {as : List Addr} {L : List (List Int)}, Tps H as L → DpAll K H (as.map V.ref) (L.map tpD)
  | [], [], _ => .nil
  | a :: as, u :: L, h => .cons (.lst (SqL.of h.1) (dpInts K H u)) (Tps.dp h.2)
  | [], _ :: _, h => h.elim
  | _ :: _, [], h => h.elim
def spDue : Sp := fun vs H Q _ => ∃ (t l : Addr) (z o : Str) (hm : V) (as : List Addr) (L : List (List Int)) (bg : Int), vs = [.ref t, .ref l, .int bg] ∧ Good z o hm ∧ Sh H t z o hm ∧ H l = some (.lst (as.map V.ref)) ∧ Tps H as L ∧ (∀ cs ∈ L, Codes z.cps.size cs ∧ cs.length ≤ 16) ∧ L.length ≤ 20 ∧ Is01 bg ∧
  ∀ p H', Same H H' → H p = none → H' p = some (.lst ((jns z o hm bg L).1.map V.int)) → Q (.ref p) H'
theorem joinL_flat : ∀ ps : List (List Nat), TL.joinL [] ps = ps.flatten
  | [] => rfl
  | [a] => by simp [TL.joinL]
  | a :: b :: r => by
    have ih := joinL_flat (b :: r)
    show a ++ ([] ++ TL.joinL [] (b :: r)) = _
    rw [ih]; rfl
theorem join_cat (z o : Str) (hm : V) (bg : Int) (L : List (List Int)) : Txt.join (Str.ofString "") (L.map fun cs => (rd z o hm cs bg).1) = catT z o hm bg L := by
  rw [TL.join_eq]
  apply str_ext
  have e := TL.tl_join (Str.ofString "") (L.map fun cs => (rd z o hm cs bg).1)
  have e0 : TL.tl (Str.ofString "") = [] := by decide +kernel
  rw [e0, joinL_flat] at e
  refine (show (Str.join (Str.ofString "") (L.map fun cs => (rd z o hm cs bg).1)).cps.toList = _ from e).trans ?_
  induction L using snoc_ind with
  | h0 => simpa [catT] using nil_list.symm
  | h1 L cs ih =>
    rw [catT_snoc, app_list, List.map_append, List.map_append, List.flatten_append]
    have ih' := ih (by
      have e := TL.tl_join (Str.ofString "") (L.map fun cs => (rd z o hm cs bg).1)
      rw [e0, joinL_flat] at e
      exact e)
    rw [ih']
    simp only [List.map_cons, List.map_nil, List.flatten_cons, List.flatten_nil, List.append_nil]
    try rfl
end Kt
namespace Kt
open PySem PySem.Spec PyProof.Rows L2
/-! ### min(tapes, key=len) -/
def btL (tp : Nat → List Int) (i j : Nat) : Bool := decide ((tp i).length < (tp j).length)
theorem argBest_le (bt : Nat → Nat → Bool) : ∀ n, argBest bt n ≤ n
  | 0 => Nat.le_refl _
  | n + 1 => by
    unfold argBest
    split
    · exact Nat.le_refl _
    · exact Nat.le_succ_of_le (argBest_le bt n)
section
variable {prog : Program} {w : World} {A : Around} {E : Value → Shared → Prop} {s : Shared} {Q : Value → Shared → Prop}
theorem minLen {l : Addr} {as : List Addr} {tp : Nat → List Int} (hh : A.handled = none) (hl : s.heap.IsList l (as.map Value.ref).toArray) (ht : ∀ i a, as[i]? = some a → TapeAt s.heap a (tp i)) (hz : ∀ i a, as[i]? = some a → (tp i).length ≤ 1000000) (hne : 0 < as.length)
    (hQ : ∀ a h' tk', as[argBest (btL tp) (as.length - 1)]? = some a → Ext s.heap h' → Q (.ref a) { s with heap := h', toks := tk' }) :
    wpAny (model prog w) A (call (.builtin "min") [.ref l] [(Str.ofString "key", .builtin "len")]) Q E s := by
  obtain ⟨ol, hol, hlr⟩ := id hl
  have ll : l < s.heap.objs.size := Heap.lt_size hol
  have lJ : l ≠ s.heap.objs.size := Nat.ne_of_lt ll
  have size : (as.map Value.ref).toArray.size = as.length := by simp
  refine call_min_walkKB (wpAny_pyIter_list hl ?_)
  have W := (Walks.list (prog := prog) (w := w) (A := A.in1) hh s.heap.objs.size l lJ (as.map Value.ref).toArray).toS
  generalize hJo : ({ cls := .type "list_iterator", data := .fields #[.ref l, .int 0 0] } : Obj) = oJ
  have fJ : oJ.isFreed = false := by rw [← hJo] <;> rfl
  have zS : (s.heap.push oJ).objs.size = s.heap.objs.size + 1 := Heap.size_push ..
  have eH : Ext s.heap (s.heap.push oJ) := fun b o q => Heap.get?_push_of_some _ q
  refine ⟨s.heap.objs.size, _, _, _, _, _, _, fun s' => ∃ h' tk', s' = { s with heap := h', toks := tk' } ∧ Ext s.heap h', fun i k _ => ∃ t, k = .int ((tp i).length : Nat) t, btL tp, rfl, W, ⟨⟨oJ, Heap.get?_push_size _ fJ, by rw [← hJo], by rw [← hJo] <;> rfl⟩, hl.at fun o q => eH _ o q⟩, fun b hb => ?_, by rw [size]; exact hne, ⟨?_, ?_, ?_, ?_⟩, ⟨_, _, rfl, eH⟩, fun v s' hv hJ => ?_⟩
  · show b < (s.heap.push oJ).objs.size
    rw [zS]
    have e : b = s.heap.objs.size ∨ b = l := by simpa using hb
    rcases e with e | e
    · rw [e]; exact Nat.lt_succ_self _
    · rw [e]; exact Nat.lt_succ_of_lt ll
  · intro s1 s2 hJ mv
    obtain ⟨h1, tk1, rfl, e1⟩ := hJ
    obtain ⟨h2, g2, d2, tk2, os2⟩ := s2
    obtain rfl : g2 = s.gens := mv.gens
    obtain rfl : d2 = s.drawn := mv.drawn
    obtain rfl : os2 = s.os := mv.os
    refine ⟨h2, tk2, rfl, fun b o q => mv.heap b o (fun z => ?_) (e1 b o q)⟩
    have hb := Heap.lt_size q
    have z' : b = (s.heap.push oJ).objs.size ∨ b = s.heap.objs.size := by simpa using z
    rcases z' with z | z
    · rw [z, zS] at hb; exact absurd hb (Nat.not_lt.mpr (Nat.le_succ _))
    · rw [z] at hb; exact absurd hb (Nat.lt_irrefl _)
  · intro i k s1 s2 hV _
    exact hV
  · intro i v s1 o Q' E' hi hP hJ hst hS hk
    obtain ⟨h1, tk1, rfl, e1⟩ := hJ
    obtain ⟨d, hd, rfl⟩ : ∃ d, as[i]? = some d ∧ v = .ref d := by
      have q : (as.map Value.ref)[i]? = some v := by simpa using hP
      obtain ⟨d, q1, q2⟩ := at_map q
      exact ⟨d, q1, q2⟩
    obtain ⟨vs, hl1, hi1⟩ := (ht i d hd).ext e1
    have hlen2 : vs.size = (tp i).length := by rw [← Array.length_toList]; exact hi1.length
    have hz2 := hz i d hd
    refine Calls.call_len_list hl1 (by rw [hlen2]; omega) ?_
    rw [hlen2]
    exact hk _ _ ⟨h1, _, rfl, e1⟩ hst hS ⟨_, rfl⟩ fun j k' h => h
  · intro i j ki kj s1 Q' E' hJ hV1 hV2 hq
    obtain ⟨t1, rfl⟩ := hV1
    obtain ⟨t2, rfl⟩ := hV2
    refine lt_int ?_
    have e : decide (((tp i).length : Int) < ((tp j).length : Int)) = btL tp i j := by
      unfold btL
      exact decide_eq_decide.mpr (by omega)
    rw [e]; exact hq
  · obtain ⟨h', tk', rfl, e'⟩ := hJ
    obtain ⟨d, hd, rfl⟩ : ∃ d, as[argBest (btL tp) (as.length - 1)]? = some d ∧ v = .ref d := by
      have q : (as.map Value.ref)[argBest (btL tp) ((as.map Value.ref).toArray.size - 1)]? = some v := by simpa using hv
      rw [size] at q
      obtain ⟨d, q1, q2⟩ := at_map q
      exact ⟨d, q1, q2⟩
    exact hQ d h' tk' hd e'
end
def tMinL (K : PySem.W.Frag) (ta : TE) : TE := fun σ H Q => ta σ H fun x H1 => ∃ (l : Addr) (as : List Addr) (tp : Nat → List Int), x = .ref l ∧ SqL K H1 l (as.map V.ref) ∧ 0 < as.length ∧
  (∀ i a, as[i]? = some a → SqL K H1 a ((tp i).map V.int) ∧ (tp i).length ≤ 1000000) ∧ ∀ a, as[argBest (btL tp) (as.length - 1)]? = some a → Q (.ref a) H1
section
variable {X : Cx}
theorem pe_minLen {a : Expr} {ta : TE} {p p2 kpos pos : Pos} (hc : X.calm = true) (hg : Gl X "min") (hm : X.mg "min" = none) (hgl : Gl X "len") (hml : X.mg "len" = none) (ha : PE X a ta)
    (h1 : starEach [a] X.env = (false, eval a X.env) :: starEach [] X.env := by rfl) :
    PE X (.Call (.Name "min" p) [a] [⟨some "key", .Name "len" p2, kpos⟩] pos) (tMinL X.K ta) := by
  refine ⟨fun pins s σ H Q I h => ?_⟩
  refine wpAny_Call_Name_kw (ld_blt I hg hm PyProof.Rows.boot_min ?_)
  refine callWith_kw (args_cons (thn (ha.run pins s σ H _ I h) fun v s1 q => args_nil ?_) h1) (by rw [h1]; rfl) (by rw [h1]; rfl) rfl rfl
  obtain ⟨x1, H1, I1, r1, l, as, tp, rfl, hl, hne, ht, q⟩ := q
  cases r1
  show wpAny _ _ (evalAll ((do let v ← eval _ X.env; standAt pos; pure v) :: [])) _ _ s1
  refine wpAny_evalAll_cons (wpAny_bind (ld_blt I1 hgl hml PySem.boot_len (wpAny_bind (wpAny_standAt (wpAny_pure (wpAny_evalAll_nil ?_))))))
  show wpAny _ _ (call (.builtin "min") [.ref l] [(Str.ofString "key", .builtin "len")]) _ _ _
  obtain ⟨its, rv, pl, hz⟩ := I1.list hl
  have ei := vals_refs_inv rv
  subst ei
  refine minLen (I1.ok.hd hc) pl.isList (tp := tp) (fun i d hd => ?_) (fun i d hd => (ht i d hd).2) hne fun d h' tk' hd e => ?_
  · obtain ⟨its2, rv2, pl2, _⟩ := I1.list (ht i d hd).1
    exact ⟨its2.toArray, pl2.isList, by simpa using ints_of_vals rv2⟩
  · exact ⟨.ref d, H1, I1.kept e, rfl, q d hd⟩
end
end Kt
namespace Kt
open PySem PySem.Spec PyProof.Rows L2
/-! ### walks in a comprehension of two fors -/
theorem walk_t {K : PySem.W.Frag} {a : Addr} {xs : List V} {H0 : Hp} {Nd : Hp → Prop} {Z : V → (Hp → Prop) → Hp → Prop} (Pv : Nat → Hp → Prop) (h0 : Pv 0 H0) (hl : ∀ i H, i ≤ xs.length → Pv i H → SqT K H a xs)
    (hs : ∀ i x H, xs[i]? = some x → Pv i H → Z x (Pv (i + 1)) H) (hd : ∀ H, Pv xs.length H → Nd H) :
    ∃ W : Nat → Nat → Hp → Prop, (∃ m, W 0 m H0) ∧ ∀ i m H, W i m H → ((Itt K a).stop i H ∧ Nd H) ∨ ((Itt K a).go i H ∧ ∃ Nx : Hp → Prop, (∀ H', Nx H' → ∃ m', m' < m ∧ W (i + 1) m' H') ∧ ∀ x H', (Itt K a).yld i H x H' → Z x Nx H') := by
  refine ⟨fun i m H => m + i = xs.length ∧ Pv i H, ⟨xs.length, rfl, h0⟩, fun i m H hW => ?_⟩
  obtain ⟨em, p⟩ := hW
  have hS := hl i H (by omega) p
  cases m with
  | zero =>
    obtain rfl : i = xs.length := by omega
    exact .inl ⟨⟨xs, hS, Nat.le_refl _⟩, hd H p⟩
  | succ m =>
    have hlt : i < xs.length := by omega
    refine .inr ⟨⟨xs, xs[i], hS, List.getElem?_eq_getElem hlt⟩, Pv (i + 1), fun H' p' => ⟨m, Nat.lt_succ_self _, by omega, p'⟩, fun x H' hy => ?_⟩
    obtain ⟨rfl, hy⟩ := hy
    exact hs i x _ (hy xs hS) p
theorem walk_l {K : PySem.W.Frag} {a : Addr} {xs : List V} {H0 : Hp} {Nd : Hp → Prop} {Z : V → (Hp → Prop) → Hp → Prop} (Pv : Nat → Hp → Prop) (h0 : Pv 0 H0) (hl : ∀ i H, i ≤ xs.length → Pv i H → SqL K H a xs)
    (hs : ∀ i x H, xs[i]? = some x → Pv i H → Z x (Pv (i + 1)) H) (hd : ∀ H, Pv xs.length H → Nd H) :
    ∃ W : Nat → Nat → Hp → Prop, (∃ m, W 0 m H0) ∧ ∀ i m H, W i m H → ((Itl K a).stop i H ∧ Nd H) ∨ ((Itl K a).go i H ∧ ∃ Nx : Hp → Prop, (∀ H', Nx H' → ∃ m', m' < m ∧ W (i + 1) m' H') ∧ ∀ x H', (Itl K a).yld i H x H' → Z x Nx H') := by
  refine ⟨fun i m H => m + i = xs.length ∧ Pv i H, ⟨xs.length, rfl, h0⟩, fun i m H hW => ?_⟩
  obtain ⟨em, p⟩ := hW
  have hS := hl i H (by omega) p
  cases m with
  | zero =>
    obtain rfl : i = xs.length := by omega
    exact .inl ⟨⟨xs, hS, Nat.le_refl _⟩, hd H p⟩
  | succ m =>
    have hlt : i < xs.length := by omega
    refine .inr ⟨⟨xs, xs[i], hS, List.getElem?_eq_getElem hlt⟩, Pv (i + 1), fun H' p' => ⟨m, Nat.lt_succ_self _, by omega, p'⟩, fun x H' hy => ?_⟩
    obtain ⟨rfl, hy⟩ := hy
    exact hs i x _ (hy xs hS) p
theorem Rows.upd {H : Hp} {D : Addr} {o : HO} {as : List Addr} {L : List (List Int)} (h : Rows H as L) (n : ∀ a ∈ as, a ≠ D) : Rows (upd H D o) as L := by
  induction as generalizing L with
  | nil => cases L with
    | nil => trivial
    | cons u L => exact h.elim
  | cons a as ih => cases L with
    | nil => exact h.elim
    | cons u L => exact ⟨by rw [upd_ne (n a List.mem_cons_self)]; exact h.1, ih h.2 fun b hb => n b (List.mem_cons_of_mem _ hb)⟩
theorem same_upd {H H' : Hp} {D : Addr} {o : HO} (s : Same H H') (n : H D = none) : Same H (upd H' D o) := fun b x e => by
  rw [upd_ne (ne_of_none e n)]; exact s b x e
/-- the tapes without a shift stand at p -/
def PlainAt (H0 : Hp) (D : Addr) (z o : Str) (hm : V) (c : Nat) (r : T3) (H : Hp) (p : Addr) (now : Int) : Prop :=
  p ≠ D ∧ ∃ as, H p = some (.lst (as.map V.ref)) ∧ Rows H as (plainL z o hm c r now) ∧ ∀ a ∈ as, H0 a = none ∧ a ≠ D
theorem PlainAt.upd {H0 : Hp} {D : Addr} {z o : Str} {hm : V} {c : Nat} {r : T3} {H H' : Hp} {p : Addr} {now : Int} {x : HO} (h : PlainAt H0 D z o hm c r H p now) (s : Same H H') : PlainAt H0 D z o hm c r (L2.upd H' D x) p now := by
  obtain ⟨n, as, e, rw', na⟩ := h
  exact ⟨n, as, by rw [upd_ne n]; exact s _ _ e, (rw'.same s).upd fun a ha => (na a ha).2, na⟩
theorem plain_len {z o : Str} {hm : V} {c : Nat} {r : T3} (sr : Short3 r) (b : Int) : (plainL z o hm c r b).length ≤ 1 ∧ ∀ u ∈ plainL z o hm c r b, u.length ≤ 501 := by
  unfold plainL
  split
  · exact ⟨Nat.zero_le _, fun u hu => nomatch hu⟩
  · refine ⟨Nat.le_refl _, fun u hu => ?_⟩
    rw [List.mem_singleton.mp hu, List.length_cons]
    have := sr (bhd hm (cod z o c b) b)
    omega
theorem shift_len {z o : Str} {hm : V} {c : Nat} {r : T3} (sr : Short3 r) : (shiftL z o hm c r).length ≤ 2 ∧ ∀ u ∈ shiftL z o hm c r, u.length ≤ 502 := by
  have a := plain_len (z := z) (o := o) (hm := hm) (c := c) sr 0
  have b := plain_len (z := z) (o := o) (hm := hm) (c := c) sr 1
  unfold shiftL
  refine ⟨by simp only [List.length_append, List.length_map]; omega, fun u hu => ?_⟩
  rcases List.mem_append.mp hu with k | k
  · obtain ⟨v, hv, rfl⟩ := List.mem_map.mp k
    have := a.2 v hv
    simp only [List.length_cons]; omega
  · obtain ⟨v, hv, rfl⟩ := List.mem_map.mp k
    have := b.2 v hv
    simp only [List.length_cons]; omega
theorem shift_ne {z o : Str} {hm : V} {c : Nat} {r : T3} (h : InSet z o c) : shiftL z o hm c r ≠ [] := by
  rcases cod_some h 0 (.inl rfl) with k | k
  · exact List.ne_nil_of_mem (mem_shift.mpr ⟨0, .inl rfl, k, rfl⟩)
  · exact List.ne_nil_of_mem (mem_shift.mpr ⟨1, .inr rfl, k, rfl⟩)
theorem Kq.upd {P1 P2 D : Addr} {q : Str} {H H' : Hp} {xs ys : List V} (k : Kq P1 P2 q H H') (n : H D = none) (e : H' D = some (.lst xs)) : Kq P1 P2 q H (L2.upd H' D (.lst ys)) := by
  have st : ∀ c (o : HO), (∀ us, o ≠ .lst us) → H' c = some o → L2.upd H' D (.lst ys) c = some o := fun c o m z => by
    rw [upd_ne (ne_of z e (m _))]; exact z
  refine ⟨⟨tab_same k.tw.t1 fun o z => ?_, ?_⟩, fun b o n1 n2 z => ?_⟩
  · obtain ⟨ps, h1, _⟩ := k.tw.t1
    rw [h1] at z
    have z := Option.some.inj z
    subst z
    exact st _ _ (fun _ e => nomatch e) h1
  · obtain ⟨ps, h1, h2, h3⟩ := k.tw.t2
    refine ⟨ps, st _ _ (fun _ e => nomatch e) h1, h2, fun pos cv hc => ?_⟩
    obtain ⟨c, e1, e2⟩ := h3 pos cv hc
    exact ⟨c, e1, st _ _ (fun us e => by unfold LamX.CodeO at e; cases e) e2⟩
  · rw [upd_ne (ne_of_none z n)]; exact k.at' b o n1 n2 z
end Kt
namespace Kt
open PySem PySem.Spec PyProof.Rows L2
/-! ### what the law reckons -/
def costRow (z o : Str) (hm : V) (c : Nat) (h : Int × Int) (b : Int) : Int := if 0 ≤ cod z o c b then min 1000 (1 + (if bhd hm (cod z o c b) b = 0 then h.1 else h.2)) else 1000
def costHd (z o : Str) (hm : V) (c : Nat) (h : Int × Int) : Int × Int := (min (costRow z o hm c h 0) (costRow z o hm c h 1 + 1), min (costRow z o hm c h 1) (costRow z o hm c h 0 + 1))
def costHead (z o : Str) (hm : V) : List Nat → Int × Int
  | [] => (0, 0)
  | c :: cs => costHd z o hm c (costHead z o hm cs)
def costs (z o : Str) (hm : V) : List Nat → List (List Int)
  | [] => [[0, 0]]
  | c :: cs => [(costHead z o hm (c :: cs)).1, (costHead z o hm (c :: cs)).2] :: costs z o hm cs
theorem costs_at (z o : Str) (hm : V) : ∀ (cs : List Nat) (j : Nat), j ≤ cs.length → (costs z o hm cs)[j]? = some [(costHead z o hm (cs.drop j)).1, (costHead z o hm (cs.drop j)).2]
  | [], 0, _ => rfl
  | [], j + 1, h => absurd h (by simp)
  | c :: cs, 0, _ => rfl
  | c :: cs, j + 1, h => by
    have := costs_at z o hm cs j (by simpa using h)
    simpa [costs] using this
theorem at_if {r : T3} {b : Int} (hb : Is01 b) : ((r.at b).length : Int) = if b = 0 then (r.t0.length : Int) else (r.t1.length : Int) := by
  rcases hb with e | e <;> subst e <;> rfl
theorem costRow_eq {z o : Str} {hm : V} {c : Nat} {r : T3} {b : Int} (hb : Is01 b) : costRow z o hm c ((r.t0.length : Int), (r.t1.length : Int)) b = rowC z o hm c r b := by
  unfold costRow rowC
  rw [at_if (r := r) (is01_bhd (hm := hm) (k := cod z o c b) hb)]
theorem costHead_eq {z o : Str} {hm : V} (g : Good z o hm) : ∀ {cs : List Nat} {t : T3}, Tells z o hm cs t → cs.length ≤ 400 → (∀ c ∈ cs, InSet z o c) → costHead z o hm cs = ((t.t0.length : Int), (t.t1.length : Int)) := by
  intro cs t h
  induction h with
  | nil => intro _ _; rfl
  | @cons c cs r t h h0 h1 h2 ih =>
    intro hl hs
    have hl' : cs.length ≤ 400 := by simp at hl; omega
    have e := ih hl' fun d hd => hs d (List.mem_cons_of_mem _ hd)
    have c0 := cost_of g (b := 0) h hl' (hs c List.mem_cons_self) (.inl rfl) h0
    have c1 := cost_of g (b := 1) h hl' (hs c List.mem_cons_self) (.inr rfl) h1
    show costHd z o hm c (costHead z o hm cs) = _
    rw [e]
    unfold costHd
    rw [costRow_eq (.inl rfl), costRow_eq (.inr rfl)]
    exact Prod.ext c0.symm c1.symm
theorem cost_len {z o : Str} {hm : V} (g : Good z o hm) {cs : List Nat} {t : T3} {b : Int} (h : Tells z o hm cs t) (hl : cs.length ≤ 400) (hs : ∀ c ∈ cs, InSet z o c) (hb : Is01 b) :
    atI [V.int (costHead z o hm cs).1, V.int (costHead z o hm cs).2] b = some (.int ((t.at b).length : Nat)) := by
  rw [costHead_eq g h hl hs]
  rcases hb with e | e <;> subst e
  · exact atI_nat (j := 0) rfl
  · exact atI_nat (j := 1) rfl
/-- the costs of the signs cs stand at p -/
def CostsAt (z o : Str) (hm : V) (H : Hp) (p : Addr) (cs : List Nat) : Prop := ∃ ps, H p = some (.lst (ps.map V.ref)) ∧ Rows H ps (costs z o hm cs)
theorem CostsAt.mono {z o : Str} {hm : V} {H H' : Hp} {p : Addr} {cs : List Nat} (k : ∀ a (us : List V), H a = some (.lst us) → H' a = some (.lst us)) (h : CostsAt z o hm H p cs) : CostsAt z o hm H' p cs := by
  obtain ⟨ps, h1, h2⟩ := h
  exact ⟨ps, k _ _ h1, h2.mono fun a u e => k _ _ e⟩
theorem CostsAt.get {z o : Str} {hm : V} {H : Hp} {p : Addr} {cs : List Nat} (h : CostsAt z o hm H p cs) {j : Nat} (hj : j ≤ cs.length) :
    ∃ (xs : List V) (a : Addr), H p = some (.lst xs) ∧ xs[j]? = some (.ref a) ∧ H a = some (.lst [V.int (costHead z o hm (cs.drop j)).1, V.int (costHead z o hm (cs.drop j)).2]) := by
  obtain ⟨ps, h1, h2⟩ := h
  have e := costs_at z o hm cs j hj
  have hl := h2.len
  have hjl : j < ps.length := by rw [hl]; exact (List.getElem?_eq_some_iff.mp e).1
  obtain ⟨u, h3, h4⟩ := h2.get (List.getElem?_eq_getElem hjl)
  rw [e] at h3
  have h3 := Option.some.inj h3
  subst h3
  exact ⟨_, ps[j], h1, map_at (List.getElem?_eq_getElem hjl), h4⟩
def spText : Sp := fun vs H Q _ => ∃ (b l t : Addr) (z o : Str) (hm : V) (most : Nat), vs = [.ref b, .ref t, .int most] ∧ BoxAt H b l ∧ Good z o hm ∧ Sh H t z o hm ∧ most ≤ 32 ∧
  ∀ x H', x.cps.size ≤ most → (∀ c ∈ x.cps.toList, InSet z o c) → Bxd b l H H' → Q (.str x) H'
def spIsTape : Sp := fun vs H Q _ => ∃ (t a : Addr) (z o : Str) (hm : V) (cs : List Int), vs = [.ref t, .ref a] ∧ Good z o hm ∧ Sh H t z o hm ∧ H a = some (.lst (cs.map V.int)) ∧ Codes z.cps.size cs ∧ cs.length ≤ 1000 ∧ ∀ H', Same H H' → Q (.bl true) H'
def spCodesL : Sp := fun vs H Q _ => ∃ (t : Addr) (z o : Str) (hm : V) (c : Nat) (b : Int), vs = [.ref t, .str (sg c), .int b] ∧ Good z o hm ∧ Sh H t z o hm ∧ Is01 b ∧
  ∀ p H', Same H H' → H p = none → H' p = some (.lst ((codesL (at01 z o b) c).map V.int)) → Q (.ref p) H'
def spBehindL : Sp := fun vs H Q _ => ∃ (t : Addr) (z o : Str) (hm : V) (c b : Int), vs = [.ref t, .int c, .int b] ∧ Good z o hm ∧ Sh H t z o hm ∧ Q (.int (bhd hm c b)) H
def spCosts : Sp := fun vs H Q _ => ∃ (t : Addr) (z o : Str) (hm : V) (x : Str), vs = [.ref t, .str x] ∧ Good z o hm ∧ Sh H t z o hm ∧ x.cps.size ≤ 32 ∧
  ∀ p H', Same H H' → H p = none → CostsAt z o hm H' p x.cps.toList → Q (.ref p) H'
def spFirstL : Sp := fun vs H Q _ => ∃ (t p : Addr) (z o : Str) (hm : V) (x : Str) (b : Int) (R : T3), vs = [.ref t, .str x, .int b, .ref p] ∧ Good z o hm ∧ Sh H t z o hm ∧ x.cps.size ≤ 32 ∧ (∀ c ∈ x.cps.toList, InSet z o c) ∧ Is01 b ∧
  CostsAt z o hm H p x.cps.toList ∧ Tells z o hm x.cps.toList R ∧ ∀ a H', Same H H' → H a = none → H' a = some (.lst ((R.at b).map V.int)) → Q (.ref a) H'
end Kt
namespace Kt
open PySem PySem.Spec PyProof.Rows L2
/-! ### guarded tapes, as the program goes -/
abbrev Rst := Int → Int → List Int
def gk (z o : Str) (c : Nat) (now : Int) : Int := fi (at01 z o now) c
def lf0 (z o : Str) (c : Nat) (now sp : Int) : Int := if z.cps.toList.getD (gk z o c now).toNat 0 = o.cps.toList.getD (gk z o c now).toNat 0 then sp else sp - 1
def lft (z o : Str) (hm : V) (c : Nat) (now sp : Int) : Int := if V.int (gk z o c now) = hm then 32 else lf0 z o c now sp
def wcL (z o : Str) (hm : V) (c : Nat) (now sp : Int) (R : Rst) : List (List Int) :=
  if gk z o c now < 0 then [] else if lf0 z o c now sp < 0 then [] else [gk z o c now :: R (bhd hm (gk z o c now) now) (lft z o hm c now sp)]
def wsL (z o : Str) (hm : V) (c : Nat) (now most : Int) (R : Rst) : List (List Int) :=
  (wcL z o hm c now 32 R).map (fun u => ((z.cps.size : Int) + now) :: u) ++ (wcL z o hm c (1 - now) most R).map (fun u => ((z.cps.size : Int) + (1 - now)) :: u) ++
    (wcL z o hm c (1 - now) 32 R).map (fun u => ((z.cps.size : Int) + (1 - now)) :: ((z.cps.size : Int) + (1 - now)) :: u)
def minL (L : List (List Int)) : List Int := L.getD (argBest (btL fun i => L.getD i []) (L.length - 1)) []
def stepR (z o : Str) (hm : V) (c : Nat) (most : Int) (R : Rst) : Rst := fun b sp => minL (wcL z o hm c b sp R ++ wsL z o hm c b most R)
def gR (z o : Str) (hm : V) (most : Int) : List Nat → Rst
  | [] => fun _ _ => []
  | c :: cs => stepR z o hm c most (gR z o hm most cs)
def ShortR (R : Rst) (m : Nat) : Prop := ∀ b sp, (R b sp).length ≤ m
theorem gk_spec {z o : Str} {hm : V} (g : Good z o hm) (c : Nat) (now : Int) : gk z o c now < z.cps.size ∧ -1 ≤ gk z o c now := by
  unfold gk
  have hs := at01_size (o := o) g now
  rcases fi_spec (at01 z o now) c with ⟨e, _⟩ | ⟨k, e, hk⟩
  · rw [e]; have := g.pos; omega
  · rw [e]
    have := (List.getElem?_eq_some_iff.mp hk).1
    rw [Array.length_toList] at this
    omega
theorem gk_in {z o : Str} {c : Nat} {now : Int} (h : c ∈ (at01 z o now).cps.toList) : 0 ≤ gk z o c now := by
  unfold gk
  rcases fi_spec (at01 z o now) c with ⟨_, e⟩ | ⟨k, e, _⟩
  · exact absurd h e
  · omega
theorem wcL_len {z o : Str} {hm : V} {c : Nat} {now sp : Int} {R : Rst} {m : Nat} (sr : ShortR R m) : (wcL z o hm c now sp R).length ≤ 1 ∧ ∀ u ∈ wcL z o hm c now sp R, u.length ≤ m + 1 := by
  unfold wcL
  split
  · exact ⟨Nat.zero_le _, fun u h => nomatch h⟩
  · split
    · exact ⟨Nat.zero_le _, fun u h => nomatch h⟩
    · refine ⟨Nat.le_refl _, fun u h => ?_⟩
      rw [List.mem_singleton.mp h, List.length_cons]
      exact Nat.succ_le_succ (sr _ _)
theorem wsL_len {z o : Str} {hm : V} {c : Nat} {now most : Int} {R : Rst} {m : Nat} (sr : ShortR R m) : (wsL z o hm c now most R).length ≤ 3 ∧ ∀ u ∈ wsL z o hm c now most R, u.length ≤ m + 3 := by
  have a := wcL_len (z := z) (o := o) (hm := hm) (c := c) (now := now) (sp := 32) sr
  have b := wcL_len (z := z) (o := o) (hm := hm) (c := c) (now := 1 - now) (sp := most) sr
  have d := wcL_len (z := z) (o := o) (hm := hm) (c := c) (now := 1 - now) (sp := 32) sr
  unfold wsL
  refine ⟨by simp only [List.length_append, List.length_map]; omega, fun u hu => ?_⟩
  rcases List.mem_append.mp hu with h | h
  · rcases List.mem_append.mp h with h | h
    · obtain ⟨v, hv, rfl⟩ := List.mem_map.mp h
      have := a.2 v hv; simp only [List.length_cons]; omega
    · obtain ⟨v, hv, rfl⟩ := List.mem_map.mp h
      have := b.2 v hv; simp only [List.length_cons]; omega
  · obtain ⟨v, hv, rfl⟩ := List.mem_map.mp h
    have := d.2 v hv; simp only [List.length_cons]; omega
theorem lf0_32 (z o : Str) (c : Nat) (now : Int) : ¬ lf0 z o c now 32 < 0 := by
  unfold lf0; split <;> omega
theorem wsL_ne {z o : Str} {hm : V} {c : Nat} {now most : Int} {R : Rst} (hn : Is01 now) (h : InSet z o c) : wsL z o hm c now most R ≠ [] := by
  have one : ∀ b, 0 ≤ gk z o c b → wcL z o hm c b 32 R ≠ [] := fun b hb => by
    unfold wcL
    rw [if_neg (by omega), if_neg (lf0_32 z o c b)]
    exact List.cons_ne_nil _ _
  have two : 0 ≤ gk z o c now ∨ 0 ≤ gk z o c (1 - now) := by
    rcases hn with e | e <;> subst e
    · rcases h with h | h
      · exact .inl (gk_in h)
      · exact .inr (gk_in h)
    · rcases h with h | h
      · exact .inr (gk_in h)
      · exact .inl (gk_in h)
  unfold wsL
  rcases two with k | k
  · intro e
    have := (List.append_eq_nil_iff.mp (List.append_eq_nil_iff.mp e).1).1
    exact one _ k (List.map_eq_nil_iff.mp this)
  · intro e
    have := (List.append_eq_nil_iff.mp e).2
    exact one _ k (List.map_eq_nil_iff.mp this)
theorem minL_mem {L : List (List Int)} (h : L ≠ []) : minL L ∈ L := by
  unfold minL
  have l0 : 0 < L.length := List.length_pos_iff.mpr h
  have l1 := argBest_le (btL fun i => L.getD i []) (L.length - 1)
  rw [List.getD_eq_getElem?_getD, List.getElem?_eq_getElem (by omega)]
  exact List.getElem_mem _
theorem stepR_short {z o : Str} {hm : V} {c : Nat} {most : Int} {R : Rst} {m : Nat} (sr : ShortR R m) : ShortR (stepR z o hm c most R) (m + 3) := fun b sp => by
  unfold stepR
  by_cases h : wcL z o hm c b sp R ++ wsL z o hm c b most R = []
  · rw [h]; exact Nat.zero_le _
  · rcases List.mem_append.mp (minL_mem h) with k | k
    · have := (wcL_len sr).2 _ k; omega
    · exact (wsL_len sr).2 _ k
theorem gR_short (z o : Str) (hm : V) (most : Int) : ∀ cs : List Nat, ShortR (gR z o hm most cs) (3 * cs.length)
  | [] => fun _ _ => Nat.le_refl _
  | c :: cs => by
    have := stepR_short (z := z) (o := o) (hm := hm) (c := c) (most := most) (gR_short z o hm most cs)
    intro b sp
    exact Nat.le_trans (this b sp) (by rw [List.length_cons]; omega)
/-! ### the rows as they stand -/
def row33 (R : Rst) (b : Int) : List (List Int) := (List.range 33).map fun (j : Nat) => R b (j : Int)
theorem row33_len (R : Rst) (b : Int) : (row33 R b).length = 33 := by unfold row33; rw [List.length_map, List.length_range]
theorem row33_at (R : Rst) (b : Int) {j : Nat} (h : j < 33) : (row33 R b)[j]? = some (R b (j : Int)) := by
  unfold row33
  rw [List.getElem?_map, List.getElem?_range h]; rfl
structure Grid (H0 H : Hp) (T : Addr) (R : Rst) : Prop where
  ex : ∃ (a0 a1 : Addr) (b0 b1 : List Addr), H T = some (.lst [.ref a0, .ref a1]) ∧ H a0 = some (.lst (b0.map V.ref)) ∧ H a1 = some (.lst (b1.map V.ref)) ∧ Tps H b0 (row33 R 0) ∧ Tps H b1 (row33 R 1) ∧ (∀ a ∈ b0, H0 a = none) ∧ ∀ a ∈ b1, H0 a = none
theorem Grid.mono {H0 H H' : Hp} {T : Addr} {R : Rst} (k : ∀ a us, H a = some (.lst us) → H' a = some (.lst us)) (g : Grid H0 H T R) : Grid H0 H' T R := by
  obtain ⟨a0, a1, b0, b1, h, h0, h1, t0, t1, n0, n1⟩ := g.ex
  exact ⟨a0, a1, b0, b1, k _ _ h, k _ _ h0, k _ _ h1, t0.mono k, t1.mono k, n0, n1⟩
theorem Grid.back {H00 H0 H : Hp} {T : Addr} {R : Rst} (k : ∀ a, H0 a = none → H00 a = none) (g : Grid H0 H T R) : Grid H00 H T R := by
  obtain ⟨a0, a1, b0, b1, h, h0, h1, t0, t1, n0, n1⟩ := g.ex
  exact ⟨a0, a1, b0, b1, h, h0, h1, t0, t1, fun a ha => k a (n0 a ha), fun a ha => k a (n1 a ha)⟩
/-- the row of a set, and its tape -/
theorem Grid.at {H0 H : Hp} {T : Addr} {R : Rst} (g : Grid H0 H T R) {b : Int} (hb : Is01 b) : ∃ (us : List V) (a : Addr) (bs : List Addr), H T = some (.lst us) ∧ atI us b = some (.ref a) ∧ H a = some (.lst (bs.map V.ref)) ∧
    ∀ j : Int, 0 ≤ j → j ≤ 32 → ∃ d, atI (bs.map V.ref) j = some (.ref d) ∧ H d = some (.lst ((R b j).map V.int)) ∧ H0 d = none := by
  obtain ⟨a0, a1, b0, b1, h, h0, h1, t0, t1, n0, n1⟩ := g.ex
  have get : ∀ (bs : List Addr) (b : Int), Tps H bs (row33 R b) → (∀ a ∈ bs, H0 a = none) → ∀ j : Int, 0 ≤ j → j ≤ 32 → ∃ d, atI (bs.map V.ref) j = some (.ref d) ∧ H d = some (.lst ((R b j).map V.int)) ∧ H0 d = none := by
    intro bs b t n j j0 j1
    obtain ⟨k, rfl⟩ := Int.eq_ofNat_of_zero_le j0
    have hk : k < 33 := by omega
    have hl : k < bs.length := by rw [t.len, row33_len]; exact hk
    obtain ⟨u, e1, e2⟩ := t.get (List.getElem?_eq_getElem hl)
    rw [row33_at R b hk] at e1
    cases e1
    exact ⟨bs[k], atI_nat (map_at (List.getElem?_eq_getElem hl)), e2, n _ (List.getElem_mem hl)⟩
  rcases hb with e | e <;> subst e
  · exact ⟨_, a0, b0, h, atI_nat (j := 0) rfl, h0, get b0 0 t0 n0⟩
  · exact ⟨_, a1, b1, h, atI_nat (j := 1) rfl, h1, get b1 1 t1 n1⟩
/-! ### the promises -/
def spWcode : Sp := fun vs H Q _ => ∃ (t : Addr) (z o : Str) (hm : V) (c : Nat) (now sp : Int) (rs : Addr) (R : Rst) (H0 : Hp), vs = [.ref t, .str (sg c), .int now, .int sp, .ref rs] ∧ Good z o hm ∧ Sh H t z o hm ∧ Is01 now ∧ 0 ≤ sp ∧ sp ≤ 32 ∧ Grid H0 H rs R ∧ ShortR R 500 ∧
  ∀ p as H', Same H H' → H p = none → H' p = some (.lst (as.map V.ref)) → Tps H' as (wcL z o hm c now sp R) → (∀ a ∈ as, H a = none) → Q (.ref p) H'
def spWshifts : Sp := fun vs H Q _ => ∃ (t : Addr) (z o : Str) (hm : V) (c : Nat) (now most : Int) (rs : Addr) (R : Rst) (H0 : Hp), vs = [.ref t, .str (sg c), .int now, .int most, .ref rs] ∧ Good z o hm ∧ Sh H t z o hm ∧ Is01 now ∧ 0 ≤ most ∧ most ≤ 32 ∧ Grid H0 H rs R ∧ ShortR R 500 ∧
  ∀ p as H', Same H H' → H p = none → H' p = some (.lst (as.map V.ref)) → Tps H' as (wsL z o hm c now most R) → (∀ a ∈ as, H a = none) → Q (.ref p) H'
def spGwith : Sp := fun vs H Q _ => ∃ (t : Addr) (z o : Str) (hm : V) (c : Nat) (most : Int) (rs : Addr) (R : Rst) (H0 : Hp), vs = [.ref t, .str (sg c), .int most, .ref rs] ∧ Good z o hm ∧ Sh H t z o hm ∧ InSet z o c ∧ 0 ≤ most ∧ most ≤ 32 ∧ Grid H0 H rs R ∧ ShortR R 500 ∧
  ∀ T H', Same H H' → H T = none → Grid H H' T (stepR z o hm c most R) → Q (.ref T) H'
def spGuarded (P : Addr) : Sp := fun vs H Q _ => ∃ (t : Addr) (z o : Str) (hm : V) (x : Str) (b most : Int), vs = [.ref t, .str x, .int b, .int most] ∧ Good z o hm ∧ Sh H t z o hm ∧ x.cps.size ≤ 32 ∧ (∀ c ∈ x.cps.toList, InSet z o c) ∧ Is01 b ∧ 0 ≤ most ∧ most ≤ 32 ∧ GxR.TabG H P ∧
  ∀ a H', Kp P H H' → H a = none → H' a = some (.lst ((gR z o hm most x.cps.toList b 32).map V.int)) → Q (.ref a) H'
end Kt
namespace Kt
open PySem PySem.Spec PyProof.Rows L2
/-! ### the tape for either set -/
theorem first_le {L : List (List Int)} {u v : List Int} (f : IsFirst L u) (h : v ∈ L) : u.length ≤ v.length := by
  rcases Nat.lt_or_ge v.length u.length with k | k
  · have := f.2 v h
    rw [ltK_len k] at this
    cases this
  · exact k
theorem len3 {z o : Str} {hm : V} (g : Good z o hm) {c : Nat} {cs : List Nat} {r : T3} {b : Int} {u : List Int} (hr : Tells z o hm cs r) (hl : cs.length ≤ 400) (f : IsFirst (plainL z o hm c r b ++ shiftL z o hm c r) u) :
    (u.length : Int) = min (rowC z o hm c r b) (1 + min (rowC z o hm c r 0) (rowC z o hm c r 1)) := by
  have sb := (Tells.short g hr (bhd hm (cod z o c b) b)).1
  have s0 := (Tells.short g hr (bhd hm (cod z o c 0) 0)).1
  have s1 := (Tells.short g hr (bhd hm (cod z o c 1) 1)).1
  have lb := pOf_len z o hm c r b
  have l0 := pOf_len z o hm c r 0
  have l1 := pOf_len z o hm c r 1
  have ub : 0 ≤ cod z o c b → u.length ≤ (pOf z o hm c r b).length := fun k => first_le f (List.mem_append_left _ (mem_plain.mpr ⟨k, rfl⟩))
  have us : ∀ e, Is01 e → 0 ≤ cod z o c e → u.length ≤ (pOf z o hm c r e).length + 1 := fun e he k => by
    have := first_le f (List.mem_append_right _ (mem_shift.mpr ⟨e, he, k, rfl⟩))
    rwa [List.length_cons] at this
  have u0 := us 0 (.inl rfl)
  have u1 := us 1 (.inr rfl)
  unfold rowC
  rcases List.mem_append.mp f.1 with k | k
  · obtain ⟨k1, k2⟩ := mem_plain.mp k
    have eu : u.length = (pOf z o hm c r b).length := by rw [k2]
    rw [if_pos k1]
    by_cases a0 : 0 ≤ cod z o c 0 <;> by_cases a1 : 0 ≤ cod z o c 1
    · have := u0 a0; have := u1 a1; rw [if_pos a0, if_pos a1]; omega
    · have := u0 a0; rw [if_pos a0, if_neg a1]; omega
    · have := u1 a1; rw [if_neg a0, if_pos a1]; omega
    · rw [if_neg a0, if_neg a1]; omega
  · obtain ⟨e, he, k1, k2⟩ := mem_shift.mp k
    have eu : u.length = (pOf z o hm c r e).length + 1 := by rw [k2, List.length_cons]
    by_cases ab : 0 ≤ cod z o c b
    · have := ub ab
      rw [if_pos ab]
      rcases he with rfl | rfl
      · rw [if_pos k1]
        by_cases a1 : 0 ≤ cod z o c 1
        · have := u1 a1; rw [if_pos a1]; omega
        · rw [if_neg a1]; omega
      · rw [if_pos k1]
        by_cases a0 : 0 ≤ cod z o c 0
        · have := u0 a0; rw [if_pos a0]; omega
        · rw [if_neg a0]; omega
    · rw [if_neg ab]
      rcases he with rfl | rfl
      · rw [if_pos k1]
        by_cases a1 : 0 ≤ cod z o c 1
        · have := u1 a1; rw [if_pos a1]; omega
        · rw [if_neg a1]; omega
      · rw [if_pos k1]
        by_cases a0 : 0 ≤ cod z o c 0
        · have := u0 a0; rw [if_pos a0]; omega
        · rw [if_neg a0]; omega
theorem cod2 {z o : Str} {c : Nat} {e : Int} (he : Is01 e) (h : 0 ≤ cod z o c 2) : cod z o c e = cod z o c 2 := by
  have e2 : cod z o c 2 = if fi o c ≠ fi z c then -1 else fi z c := rfl
  rw [e2] at h ⊢
  by_cases k : fi o c = fi z c
  · rw [if_neg (fun q => q k)]
    rw [cod01 he]
    rcases he with rfl | rfl
    · rfl
    · exact k
  · rw [if_pos k] at h
    omega
theorem Tells.read2 {z o : Str} {hm : V} (g : Good z o hm) : ∀ {cs : List Nat} {t : T3}, Tells z o hm cs t → (∀ c ∈ cs, InSet z o c) → ∀ b s, Is01 b → (t.t2.foldl (rdStep z o hm) (s, b)).1 = catS s cs := by
  intro cs t h
  induction h with
  | nil => intro _ b s hb; rfl
  | @cons c cs r t h h0 h1 h2 ih =>
    intro hs b s hb
    have hs' : ∀ d ∈ cs, InSet z o d := fun d hd => hs d (List.mem_cons_of_mem _ hd)
    have rd1 := Tells.read g h hs'
    rcases List.mem_append.mp h2.1 with k | k
    · obtain ⟨k1, k2⟩ := mem_plain.mp k
      have ec := cod2 hb k1
      have own := rdStep_own g s hb (by rw [ec]; exact k1)
      rw [ec] at own
      rw [k2]
      unfold pOf
      rw [List.foldl_cons, own]
      show _ = catS (s ++ sg c) cs
      by_cases e : V.int (cod z o c 2) = hm
      · have e1 : bhd hm (cod z o c 2) 2 = 0 := by unfold bhd; rw [if_pos e]
        have e2 : bhd hm (cod z o c 2) b = 0 := by unfold bhd; rw [if_pos e]
        rw [e1, e2]
        exact rd1 0 _ (.inl rfl)
      · have e1 : bhd hm (cod z o c 2) 2 = 2 := by unfold bhd; rw [if_neg e]
        have e2 : bhd hm (cod z o c 2) b = b := by unfold bhd; rw [if_neg e]
        rw [e1, e2]
        exact ih hs' b _ hb
    · obtain ⟨e, he, k1, k2⟩ := mem_shift.mp k
      rw [k2, List.foldl_cons, rdStep_shift s he]
      unfold pOf
      rw [List.foldl_cons, rdStep_own g s he k1]
      exact rd1 _ _ (is01_bhd he)
theorem le_one {z o : Str} {hm : V} (g : Good z o hm) {cs : List Nat} {t : T3} {b : Int} (h : Tells z o hm cs t) (hl : cs.length ≤ 401) (hb : Is01 b) : t.t2.length ≤ (t.at b).length + 1 := by
  cases h with
  | nil => exact Nat.zero_le _
  | @cons c cs r t h h0 h1 h2 =>
    have hl' : cs.length ≤ 400 := by simp at hl; omega
    have a := len3 g h hl' h2
    have b2 := len3 (b := b) g h hl' (Tells.first hb h0 h1)
    rcases hb with rfl | rfl <;> omega
/-- the law's row of three -/
structure I3 where
  c0 : Int
  c1 : Int
  c2 : Int
def I3.at (t : I3) (b : Int) : Int := if b = 0 then t.c0 else if b = 1 then t.c1 else t.c2
def I3.list (t : I3) : List V := [.int t.c0, .int t.c1, .int t.c2]
def strt (z o : Str) (hm : V) (c : Nat) (h : I3) (b : Int) : Int := if 0 ≤ cod z o c b then min 1000 (1 + h.at (bhd hm (cod z o c b) b)) else 1000
def rowNext (z o : Str) (hm : V) (c : Nat) (h : I3) : I3 :=
  ⟨min (strt z o hm c h 0) (1 + min (strt z o hm c h 0) (strt z o hm c h 1)), min (strt z o hm c h 1) (1 + min (strt z o hm c h 0) (strt z o hm c h 1)), min (strt z o hm c h 2) (1 + min (strt z o hm c h 0) (strt z o hm c h 1))⟩
def row3 (z o : Str) (hm : V) : List Nat → I3
  | [] => ⟨0, 0, 0⟩
  | c :: cs => rowNext z o hm c (row3 z o hm cs)
theorem I3.get {t : I3} {b : Int} (hb : Is012 b) : atI t.list b = some (.int (t.at b)) := by
  rcases hb with e | e | e <;> subst e
  · exact atI_nat (j := 0) rfl
  · exact atI_nat (j := 1) rfl
  · exact atI_nat (j := 2) rfl
def lenI (t : T3) : I3 := ⟨(t.t0.length : Int), (t.t1.length : Int), (t.t2.length : Int)⟩
theorem lenI_at (t : T3) {b : Int} (hb : Is012 b) : (lenI t).at b = ((t.at b).length : Int) := by
  rcases hb with e | e | e <;> subst e <;> rfl
theorem strt_eq {z o : Str} {hm : V} {c : Nat} {r : T3} {b : Int} (hb : Is012 b) : strt z o hm c (lenI r) b = rowC z o hm c r b := by
  unfold strt rowC
  rw [lenI_at r (is012_bhd hb)]
theorem row3_eq {z o : Str} {hm : V} (g : Good z o hm) : ∀ {cs : List Nat} {t : T3}, Tells z o hm cs t → cs.length ≤ 400 → row3 z o hm cs = lenI t := by
  intro cs t h
  induction h with
  | nil => intro _; rfl
  | @cons c cs r t h h0 h1 h2 ih =>
    intro hl
    have hl' : cs.length ≤ 400 := by simp at hl; omega
    show rowNext z o hm c (row3 z o hm cs) = _
    rw [ih hl']
    unfold rowNext
    rw [strt_eq (.inl rfl), strt_eq (.inr (.inl rfl)), strt_eq (.inr (.inr rfl))]
    have a0 := len3 g h hl' h0
    have a1 := len3 g h hl' h1
    have a2 := len3 g h hl' h2
    unfold lenI
    rw [a0, a1, a2]
theorem in_codes {o : Str} (nd : o.cps.toList.Nodup) (c : Nat) (k : Int) : inV (.int k) ((codesL o c).map V.int) = decide (0 ≤ fi o c ∧ fi o c = k) := by
  rw [codesL_eq nd]
  unfold inV
  rw [Bool.eq_iff_iff, List.any_eq_true, decide_eq_true_eq]
  constructor
  · rintro ⟨v, hv, e⟩
    by_cases h : 0 ≤ fi o c
    · rw [if_pos h] at hv
      obtain rfl : v = .int (fi o c) := by simpa using hv
      have e1 : (fi o c == k) = true := e
      exact ⟨h, eq_of_beq e1⟩
    · rw [if_neg h] at hv
      cases hv
  · rintro ⟨h, e⟩
    refine ⟨.int (fi o c), by rw [if_pos h]; simp, ?_⟩
    show (fi o c == k) = true
    rw [e]; exact beq_self_eq_true _
theorem cod2_eq {z o : Str} {c : Nat} (h : fi o c = fi z c) : cod z o c 2 = fi z c := by
  have e2 : cod z o c 2 = if fi o c ≠ fi z c then -1 else fi z c := rfl
  rw [e2, if_neg (fun k => k h)]
theorem cod2_neg {z o : Str} {c : Nat} (h : ¬ (0 ≤ fi z c ∧ 0 ≤ fi o c ∧ fi o c = fi z c)) : ¬ 0 ≤ cod z o c 2 := by
  have e2 : cod z o c 2 = if fi o c ≠ fi z c then -1 else fi z c := rfl
  rw [e2]
  intro k
  by_cases e : fi o c = fi z c
  · rw [if_neg (fun q => q e)] at k
    exact h ⟨k, by omega, e⟩
  · rw [if_pos e] at k
    omega
def spEither (P1 P2 : Addr) (q : Str) : Sp := fun vs H Q _ => ∃ (t : Addr) (z o : Str) (hm : V) (x : Str), vs = [.ref t, .str x] ∧ Good z o hm ∧ Sh H t z o hm ∧ x.cps.size ≤ 32 ∧ (∀ c ∈ x.cps.toList, InSet z o c) ∧ Tw P1 P2 q H ∧
  ∀ a T H', Kq P1 P2 q H H' → H a = none → Tells z o hm x.cps.toList T → H' a = some (.lst (T.t2.map V.int)) → Q (.ref a) H'
def spCosts3 : Sp := fun vs H Q _ => ∃ (t : Addr) (z o : Str) (hm : V) (x : Str), vs = [.ref t, .str x] ∧ Good z o hm ∧ Sh H t z o hm ∧ x.cps.size ≤ 32 ∧
  ∀ p H', Same H H' → H p = none → H' p = some (.lst (row3 z o hm x.cps.toList).list) → Q (.ref p) H'
end Kt
namespace Kt
open PySem PySem.Spec PyProof.Rows L2
/-! ### no tape is ahead of what is told -/
/-- u is not ahead of v -/
def Ge (u v : List Int) : Prop := ltK u v = false
theorem Ge.refl (u : List Int) : Ge u u := ltK_irrefl u
theorem Ge.trans {u v w : List Int} (a : Ge u v) (b : Ge v w) : Ge u w := by
  unfold Ge at *
  rcases ltK_tri a with e | e
  · rw [e]; exact b
  · cases h : ltK u w with
    | false => rfl
    | true => rw [← b, ltK_trans e h]
theorem Ge.len {u v : List Int} (a : Ge u v) : v.length ≤ u.length := by
  rcases Nat.lt_or_ge u.length v.length with k | k
  · unfold Ge at a; rw [ltK_len k] at a; cases a
  · exact k
theorem Ge.long {u v : List Int} (h : v.length < u.length) : Ge u v := ltK_ge h
theorem Ge.cons {u v : List Int} (k : Int) (a : Ge u v) : Ge (k :: u) (k :: v) := by
  unfold Ge ltK at *
  simp only [List.length_cons]
  by_cases e : u.length = v.length
  · rw [if_pos e] at a
    rw [if_pos (by omega)]
    unfold lx
    rw [if_pos rfl]; exact a
  · rw [if_neg e] at a
    rw [if_neg (by omega)]
    have := of_decide_eq_false a
    exact decide_eq_false (by omega)
theorem IsFirst.ge {L : List (List Int)} {t u : List Int} (f : IsFirst L t) (h : u ∈ L) : Ge u t := f.2 u h
/-- what a shift ahead costs -/
theorem shift_ge {z o : Str} {hm : V} {c : Nat} {r t : T3} {e : Int} {u w : List Int} (he : Is01 e) (h0 : IsFirst (plainL z o hm c r 0 ++ shiftL z o hm c r) t.t0) (h1 : IsFirst (plainL z o hm c r 1 ++ shiftL z o hm c r) t.t1)
    {b : Int} (hw : IsFirst (plainL z o hm c r b ++ shiftL z o hm c r) w) (h : Ge u (t.at e)) : Ge (((z.cps.size : Int) + e) :: u) w := by
  have f := Tells.first he h0 h1
  rcases List.mem_append.mp f.1 with k | k
  · obtain ⟨k1, k2⟩ := mem_plain.mp k
    refine Ge.trans (Ge.cons _ h) (hw.ge (List.mem_append_right _ (mem_shift.mpr ⟨e, he, k1, ?_⟩)))
    rw [k2]
  · have a := (hw.ge (List.mem_append_right (plainL z o hm c r b) k)).len
    have b := h.len
    exact Ge.long (by simp only [List.length_cons]; omega)
/-- how the reading goes on -/
theorem read_pre (z o : Str) (hm : V) : ∀ (u : List Int) (s : Str) (b : Int), ∃ w, (u.foldl (rdStep z o hm) (s, b)).1.cps.toList = s.cps.toList ++ w
  | [], s, b => ⟨[], by simp⟩
  | k :: u, s, b => by
    rw [List.foldl_cons]
    unfold rdStep
    split
    · obtain ⟨w, h⟩ := read_pre z o hm u s (k - z.cps.size)
      exact ⟨w, h⟩
    · obtain ⟨w, h⟩ := read_pre z o hm u (s ++ sg ((if b = 0 then z else o).cps.toList.getD k.toNat 0)) (if V.int k = hm then 0 else b)
      refine ⟨(if b = 0 then z else o).cps.toList.getD k.toNat 0 :: w, ?_⟩
      refine Eq.trans h ?_
      rw [Str.cps_append]
      simp [sg]
/-- a code that is no shift: it is the sign's own -/
theorem own_code {z o : Str} {hm : V} (g : Good z o hm) {k : Int} {u : List Int} {s : Str} {b : Int} {cs : List Nat} (hb : Is01 b) (k0 : 0 ≤ k) (k1 : k < (z.cps.size : Int)) (h : ((k :: u).foldl (rdStep z o hm) (s, b)).1 = catS s cs) :
    ∃ c cs', cs = c :: cs' ∧ fi (at01 z o b) c = k ∧ (u.foldl (rdStep z o hm) (s ++ sg c, bhd hm k b)).1 = catS (s ++ sg c) cs' := by
  rw [List.foldl_cons] at h
  have e : rdStep z o hm (s, b) k = (s ++ sg ((at01 z o b).cps.toList.getD k.toNat 0), bhd hm k b) := by
    unfold rdStep bhd at01
    rw [if_neg (by omega)]
  rw [e] at h
  generalize hc : (at01 z o b).cps.toList.getD k.toNat 0 = c at h
  obtain ⟨w, hw⟩ := read_pre z o hm u (s ++ sg c) (bhd hm k b)
  rw [h, catS_list, Str.cps_append, Array.toList_append] at hw
  have hw2 : cs = c :: w := by
    have : s.cps.toList ++ cs = s.cps.toList ++ ([c] ++ w) := by rw [hw, List.append_assoc]; rfl
    exact List.append_cancel_left this
  refine ⟨c, w, hw2, ?_, by rw [h, hw2]; rfl⟩
  have hk : k.toNat < (at01 z o b).cps.toList.length := by rw [Array.length_toList, at01_size g b]; omega
  have at1 : (at01 z o b).cps.toList[k.toNat]? = some c := by
    rw [← hc, List.getD_eq_getElem?_getD, List.getElem?_eq_getElem hk]; rfl
  have nd : (at01 z o b).cps.toList.Nodup := by
    rcases hb with e | e <;> subst e
    · exact g.nz
    · exact g.no
  rcases fi_spec (at01 z o b) c with ⟨_, h2⟩ | ⟨j, h1, h2⟩
  · exact absurd (List.mem_of_getElem? at1) h2
  · rw [h1]
    have := nd_ix nd at1 h2
    omega
theorem none_ahead {z o : Str} {hm : V} (g : Good z o hm) : ∀ (u : List Int) (cs : List Nat) (t : T3) (b : Int) (s : Str), Tells z o hm cs t → Codes z.cps.size u → Is01 b → (u.foldl (rdStep z o hm) (s, b)).1 = catS s cs → Ge u (t.at b) := by
  intro u
  induction u with
  | nil =>
    intro cs t b s ht _ hb h
    have e : cs = [] := by
      have h2 := congrArg (fun x : Str => x.cps.toList) h
      simp only [List.foldl_nil, catS_list] at h2
      simpa using h2
    subst e
    cases ht
    rcases hb with e | e <;> subst e <;> exact Ge.refl _
  | cons k u ih =>
    intro cs t b s ht hc hb h
    have hk := hc k List.mem_cons_self
    have hc' : Codes z.cps.size u := fun d hd => hc d (List.mem_cons_of_mem _ hd)
    by_cases ks : (z.cps.size : Int) ≤ k
    · obtain ⟨e, rfl⟩ : ∃ e, k = (z.cps.size : Int) + e := ⟨k - z.cps.size, by omega⟩
      have he : Is01 e := by unfold Is01; omega
      rw [List.foldl_cons, rdStep_shift s he] at h
      have ge := ih cs t e s ht hc' he h
      cases ht with
      | nil => rcases hb with y | y <;> subst y <;> exact Ge.long (Nat.succ_pos _)
      | cons h' h0 h1 h2 => exact shift_ge he h0 h1 (Tells.first hb h0 h1) ge
    · obtain ⟨c, cs', rfl, e1, e2⟩ := own_code g hb hk.1 (by omega) h
      cases ht with
      | @cons _ _ r _ h' h0 h1 h2 =>
      have ge := ih cs' r (bhd hm k b) (s ++ sg c) h' hc' (is01_bhd hb) e2
      have ec : cod z o c b = k := by rw [cod01 hb]; exact e1
      refine Ge.trans (Ge.cons k ge) ((Tells.first hb h0 h1).ge (List.mem_append_left _ (mem_plain.mpr ⟨by omega, ?_⟩)))
      unfold pOf
      rw [ec]
theorem none_ahead2 {z o : Str} {hm : V} (g : Good z o hm) : ∀ (u : List Int) (cs : List Nat) (t : T3) (s : Str), Tells z o hm cs t → Codes z.cps.size u → (∀ b, Is01 b → (u.foldl (rdStep z o hm) (s, b)).1 = catS s cs) → Ge u t.t2 := by
  intro u
  induction u with
  | nil =>
    intro cs t s ht _ h
    have e : cs = [] := by
      have h2 := congrArg (fun x : Str => x.cps.toList) (h 0 (.inl rfl))
      simp only [List.foldl_nil, catS_list] at h2
      simpa using h2
    subst e
    cases ht
    exact Ge.refl _
  | cons k u ih =>
    intro cs t s ht hc h
    have hk := hc k List.mem_cons_self
    have hc' : Codes z.cps.size u := fun d hd => hc d (List.mem_cons_of_mem _ hd)
    by_cases ks : (z.cps.size : Int) ≤ k
    · obtain ⟨e, rfl⟩ : ∃ e, k = (z.cps.size : Int) + e := ⟨k - z.cps.size, by omega⟩
      have he : Is01 e := by unfold Is01; omega
      have h := h 0 (.inl rfl)
      rw [List.foldl_cons, rdStep_shift s he] at h
      have ge := none_ahead g u cs t e s ht hc' he h
      cases ht with
      | nil => exact Ge.long (Nat.succ_pos _)
      | cons h' h0 h1 h2 => exact shift_ge he h0 h1 h2 ge
    · obtain ⟨c, cs', rfl, e1, e2⟩ := own_code g (b := 0) (.inl rfl) hk.1 (by omega) (h 0 (.inl rfl))
      obtain ⟨c2, cs2, e3, e4, e5⟩ := own_code g (b := 1) (.inr rfl) hk.1 (by omega) (h 1 (.inr rfl))
      injection e3 with e3 e6
      subst e3 e6
      have e1 : fi z c = k := e1
      have e4 : fi o c = k := e4
      have ec : cod z o c 2 = k := (cod2_eq (e4.trans e1.symm)).trans e1
      cases ht with
      | @cons _ _ r _ h' h0 h1 h2 =>
      have ge : Ge u (r.at (bhd hm k 2)) := by
        by_cases e : V.int k = hm
        · have b2 : bhd hm k 2 = 0 := by unfold bhd; rw [if_pos e]
          have b0 : bhd hm k 0 = 0 := by unfold bhd; rw [if_pos e]
          rw [b0] at e2
          rw [b2]
          exact none_ahead g u cs' r 0 (s ++ sg c) h' hc' (.inl rfl) e2
        · have b2 : bhd hm k 2 = 2 := by unfold bhd; rw [if_neg e]
          have b0 : bhd hm k 0 = 0 := by unfold bhd; rw [if_neg e]
          have b1 : bhd hm k 1 = 1 := by unfold bhd; rw [if_neg e]
          rw [b0] at e2
          rw [b1] at e5
          rw [b2]
          refine ih cs' r (s ++ sg c) h' hc' fun b hb => ?_
          rcases hb with y | y <;> subst y
          · exact e2
          · exact e5
      refine Ge.trans (Ge.cons k ge) (h2.ge (List.mem_append_left _ (mem_plain.mpr ⟨by omega, ?_⟩)))
      unfold pOf
      rw [ec]
end Kt
namespace Kt
open PySem PySem.Spec PyProof.Rows L2
/-! ### what is told is least -/
theorem argBest_len (tp : Nat → List Int) : ∀ n k, k ≤ n → (tp (argBest (btL tp) n)).length ≤ (tp k).length
  | 0, k, h => by
    obtain rfl : k = 0 := by omega
    exact Nat.le_refl _
  | n + 1, k, h => by
    unfold argBest
    by_cases c : btL tp (n + 1) (argBest (btL tp) n) = true
    · rw [if_pos c]
      have c2 : (tp (n + 1)).length < (tp (argBest (btL tp) n)).length := of_decide_eq_true c
      rcases Nat.lt_or_ge n k with g | g
      · obtain rfl : k = n + 1 := by omega
        exact Nat.le_refl _
      · exact Nat.le_trans (Nat.le_of_lt c2) (argBest_len tp n k g)
    · rw [if_neg c]
      have c2 : ¬ (tp (n + 1)).length < (tp (argBest (btL tp) n)).length := fun e => c (decide_eq_true e)
      rcases Nat.lt_or_ge n k with g | g
      · obtain rfl : k = n + 1 := by omega
        omega
      · exact argBest_len tp n k g
theorem minL_le {L : List (List Int)} {u : List Int} (h : u ∈ L) : (minL L).length ≤ u.length := by
  obtain ⟨i, hi, rfl⟩ := List.mem_iff_getElem.mp h
  have := argBest_len (fun i => L.getD i []) (L.length - 1) i (by omega)
  unfold minL
  refine Nat.le_trans this ?_
  show (L.getD i []).length ≤ _
  rw [List.getD_eq_getElem?_getD, List.getElem?_eq_getElem hi]; exact Nat.le_refl _
theorem mem_wc {z o : Str} {hm : V} {c : Nat} {now sp : Int} {R : Rst} {u : List Int} : u ∈ wcL z o hm c now sp R ↔ 0 ≤ gk z o c now ∧ 0 ≤ lf0 z o c now sp ∧ u = gk z o c now :: R (bhd hm (gk z o c now) now) (lft z o hm c now sp) := by
  unfold wcL
  by_cases h : gk z o c now < 0
  · rw [if_pos h]
    exact ⟨fun e => (nomatch e), fun e => absurd e.1 (by omega)⟩
  · rw [if_neg h]
    by_cases h2 : lf0 z o c now sp < 0
    · rw [if_pos h2]
      exact ⟨fun e => (nomatch e), fun e => absurd e.2.1 (by omega)⟩
    · rw [if_neg h2, List.mem_singleton]
      exact ⟨fun e => ⟨by omega, by omega, e⟩, fun e => e.2.2⟩
theorem mem_ws {z o : Str} {hm : V} {c : Nat} {now most : Int} {R : Rst} {u : List Int} : u ∈ wsL z o hm c now most R ↔
    (∃ v ∈ wcL z o hm c now 32 R, u = ((z.cps.size : Int) + now) :: v) ∨ (∃ v ∈ wcL z o hm c (1 - now) most R, u = ((z.cps.size : Int) + (1 - now)) :: v) ∨
    ∃ v ∈ wcL z o hm c (1 - now) 32 R, u = ((z.cps.size : Int) + (1 - now)) :: ((z.cps.size : Int) + (1 - now)) :: v := by
  unfold wsL
  rw [List.mem_append, List.mem_append, List.mem_map, List.mem_map, List.mem_map]
  constructor
  · rintro ((⟨v, h, e⟩ | ⟨v, h, e⟩) | ⟨v, h, e⟩)
    · exact .inl ⟨v, h, e.symm⟩
    · exact .inr (.inl ⟨v, h, e.symm⟩)
    · exact .inr (.inr ⟨v, h, e.symm⟩)
  · rintro (⟨v, h, e⟩ | ⟨v, h, e⟩ | ⟨v, h, e⟩)
    · exact .inl (.inl ⟨v, h, e.symm⟩)
    · exact .inl (.inr ⟨v, h, e.symm⟩)
    · exact .inr ⟨v, h, e.symm⟩
theorem lf0_mono (z o : Str) (c : Nat) (now : Int) {sp sp' : Int} (h : sp ≤ sp') : lf0 z o c now sp ≤ lf0 z o c now sp' := by
  unfold lf0; split <;> omega
theorem lft_mono (z o : Str) (hm : V) (c : Nat) (now : Int) {sp sp' : Int} (h : sp ≤ sp') : lft z o hm c now sp ≤ lft z o hm c now sp' := by
  unfold lft; split
  · exact Int.le_refl _
  · exact lf0_mono z o c now h
theorem lft_ok {z o : Str} (hm : V) {c : Nat} {now sp : Int} (h : 0 ≤ lf0 z o c now sp) (h1 : sp ≤ 32) : 0 ≤ lft z o hm c now sp ∧ lft z o hm c now sp ≤ 32 := by
  unfold lft; split
  · omega
  · refine ⟨h, ?_⟩
    unfold lf0; split <;> omega
/-- nowhere longer with more to spare -/
def RLe (R' R : Rst) : Prop := ∀ b sp sp' : Int, Is01 b → 0 ≤ sp → sp ≤ sp' → sp' ≤ 32 → (R' b sp').length ≤ (R b sp).length
theorem wc_mono {z o : Str} {hm : V} {c : Nat} {now sp sp' : Int} {R R' : Rst} {u : List Int} (M : RLe R' R) (hb : Is01 now) (h0 : 0 ≤ sp) (h : sp ≤ sp') (h1 : sp' ≤ 32) (hu : u ∈ wcL z o hm c now sp R) : ∃ v ∈ wcL z o hm c now sp' R', v.length ≤ u.length := by
  obtain ⟨a, b, rfl⟩ := mem_wc.mp hu
  have l0 := lf0_mono z o c now h
  refine ⟨_, mem_wc.mpr ⟨a, by omega, rfl⟩, ?_⟩
  have k := lft_ok hm b (by omega : sp ≤ 32)
  have k2 := lft_ok hm (by omega : 0 ≤ lf0 z o c now sp') h1
  have := M (bhd hm (gk z o c now) now) _ _ (is01_bhd hb) k.1 (lft_mono z o hm c now h) k2.2
  simp only [List.length_cons]; omega
theorem ws_mono {z o : Str} {hm : V} {c : Nat} {now most most' : Int} {R R' : Rst} {u : List Int} (M : RLe R' R) (hb : Is01 now) (h0 : 0 ≤ most) (h : most ≤ most') (h1 : most' ≤ 32) (hu : u ∈ wsL z o hm c now most R) : ∃ v ∈ wsL z o hm c now most' R', v.length ≤ u.length := by
  rcases mem_ws.mp hu with ⟨v, hv, rfl⟩ | ⟨v, hv, rfl⟩ | ⟨v, hv, rfl⟩
  · obtain ⟨v', h1', h2⟩ := wc_mono M hb (by decide) (Int.le_refl _) (Int.le_refl _) hv
    exact ⟨_, mem_ws.mpr (.inl ⟨v', h1', rfl⟩), by simp only [List.length_cons]; omega⟩
  · obtain ⟨v', h1', h2⟩ := wc_mono M (is01_other hb) h0 h h1 hv
    exact ⟨_, mem_ws.mpr (.inr (.inl ⟨v', h1', rfl⟩)), by simp only [List.length_cons]; omega⟩
  · obtain ⟨v', h1', h2⟩ := wc_mono M (is01_other hb) (by decide) (Int.le_refl _) (Int.le_refl _) hv
    exact ⟨_, mem_ws.mpr (.inr (.inr ⟨v', h1', rfl⟩)), by simp only [List.length_cons]; omega⟩
theorem step_ne {z o : Str} {hm : V} {c : Nat} {b sp most : Int} {R : Rst} (hb : Is01 b) (hin : InSet z o c) : stepR z o hm c most R b sp ∈ wcL z o hm c b sp R ++ wsL z o hm c b most R := by
  unfold stepR
  exact minL_mem fun e => wsL_ne (most := most) (R := R) (hm := hm) hb hin (List.append_eq_nil_iff.mp e).2
theorem step_mono {z o : Str} {hm : V} {c : Nat} {most most' : Int} {R R' : Rst} (hin : InSet z o c) (h0 : 0 ≤ most) (h : most ≤ most') (h1 : most' ≤ 32) (M : RLe R' R) : RLe (stepR z o hm c most' R') (stepR z o hm c most R) := by
  intro b sp sp' hb s0 s1 s2
  rcases List.mem_append.mp (step_ne (sp := sp) (most := most) (R := R) (hm := hm) hb hin) with k | k
  · obtain ⟨v, hv, hl⟩ := wc_mono M hb s0 s1 s2 k
    exact Nat.le_trans (minL_le (List.mem_append_left _ hv)) hl
  · obtain ⟨v, hv, hl⟩ := ws_mono M hb h0 h h1 k
    exact Nat.le_trans (minL_le (List.mem_append_right _ hv)) hl
theorem gR_mono {z o : Str} {hm : V} {most most' : Int} (h0 : 0 ≤ most) (h : most ≤ most') (h1 : most' ≤ 32) : ∀ {cs : List Nat}, (∀ c ∈ cs, InSet z o c) → RLe (gR z o hm most' cs) (gR z o hm most cs)
  | [], _ => fun _ _ _ _ _ _ _ => Nat.le_refl _
  | c :: cs, hs => step_mono (hs c List.mem_cons_self) h0 h h1 (gR_mono h0 h h1 fun d hd => hs d (List.mem_cons_of_mem _ hd))
/-- what a shift ahead is worth -/
theorem shift_le {z o : Str} {hm : V} {c : Nat} {most now e sp : Int} {R : Rst} (hin : InSet z o c) (h0 : 0 ≤ most) (h1 : most ≤ 32) (M : RLe R R) (hb : Is01 now) (he : Is01 e) :
    (stepR z o hm c most R now sp).length ≤ (stepR z o hm c most R e (if e = now then 32 else most)).length + 1 := by
  have le : ∀ u ∈ wsL z o hm c now most R, (stepR z o hm c most R now sp).length ≤ u.length := fun u hu => minL_le (List.mem_append_right _ hu)
  by_cases en : e = now
  · subst en
    rw [if_pos rfl]
    rcases List.mem_append.mp (step_ne (sp := 32) (most := most) (R := R) (hm := hm) hb hin) with k | k
    · exact le _ (mem_ws.mpr (.inl ⟨_, k, rfl⟩))
    · exact Nat.le_succ_of_le (le _ k)
  · rw [if_neg en]
    obtain rfl : e = 1 - now := by unfold Is01 at *; omega
    rcases List.mem_append.mp (step_ne (sp := most) (most := most) (R := R) (hm := hm) he hin) with k | k
    · exact le _ (mem_ws.mpr (.inr (.inl ⟨_, k, rfl⟩)))
    · generalize stepR z o hm c most R (1 - now) most = u at k
      have e2 : 1 - (1 - now) = now := by omega
      rcases mem_ws.mp k with ⟨v, hv, rfl⟩ | ⟨v, hv, rfl⟩ | ⟨v, hv, rfl⟩
      · exact le _ (mem_ws.mpr (.inr (.inr ⟨v, hv, rfl⟩)))
      · rw [e2] at hv
        obtain ⟨v', hv', hl⟩ := wc_mono (sp' := 32) M hb h0 h1 (by decide) hv
        refine Nat.le_trans (le _ (mem_ws.mpr (.inl ⟨v', hv', rfl⟩))) ?_
        simp only [List.length_cons]; omega
      · rw [e2] at hv
        refine Nat.le_trans (le _ (mem_ws.mpr (.inl ⟨v, hv, rfl⟩))) ?_
        simp only [List.length_cons]; omega
/-! ### guarded, told from the tape -/
/-- a code and what it leaves to spare -/
def lfk (z o : Str) (k sp : Int) : Int := if z.cps.toList.getD k.toNat 0 = o.cps.toList.getD k.toNat 0 then sp else sp - 1
def Gd (z o : Str) (hm : V) (most : Int) : List Int → Int → Int → Prop
  | [], _, _ => True
  | k :: cs, now, sp => if (z.cps.size : Int) ≤ k then Gd z o hm most cs (k - z.cps.size) (if k - z.cps.size = now then 32 else most)
      else 0 ≤ lfk z o k sp ∧ Gd z o hm most cs (bhd hm k now) (if V.int k = hm then 32 else lfk z o k sp)
theorem gd_shift {z o : Str} {hm : V} {most now sp e : Int} {cs : List Int} (he : Is01 e) : Gd z o hm most (((z.cps.size : Int) + e) :: cs) now sp ↔ Gd z o hm most cs e (if e = now then 32 else most) := by
  show (if _ then _ else _) ↔ _
  rw [if_pos (by rcases he with y | y <;> omega)]
  have : (z.cps.size : Int) + e - z.cps.size = e := by omega
  rw [this]
theorem gd_code {z o : Str} {hm : V} {most now sp k : Int} {cs : List Int} (hk : k < (z.cps.size : Int)) : Gd z o hm most (k :: cs) now sp ↔ 0 ≤ lfk z o k sp ∧ Gd z o hm most cs (bhd hm k now) (if V.int k = hm then 32 else lfk z o k sp) := by
  show (if _ then _ else _) ↔ _
  rw [if_neg (by omega)]
theorem rd_code {z o : Str} {hm : V} {k b : Int} {cs : List Int} (hk : k < (z.cps.size : Int)) : rd z o hm (k :: cs) b = (sg ((at01 z o b).cps.toList.getD k.toNat 0) ++ (rd z o hm cs (bhd hm k b)).1, (rd z o hm cs (bhd hm k b)).2) := by
  have e : rdStep z o hm (Str.ofString "", b) k = (sg ((at01 z o b).cps.toList.getD k.toNat 0), bhd hm k b) := by
    unfold rdStep bhd at01
    rw [if_neg (by omega)]
    show (Str.ofString "" ++ _, _) = _
    rw [nil_app]
  show cs.foldl (rdStep z o hm) (rdStep z o hm (Str.ofString "", b) k) = _
  rw [e]
  exact rd_from z o hm cs _ _
theorem rd_code_list {z o : Str} {hm : V} {k b : Int} {cs : List Int} (hk : k < (z.cps.size : Int)) : (rd z o hm (k :: cs) b).1.cps.toList = (at01 z o b).cps.toList.getD k.toNat 0 :: (rd z o hm cs (bhd hm k b)).1.cps.toList := by
  rw [rd_code hk, app_list]; rfl
/-- a good tape of a text -/
structure GT (z o : Str) (hm : V) (most : Int) (cs : List Nat) (u : List Int) (now sp : Int) : Prop where
  codes : Codes z.cps.size u
  read : (rd z o hm u now).1.cps.toList = cs
  gd : Gd z o hm most u now sp
theorem GT.shift {z o : Str} {hm : V} {most now sp e : Int} {cs : List Nat} {u : List Int} (he : Is01 e) (h : GT z o hm most cs u e (if e = now then 32 else most)) : GT z o hm most cs (((z.cps.size : Int) + e) :: u) now sp := by
  refine ⟨fun c hc => ?_, by rw [rd_shift he]; exact h.read, (gd_shift he).mpr h.gd⟩
  rcases List.mem_cons.mp hc with k | k
  · subst k; unfold Is01 at he; omega
  · exact h.codes c k
theorem gk_at {z o : Str} {hm : V} (g : Good z o hm) {c : Nat} {now : Int} (h : 0 ≤ gk z o c now) : (at01 z o now).cps.toList.getD (gk z o c now).toNat 0 = c := by
  unfold gk at *
  rcases fi_spec (at01 z o now) c with ⟨e, _⟩ | ⟨k, e, hk⟩
  · omega
  · rw [e, Int.toNat_natCast, List.getD_eq_getElem?_getD, hk]; rfl
theorem wc_ok {z o : Str} {hm : V} (g : Good z o hm) {c : Nat} {cs : List Nat} {most now sp : Int} {R : Rst} {u : List Int} (hb : Is01 now) (h1 : sp ≤ 32) (hR : ∀ b sp, Is01 b → 0 ≤ sp → sp ≤ 32 → GT z o hm most cs (R b sp) b sp) (hu : u ∈ wcL z o hm c now sp R) : GT z o hm most (c :: cs) u now sp := by
  obtain ⟨a, b, rfl⟩ := mem_wc.mp hu
  have ks := (gk_spec g c now).1
  have k := lft_ok hm b h1
  have r := hR (bhd hm (gk z o c now) now) (lft z o hm c now sp) (is01_bhd hb) k.1 k.2
  refine ⟨fun d hd => ?_, ?_, (gd_code ks).mpr ⟨b, r.gd⟩⟩
  · rcases List.mem_cons.mp hd with k | k
    · subst k; omega
    · exact r.codes d k
  · rw [rd_code_list ks, gk_at g a, r.read]
theorem gR_ok {z o : Str} {hm : V} (g : Good z o hm) {most : Int} (m0 : 0 ≤ most) (m1 : most ≤ 32) : ∀ {cs : List Nat}, (∀ c ∈ cs, InSet z o c) → ∀ b sp, Is01 b → 0 ≤ sp → sp ≤ 32 → GT z o hm most cs (gR z o hm most cs b sp) b sp
  | [], _ => fun b sp _ _ _ => ⟨fun c h => (nomatch h), nil_list, True.intro⟩
  | c :: cs, hs => fun b sp hb s0 s1 => by
    have ih := gR_ok g m0 m1 (cs := cs) fun d hd => hs d (List.mem_cons_of_mem _ hd)
    show GT z o hm most (c :: cs) (stepR z o hm c most (gR z o hm most cs) b sp) b sp
    rcases List.mem_append.mp (step_ne (sp := sp) (most := most) (R := gR z o hm most cs) (hm := hm) hb (hs c List.mem_cons_self)) with k | k
    · exact wc_ok g hb s1 ih k
    · generalize stepR z o hm c most (gR z o hm most cs) b sp = u at k
      rcases mem_ws.mp k with ⟨v, hv, rfl⟩ | ⟨v, hv, rfl⟩ | ⟨v, hv, rfl⟩
      · exact GT.shift hb (by rw [if_pos rfl]; exact wc_ok g hb (by decide) ih hv)
      · refine GT.shift (is01_other hb) ?_
        rw [if_neg (by unfold Is01 at hb; omega)]
        exact wc_ok g (is01_other hb) m1 ih hv
      · refine GT.shift (is01_other hb) ?_
        rw [if_neg (by unfold Is01 at hb; omega)]
        refine GT.shift (is01_other hb) ?_
        rw [if_pos rfl]
        exact wc_ok g (is01_other hb) (by decide) ih hv
theorem nodup_at {z o : Str} {hm : V} (g : Good z o hm) {b : Int} (hb : Is01 b) : (at01 z o b).cps.toList.Nodup := by
  rcases hb with e | e <;> subst e
  · exact g.nz
  · exact g.no
theorem gk_of {z o : Str} {hm : V} (g : Good z o hm) {k b : Int} (hb : Is01 b) (k0 : 0 ≤ k) (k1 : k < (z.cps.size : Int)) : gk z o ((at01 z o b).cps.toList.getD k.toNat 0) b = k := by
  have hk : k.toNat < (at01 z o b).cps.toList.length := by rw [Array.length_toList, at01_size g b]; omega
  generalize hc : (at01 z o b).cps.toList.getD k.toNat 0 = c
  have at1 : (at01 z o b).cps.toList[k.toNat]? = some c := by
    rw [← hc, List.getD_eq_getElem?_getD, List.getElem?_eq_getElem hk]; rfl
  unfold gk
  rcases fi_spec (at01 z o b) c with ⟨_, h2⟩ | ⟨j, h1, h2⟩
  · exact absurd (List.mem_of_getElem? at1) h2
  · rw [h1]
    have := nd_ix (nodup_at g hb) at1 h2
    omega
/-- no good tape is shorter -/
theorem gR_least {z o : Str} {hm : V} (g : Good z o hm) {most : Int} (m0 : 0 ≤ most) (m1 : most ≤ 32) : ∀ (v : List Int) (cs : List Nat) (b sp : Int), (∀ c ∈ cs, InSet z o c) → Is01 b → sp ≤ 32 → GT z o hm most cs v b sp → (gR z o hm most cs b sp).length ≤ v.length
  | [], cs, b, sp, hs, hb, s1, h => by
    have e := h.read
    rw [show (rd z o hm [] b).1 = Str.ofString "" from rfl, nil_list] at e
    subst e
    exact Nat.le_refl _
  | k :: v, cs, b, sp, hs, hb, s1, h => by
    have hk := h.codes k List.mem_cons_self
    have hc' : Codes z.cps.size v := fun d hd => h.codes d (List.mem_cons_of_mem _ hd)
    by_cases ks : (z.cps.size : Int) ≤ k
    · obtain ⟨e, rfl⟩ : ∃ e, k = (z.cps.size : Int) + e := ⟨k - z.cps.size, by omega⟩
      have he : Is01 e := by unfold Is01; omega
      have hr := h.read
      rw [rd_shift he] at hr
      have ih := gR_least g m0 m1 v cs e (if e = b then 32 else most) hs he (by split <;> omega) ⟨hc', hr, (gd_shift he).mp h.gd⟩
      cases cs with
      | nil => exact Nat.zero_le _
      | cons c cs =>
        have := shift_le (sp := sp) (hm := hm) (R := gR z o hm most cs) (hs c List.mem_cons_self) m0 m1 (gR_mono m0 (Int.le_refl _) m1 fun d hd => hs d (List.mem_cons_of_mem _ hd)) hb he
        exact Nat.le_trans this (Nat.succ_le_succ ih)
    · have ks : k < (z.cps.size : Int) := by omega
      have hr := h.read
      rw [rd_code_list ks] at hr
      have hg := (gd_code ks).mp h.gd
      have ek := gk_of g hb hk.1 ks
      cases cs with
      | nil => cases hr
      | cons c cs =>
        injection hr with hr1 hr2
        rw [hr1] at ek
        have el : lf0 z o c b sp = lfk z o k sp := by unfold lf0 lfk; rw [ek]
        have et : lft z o hm c b sp = if V.int k = hm then 32 else lfk z o k sp := by unfold lft; rw [ek, el]
        have l0 : 0 ≤ lf0 z o c b sp := by rw [el]; exact hg.1
        have ih := gR_least g m0 m1 v cs (bhd hm k b) (lft z o hm c b sp) (fun d hd => hs d (List.mem_cons_of_mem _ hd)) (is01_bhd hb) (lft_ok hm l0 s1).2 ⟨hc', hr2, by rw [et]; exact hg.2⟩
        refine Nat.le_trans (minL_le (List.mem_append_left _ (mem_wc.mpr ⟨by omega, l0, rfl⟩))) ?_
        rw [ek]
        exact Nat.succ_le_succ ih
/-! ### and told by reading without a shift -/
/-- what a lost turn ahead spoils -/
def dv (z o : Str) (hm : V) : List Int → Nat
  | [] => 0
  | k :: cs => if (z.cps.size : Int) ≤ k then 0 else (if z.cps.toList.getD k.toNat 0 = o.cps.toList.getD k.toNat 0 then 0 else 1) + if V.int k = hm then 0 else dv z o hm cs
def Kd (z o : Str) (hm : V) (most : Int) : List Int → Int → Prop
  | [], _ => True
  | k :: cs, now => if (z.cps.size : Int) ≤ k then (k - z.cps.size ≠ now → (dv z o hm cs : Int) ≤ most) ∧ Kd z o hm most cs (k - z.cps.size) else Kd z o hm most cs (bhd hm k now)
theorem dv_cons (z o : Str) (hm : V) (k : Int) (cs : List Int) : dv z o hm (k :: cs) = if (z.cps.size : Int) ≤ k then 0 else (if z.cps.toList.getD k.toNat 0 = o.cps.toList.getD k.toNat 0 then 0 else 1) + if V.int k = hm then 0 else dv z o hm cs := rfl
theorem kd_cons (z o : Str) (hm : V) (most k now : Int) (cs : List Int) : Kd z o hm most (k :: cs) now = if (z.cps.size : Int) ≤ k then (k - z.cps.size ≠ now → (dv z o hm cs : Int) ≤ most) ∧ Kd z o hm most cs (k - z.cps.size) else Kd z o hm most cs (bhd hm k now) := rfl
theorem gd_cons (z o : Str) (hm : V) (most k now sp : Int) (cs : List Int) : Gd z o hm most (k :: cs) now sp = if (z.cps.size : Int) ≤ k then Gd z o hm most cs (k - z.cps.size) (if k - z.cps.size = now then 32 else most)
      else 0 ≤ lfk z o k sp ∧ Gd z o hm most cs (bhd hm k now) (if V.int k = hm then 32 else lfk z o k sp) := rfl
theorem dv_le (z o : Str) (hm : V) : ∀ cs, dv z o hm cs ≤ signN z.cps.size cs
  | [] => Nat.le_refl _
  | k :: cs => by
    have ih := dv_le z o hm cs
    rw [dv_cons]
    unfold signN at *
    by_cases h : (z.cps.size : Int) ≤ k
    · rw [if_pos h]; exact Nat.zero_le _
    · rw [if_neg h, List.filter_cons_of_pos (by simp; omega), List.length_cons]
      split <;> split <;> omega
theorem signN_tl (n : Nat) (k : Int) (cs : List Int) : signN n cs ≤ signN n (k :: cs) := by
  unfold signN
  rw [List.filter_cons]
  split
  · exact Nat.le_succ _
  · exact Nat.le_refl _
theorem gd_kd {z o : Str} {hm : V} {most : Int} (m0 : 0 ≤ most) : ∀ (cs : List Int) (now sp : Int), signN z.cps.size cs ≤ 32 → 0 ≤ sp → (Gd z o hm most cs now sp ↔ (dv z o hm cs : Int) ≤ sp ∧ Kd z o hm most cs now)
  | [], now, sp, _, s0 => ⟨fun _ => ⟨by show ((0 : Nat) : Int) ≤ sp; omega, True.intro⟩, fun _ => True.intro⟩
  | k :: cs, now, sp, hl, s0 => by
    have hl' := Nat.le_trans (signN_tl _ k cs) hl
    have d32 : (dv z o hm cs : Int) ≤ 32 := by have := dv_le z o hm cs; omega
    by_cases h : (z.cps.size : Int) ≤ k
    · rw [gd_cons, kd_cons, dv_cons]
      rw [if_pos h, if_pos h, if_pos h]
      by_cases e : k - z.cps.size = now
      · rw [if_pos e, gd_kd m0 cs _ 32 hl' (by decide)]
        exact ⟨fun a => ⟨s0, fun c => absurd e c, a.2⟩, fun a => ⟨d32, a.2.2⟩⟩
      · rw [if_neg e, gd_kd m0 cs _ most hl' m0]
        exact ⟨fun a => ⟨s0, fun _ => a.1, a.2⟩, fun a => ⟨a.2.1 e, a.2.2⟩⟩
    · rw [gd_cons, kd_cons, dv_cons]
      rw [if_neg h, if_neg h, if_neg h]
      have el : lfk z o k sp = sp - ((if z.cps.toList.getD k.toNat 0 = o.cps.toList.getD k.toNat 0 then 0 else 1 : Nat) : Int) := by
        unfold lfk; split <;> simp
      generalize (if z.cps.toList.getD k.toNat 0 = o.cps.toList.getD k.toNat 0 then 0 else 1 : Nat) = d at el
      by_cases e : V.int k = hm
      · rw [if_pos e, if_pos e, gd_kd m0 cs _ 32 hl' (by decide)]
        exact ⟨fun a => ⟨by omega, a.2.2⟩, fun a => ⟨by omega, d32, a.2⟩⟩
      · rw [if_neg e, if_neg e]
        constructor
        · rintro ⟨a, b⟩
          have := (gd_kd m0 cs _ _ hl' a).mp b
          exact ⟨by omega, this.2⟩
        · rintro ⟨a, b⟩
          have l0 : 0 ≤ lfk z o k sp := by omega
          exact ⟨l0, (gd_kd m0 cs _ _ hl' l0).mpr ⟨by omega, b⟩⟩
theorem unlike_cons (a b : Nat) (x y : Str) : unlike (sg a ++ x) (sg b ++ y) = (if a = b then 0 else 1) + unlike x y := by
  have hz : (sg a ++ x).cps.size = x.cps.size + 1 := by rw [Str.cps_append, Array.size_append]; simp [sg]; omega
  have l1 : (sg a ++ x).cps.toList = a :: x.cps.toList := by rw [app_list]; rfl
  have l2 : (sg b ++ y).cps.toList = b :: y.cps.toList := by rw [app_list]; rfl
  unfold unlike
  rw [hz]
  generalize x.cps.size = k
  induction k with
  | zero =>
    rw [unlikeV_succ, l1, l2]
    show 0 + (if a ≠ b then 1 else 0) = _ + 0
    by_cases h : a = b
    · rw [if_neg (fun c => c h), if_pos h]
    · rw [if_pos h, if_neg h]
  | succ k ih =>
    rw [unlikeV_succ, ih, unlikeV_succ, l1, l2, List.getD_cons_succ, List.getD_cons_succ]
    omega
theorem unlike_self (x : Str) : unlike x x = 0 := by
  unfold unlike
  generalize x.cps.size = k
  induction k with
  | zero => rfl
  | succ k ih => rw [unlikeV_succ, ih, if_neg (fun c => c rfl)]
/-- the other set behind a turn -/
theorem unlike_dv {z o : Str} {hm : V} (g : Good z o hm) : ∀ (cs : List Int) (b e : Int), Codes z.cps.size cs → Is01 b → Is01 e → b ≠ e → unlike (rd z o hm cs b).1 (rd z o hm cs e).1 = dv z o hm cs
  | [], b, e, _, _, _, _ => unlike_self _
  | k :: cs, b, e, hc, hb, he, ne => by
    have hk := hc k List.mem_cons_self
    have hc' : Codes z.cps.size cs := fun d hd => hc d (List.mem_cons_of_mem _ hd)
    rw [dv_cons]
    by_cases h : (z.cps.size : Int) ≤ k
    · rw [if_pos h]
      obtain ⟨f, rfl⟩ : ∃ f, k = (z.cps.size : Int) + f := ⟨k - z.cps.size, by omega⟩
      have hf : Is01 f := by unfold Is01; omega
      rw [rd_shift hf, rd_shift hf]; exact unlike_self _
    · rw [if_neg h, rd_code (by omega), rd_code (by omega), unlike_cons]
      congr 1
      · have e1 : ((at01 z o b).cps.toList.getD k.toNat 0 = (at01 z o e).cps.toList.getD k.toNat 0) ↔ (z.cps.toList.getD k.toNat 0 = o.cps.toList.getD k.toNat 0) := by
          rcases hb with y | y <;> rcases he with y' | y' <;> subst y <;> subst y'
          · exact absurd rfl ne
          · exact Iff.rfl
          · exact ⟨Eq.symm, Eq.symm⟩
          · exact absurd rfl ne
        by_cases c : z.cps.toList.getD k.toNat 0 = o.cps.toList.getD k.toNat 0
        · rw [if_pos c, if_pos (e1.mpr c)]
        · rw [if_neg c, if_neg fun d => c (e1.mp d)]
      · unfold bhd
        by_cases c : V.int k = hm
        · rw [if_pos c, if_pos c, if_pos c]; exact unlike_self _
        · rw [if_neg c, if_neg c, if_neg c]; exact unlike_dv g cs b e hc' hb he ne
theorem plc_cons (n : Nat) (k : Int) (cs : List Int) : plc n (k :: cs) = (if (n : Int) ≤ k then [0] else []) ++ (plc n cs).map (· + 1) := by
  unfold plc
  rw [List.length_cons, List.range_succ_eq_map, List.filter_cons, List.filter_map]
  have e : (List.range cs.length).filter ((fun i => decide ((n : Int) ≤ (k :: cs).getD i 0)) ∘ Nat.succ) = (List.range cs.length).filter fun i => decide ((n : Int) ≤ cs.getD i 0) := rfl
  rw [e]
  show (if decide ((n : Int) ≤ k) = true then _ else _) = _
  by_cases h : (n : Int) ≤ k
  · rw [if_pos (decide_eq_true h), if_pos h]; rfl
  · rw [if_neg (fun c => h (of_decide_eq_true c)), if_neg h]; rfl
/-- no lost shift spoils more -/
def NoMore (z o : Str) (hm : V) (cs : List Int) (b most : Int) : Prop := ∀ i ∈ plc z.cps.size cs, ((unlike (rd z o hm cs b).1 (wo z o hm cs b i) : Nat) : Int) ≤ most
theorem noMore_kd {z o : Str} {hm : V} (g : Good z o hm) {most : Int} (m0 : 0 ≤ most) : ∀ (cs : List Int) (b : Int), Codes z.cps.size cs → Is01 b → (NoMore z o hm cs b most ↔ Kd z o hm most cs b)
  | [], b, _, _ => ⟨fun _ => True.intro, fun _ i h => by cases h⟩
  | k :: cs, b, hc, hb => by
    have hk := hc k List.mem_cons_self
    have hc' : Codes z.cps.size cs := fun d hd => hc d (List.mem_cons_of_mem _ hd)
    rw [kd_cons]
    unfold NoMore
    rw [plc_cons]
    by_cases h : (z.cps.size : Int) ≤ k
    · rw [if_pos h, if_pos h]
      obtain ⟨f, rfl⟩ : ∃ f, k = (z.cps.size : Int) + f := ⟨k - z.cps.size, by omega⟩
      have hf : Is01 f := by unfold Is01; omega
      have ef : (z.cps.size : Int) + f - z.cps.size = f := by omega
      rw [ef, ← noMore_kd g m0 cs f hc' hf, rd_shift hf]
      have w0 : wo z o hm (((z.cps.size : Int) + f) :: cs) b 0 = (rd z o hm cs b).1 := rfl
      have w1 : ∀ i, wo z o hm (((z.cps.size : Int) + f) :: cs) b (i + 1) = wo z o hm cs f i := fun i => by
        show (rd z o hm (((z.cps.size : Int) + f) :: cutAt cs i) b).1 = _
        rw [rd_shift hf]; rfl
      constructor
      · intro a
        refine ⟨fun ne => ?_, fun i hi => ?_⟩
        · have := a 0 (List.mem_append_left _ (List.mem_singleton.mpr rfl))
          rwa [w0, unlike_dv g cs f b hc' hf hb ne] at this
        · have := a (i + 1) (List.mem_append_right _ (List.mem_map.mpr ⟨i, hi, rfl⟩))
          rwa [w1] at this
      · rintro ⟨a, c⟩ i hi
        rcases List.mem_append.mp hi with m | m
        · obtain rfl := List.mem_singleton.mp m
          rw [w0]
          by_cases e : f = b
          · subst e; rw [unlike_self]; exact m0
          · rw [unlike_dv g cs f b hc' hf hb e]; exact a e
        · obtain ⟨j, hj, rfl⟩ := List.mem_map.mp m
          show ((unlike _ (wo z o hm (((z.cps.size : Int) + f) :: cs) b (j + 1)) : Nat) : Int) ≤ most
          rw [w1]; exact c j hj
    · rw [if_neg h, if_neg h]
      have ks : k < (z.cps.size : Int) := by omega
      rw [← noMore_kd g m0 cs (bhd hm k b) hc' (is01_bhd hb)]
      have w1 : ∀ i, unlike (rd z o hm (k :: cs) b).1 (wo z o hm (k :: cs) b (i + 1)) = unlike (rd z o hm cs (bhd hm k b)).1 (wo z o hm cs (bhd hm k b) i) := fun i => by
        show unlike _ (rd z o hm (k :: cutAt cs i) b).1 = _
        rw [rd_code ks, rd_code ks, unlike_cons, if_pos rfl, Nat.zero_add]; rfl
      constructor
      · intro a i hi
        have := a (i + 1) (List.mem_append_right _ (List.mem_map.mpr ⟨i, hi, rfl⟩))
        rwa [w1] at this
      · intro c i hi
        obtain ⟨j, hj, rfl⟩ := List.mem_map.mp hi
        show ((unlike _ (wo z o hm (k :: cs) b (j + 1)) : Nat) : Int) ≤ most
        rw [w1]; exact c j hj
theorem kept_iff (z o : Str) (hm : V) (cs : List Int) (b most : Int) : kept z o hm cs b most = true ↔ NoMore z o hm cs b most := by
  unfold kept losses NoMore lossOf
  rw [List.all_map, List.all_eq_true]
  exact ⟨fun h i hi => of_decide_eq_true (h i hi), fun h i hi => decide_eq_true (h i hi)⟩
theorem rd_sign {z o : Str} {hm : V} {cs : List Int} {b : Int} : signN z.cps.size cs = (rd z o hm cs b).1.cps.toList.length := by
  rw [Array.length_toList, rd_size]
/-- what guarded tells -/
theorem gR_told {z o : Str} {hm : V} (g : Good z o hm) {x : Str} {b most : Int} (m0 : 0 ≤ most) (m1 : most ≤ 32) (hx : x.cps.size ≤ 32) (hs : ∀ c ∈ x.cps.toList, InSet z o c) (hb : Is01 b) :
    Codes z.cps.size (gR z o hm most x.cps.toList b 32) ∧ (rd z o hm (gR z o hm most x.cps.toList b 32) b).1 = x ∧ NoMore z o hm (gR z o hm most x.cps.toList b 32) b most ∧
    ∀ v, Codes z.cps.size v → (rd z o hm v b).1 = x → NoMore z o hm v b most → (gR z o hm most x.cps.toList b 32).length ≤ v.length := by
  have h := gR_ok g m0 m1 hs b 32 hb (by decide) (by decide)
  have hr := str_ext h.read
  have sz : ∀ v, (rd z o hm v b).1 = x → signN z.cps.size v ≤ 32 := fun v e => by
    rw [rd_sign (o := o) (hm := hm) (b := b), e, Array.length_toList]; exact hx
  refine ⟨h.codes, hr, (noMore_kd g m0 _ b h.codes hb).mpr ((gd_kd m0 _ b 32 (sz _ hr) (by decide)).mp h.gd).2, fun v hc e n => ?_⟩
  refine gR_least g m0 m1 v _ b 32 hs hb (by decide) ⟨hc, by rw [e], (gd_kd m0 v b 32 (sz v e) (by decide)).mpr ⟨?_, (noMore_kd g m0 v b hc hb).mp n⟩⟩
  have := dv_le z o hm v
  have := sz v e
  omega
end Kt
namespace Kt
open PySem PySem.Spec PyProof.Rows L2
/-! ### a def that holds where nothing is wrong, and one that refuses -/
theorem FnOk.or {P : Program} {w : World} {K : PySem.W.Frag} {mg : Str → Option Value} {base : Heap} {CX : CXT} {j k : Nat} {f : Addr} {fd : FuncData} {ps : List Str} {sp sp' : Sp} (F : FnOk P w K mg base CX0 j f fd ps sp) (G : FnOk P w K mg base CX k f fd ps sp') (hj : j ≤ k) :
    FnOk P w K mg base CX k f fd ps (fun vs H Q E => sp vs H Q E0 ∨ sp' vs H Q E) := by
  refine ⟨fun vs H Q E h => h.elim (F.len vs H Q E0) (G.len vs H Q E), fun A outer s H args us vs Q E hr e0 hb r h => ?_⟩
  rcases h with h | h
  · refine codeAny_mono (F.run A outer s H args us vs Q E0 (hr.mono hj) e0 hb r h) fun r s' c => ?_
    cases r with
    | ok fl => cases fl <;> exact c
    | error e => exact c.elim
  · exact G.run A outer s H args us vs Q E hr e0 hb r h
/-! ### the refusals -/
inductive Rf where
  | sheet | set | count
  | tape (n : Nat)
  | sign (n : Nat)
/-- the classes -/
structure Kc where
  sh : Addr
  st : Addr
  ct : Addr
  tp : Addr
  sg : Addr
def Refd (C : Kc) (W : TWs) (H : Hp) (E : XK) : Rf → Prop
  | .sheet => ∀ H', Kz W H H' → E (.ref C.sh) none H'
  | .set => ∀ H', Kz W H H' → E (.ref C.st) none H'
  | .count => ∀ H', Kz W H H' → E (.ref C.ct) none H'
  | .tape n => ∀ H' dx, Kz W H H' → H' dx = none → E (.ref C.tp) (some dx) (upd H' dx (.xd [("place", .int (n : Nat))]))
  | .sign n => ∀ H' dx, Kz W H H' → H' dx = none → E (.ref C.sg) (some dx) (upd H' dx (.xd [("place", .int (n : Nat))]))
/-- how a call ends -/
def Ends (C : Kc) (W : TWs) (H : Hp) (Q : VK) (E : XK) : Option Rf → Prop
  | none => ∀ v H', Kz W H H' → Q v H'
  | some r => Refd C W H E r
section
variable {C : Kc} {W : TWs} {H H1 : Hp} {Q : VK} {E : XK}
theorem Refd.kz {r : Rf} (e : Refd C W H E r) (k : Kz W H H1) : Refd C W H1 E r := by
  cases r with
  | sheet => exact fun H' k' => e H' (k.trans k')
  | set => exact fun H' k' => e H' (k.trans k')
  | count => exact fun H' k' => e H' (k.trans k')
  | tape n => exact fun H' dx k' => e H' dx (k.trans k')
  | sign n => exact fun H' dx k' => e H' dx (k.trans k')
theorem Ends.kz {r : Option Rf} (e : Ends C W H Q E r) (k : Kz W H H1) : Ends C W H1 Q E r := by
  cases r with
  | none => exact fun v H' k' => e v H' (k.trans k')
  | some r => exact Refd.kz (r := r) e k
end
/-! ### what a lambda sees -/
section
variable {W : TWs} {H H' H1 : Hp} {L : Fxs}
theorem same_add (fr : Fre L H') : Same H' (addF H' L) := fun b o e => by
  cases z : L.lookup b with
  | some v => rw [fr b v z] at e; cases e
  | none => rw [addF_out z]; exact e
theorem stay_del (hL : ∀ b o, L.lookup b = some o → H b = some (Fz o)) {b : Addr} {o : HO} (n : ∀ v, o ≠ Fz v) (e : H b = some o) : delF H L b = some o := by
  cases z : L.lookup b with
  | some v => rw [hL b v z] at e; exact absurd (Option.some.inj e).symm (n v)
  | none => rw [delF_out z]; exact e
theorem tbl_fz (ps : Array Value) (v : Obj) : HO.tbl ps ≠ Fz v := fun e => by unfold Fz at e; cases e
theorem code_fz (c : Addr) (q : Str) (v : Obj) : LamX.CodeO c q ≠ Fz v := fun e => by unfold Fz LamX.CodeO at e; cases e
theorem lst_fz (xs : List V) (v : Obj) : HO.lst xs ≠ Fz v := fun e => by unfold Fz at e; cases e
theorem tup_fz (xs : List V) (v : Obj) : HO.tup xs ≠ Fz v := fun e => by unfold Fz at e; cases e
theorem tb_del (hL : ∀ b o, L.lookup b = some o → H b = some (Fz o)) (t : Tb W H) : Tb W (delF H L) := by
  refine ⟨fun P h => ?_, fun p h => ?_⟩
  · obtain ⟨ps, h1, h2⟩ := t.g P h
    exact ⟨ps, stay_del hL (tbl_fz ps) h1, h2⟩
  · obtain ⟨ps, h1, h2, h3⟩ := t.l p h
    refine ⟨ps, stay_del hL (tbl_fz ps) h1, h2, fun pos cv hc => ?_⟩
    obtain ⟨c, e1, e2⟩ := h3 pos cv hc
    exact ⟨c, e1, stay_del hL (code_fz _ _) e2⟩
theorem kz_th (hL : ∀ b o, L.lookup b = some o → H1 b = some (Fz o)) (k : Kz W (delF H1 L) H') (fr : Fre L H') : Kz W H1 (addF H' L) := by
  refine ⟨k.tb.same (same_add fr), fun b o n e => ?_, fun b e => ?_⟩
  · cases z : L.lookup b with
    | some v => rw [addF_in z, ← hL b v z]; exact e
    | none => exact same_add fr b o (k.at' b o n (by rw [delF_out z]; exact e))
  · cases z : L.lookup b with
    | some v => rw [addF_in z] at e; cases e
    | none =>
      rw [addF_out z] at e
      have := k.nn b e
      rw [delF_out z] at this
      exact this
theorem add_upd {dx : Addr} {o : HO} (fr : Fre L (upd H' dx o)) : Fre L H' ∧ addF (upd H' dx o) L = upd (addF H' L) dx o ∧ addF H' L dx = H' dx := by
  have nd : L.lookup dx = none := by
    cases z : L.lookup dx with
    | none => rfl
    | some v =>
      have := fr dx v z
      rw [upd_same] at this
      cases this
  refine ⟨fun b v z => ?_, ?_, addF_out nd⟩
  · have h := fr b v z
    have nb : b ≠ dx := fun e => by rw [e, nd] at z; cases z
    rw [upd_ne nb] at h
    exact h
  · funext b
    by_cases e : b = dx
    · rw [e, addF_out nd, upd_same, upd_same]
    · rw [upd_ne e]
      cases z : L.lookup b with
      | some v => rw [addF_in z, addF_in z]
      | none => rw [addF_out z, addF_out z, upd_ne e]
theorem Ends.th {C : Kc} {Q : VK} {E : XK} {r : Option Rf} (hL : ∀ b o, L.lookup b = some o → H1 b = some (Fz o)) (e : Ends C W H1 Q E r) :
    Ends C W (delF H1 L) (fun v H' => Fre L H' → Q v (addF H' L)) (fun cls d H' => Fre L H' → E cls d (addF H' L)) r := by
  cases r with
  | none => exact fun v H' k fr => e v _ (kz_th hL k fr)
  | some r =>
    cases r with
    | sheet => exact fun H' k fr => e _ (kz_th hL k fr)
    | set => exact fun H' k fr => e _ (kz_th hL k fr)
    | count => exact fun H' k fr => e _ (kz_th hL k fr)
    | tape n =>
      refine fun H' dx k nd fr => ?_
      obtain ⟨f1, f2, f3⟩ := add_upd fr
      rw [f2]
      exact e _ dx (kz_th hL k f1) (by rw [f3]; exact nd)
    | sign n =>
      refine fun H' dx k nd fr => ?_
      obtain ⟨f1, f2, f3⟩ := add_upd fr
      rw [f2]
      exact e _ dx (kz_th hL k f1) (by rw [f3]; exact nd)
end
/-- what a function without parameters does, told by how it ends -/
def thSp (C : Kc) (W : TWs) (r : Option Rf) : Hp → VK → XK → Prop := fun H Q E => Tb W H ∧ Ends C W H Q E r
theorem th_mk {P : Program} {w : World} {K : PySem.W.Frag} {mg : Str → Option Value} {base : Heap} {k : Nat} {H : Hp} {f : Addr} {q : Str} {params : Arguments} {body : Expr} {scope : Scope} {cells : List (Str × Addr)} {N ns : List Str} {σ : L2.St} {L : Fxs} {nd : Bool} {C : Kc} {W : TWs} {r : Option Rf}
    (la : LamAt H f q params body scope (cloFrom cells scope.names []) nd) (hL : ∀ b o, L.lookup b = some o → H b = some (Fz o)) (cp : Caps cells N σ ns L) (hinj : ∀ x y c, cells.lookup x = some c → cells.lookup y = some c → x = y) (hlen : σ.length = N.length) (S : ThS N ns scope) (bd : Bd q params body scope (cloFrom cells scope.names []) nd)
    (hbody : ∀ (A : Around) (outer : List Env) (s : Shared) (H1 : Hp) (Q : VK) (E : XK) (c' : Addr), Room k (A.deeper (thEnv q scope s.heap.objs.size f c' (cloFrom cells scope.names []))) → (∀ b o, (∀ ps, o ≠ .tbl ps) → (∀ v, o ≠ Fz v) → H b = some o → H1 b = some o) → Tb W H1 → Ends C W H1 Q E r →
      ∃ t, PE (thCx P w K mg base N q scope f c' (cloFrom cells scope.names []) A outer s H1 E) body t ∧ t σ H1 Q) : ThOk P w K mg base (k + 1) H f (thSp C W r) := by
  refine th_of la hL cp S hinj hlen bd fun A outer s H1 Q E c' hr st h => ?_
  have hL1 : ∀ b o, L.lookup b = some o → H1 b = some (Fz o) := fun b o e => st b _ (fz_ne _) (hL b o e)
  exact hbody A outer s (delF H1 L) _ _ c' hr (fun b o n m e => stay_del hL1 m (st b o n e)) (tb_del hL1 h.1) (h.2.th hL1)
/-- the names that the lambdas of a def read -/
structure CapS (sc : Scope) (ns : List Str) : Prop where
  cap : ∀ n ∈ ns, sc.names.lookup n = some .cell
theorem caps_by {X : Cx} {sc : Scope} {ns : List Str} (e : X.env.scope = sc) (c : CapS sc ns) : ∀ n ∈ ns, X.env.kindOf n = some .cell := fun n hn => by
  have z := c.cap n hn
  rw [← e] at z
  exact z
theorem hfree_by {X : Cx} {sc scope : Scope} {ns : List Str} (e : X.env.scope = sc) (c : CapS sc ns) (hk : (scope.names.all fun y => !decide (y.2 = .free) || decide (y.1 ∈ ns)) = true) : X.Ok → ∀ y ∈ scope.names, y.2 = .free → ∃ c, X.env.cells.lookup y.1 = some c := fun ok y hy e2 => by
  have z := List.all_eq_true.mp hk y hy
  rw [e2] at z
  simp only [decide_true, Bool.not_true, Bool.false_or, decide_eq_true_eq] at z
  exact ok.has y.1 (.inl (caps_by e c y.1 z))
/-! ### the tables are told apart -/
def TWs.Apart (W : TWs) : Prop := (W.gs ++ W.ls.map (·.1)).Nodup
theorem nodup_fst : ∀ {ls : List (Addr × Str)}, (ls.map (·.1)).Nodup → ∀ {P : Addr} {q : Str}, (P, q) ∈ ls → ∀ p ∈ ls, p.1 = P → p.2 = q
  | (a, b) :: ls, nd, P, q, h, p, hp, e => by
    rw [List.map_cons, List.nodup_cons] at nd
    rcases List.mem_cons.mp h with h | h
    · cases h
      rcases List.mem_cons.mp hp with g | g
      · rw [g]
      · exact absurd (List.mem_map.mpr ⟨p, g, e⟩) nd.1
    · rcases List.mem_cons.mp hp with g | g
      · subst g
        exact absurd (List.mem_map.mpr ⟨(P, q), h, e.symm⟩) nd.1
      · exact nodup_fst nd.2 h p g e
section
variable {W : TWs} {H H1 : Hp} {P P1 P2 : Addr} {q : Str}
theorem TWs.Apart.hu (a : W.Apart) (h : (P, q) ∈ W.ls) : ∀ p ∈ W.ls, p.1 = P → p.2 = q := nodup_fst (List.nodup_append.mp a).2.1 h
theorem TWs.Apart.hg (a : W.Apart) (h : (P, q) ∈ W.ls) : P ∉ W.gs := fun g => (List.nodup_append.mp a).2.2 P g P (List.mem_map.mpr ⟨_, h, rfl⟩) rfl
theorem TWs.Apart.ne (a : W.Apart) (g : P1 ∈ W.gs) : ∀ p ∈ W.ls, p.1 ≠ P1 := fun p hp e => (List.nodup_append.mp a).2.2 P1 g P1 (List.mem_map.mpr ⟨p, hp, e⟩) rfl
theorem TWs.Apart.ne2 (a : W.Apart) (g : P1 ∈ W.gs) (h : (P2, q) ∈ W.ls) : P1 ≠ P2 := fun e => a.ne g _ h e.symm
theorem kz_p (a : W.Apart) (g : P ∈ W.gs) (t : Tb W H) (k : Kp P H H1) : Kz W H H1 := Kz.kp t g (a.ne g) k
theorem kz_q (a : W.Apart) (g : P1 ∈ W.gs) (h : (P2, q) ∈ W.ls) (t : Tb W H) (k : Kq P1 P2 q H H1) : Kz W H H1 := by
  have tw : Tw P1 P2 q H := ⟨t.g P1 g, t.l _ h⟩
  refine ⟨⟨fun P hP => ?_, fun p hp => ?_⟩, fun b o n e => k.get tw e n, fun b e => k.new e⟩
  · by_cases e : P = P1
    · rw [e]; exact k.tw.t1
    · obtain ⟨ps, h1, h2⟩ := t.g P hP
      exact ⟨ps, k.at' P _ e (a.ne2 hP h) h1, h2⟩
  · obtain ⟨ps, h1, h2, h3⟩ := t.l p hp
    by_cases e : p.1 = P2
    · rw [e, a.hu h p hp e]; exact k.tw.t2
    · refine ⟨ps, k.at' p.1 _ (a.ne g p hp) e h1, h2, fun pos cv hc => ?_⟩
      obtain ⟨c, e1, e2⟩ := h3 pos cv hc
      exact ⟨c, e1, k.get tw e2 fun ps => LamX.codeO_ne ps⟩
end
end Kt
namespace Kt
open PySem PySem.Spec PyProof.Rows L2
/-! ### which refusal -/
def TapeV (n : Nat) (cs : List Int) : Option Nat → Prop
  | none => Codes n cs ∧ cs.length ≤ 100
  | some p => p ≤ 100 ∧ (∀ (j : Nat) (c : Int), j < p → cs[j]? = some c → 0 ≤ c ∧ c < (n : Int) + 2) ∧ ∃ c : Int, cs[p]? = some c ∧ (p = 100 ∨ ¬ (0 ≤ c ∧ c < (n : Int) + 2))
def TextV (z o : Str) (x : Str) : Option Nat → Prop
  | none => x.cps.size ≤ 32 ∧ ∀ c ∈ x.cps.toList, InSet z o c
  | some p => p ≤ 32 ∧ (∀ (j c : Nat), j < p → x.cps.toList[j]? = some c → InSet z o c) ∧ ∃ c : Nat, x.cps.toList[p]? = some c ∧ (p = 32 ∨ ¬ InSet z o c)
def VTape (z o : Str) (hm : V) (cs : List Int) (b : Int) : Option Rf → Prop
  | none => Good z o hm ∧ TapeV z.cps.size cs none ∧ Is01 b
  | some .sheet => goodB z o hm = false
  | some (.tape p) => Good z o hm ∧ TapeV z.cps.size cs (some p)
  | some .set => Good z o hm ∧ TapeV z.cps.size cs none ∧ ¬ Is01 b
  | some _ => False
def VJoin (z o : Str) (hm : V) (L : List (List Int)) (b : Int) : Option Rf → Prop
  | none => Good z o hm ∧ (∀ cs ∈ L, TapeV z.cps.size cs none) ∧ Is01 b
  | some .sheet => goodB z o hm = false
  | some (.tape p) => Good z o hm ∧ ∃ (i : Nat) (cs : List Int), (∀ (j : Nat) (u : List Int), j < i → L[j]? = some u → TapeV z.cps.size u none) ∧ L[i]? = some cs ∧ TapeV z.cps.size cs (some p)
  | some .set => Good z o hm ∧ (∀ cs ∈ L, TapeV z.cps.size cs none) ∧ ¬ Is01 b
  | some _ => False
def VText (z o : Str) (hm : V) (x : Str) (b : Int) : Option Rf → Prop
  | none => Good z o hm ∧ TextV z o x none ∧ Is01 b
  | some .sheet => goodB z o hm = false
  | some (.sign p) => Good z o hm ∧ TextV z o x (some p)
  | some .set => Good z o hm ∧ TextV z o x none ∧ ¬ Is01 b
  | some _ => False
def VEither (z o : Str) (hm : V) (x : Str) : Option Rf → Prop
  | none => Good z o hm ∧ TextV z o x none
  | some .sheet => goodB z o hm = false
  | some (.sign p) => Good z o hm ∧ TextV z o x (some p)
  | some _ => False
def VSheet (z o : Str) (hm : V) : Option Rf → Prop
  | none => Good z o hm
  | some .sheet => goodB z o hm = false
  | some _ => False
/-- a number is asked for behind all else -/
def VC (R : Option Rf → Prop) (ok : Prop) : Option Rf → Prop
  | none => R none ∧ ok
  | some .count => R none ∧ ¬ ok
  | some r => R (some r)
/-- a sheet of any kind -/
structure Any (H : Hp) (t : Addr) (z o : Str) (hm : V) : Prop where
  hh : HomeV hm
  sh : Sh H t z o hm
  zz : z.cps.size ≤ 1000
  zo : o.cps.size ≤ 1000
/-- a list of numbers -/
structure Ints (H : Hp) (a : Addr) (cs : List Int) : Prop where
  at' : H a = some (.lst (cs.map V.int))
  le : cs.length ≤ 1000
section
variable {W : TWs} {H H' : Hp} {t a : Addr} {z o : Str} {hm : V} {cs : List Int}
theorem Any.kz (x : Any H t z o hm) (k : Kz W H H') : Any H' t z o hm := ⟨x.hh, k.sh x.sh, x.zz, x.zo⟩
theorem Ints.kz (x : Ints H a cs) (k : Kz W H H') : Ints H' a cs := ⟨k.lst x.at', x.le⟩
theorem Good.any (g : Good z o hm) (s : Sh H t z o hm) : Any H t z o hm := ⟨g.home.elim .inl fun ⟨h, e, _⟩ => .inr ⟨_, e⟩, s, Nat.le_trans g.le (by decide), Nat.le_trans (Nat.le_of_eq g.len) (Nat.le_trans g.le (by decide))⟩
end
/-! ### the promises -/
def spTapeX (K : PySem.W.Frag) (C : Kc) : Sp := fun vs H Q E => ∃ (t a : Addr) (z o : Str) (hm : V) (cs : List Int) (r : Option Nat), vs = [.ref t, .ref a] ∧ Good z o hm ∧ Sh H t z o hm ∧ SqL K H a (cs.map V.int) ∧ cs.length ≤ 1000 ∧ TapeV z.cps.size cs r ∧
  match r with
  | none => ∀ H', Same H H' → Q .non H'
  | some p => ∀ H' dx, Same H H' → H' dx = none → E (.ref C.tp) (some dx) (upd H' dx (.xd [("place", .int (p : Nat))]))
def spTextX (C : Kc) : Sp := fun vs H Q E => ∃ (t : Addr) (z o : Str) (hm : V) (x : Str) (r : Option Nat), vs = [.ref t, .str x] ∧ Good z o hm ∧ Sh H t z o hm ∧ x.cps.size ≤ 1000 ∧ TextV z o x r ∧
  match r with
  | none => ∀ H', Same H H' → Q .non H'
  | some p => ∀ H' dx, Same H H' → H' dx = none → E (.ref C.sg) (some dx) (upd H' dx (.xd [("place", .int (p : Nat))]))
def spSetX (C : Kc) : Sp := fun vs H Q E => ∃ b : Int, vs = [.int b] ∧ (Is01 b → Q .non H) ∧ (¬ Is01 b → E (.ref C.st) none H)
def spCountX (C : Kc) : Sp := fun vs H Q E => ∃ m n : Int, vs = [.int m, .int n] ∧ n.natAbs.log2 < 1920 ∧ (0 ≤ m ∧ m ≤ n → Q .non H) ∧ (¬ (0 ≤ m ∧ m ≤ n) → E (.ref C.ct) none H)
def spTp (C : Kc) (W : TWs) : Sp := fun vs H Q E => ∃ (t a : Addr) (z o : Str) (hm : V) (cs : List Int) (b : Int) (r : Option Rf), vs = [.ref t, .ref a, .int b] ∧ Any H t z o hm ∧ Ints H a cs ∧ VTape z o hm cs b r ∧ Tb W H ∧ Ends C W H Q E r
def spTpS (C : Kc) (W : TWs) : Sp := fun vs H Q E => ∃ (t a : Addr) (z o : Str) (hm : V) (cs : List Int) (b : Int) (x : Str) (r : Option Rf), vs = [.ref t, .ref a, .int b, .str x] ∧ Any H t z o hm ∧ Ints H a cs ∧ VTape z o hm cs b r ∧ Tb W H ∧ Ends C W H Q E r
def spTpG (C : Kc) (W : TWs) : Sp := fun vs H Q E => ∃ (t a : Addr) (z o : Str) (hm : V) (cs : List Int) (b m : Int) (r : Option Rf), vs = [.ref t, .ref a, .int b, .int m] ∧ Any H t z o hm ∧ Ints H a cs ∧ VC (VTape z o hm cs b) (0 ≤ m ∧ m ≤ 32) r ∧ Tb W H ∧ Ends C W H Q E r
def spTpC (C : Kc) (W : TWs) : Sp := fun vs H Q E => ∃ (t a : Addr) (z o : Str) (hm : V) (cs : List Int) (b m : Int) (r : Option Rf), vs = [.ref t, .ref a, .int b, .int m] ∧ Any H t z o hm ∧ Ints H a cs ∧ VC (VTape z o hm cs b) (0 ≤ m ∧ m ≤ (cs.length : Int)) r ∧ Tb W H ∧ Ends C W H Q E r
def spJn (C : Kc) (W : TWs) : Sp := fun vs H Q E => ∃ (t l : Addr) (z o : Str) (hm : V) (as : List Addr) (L : List (List Int)) (b : Int) (r : Option Rf), vs = [.ref t, .ref l, .int b] ∧ Any H t z o hm ∧ H l = some (.lst (as.map V.ref)) ∧ Tps H as L ∧ (∀ cs ∈ L, cs.length ≤ 1000) ∧ L.length ≤ 300 ∧ VJoin z o hm L b r ∧ Tb W H ∧ Ends C W H Q E r
def spTx (C : Kc) (W : TWs) : Sp := fun vs H Q E => ∃ (t : Addr) (z o : Str) (hm : V) (x : Str) (b : Int) (r : Option Rf), vs = [.ref t, .str x, .int b] ∧ Any H t z o hm ∧ x.cps.size ≤ 1000 ∧ VText z o hm x b r ∧ Tb W H ∧ Ends C W H Q E r
def spTxG (C : Kc) (W : TWs) : Sp := fun vs H Q E => ∃ (t : Addr) (z o : Str) (hm : V) (x : Str) (b m : Int) (r : Option Rf), vs = [.ref t, .str x, .int b, .int m] ∧ Any H t z o hm ∧ x.cps.size ≤ 1000 ∧ VC (VText z o hm x b) (0 ≤ m ∧ m ≤ 32) r ∧ Tb W H ∧ Ends C W H Q E r
def spEi (C : Kc) (W : TWs) : Sp := fun vs H Q E => ∃ (t : Addr) (z o : Str) (hm : V) (x : Str) (r : Option Rf), vs = [.ref t, .str x] ∧ Any H t z o hm ∧ x.cps.size ≤ 1000 ∧ VEither z o hm x r ∧ Tb W H ∧ Ends C W H Q E r
def spWr (C : Kc) (W : TWs) : Sp := fun vs H Q E => ∃ (t : Addr) (z o : Str) (hm : V) (r : Option Rf), vs = [.ref t] ∧ Any H t z o hm ∧ VSheet z o hm r ∧ Tb W H ∧ Ends C W H Q E r
/-! ### what the law has -/
def rfKind : Rf → Nat
  | .sheet => 0
  | .set => 1
  | .tape _ => 2
  | .sign _ => 3
  | .count => 4
def rfNum : Rf → Int
  | .tape n => (n : Nat)
  | .sign n => (n : Nat)
  | _ => 0
def RfV (H : Hp) (v : V) : Option Rf → Prop
  | none => v = .non
  | some r => ∃ p, v = .ref p ∧ H p = some (.tup [.str (kindWord (rfKind r)), .int (rfNum r)])
theorem RfV.kz {W : TWs} {H H' : Hp} {v : V} {r : Option Rf} (x : RfV H v r) (k : Kz W H H') : RfV H' v r := by
  cases r with
  | none => exact x
  | some r =>
    obtain ⟨p, e, h⟩ := x
    exact ⟨p, e, k.tup h⟩
theorem RfV.al {H : Hp} {n : Nat} {v u : V} {r : Option Rf} (a : RfV H v r) (b : RfV H u r) : Al H (n + 1) v u := by
  cases r with
  | none =>
    have a : v = .non := a
    have b : u = .non := b
    rw [a, b]; exact .non _
  | some r =>
    obtain ⟨p, rfl, a⟩ := a
    obtain ⟨q, rfl, b⟩ := b
    refine .tup a b rfl (by simp) fun i x y h1 h2 => ?_
    rw [h1] at h2
    cases h2
    match i, h1 with
    | 0, h1 => cases h1; exact .str _ _
    | 1, h1 => cases h1; exact .int _ _
section
variable (P : Program) (w : World) (K : PySem.W.Frag) (mg : Str → Option Value) (base : Heap) (k : Nat) (C : Kc) (W : TWs)
/-- all of them end so -/
def AllTh (H : Hp) (fs : List Addr) (r : Option Rf) : Prop := ∀ f ∈ fs, ThOk P w K mg base k H f (thSp C W r)
def spRefused : Sp := fun vs H Q _ => ∃ (f : Addr) (r : Option Rf), vs = [.ref f] ∧ ThOk P w K mg base k H f (thSp C W r) ∧ Tb W H ∧ ∀ v H', Kz W H H' → RfV H' v r → Q v H'
def spAll : Sp := fun vs H Q _ => ∃ (l : Addr) (fs : List Addr) (due : V) (r : Option Rf), vs = [.ref l, due] ∧ H l = some (.lst (fs.map V.ref)) ∧ fs.length ≤ 1000 ∧ AllTh P w K mg base k C W H fs r ∧ RfV H due r ∧ Tb W H ∧ ∀ H', Kz W H H' → Q (.bl true) H'
def spOfTapes : Sp := fun vs H Q _ => ∃ (t a : Addr) (z o : Str) (hm : V) (cs : List Int) (b m : Int) (r : Option Rf), vs = [.ref t, .ref a, .int b, .int m] ∧ Any H t z o hm ∧ Ints H a cs ∧ VTape z o hm cs b r ∧ (r = none → 0 ≤ m ∧ m ≤ 32 ∧ m ≤ (cs.length : Int)) ∧ Tb W H ∧
  ∀ p fs H', Kz W H H' → H p = none → H' p = some (.lst (fs.map V.ref)) → fs.length = 8 → AllTh P w K mg base k C W H' fs r → Q (.ref p) H'
def spOfTexts : Sp := fun vs H Q _ => ∃ (t : Addr) (z o : Str) (hm : V) (x : Str) (b m : Int) (r : Option Rf), vs = [.ref t, .str x, .int b, .int m] ∧ Any H t z o hm ∧ x.cps.size ≤ 1000 ∧ VText z o hm x b r ∧ (r = none → 0 ≤ m ∧ m ≤ 32) ∧ Tb W H ∧
  ∀ p fs H', Kz W H H' → H p = none → H' p = some (.lst (fs.map V.ref)) → fs.length = 2 → AllTh P w K mg base k C W H' fs r → Q (.ref p) H'
end
theorem AllTh.mono {P : Program} {w : World} {K : PySem.W.Frag} {mg : Str → Option Value} {base : Heap} {k : Nat} {C : Kc} {W : TWs} {H H' : Hp} {fs : List Addr} {r : Option Rf} (a : AllTh P w K mg base k C W H fs r) (s : Stays H H') : AllTh P w K mg base k C W H' fs r := fun f hf => (a f hf).mono s
theorem AllTh.app {P : Program} {w : World} {K : PySem.W.Frag} {mg : Str → Option Value} {base : Heap} {k : Nat} {C : Kc} {W : TWs} {H : Hp} {fs gs : List Addr} {r : Option Rf} (a : AllTh P w K mg base k C W H fs r) (b : AllTh P w K mg base k C W H gs r) : AllTh P w K mg base k C W H (fs ++ gs) r := fun f hf => (List.mem_append.mp hf).elim (a f) (b f)
/-- a sheet that cannot be -/
def spBad : Sp := fun vs H Q _ => ∃ (b l t : Addr) (z o : Str) (hm : V), vs = [.ref b, .ref t] ∧ BoxAt H b l ∧ Good z o hm ∧ Sh H t z o hm ∧
  ∀ t' z' o' hm' H', Any H' t' z' o' hm' → goodB z' o' hm' = false → Bxd b l H H' → Q (.ref t') H'
end Kt
namespace Kt
open PySem PySem.Spec PyProof.Rows L2
theorem FnOk.both {P : Program} {w : World} {K : PySem.W.Frag} {mg : Str → Option Value} {base : Heap} {CX : CXT} {j k : Nat} {f : Addr} {fd : FuncData} {ps : List Str} {sp sp0 spb : Sp} (F : FnOk P w K mg base CX0 j f fd ps sp0) (G : FnOk P w K mg base CX k f fd ps spb) (hj : j ≤ k)
    (h : ∀ vs H Q E, sp vs H Q E → sp0 vs H Q E0 ∨ spb vs H Q E) : FnOk P w K mg base CX k f fd ps sp := (FnOk.or F G hj).imp h
/-! ### only the refusals -/
def spTpN (C : Kc) (W : TWs) : Sp := fun vs H Q E => ∃ (t a : Addr) (z o : Str) (hm : V) (cs : List Int) (b : Int) (r : Rf), vs = [.ref t, .ref a, .int b] ∧ Any H t z o hm ∧ Ints H a cs ∧ VTape z o hm cs b (some r) ∧ Tb W H ∧ Refd C W H E r
def spTpSN (C : Kc) (W : TWs) : Sp := fun vs H Q E => ∃ (t a : Addr) (z o : Str) (hm : V) (cs : List Int) (b : Int) (x : Str) (r : Rf), vs = [.ref t, .ref a, .int b, .str x] ∧ Any H t z o hm ∧ Ints H a cs ∧ VTape z o hm cs b (some r) ∧ Tb W H ∧ Refd C W H E r
def spTpGN (C : Kc) (W : TWs) : Sp := fun vs H Q E => ∃ (t a : Addr) (z o : Str) (hm : V) (cs : List Int) (b m : Int) (r : Rf), vs = [.ref t, .ref a, .int b, .int m] ∧ Any H t z o hm ∧ Ints H a cs ∧ VC (VTape z o hm cs b) (0 ≤ m ∧ m ≤ 32) (some r) ∧ Tb W H ∧ Refd C W H E r
def spTpCN (C : Kc) (W : TWs) : Sp := fun vs H Q E => ∃ (t a : Addr) (z o : Str) (hm : V) (cs : List Int) (b m : Int) (r : Rf), vs = [.ref t, .ref a, .int b, .int m] ∧ Any H t z o hm ∧ Ints H a cs ∧ VC (VTape z o hm cs b) (0 ≤ m ∧ m ≤ (cs.length : Int)) (some r) ∧ Tb W H ∧ Refd C W H E r
def spJnN (C : Kc) (W : TWs) : Sp := fun vs H Q E => ∃ (t l : Addr) (z o : Str) (hm : V) (as : List Addr) (L : List (List Int)) (b : Int) (r : Rf), vs = [.ref t, .ref l, .int b] ∧ Any H t z o hm ∧ H l = some (.lst (as.map V.ref)) ∧ Tps H as L ∧ (∀ cs ∈ L, cs.length ≤ 1000) ∧ L.length ≤ 300 ∧ VJoin z o hm L b (some r) ∧ Tb W H ∧ Refd C W H E r
def spTxN (C : Kc) (W : TWs) : Sp := fun vs H Q E => ∃ (t : Addr) (z o : Str) (hm : V) (x : Str) (b : Int) (r : Rf), vs = [.ref t, .str x, .int b] ∧ Any H t z o hm ∧ x.cps.size ≤ 1000 ∧ VText z o hm x b (some r) ∧ Tb W H ∧ Refd C W H E r
def spTxGN (C : Kc) (W : TWs) : Sp := fun vs H Q E => ∃ (t : Addr) (z o : Str) (hm : V) (x : Str) (b m : Int) (r : Rf), vs = [.ref t, .str x, .int b, .int m] ∧ Any H t z o hm ∧ x.cps.size ≤ 1000 ∧ VC (VText z o hm x b) (0 ≤ m ∧ m ≤ 32) (some r) ∧ Tb W H ∧ Refd C W H E r
def spEiN (C : Kc) (W : TWs) : Sp := fun vs H Q E => ∃ (t : Addr) (z o : Str) (hm : V) (x : Str) (r : Rf), vs = [.ref t, .str x] ∧ Any H t z o hm ∧ x.cps.size ≤ 1000 ∧ VEither z o hm x (some r) ∧ Tb W H ∧ Refd C W H E r
def spWrN (C : Kc) (W : TWs) : Sp := fun vs H Q E => ∃ (t : Addr) (z o : Str) (hm : V) (r : Rf), vs = [.ref t] ∧ Any H t z o hm ∧ VSheet z o hm (some r) ∧ Tb W H ∧ Refd C W H E r
/-! ### the checks, told by the verdict -/
section
variable {C : Kc} {W : TWs} {H : Hp} {Q : VK} {E : XK} {t a : Addr} {z o : Str} {hm : V} {P CS : Addr}
theorem good_not {z o : Str} {hm : V} (g : Good z o hm) (b : goodB z o hm = false) : False := by rw [goodB_iff.mpr g] at b; cases b
/-- what comes behind the sheet, of a text -/
inductive TxR (z o : Str) (x : Str) (b : Int) : Option Rf → Prop
  | sign (p : Nat) (h : TextV z o x (some p)) : TxR z o x b (some (.sign p))
  | set (h : TextV z o x none) (nb : ¬ Is01 b) : TxR z o x b (some .set)
  | none (h : TextV z o x none) (hb : Is01 b) : TxR z o x b none
theorem VText.rest {z o : Str} {hm : V} {x : Str} {b : Int} {r : Option Rf} (v : VText z o hm x b r) (g : Good z o hm) : TxR z o x b r := by
  match r, v with
  | none, v => exact .none v.2.1 v.2.2
  | some .sheet, v => exact (good_not g v).elim
  | some (.sign p), v => exact .sign p v.2
  | some .set, v => exact .set v.2.1 v.2.2
theorem VText.bad {z o : Str} {hm : V} {x : Str} {b : Int} {r : Option Rf} (v : VText z o hm x b r) (g : goodB z o hm = false) : r = some .sheet := by
  match r, v with
  | none, v => exact (good_not v.1 g).elim
  | some .sheet, v => rfl
  | some (.sign p), v => exact (good_not v.1 g).elim
  | some .set, v => exact (good_not v.1 g).elim
theorem VTape.bad {z o : Str} {hm : V} {cs : List Int} {b : Int} {r : Option Rf} (v : VTape z o hm cs b r) (g : goodB z o hm = false) : r = some .sheet := by
  match r, v with
  | none, v => exact (good_not v.1 g).elim
  | some .sheet, v => rfl
  | some (.tape p), v => exact (good_not v.1 g).elim
  | some .set, v => exact (good_not v.1 g).elim
theorem VJoin.bad {z o : Str} {hm : V} {L : List (List Int)} {b : Int} {r : Option Rf} (v : VJoin z o hm L b r) (g : goodB z o hm = false) : r = some .sheet := by
  match r, v with
  | none, v => exact (good_not v.1 g).elim
  | some .sheet, v => rfl
  | some (.tape p), v => exact (good_not v.1 g).elim
  | some .set, v => exact (good_not v.1 g).elim
theorem VEither.bad {z o : Str} {hm : V} {x : Str} {r : Option Rf} (v : VEither z o hm x r) (g : goodB z o hm = false) : r = some .sheet := by
  match r, v with
  | none, v => exact (good_not v.1 g).elim
  | some .sheet, v => rfl
  | some (.sign p), v => exact (good_not v.1 g).elim
/-- with a number behind: the number, or the rest -/
theorem VC.split {R : Option Rf → Prop} {ok : Prop} {r : Option Rf} (v : VC R ok r) : (r = some .count ∧ R none ∧ ¬ ok) ∨ (R r ∧ (r = none → ok)) := by
  match r, v with
  | none, v => exact .inr ⟨v.1, fun _ => v.2⟩
  | some .count, v => exact .inl ⟨rfl, v.1, v.2⟩
  | some .sheet, v => exact .inr ⟨v, fun e => nomatch e⟩
  | some .set, v => exact .inr ⟨v, fun e => nomatch e⟩
  | some (.tape n), v => exact .inr ⟨v, fun e => nomatch e⟩
  | some (.sign n), v => exact .inr ⟨v, fun e => nomatch e⟩
theorem VC.of {R : Option Rf → Prop} {ok : Prop} {r : Option Rf} (v : R r) (h : r = none → ok) (nc : r ≠ some .count) : VC R ok r := by
  match r, v with
  | none, v => exact ⟨v, h rfl⟩
  | some .count, v => exact absurd rfl nc
  | some .sheet, v => exact v
  | some .set, v => exact v
  | some (.tape n), v => exact v
  | some (.sign n), v => exact v
end
end Kt
namespace Kt
open PySem PySem.Spec PyProof.Rows L2
/-! ### what a lambda finds -/
section
variable {W : TWs} {H H1 H2 : Hp} {L : Fxs} {t a f : Addr} {z o : Str} {hm : V} {cs : List Int}
/-- all that is no table and nothing fixed stays -/
def Stz (H H1 : Hp) : Prop := ∀ b o, (∀ ps, o ≠ .tbl ps) → (∀ v, o ≠ Fz v) → H b = some o → H1 b = some o
theorem Any.stz (x : Any H t z o hm) (s : Stz H H1) : Any H1 t z o hm := ⟨x.hh, s _ _ (fun _ e => nomatch e) (tup_fz _) x.sh, x.zz, x.zo⟩
theorem Ints.stz (x : Ints H a cs) (s : Stz H H1) : Ints H1 a cs := ⟨s _ _ (fun _ e => nomatch e) (lst_fz _) x.at', x.le⟩
theorem LamAt.kz {q : Str} {params : Arguments} {body : Expr} {scope : Scope} {clo : List (Str × Addr)} {nd : Bool} (l : LamAt H f q params body scope clo nd) (k : Kz W H H1) : LamAt H1 f q params body scope clo nd := l.mono k.at'
theorem LamAt.same {q : Str} {params : Arguments} {body : Expr} {scope : Scope} {clo : List (Str × Addr)} {nd : Bool} (l : LamAt H f q params body scope clo nd) (s : Same H H1) : LamAt H1 f q params body scope clo nd := l.mono fun b o _ e => s b o e
theorem kz_add (k : Kz W H H1) (fr : Fre L H1) : Kz W H (addF H1 L) := k.trans (Kz.same k.tb (same_add fr))
/-- the fixed ones are told of, then let go -/
theorem kz_del (k : Kz W (addF H1 L) H2) (fr : Fre L H1) : Kz W H1 (delF H2 L) := by
  have hL : ∀ b o, L.lookup b = some o → H2 b = some (Fz o) := fun b o e => k.at' b _ (fz_ne _) (addF_in e)
  refine ⟨tb_del hL k.tb, fun b o n e => ?_, fun b e => ?_⟩
  · cases z : L.lookup b with
    | some v => rw [fr b v z] at e; cases e
    | none => rw [delF_out z]; exact k.at' b o n (by rw [addF_out z]; exact e)
  · cases z : L.lookup b with
    | some v => exact fr b v z
    | none =>
      rw [delF_out z] at e
      have := k.nn b e
      rw [addF_out z] at this
      exact this
end
/-! ### joined, of one tape among others -/
theorem tapeV_nil (n : Nat) : TapeV n [] none := ⟨fun c h => (nomatch h), by simp⟩
theorem tapeV_0 (n : Nat) : TapeV n [0] none := ⟨fun c h => by rw [List.mem_singleton.mp h]; omega, by simp⟩
theorem vjoin1 {z o : Str} {hm : V} {cs : List Int} {b : Int} {r : Option Rf} (v : VTape z o hm cs b r) : VJoin z o hm [[], cs] b r := by
  have al : ∀ {n : Nat}, TapeV n cs none → ∀ u ∈ [[], cs], TapeV n u none := fun h u hu => by
    rcases List.mem_cons.mp hu with e | hu
    · rw [e]; exact tapeV_nil _
    · rw [List.mem_singleton.mp hu]; exact h
  match r, v with
  | none, v => exact ⟨v.1, al v.2.1, v.2.2⟩
  | some .sheet, v => exact v
  | some (.tape p), v =>
    refine ⟨v.1, 1, cs, fun j u hj e => ?_, rfl, v.2⟩
    obtain rfl : j = 0 := by omega
    obtain rfl : [] = u := Option.some.inj e
    exact tapeV_nil _
  | some .set, v => exact ⟨v.1, al v.2.1, v.2.2⟩
theorem vjoin2 {z o : Str} {hm : V} {cs : List Int} {b : Int} {r : Option Rf} (v : VTape z o hm cs b r) : VJoin z o hm [cs, [], [0]] b r := by
  have al : ∀ {n : Nat}, TapeV n cs none → ∀ u ∈ [cs, [], [0]], TapeV n u none := fun h u hu => by
    rcases List.mem_cons.mp hu with e | hu
    · rw [e]; exact h
    · rcases List.mem_cons.mp hu with e | hu
      · rw [e]; exact tapeV_nil _
      · rw [List.mem_singleton.mp hu]; exact tapeV_0 _
  match r, v with
  | none, v => exact ⟨v.1, al v.2.1, v.2.2⟩
  | some .sheet, v => exact v
  | some (.tape p), v => exact ⟨v.1, 0, cs, fun j u hj e => absurd hj (Nat.not_lt_zero _), rfl, v.2⟩
  | some .set, v => exact ⟨v.1, al v.2.1, v.2.2⟩
theorem VTape.nc {z o : Str} {hm : V} {cs : List Int} {b : Int} {r : Option Rf} (v : VTape z o hm cs b r) : r ≠ some .count := fun e => by rw [e] at v; exact v
theorem VText.nc {z o : Str} {hm : V} {x : Str} {b : Int} {r : Option Rf} (v : VText z o hm x b r) : r ≠ some .count := fun e => by rw [e] at v; exact v
end Kt
namespace Kt
open PySem PySem.Spec PyProof.Rows L2
/-! ### sheets that cannot be -/
section
variable {z o : Str} {hm : V}
theorem bad_len (h : z.cps.size ≠ o.cps.size) : goodB z o hm = false := by unfold goodB; rw [decide_eq_false h, Bool.false_and]
theorem bad_size (h : ¬ (1 ≤ z.cps.size ∧ z.cps.size ≤ 26)) : goodB z o hm = false := by unfold goodB; rw [decide_eq_false h, Bool.false_and, Bool.and_false]
theorem bad_z (h : canB z = false) : goodB z o hm = false := by unfold goodB; rw [h, Bool.false_and, Bool.false_and, Bool.and_false, Bool.and_false]
theorem bad_o (h : canB o = false) : goodB z o hm = false := by unfold goodB; rw [h, Bool.and_false, Bool.false_and, Bool.and_false, Bool.and_false]
theorem bad_h (h : homeB z hm = false) : goodB z o hm = false := by unfold goodB; rw [h, Bool.and_false, Bool.and_false, Bool.and_false]
end
theorem sz_tl (x : Str) : x.cps.size = (TL.tl x).length := rfl
theorem tl_cut1 {z : Str} (h : 1 ≤ z.cps.size) : TL.tl (cutS z none (some 1)) = (TL.tl z).take 1 := by
  have e : HT.sIx z.length z.length (some 1) = 1 := by
    show (if (1 : Int) < 0 then ((1 : Int) + (z.length : Int)).toNat else min (1 : Int).toNat z.length) = 1
    rw [if_neg (by decide)]
    show min 1 z.cps.size = 1
    omega
  show ((z.cps.toList.drop (HT.sIx z.length 0 none)).take (HT.sIx z.length z.length (some 1) - HT.sIx z.length 0 none)) = _
  rw [e]
  rfl
theorem tl_cutm {z : Str} (h : 1 ≤ z.cps.size) : TL.tl (cutS z none (some (-1))) = (TL.tl z).take (z.cps.size - 1) := by
  have e : HT.sIx z.length z.length (some (-1)) = z.cps.size - 1 := by
    show (if (-1 : Int) < 0 then ((-1 : Int) + (z.length : Int)).toNat else min (-1 : Int).toNat z.length) = _
    rw [if_pos (by decide)]
    show ((-1 : Int) + (z.cps.size : Int)).toNat = _
    omega
  show ((z.cps.toList.drop (HT.sIx z.length 0 none)).take (HT.sIx z.length z.length (some (-1)) - HT.sIx z.length 0 none)) = _
  rw [e]
  rfl
theorem sz_cutm {z : Str} (h : 1 ≤ z.cps.size) : (cutS z none (some (-1))).cps.size = z.cps.size - 1 := by
  rw [sz_tl, tl_cutm h, List.length_take]
  show min (z.cps.size - 1) z.cps.size = _
  omega
theorem can_dup {z : Str} (h : 1 ≤ z.cps.size) : canB (z ++ cutS z none (some 1)) = false := by
  unfold canB
  rw [Bool.and_eq_false_iff]
  refine .inr (decide_eq_false fun nd => ?_)
  have e : (z ++ cutS z none (some 1)).cps.toList = TL.tl z ++ (TL.tl z).take 1 := by rw [← tl_cut1 h]; exact TL.tl_append _ _
  rw [e] at nd
  have hl : 0 < (TL.tl z).length := h
  cases q : TL.tl z with
  | nil => rw [q] at hl; simp at hl
  | cons c r =>
    rw [q] at nd
    have := (List.nodup_append.mp nd).2.2 c List.mem_cons_self c (by simp)
    exact this rfl
theorem can_nl {z : Str} : canB (z ++ Str.ofString "\n") = false := by
  unfold canB
  rw [Bool.and_eq_false_iff]
  refine .inl ?_
  cases e : signsOk (z ++ Str.ofString "\n") with
  | false => rfl
  | true =>
    have m : (10 : Nat) ∈ (z ++ Str.ofString "\n").cps.toList := by
      have k : (z ++ Str.ofString "\n").cps.toList = TL.tl z ++ TL.tl (Str.ofString "\n") := TL.tl_append _ _
      rw [k]
      exact List.mem_append_right _ (by decide +kernel)
    have := of_decide_eq_true (List.all_eq_true.mp e 10 m)
    omega
def BadAt (H : Hp) (a : Addr) : Prop := ∃ z o hm, Any H a z o hm ∧ goodB z o hm = false
theorem BadAt.mono {H H' : Hp} {a : Addr} (x : BadAt H a) (k : ∀ xs, H a = some (.tup xs) → H' a = some (.tup xs)) : BadAt H' a := by
  obtain ⟨z, o, hm, an, g⟩ := x
  exact ⟨z, o, hm, ⟨an.hh, k _ an.sh, an.zz, an.zo⟩, g⟩
structure Bads (b l : Addr) (H0 H : Hp) (qs : List Addr) (ls : List (Addr × List V)) : Prop where
  bx : Bxd b l H0 H
  all : ∀ a ∈ qs, BadAt H a
  lst : ∀ p ∈ ls, H p.1 = some (.lst p.2) ∧ p.1 ≠ b ∧ p.1 ≠ l
section
variable {b l p : Addr} {H0 H H' : Hp} {qs : List Addr} {ls : List (Addr × List V)} {z o : Str} {hm : V} {u : HO}
theorem Bads.nw (B : Bads b l H0 H qs ls) (n : H p = none) : Bads b l H0 (upd H p u) qs ls := ⟨B.bx.nw n, fun a ha => (B.all a ha).mono fun xs e => same_new n _ _ e, fun a ha => ⟨same_new n _ _ (B.lst a ha).1, (B.lst a ha).2⟩⟩
theorem Bads.wrap (B : Bads b l H0 H qs ls) (xs : List V) (n : H p = none) : Bads b l H0 (upd H p (.lst xs)) qs (ls ++ [(p, xs)]) := by
  have C := B.nw (u := .lst xs) n
  refine ⟨C.bx, C.all, fun a ha => ?_⟩
  rcases List.mem_append.mp ha with m | m
  · exact C.lst a m
  · rw [List.mem_singleton.mp m]
    exact ⟨upd_same, B.bx.box.new_ne n⟩
theorem Bads.add (B : Bads b l H0 H qs ls) (n : H p = none) (g : goodB z o hm = false) (hh : HomeV hm) (zz : z.cps.size ≤ 1000) (zo : o.cps.size ≤ 1000) : Bads b l H0 (upd H p (.tup [.str z, .str o, hm])) (qs ++ [p]) ls := by
  have C := B.nw (u := .tup [.str z, .str o, hm]) n
  refine ⟨C.bx, fun a ha => ?_, C.lst⟩
  rcases List.mem_append.mp ha with m | m
  · exact C.all a m
  · rw [List.mem_singleton.mp m]
    exact ⟨z, o, hm, ⟨hh, upd_same, zz, zo⟩, g⟩
theorem Bads.bxd (B : Bads b l H0 H qs ls) (bd : Bxd b l H H') : Bads b l H0 H' qs ls := ⟨B.bx.trans bd, fun a ha => (B.all a ha).mono fun xs e => bd.tup B.bx.box e, fun a ha => ⟨bd.at' _ _ (B.lst a ha).2.1 (B.lst a ha).2.2 (B.lst a ha).1, (B.lst a ha).2⟩⟩
end
end Kt
namespace Kt
open PySem PySem.Spec PyProof.Rows L2
/-! ### a text times a number -/
def repS (z : Str) (k : Nat) : Str := ⟨(List.replicate k z.cps.toList).flatten.toArray⟩
theorem repS_len (z : Str) (k : Nat) : (repS z k).length = k * z.length := by
  show (List.replicate k z.cps.toList).flatten.length = k * z.cps.size
  rw [List.length_flatten, List.map_replicate, List.sum_replicate_nat]
  rfl
theorem repS_mem {z : Str} {k c : Nat} (h : c ∈ (repS z k).cps.toList) : c ∈ z.cps.toList := by
  have h : c ∈ (List.replicate k z.cps.toList).flatten := h
  obtain ⟨l, hl, hc⟩ := List.mem_flatten.mp h
  rw [List.eq_of_mem_replicate hl] at hc
  exact hc
theorem foldl_reps (a : Array Nat) : ∀ (m : Nat) (acc : List Nat), List.foldl (fun x1 x2 => x1 ++ x2) acc.toArray (List.replicate m a) = (acc ++ (List.replicate m a.toList).flatten).toArray
  | 0, acc => by simp
  | m + 1, acc => by
    rw [List.replicate_succ, List.foldl_cons]
    have e : acc.toArray ++ a = (acc ++ a.toList).toArray := by
      apply Array.toList_inj.mp
      simp
    rw [e, foldl_reps a m]
    simp [List.replicate_succ]
theorem op_mul_str {X : Cx} : OpR X (binaryOp .Mult) (fun x y H Q => ∃ (z : Str) (k : Int), x = .str z ∧ y = .int k ∧ 1 ≤ k ∧ k ≤ 1000 ∧ z.length ≤ 1000 ∧ 1 ≤ z.length ∧ Q (.str (repS z k.toNat)) H) := by
  intro pins s σ H x y v u Q I rx ry h
  obtain ⟨z, k, rfl, rfl, k1, k2, hz, hz1, q⟩ := h
  obtain ⟨t, rfl⟩ := rx
  obtain ⟨t', rfl⟩ := ry
  have hb : z.length * k.toNat ≤ 1000000 := by
    have a : k.toNat ≤ 1000 := by omega
    calc z.length * k.toNat ≤ 1000 * 1000 := Nat.mul_le_mul hz a
      _ = 1000000 := rfl
  have hl : (⟨(List.replicate k.toNat z.cps).foldl (· ++ ·) #[]⟩ : Str) = repS z k.toNat := by
    have := foldl_reps z.cps k.toNat []
    rw [List.nil_append] at this
    unfold repS
    exact congrArg Str.mk this
  refine PySem.P.mul_str ?_ (fun _ _ => ?_) (fun _ _ => ?_) ?_
  · rw [decide_eq_false (by omega), decide_eq_false (by omega)]; rfl
  · have : (1000 : Int) ≤ (2 ^ 63 - 1) / k := by
      refine (Int.le_ediv_iff_mul_le (by omega)).mpr ?_
      have : 1000 * k ≤ 1000 * 1000 := by omega
      omega
    omega
  · show decide (z.length * k.toNat > sizeLine) = false
    exact decide_eq_false (by rw [sizeLine_eq]; omega)
  · rw [if_neg (by omega)]
    by_cases h1 : k = 1
    · subst h1
      rw [if_pos (by rfl)]
      have e : repS z (1 : Int).toNat = z := by
        unfold repS
        obtain ⟨a⟩ := z
        show (⟨(List.replicate 1 a.toList).flatten.toArray⟩ : Str) = ⟨a⟩
        simp
      rw [e] at q
      exact ⟨.str z, H, I, ⟨_, rfl⟩, q⟩
    · have e : (k == 1 || z.length == 0) = false := by
        rw [Bool.or_eq_false_iff]
        exact ⟨by simpa using h1, by simp; omega⟩
      rw [e, if_neg (by decide), hl]
      refine ⟨?_, .str (repS z k.toNat), H, I.tok _, ⟨_, rfl⟩, q⟩
      rw [repS_len, Nat.mul_comm, sizeLine_eq]
      omega
/-! ### the box was drawn from, tables have grown; what else stood, stands -/
structure Bk (W : TWs) (b l : Addr) (H H' : Hp) : Prop where
  tb : Tb W H'
  box : BoxAt H' b l
  at' : ∀ a o, (∀ ps, o ≠ .tbl ps) → a ≠ b → a ≠ l → H a = some o → H' a = some o
section
variable {W : TWs} {b l t a : Addr} {H H1 H' : Hp} {xs : List V} {z o : Str} {hm : V} {cs : List Int}
theorem Bk.trans (x : Bk W b l H H1) (y : Bk W b l H1 H') : Bk W b l H H' := ⟨y.tb, y.box, fun a o n n1 n2 h => y.at' a o n n1 n2 (x.at' a o n n1 n2 h)⟩
theorem Bk.bxd (x : Bxd b l H H') (bx : BoxAt H b l) (t : Tb W H) : Bk W b l H H' := ⟨x.tb bx t, x.box, fun a o _ n1 n2 h => x.at' a o n1 n2 h⟩
theorem Bk.kz (bx : BoxAt H b l) (k : Kz W H H') : Bk W b l H H' := ⟨k.tb, bx.kz k, fun a o n _ _ h => k.at' a o n h⟩
theorem Bk.tup (k : Bk W b l H H') (bx : BoxAt H b l) (h : H t = some (.tup xs)) : H' t = some (.tup xs) := k.at' t _ (fun _ e => nomatch e) (bx.tup h).1 (bx.tup h).2 h
theorem Bk.sh (k : Bk W b l H H') (bx : BoxAt H b l) (h : Sh H t z o hm) : Sh H' t z o hm := k.tup bx h
theorem Bk.ints (k : Bk W b l H H') (n1 : a ≠ b) (n2 : a ≠ l) (h : Ints H a cs) : Ints H' a cs := ⟨k.at' a _ (fun _ e => nomatch e) n1 n2 h.at', h.le⟩
end
def spSheetsL (W : TWs) : Sp := fun vs H Q _ => ∃ (b l t : Addr) (z o : Str) (hm : V), vs = [.ref b, .ref t] ∧ BoxAt H b l ∧ Good z o hm ∧ Sh H t z o hm ∧ Tb W H ∧ ∀ H', Bk W b l H H' → Q (.bl true) H'
def spTapesL (W : TWs) : Sp := fun vs H Q _ => ∃ (b l t a : Addr) (z o : Str) (hm : V) (cs : List Int), vs = [.ref b, .ref t, .ref a] ∧ BoxAt H b l ∧ Good z o hm ∧ Sh H t z o hm ∧ Ints H a cs ∧ a ≠ b ∧ a ≠ l ∧ Codes z.cps.size cs ∧ cs.length ≤ 100 ∧ Tb W H ∧ ∀ H', Bk W b l H H' → Q (.bl true) H'
/-! ### tapes that cannot be -/
theorem tapeV_odd {n : Nat} {cs : List Int} {v : Int} {i : Nat} (hc : Codes n cs) (hl : cs.length ≤ 100) (hi : i ≤ cs.length) (hv : ¬ (0 ≤ v ∧ v < (n : Int) + 2)) : TapeV n (cs.take i ++ v :: cs.drop i) (some i) := by
  have lt : (cs.take i).length = i := by rw [List.length_take]; omega
  refine ⟨by omega, fun j c hj e => ?_, v, ?_, .inr hv⟩
  · rw [List.getElem?_append_left (by omega)] at e
    exact hc c (List.mem_of_mem_take (List.mem_of_getElem? e))
  · rw [List.getElem?_append_right (by omega), lt, Nat.sub_self]; rfl
theorem tapeV_long {n : Nat} {cs : List Int} (hc : Codes n cs) (hl : cs.length ≤ 100) : TapeV n (cs ++ List.replicate (101 - cs.length) 0) (some 100) := by
  refine ⟨Nat.le_refl _, fun j c hj e => ?_, 0, ?_, .inl rfl⟩
  · rcases List.mem_append.mp (List.mem_of_getElem? e) with m | m
    · exact hc c m
    · rw [List.eq_of_mem_replicate m]; omega
  · rw [List.getElem?_append_right (by omega), List.getElem?_replicate, if_pos (by omega)]
end Kt
namespace Kt
open PySem PySem.Spec PyProof.Rows L2
/-! ### texts that cannot be -/
theorem tl_cutlo (x : Str) (i : Nat) (h : i ≤ x.cps.size) : TL.tl (cutS x none (some ((i : Nat) : Int))) = (TL.tl x).take i := by
  have e : HT.sIx x.length x.length (some ((i : Nat) : Int)) = i := by
    rw [HT.sIx_nat]
    show min i x.cps.size = i
    omega
  show ((x.cps.toList.drop (HT.sIx x.length 0 none)).take (HT.sIx x.length x.length (some ((i : Nat) : Int)) - HT.sIx x.length 0 none)) = _
  rw [e]
  rfl
theorem tl_cuthi (x : Str) (i : Nat) (h : i ≤ x.cps.size) : TL.tl (cutS x (some ((i : Nat) : Int)) none) = (TL.tl x).drop i := by
  have e : HT.sIx x.length 0 (some ((i : Nat) : Int)) = i := by
    rw [HT.sIx_nat]
    show min i x.cps.size = i
    omega
  show ((x.cps.toList.drop (HT.sIx x.length 0 (some ((i : Nat) : Int)))).take (HT.sIx x.length x.length none - HT.sIx x.length 0 (some ((i : Nat) : Int)))) = _
  rw [e]
  show (x.cps.toList.drop i).take (x.cps.size - i) = x.cps.toList.drop i
  refine List.take_of_length_le ?_
  rw [List.length_drop, Array.length_toList]
  exact Nat.le_refl _
def nlAt (x : Str) (i : Nat) : Str := cutS x none (some ((i : Nat) : Int)) ++ Str.ofString "\n" ++ cutS x (some ((i : Nat) : Int)) none
theorem tl_nlAt (x : Str) (i : Nat) (h : i ≤ x.cps.size) : TL.tl (nlAt x i) = (TL.tl x).take i ++ 10 :: (TL.tl x).drop i := by
  unfold nlAt
  rw [TL.tl_append, TL.tl_append, tl_cutlo x i h, tl_cuthi x i h, show TL.tl (Str.ofString "\n") = [10] by decide +kernel, List.append_assoc]
  rfl
theorem nlAt_size (x : Str) (i : Nat) (h : i ≤ x.cps.size) : (nlAt x i).cps.size = x.cps.size + 1 := by
  rw [sz_tl, tl_nlAt x i h, List.length_append, List.length_cons, List.length_take, List.length_drop]
  show min i x.cps.size + (x.cps.size - i + 1) = _
  omega
theorem no_nl {z o : Str} {hm : V} (g : Good z o hm) : ¬ InSet z o 10 := fun h => by
  rcases h with h | h
  · have := g.pz 10 h; omega
  · have := g.po 10 h; omega
theorem textV_nl {z o : Str} {hm : V} {x : Str} {i : Nat} (g : Good z o hm) (hx : x.cps.size ≤ 32) (hin : ∀ c ∈ x.cps.toList, InSet z o c) (hi : i ≤ x.cps.size) : TextV z o (nlAt x i) (some i) := by
  have e : (nlAt x i).cps.toList = x.cps.toList.take i ++ 10 :: x.cps.toList.drop i := tl_nlAt x i hi
  have lt : (x.cps.toList.take i).length = i := by rw [List.length_take, Array.length_toList]; omega
  refine ⟨by omega, fun j c hj q => ?_, 10, ?_, .inr (no_nl g)⟩
  · rw [e, List.getElem?_append_left (by omega)] at q
    exact hin c (List.mem_of_mem_take (List.mem_of_getElem? q))
  · rw [e, List.getElem?_append_right (by omega), lt, Nat.sub_self]; rfl
def wideT (z x : Str) : Str := x ++ repS (cutS z none (some 1)) (33 - x.cps.size)
theorem wideT_tl (z x : Str) : (wideT z x).cps.toList = x.cps.toList ++ (repS (cutS z none (some 1)) (33 - x.cps.size)).cps.toList := TL.tl_append _ _
theorem cut1_len {z : Str} (h : 1 ≤ z.cps.size) : (cutS z none (some 1)).length = 1 := by
  rw [← tl_len, tl_cut1 h, List.length_take]
  show min 1 z.cps.size = 1
  omega
theorem wideT_size {z x : Str} (h : 1 ≤ z.cps.size) (hx : x.cps.size ≤ 32) : (wideT z x).cps.size = 33 := by
  rw [sz_tl]
  show (wideT z x).cps.toList.length = 33
  rw [wideT_tl, List.length_append, Array.length_toList, Array.length_toList]
  have := repS_len (cutS z none (some 1)) (33 - x.cps.size)
  rw [cut1_len h] at this
  have this : (repS (cutS z none (some 1)) (33 - x.cps.size)).cps.size = (33 - x.cps.size) * 1 := this
  omega
theorem wideT_in {z o x : Str} (h : 1 ≤ z.cps.size) (hin : ∀ c ∈ x.cps.toList, InSet z o c) : ∀ c ∈ (wideT z x).cps.toList, InSet z o c := fun c hc => by
  rw [wideT_tl] at hc
  rcases List.mem_append.mp hc with m | m
  · exact hin c m
  · have k := repS_mem m
    have k : c ∈ TL.tl (cutS z none (some 1)) := k
    rw [tl_cut1 h] at k
    exact .inl (List.mem_of_mem_take k)
theorem textV_wide {z o : Str} {x : Str} (h : 1 ≤ z.cps.size) (hx : x.cps.size ≤ 32) (hin : ∀ c ∈ x.cps.toList, InSet z o c) : TextV z o (wideT z x) (some 32) := by
  have e := wideT_size h hx
  have hin := wideT_in h hin
  have hl : (wideT z x).cps.toList.length = 33 := by rw [Array.length_toList]; exact e
  refine ⟨Nat.le_refl _, fun j c hj q => hin c (List.mem_of_getElem? q), (wideT z x).cps.toList[32], List.getElem?_eq_getElem (by omega), .inl rfl⟩
theorem textV_cut {z o x : Str} (hx : x.cps.size ≤ 32) (hin : ∀ c ∈ x.cps.toList, InSet z o c) (lo hi : Option Int) : TextV z o (cutS x lo hi) none :=
  ⟨Nat.le_trans (cutS_len x lo hi) hx, fun c hc => hin c ((cutS_sub x lo hi).subset hc)⟩
/-! ### a new list is written while the box is drawn from -/
theorem Bxd.put {b l D : Addr} {H H' : Hp} {u : HO} (x : Bxd b l H H') (n : H D = none) (n1 : D ≠ b) (n2 : D ≠ l) : Bxd b l H (upd H' D u) := by
  refine ⟨?_, fun a v h1 h2 e => ?_⟩
  · obtain ⟨ns, st, q1, q2⟩ := x.box
    exact ⟨ns, st, by rw [upd_ne n1.symm]; exact q1, by rw [upd_ne n2.symm]; exact q2⟩
  · rw [upd_ne (ne_of_none e n)]
    exact x.at' a v h1 h2 e
end Kt
namespace K01
open PySem PySem.Spec PyProof.Rows L2
def topS (i : Nat) : Stmt := PySem.Challenge.pw_shifttape_k01_refused.main.body.getD i (.Pass ⟨0, 0, 0, 0⟩)
abbrev s_are_signs : Stmt := topS 12
theorem sc_are_signs : FnScope ["signs"] ["signs"] (defScope s_are_signs) := ⟨rfl, rfl, rfl, by decide +kernel, rfl, by decide +kernel, by decide +kernel⟩
abbrev s_can_be_a_set : Stmt := topS 13
theorem sc_can_be_a_set : FnScope ["signs"] ["signs"] (defScope s_can_be_a_set) := ⟨rfl, rfl, rfl, by decide +kernel, rfl, by decide +kernel, by decide +kernel⟩
abbrev s_check_sheet : Stmt := topS 14
theorem sc_check_sheet : FnScope ["sheet", "zero", "one", "home"] ["sheet"] (defScope s_check_sheet) := ⟨rfl, rfl, rfl, by decide +kernel, rfl, by decide +kernel, by decide +kernel⟩
abbrev s_check_tape : Stmt := topS 15
theorem sc_check_tape : FnScope ["sheet", "tape", "last", "place", "code"] ["sheet", "tape"] (defScope s_check_tape) := ⟨rfl, rfl, rfl, by decide +kernel, rfl, by decide +kernel, by decide +kernel⟩
abbrev s_check_set : Stmt := topS 16
theorem sc_check_set : FnScope ["begin"] ["begin"] (defScope s_check_set) := ⟨rfl, rfl, rfl, by decide +kernel, rfl, by decide +kernel, by decide +kernel⟩
abbrev s_check_text : Stmt := topS 17
theorem sc_check_text : FnScope ["sheet", "text", "zero", "one", "_", "place", "sign"] ["sheet", "text"] (defScope s_check_text) := ⟨rfl, rfl, rfl, by decide +kernel, rfl, by decide +kernel, by decide +kernel⟩
abbrev s_check_count : Stmt := topS 18
theorem sc_check_count : FnScope ["many", "most"] ["many", "most"] (defScope s_check_count) := ⟨rfl, rfl, rfl, by decide +kernel, rfl, by decide +kernel, by decide +kernel⟩
abbrev s_check_begun : Stmt := topS 19
theorem sc_check_begun : FnScope ["sheet", "tape", "begin"] ["sheet", "tape", "begin"] (defScope s_check_begun) := ⟨rfl, rfl, rfl, by decide +kernel, rfl, by decide +kernel, by decide +kernel⟩
abbrev s_set_behind : Stmt := topS 21
theorem sc_set_behind : FnScope ["sheet", "code", "now", "zero", "_", "home"] ["sheet", "code", "now"] (defScope s_set_behind) := ⟨rfl, rfl, rfl, by decide +kernel, rfl, by decide +kernel, by decide +kernel⟩
abbrev s_walked : Stmt := topS 22
theorem sc_walked : FnScope ["sheet", "tape", "begin", "text", "now", "code"] ["sheet", "tape", "begin"] (defScope s_walked) := ⟨rfl, rfl, rfl, by decide +kernel, rfl, by decide +kernel, by decide +kernel⟩
abbrev s_read : Stmt := topS 23
theorem sc_read : FnScope ["sheet", "tape", "begin", "text", "_"] ["sheet", "tape", "begin"] (defScope s_read) := ⟨rfl, rfl, rfl, by decide +kernel, rfl, by decide +kernel, by decide +kernel⟩
abbrev s_last_set : Stmt := topS 24
theorem sc_last_set : FnScope ["sheet", "tape", "begin", "_", "now"] ["sheet", "tape", "begin"] (defScope s_last_set) := ⟨rfl, rfl, rfl, by decide +kernel, rfl, by decide +kernel, by decide +kernel⟩
abbrev s_shift_places : Stmt := topS 26
theorem sc_shift_places : FnScope ["sheet", "tape", "place", "code"] ["sheet", "tape"] (defScope s_shift_places) := ⟨rfl, rfl, rfl, by decide +kernel, rfl, by decide +kernel, by decide +kernel⟩
abbrev s_text_without : Stmt := topS 27
theorem sc_text_without : FnScope ["sheet", "tape", "begin", "place", "text", "_"] ["sheet", "tape", "begin", "place"] (defScope s_text_without) := ⟨rfl, rfl, rfl, by decide +kernel, rfl, by decide +kernel, by decide +kernel⟩
abbrev s_count_unlike : Stmt := topS 28
theorem sc_count_unlike : FnScope ["text", "other", "sign", "instead"] ["text", "other"] (defScope s_count_unlike) := ⟨rfl, rfl, rfl, by decide +kernel, rfl, by decide +kernel, by decide +kernel⟩
abbrev s_spoilt : Stmt := topS 29
theorem sc_spoilt : FnScope ["sheet", "tape", "begin", "text", "_", "place"] ["sheet", "tape", "begin"] (defScope s_spoilt) := ⟨rfl, rfl, rfl, by decide +kernel, rfl, by decide +kernel, by decide +kernel⟩
abbrev s_lost_at : Stmt := topS 30
theorem sc_lost_at : FnScope ["sheet", "tape", "begin", "text", "places", "place"] ["sheet", "tape", "begin", "text"] (defScope s_lost_at) := ⟨rfl, rfl, rfl, by decide +kernel, rfl, by decide +kernel, by decide +kernel⟩
abbrev s_with_code : Stmt := topS 33
theorem sc_with_code : FnScope ["sheet", "sign", "now", "spare", "rests", "zero", "one", "home", "code", "left"] ["sheet", "sign", "now", "spare", "rests"] (defScope s_with_code) := ⟨rfl, rfl, rfl, by decide +kernel, rfl, by decide +kernel, by decide +kernel⟩
abbrev s_with_shifts : Stmt := topS 34
theorem sc_with_shifts : FnScope ["sheet", "sign", "now", "most", "rests", "other", "stay", "turn", "again", "once", "twice", "tape"] ["sheet", "sign", "now", "most", "rests"] (defScope s_with_shifts) := ⟨rfl, rfl, rfl, by decide +kernel, rfl, by decide +kernel, by decide +kernel⟩
abbrev s_with_sign_guarding : Stmt := topS 35
theorem sc_with_sign_guarding : FnScope ["sheet", "sign", "most", "rests", "tapes", "now", "shifted", "plain", "spare", "some"] ["sheet", "sign", "most", "rests"] (defScope s_with_sign_guarding) := ⟨rfl, rfl, rfl, by decide +kernel, rfl, by decide +kernel, by decide +kernel⟩
abbrev s_guarded : Stmt := topS 37
theorem sc_guarded : FnScope ["sheet", "text", "begin", "most", "ends", "tapes", "sign", "_"] ["sheet", "text", "begin", "most"] (defScope s_guarded) := ⟨rfl, rfl, rfl, by decide +kernel, rfl, by decide +kernel, by decide +kernel⟩
abbrev s_is_guarded : Stmt := topS 38
theorem sc_is_guarded : FnScope ["sheet", "tape", "begin", "most", "losses", "_", "many"] ["sheet", "tape", "begin", "most"] (defScope s_is_guarded) := ⟨rfl, rfl, rfl, by decide +kernel, rfl, by decide +kernel, by decide +kernel⟩
abbrev s_shift_ahead : Stmt := topS 40
theorem sc_shift_ahead : FnScope ["sheet", "tape", "now", "wanted", "text", "_", "told"] ["sheet", "tape", "now", "wanted"] (defScope s_shift_ahead) := ⟨rfl, rfl, rfl, by decide +kernel, rfl, by decide +kernel, by decide +kernel⟩
abbrev s_joined : Stmt := topS 41
theorem sc_joined : FnScope ["sheet", "tapes", "begin", "tape", "whole", "now", "part", "_"] ["sheet", "tapes", "begin"] (defScope s_joined) := ⟨rfl, rfl, rfl, by decide +kernel, rfl, by decide +kernel, by decide +kernel⟩
abbrev s_cut : Stmt := topS 42
theorem sc_cut : FnScope ["sheet", "tape", "begin", "place", "front", "back", "_", "now"] ["sheet", "tape", "begin", "place"] (defScope s_cut) := ⟨rfl, rfl, rfl, by decide +kernel, rfl, by decide +kernel, by decide +kernel⟩
abbrev s_code_of : Stmt := topS 45
theorem sc_code_of : FnScope ["sheet", "sign", "now", "zero", "one", "_", "code"] ["sheet", "sign", "now"] (defScope s_code_of) := ⟨rfl, rfl, rfl, by decide +kernel, rfl, by decide +kernel, by decide +kernel⟩
abbrev s_without_shift : Stmt := topS 46
theorem sc_without_shift : FnScope ["sheet", "sign", "now", "rests", "code"] ["sheet", "sign", "now", "rests"] (defScope s_without_shift) := ⟨rfl, rfl, rfl, by decide +kernel, rfl, by decide +kernel, by decide +kernel⟩
abbrev s_first_of : Stmt := topS 47
theorem sc_first_of : FnScope ["tapes"] ["tapes"] (defScope s_first_of) := ⟨rfl, rfl, rfl, by decide +kernel, rfl, by decide +kernel, by decide +kernel⟩
abbrev s_with_sign_shortest : Stmt := topS 48
theorem sc_with_sign_shortest : FnScope ["sheet", "sign", "rests", "size", "plain", "shifted", "now", "tape", "tapes"] ["sheet", "sign", "rests"] (defScope s_with_sign_shortest) := ⟨rfl, rfl, rfl, by decide +kernel, rfl, by decide +kernel, by decide +kernel⟩
abbrev s_best_tapes : Stmt := topS 50
theorem sc_best_tapes : FnScope ["sheet", "text", "best", "sign"] ["sheet", "text"] (defScope s_best_tapes) := ⟨rfl, rfl, rfl, by decide +kernel, rfl, by decide +kernel, by decide +kernel⟩
abbrev s_shortest : Stmt := topS 51
theorem sc_shortest : FnScope ["sheet", "text", "begin"] ["sheet", "text", "begin"] (defScope s_shortest) := ⟨rfl, rfl, rfl, by decide +kernel, rfl, by decide +kernel, by decide +kernel⟩
abbrev s_either : Stmt := topS 52
theorem sc_either : FnScope ["sheet", "text"] ["sheet", "text"] (defScope s_either) := ⟨rfl, rfl, rfl, by decide +kernel, rfl, by decide +kernel, by decide +kernel⟩
abbrev s_written : Stmt := topS 55
theorem sc_written : FnScope ["sheet", "zero", "one", "home", "last"] ["sheet"] (defScope s_written) := ⟨rfl, rfl, rfl, by decide +kernel, rfl, by decide +kernel, by decide +kernel⟩
abbrev s_l_begun : Stmt := topS 57
theorem sc_l_begun : FnScope ["_law_script", "_law_stirred", "_law_cell"] ["_law_script"] (defScope s_l_begun) := ⟨rfl, rfl, rfl, by decide +kernel, rfl, by decide +kernel, by decide +kernel⟩
abbrev s_l_take : Stmt := topS 58
theorem sc_l_take : FnScope ["_law_box", "_law_many", "_law_number"] ["_law_box", "_law_many"] (defScope s_l_take) := ⟨rfl, rfl, rfl, by decide +kernel, rfl, by decide +kernel, by decide +kernel⟩
abbrev s_l_alike : Stmt := topS 59
theorem sc_l_alike : FnScope ["_law_found", "_law_due", "_law_k"] ["_law_found", "_law_due"] (defScope s_l_alike) := ⟨rfl, rfl, rfl, by decide +kernel, rfl, by decide +kernel, by decide +kernel⟩
abbrev s_l_class : Stmt := topS 60
theorem sc_l_class : FnScope ["_law_e", "_law_kinds", "_law_words"] ["_law_e"] (defScope s_l_class) := ⟨rfl, rfl, rfl, by decide +kernel, rfl, by decide +kernel, by decide +kernel⟩
abbrev s_l_picked : Stmt := topS 61
theorem sc_l_picked : FnScope ["_law_box", "_law_signs", "_law_many", "_law_left", "_law_turn"] ["_law_box", "_law_signs", "_law_many"] (defScope s_l_picked) := ⟨rfl, rfl, rfl, by decide +kernel, rfl, by decide +kernel, by decide +kernel⟩
abbrev s_l_sheet : Stmt := topS 62
theorem sc_l_sheet : FnScope ["_law_box", "_law_most", "_law_many", "_law_every", "_law_often", "_law_zero", "_law_one", "_law_place", "_law_home"] ["_law_box", "_law_most"] (defScope s_l_sheet) := ⟨rfl, rfl, rfl, by decide +kernel, rfl, by decide +kernel, by decide +kernel⟩
abbrev s_l_text : Stmt := topS 63
theorem sc_l_text : FnScope ["_law_box", "_law_sheet_here", "_law_most", "_law_found", "_law_number", "_law_often", "_law_turn"] ["_law_box", "_law_sheet_here", "_law_most"] (defScope s_l_text) := ⟨rfl, rfl, rfl, by decide +kernel, rfl, by decide +kernel, by decide +kernel⟩
abbrev s_l_refused : Stmt := topS 65
theorem sc_l_refused : FnScope ["_law_work", "_law_e", "_law_word"] ["_law_work"] (defScope s_l_refused) := ⟨rfl, rfl, rfl, by decide +kernel, rfl, by decide +kernel, by decide +kernel⟩
abbrev s_l_all : Stmt := topS 66
theorem sc_l_all : FnScope ["_law_works", "_law_due", "_law_work"] ["_law_works", "_law_due"] (defScope s_l_all) := ⟨rfl, rfl, rfl, by decide +kernel, rfl, by decide +kernel, by decide +kernel⟩
abbrev s_l_bad : Stmt := topS 67
theorem sc_l_bad : FnScope ["_law_box", "_law_sheet_here", "_law_zero", "_law_one", "_law_home", "_law_far", "_law_wide", "_law_some"] ["_law_box", "_law_sheet_here"] (defScope s_l_bad) := ⟨rfl, rfl, rfl, by decide +kernel, rfl, by decide +kernel, by decide +kernel⟩
abbrev s_l_of_tapes : Stmt := topS 68
theorem sc_l_of_tapes : FnScope ["_law_sheet_here", "_law_tape_here", "_law_begin", "_law_place", "_law_works"] ["_law_sheet_here", "_law_tape_here", "_law_begin", "_law_place"] (defScope s_l_of_tapes) := ⟨rfl, rfl, rfl, by decide +kernel, rfl, by decide +kernel, by decide +kernel⟩
abbrev s_l_of_texts : Stmt := topS 69
theorem sc_l_of_texts : FnScope ["_law_sheet_here", "_law_text_here", "_law_begin", "_law_most"] ["_law_sheet_here", "_law_text_here", "_law_begin", "_law_most"] (defScope s_l_of_texts) := ⟨rfl, rfl, rfl, by decide +kernel, rfl, by decide +kernel, by decide +kernel⟩
abbrev s_l_sheets : Stmt := topS 70
theorem sc_l_sheets : FnScope ["_law_box", "_law_sheet_here", "_law_bad_here", "_law_works"] ["_law_box", "_law_sheet_here"] (defScope s_l_sheets) := ⟨rfl, rfl, rfl, by decide +kernel, rfl, by decide +kernel, by decide +kernel⟩
abbrev s_l_tapes : Stmt := topS 71
theorem sc_l_tapes : FnScope ["_law_box", "_law_sheet_here", "_law_tape_here", "_law_n", "_law_at", "_law_odd", "_law_long"] ["_law_box", "_law_sheet_here", "_law_tape_here"] (defScope s_l_tapes) := ⟨rfl, rfl, rfl, by decide +kernel, rfl, by decide +kernel, by decide +kernel⟩
abbrev s_law : Stmt := topS 72
theorem sc_law : FnScope ["_law_script", "_law_box", "_law_sheet_here", "_law_n", "_law_tape_here", "_law_text_here", "_law_at", "_law_texts", "_law_wide", "_law_begin", "_law_far", "_law_works", "_law_turn"] ["_law_script"] (defScope s_law) := ⟨rfl, rfl, rfl, by decide +kernel, rfl, by decide +kernel, by decide +kernel⟩
abbrev s_init_BadTape : Stmt := Kt.inOf (topS 5)
theorem sc_init_BadTape : FnScope ["self", "place"] ["self", "place"] (defScope s_init_BadTape) := ⟨rfl, rfl, rfl, by decide +kernel, rfl, by decide +kernel, by decide +kernel⟩
abbrev s_init_NoSign : Stmt := Kt.inOf (topS 6)
theorem sc_init_NoSign : FnScope ["self", "place"] ["self", "place"] (defScope s_init_NoSign) := ⟨rfl, rfl, rfl, by decide +kernel, rfl, by decide +kernel, by decide +kernel⟩
abbrev s_init_BadText : Stmt := Kt.inOf (topS 7)
theorem sc_init_BadText : FnScope ["self", "row"] ["self", "row"] (defScope s_init_BadText) := ⟨rfl, rfl, rfl, by decide +kernel, rfl, by decide +kernel, by decide +kernel⟩
/-- what the top has written -/
structure Txt (K : PySem.W.Frag) (mg : Str → Option Value) where
  d_are_signs : Kt.Df K mg "are_signs" s_are_signs ["signs"]
  d_can_be_a_set : Kt.Df K mg "_can_be_a_set" s_can_be_a_set ["signs"]
  d_check_sheet : Kt.Df K mg "check_sheet" s_check_sheet ["sheet"]
  d_check_tape : Kt.Df K mg "check_tape" s_check_tape ["sheet", "tape"]
  d_check_set : Kt.Df K mg "check_set" s_check_set ["begin"]
  d_check_text : Kt.Df K mg "check_text" s_check_text ["sheet", "text"]
  d_check_count : Kt.Df K mg "check_count" s_check_count ["many", "most"]
  d_check_begun : Kt.Df K mg "check_begun" s_check_begun ["sheet", "tape", "begin"]
  d_set_behind : Kt.Df K mg "set_behind" s_set_behind ["sheet", "code", "now"]
  d_walked : Kt.Df K mg "walked" s_walked ["sheet", "tape", "begin"]
  d_read : Kt.Df K mg "read" s_read ["sheet", "tape", "begin"]
  d_last_set : Kt.Df K mg "last_set" s_last_set ["sheet", "tape", "begin"]
  d_shift_places : Kt.Df K mg "_shift_places" s_shift_places ["sheet", "tape"]
  d_text_without : Kt.Df K mg "_text_without" s_text_without ["sheet", "tape", "begin", "place"]
  d_count_unlike : Kt.Df K mg "_count_unlike" s_count_unlike ["text", "other"]
  d_spoilt : Kt.Df K mg "spoilt" s_spoilt ["sheet", "tape", "begin"]
  d_lost_at : Kt.Df K mg "lost_at" s_lost_at ["sheet", "tape", "begin", "text"]
  d_with_code : Kt.Df K mg "_with_code" s_with_code ["sheet", "sign", "now", "spare", "rests"]
  d_with_shifts : Kt.Df K mg "_with_shifts" s_with_shifts ["sheet", "sign", "now", "most", "rests"]
  d_with_sign_guarding : Kt.Df K mg "_with_sign" s_with_sign_guarding ["sheet", "sign", "most", "rests"] "with_sign_guarding"
  d_guarded : Kt.Df K mg "guarded" s_guarded ["sheet", "text", "begin", "most"]
  d_is_guarded : Kt.Df K mg "is_guarded" s_is_guarded ["sheet", "tape", "begin", "most"]
  d_shift_ahead : Kt.Df K mg "_shift_ahead" s_shift_ahead ["sheet", "tape", "now", "wanted"]
  d_joined : Kt.Df K mg "joined" s_joined ["sheet", "tapes", "begin"]
  d_cut : Kt.Df K mg "cut" s_cut ["sheet", "tape", "begin", "place"]
  d_code_of : Kt.Df K mg "_code_of" s_code_of ["sheet", "sign", "now"]
  d_without_shift : Kt.Df K mg "_without_shift" s_without_shift ["sheet", "sign", "now", "rests"]
  d_first_of : Kt.Df K mg "_first_of" s_first_of ["tapes"]
  d_with_sign_shortest : Kt.Df K mg "_with_sign" s_with_sign_shortest ["sheet", "sign", "rests"] "with_sign_shortest"
  d_best_tapes : Kt.Df K mg "_best_tapes" s_best_tapes ["sheet", "text"]
  d_shortest : Kt.Df K mg "shortest" s_shortest ["sheet", "text", "begin"]
  d_either : Kt.Df K mg "either" s_either ["sheet", "text"]
  d_written : Kt.Df K mg "written" s_written ["sheet"]
  d_l_begun : Kt.Df K mg "_law_begun" s_l_begun ["_law_script"]
  d_l_take : Kt.Df K mg "_law_take" s_l_take ["_law_box", "_law_many"]
  d_l_alike : Kt.Df K mg "_law_alike" s_l_alike ["_law_found", "_law_due"]
  d_l_class : Kt.Df K mg "_law_class" s_l_class ["_law_e"]
  d_l_picked : Kt.Df K mg "_law_picked" s_l_picked ["_law_box", "_law_signs", "_law_many"]
  d_l_sheet : Kt.Df K mg "_law_sheet" s_l_sheet ["_law_box", "_law_most"]
  d_l_text : Kt.Df K mg "_law_text" s_l_text ["_law_box", "_law_sheet_here", "_law_most"]
  d_l_refused : Kt.Df K mg "_law_refused" s_l_refused ["_law_work"]
  d_l_all : Kt.Df K mg "_law_all" s_l_all ["_law_works", "_law_due"]
  d_l_bad : Kt.Df K mg "_law_bad" s_l_bad ["_law_box", "_law_sheet_here"]
  d_l_of_tapes : Kt.Df K mg "_law_of_tapes" s_l_of_tapes ["_law_sheet_here", "_law_tape_here", "_law_begin", "_law_place"]
  d_l_of_texts : Kt.Df K mg "_law_of_texts" s_l_of_texts ["_law_sheet_here", "_law_text_here", "_law_begin", "_law_most"]
  d_l_sheets : Kt.Df K mg "_law_sheets" s_l_sheets ["_law_box", "_law_sheet_here"]
  d_l_tapes : Kt.Df K mg "_law_tapes" s_l_tapes ["_law_box", "_law_sheet_here", "_law_tape_here"]
  d_law : Kt.Df K mg "law" s_law ["_law_script"]
  n_ValueError : mg "ValueError" = none
  n_all : mg "all" = none
  n_bool : mg "bool" = none
  n_enumerate : mg "enumerate" = none
  n_int : mg "int" = none
  n_isinstance : mg "isinstance" = none
  n_len : mg "len" = none
  n_list : mg "list" = none
  n_min : mg "min" = none
  n_range : mg "range" = none
  n_reversed : mg "reversed" = none
  n_set : mg "set" = none
  n_str : mg "str" = none
  n_sum : mg "sum" = none
  n_tuple : mg "tuple" = none
  n_zip : mg "zip" = none
  c_EITHER : ∃ t, mg "EITHER" = some (.int 2 t)
  c_MOST_CODES : ∃ t, mg "MOST_CODES" = some (.int 100 t)
  c_MOST_PLACES : ∃ t, mg "MOST_PLACES" = some (.int 26 t)
  c_MOST_SIGNS : ∃ t, mg "MOST_SIGNS" = some (.int 32 t)
  c_NO_HOME : ∃ t, mg "NO_HOME" = some (.str "-" t)
  c_SAFE : ∃ t, mg "SAFE" = some (.int 32 t)
  C_TapeError : Addr
  C_BadSheet : Addr
  C_BadSet : Addr
  C_BadTape : Addr
  C_NoSign : Addr
  C_BadCount : Addr
  C_BadText : Addr
  bc : Kt.BaseC K mg C_TapeError
  ob : Kt.ObC K
  x_BadSheet : Kt.ExC K mg "BadSheet" C_BadSheet
  kd_BadSheet : Kt.Kind K mg [C_BadSheet, C_BadSet, C_BadTape, C_NoSign, C_BadCount, C_BadText] C_TapeError 0 C_BadSheet
  q_BadSheet : PySem.W.excIn K C_BadSheet [.type "ValueError", .type "Exception", .type "BaseException", .type "object"] "ValueError.__new__" = true
  x_BadSet : Kt.ExC K mg "BadSet" C_BadSet
  kd_BadSet : Kt.Kind K mg [C_BadSheet, C_BadSet, C_BadTape, C_NoSign, C_BadCount, C_BadText] C_TapeError 1 C_BadSet
  q_BadSet : PySem.W.excIn K C_BadSet [.type "ValueError", .type "Exception", .type "BaseException", .type "object"] "ValueError.__new__" = true
  x_BadTape : Kt.ExC K mg "BadTape" C_BadTape
  kd_BadTape : Kt.Kind K mg [C_BadSheet, C_BadSet, C_BadTape, C_NoSign, C_BadCount, C_BadText] C_TapeError 2 C_BadTape
  in_BadTape : Kt.InC K mg "BadTape" "BadTape.__init__" "place" s_init_BadTape C_BadTape
  x_NoSign : Kt.ExC K mg "NoSign" C_NoSign
  kd_NoSign : Kt.Kind K mg [C_BadSheet, C_BadSet, C_BadTape, C_NoSign, C_BadCount, C_BadText] C_TapeError 3 C_NoSign
  in_NoSign : Kt.InC K mg "NoSign" "NoSign.__init__" "place" s_init_NoSign C_NoSign
  x_BadCount : Kt.ExC K mg "BadCount" C_BadCount
  kd_BadCount : Kt.Kind K mg [C_BadSheet, C_BadSet, C_BadTape, C_NoSign, C_BadCount, C_BadText] C_TapeError 4 C_BadCount
  q_BadCount : PySem.W.excIn K C_BadCount [.type "ValueError", .type "Exception", .type "BaseException", .type "object"] "ValueError.__new__" = true
  x_BadText : Kt.ExC K mg "BadText" C_BadText
  kd_BadText : Kt.Kind K mg [C_BadSheet, C_BadSet, C_BadTape, C_NoSign, C_BadCount, C_BadText] C_TapeError 5 C_BadText
  in_BadText : Kt.InC K mg "BadText" "BadText.__init__" "row" s_init_BadText C_BadText
  c_are_signs : Addr
  t_are_signs : Addr
  k_are_signs : Kt.Coded K "are_signs" s_are_signs d_are_signs.f d_are_signs.fd c_are_signs
  c_first_of : Addr
  t_first_of : Addr
  k_first_of : Kt.Coded K "_first_of" s_first_of d_first_of.f d_first_of.fd c_first_of
  c_l_of_tapes : Addr
  t_l_of_tapes : Addr
  k_l_of_tapes : Kt.Coded K "_law_of_tapes" s_l_of_tapes d_l_of_tapes.f d_l_of_tapes.fd c_l_of_tapes
  c_l_of_texts : Addr
  t_l_of_texts : Addr
  k_l_of_texts : Kt.Coded K "_law_of_texts" s_l_of_texts d_l_of_texts.f d_l_of_texts.fd c_l_of_texts
  c_l_sheets : Addr
  t_l_sheets : Addr
  k_l_sheets : Kt.Coded K "_law_sheets" s_l_sheets d_l_sheets.f d_l_sheets.fd c_l_sheets
  c_law : Addr
  t_law : Addr
  k_law : Kt.Coded K "law" s_law d_law.f d_law.fd c_law
end K01
namespace K01
open PySem PySem.Spec PyProof.Rows L2 Kt
section
variable {P : Program} {w : World} {K : PySem.W.Frag} {mg : Str → Option Value} {base : Heap}
theorem ok_l_take (T : Txt K mg) : FnOk P w K mg base CX0 1 T.d_l_take.f T.d_l_take.fd ["_law_box", "_law_many"] spTake := by
  refine T.d_l_take.F.ok sc_l_take (fun vs H Q E h => ?_) (fun cdv A outer s H vs Q E hr h => ?_)
  · obtain ⟨b, l, m, rfl, _⟩ := h
    rfl
  · obtain ⟨b, l, m, rfl, bx, m0, m9, q⟩ := h
    have nbl := bx.ne
    obtain ⟨ns, st, h1, h2⟩ := bx
    refine ⟨_, (pss_cons (ps_if (pt_cmpR (Kt.op_eqI hr.units) (pe_ix ix_list (pv 0) pe_int (fun _ _ => rfl)) (pe_lst pa_nil) (nomark _))
  (pss_cons (ps_asg (pe_op op_mod (pe_op op_mul (pe_ix ix_list (pv 0) pe_int (fun _ _ => rfl)) pe_int) pe_int) (pg_sub (pv 0) pe_int set_list))
  (pss_one (ps_ret (pe_op op_mod (pe_op op_fdivW (pe_ix ix_list (pv 0) pe_int (fun _ _ => rfl)) pe_int) (pv 1)))))
  pss_nil)
  (pss_cons (ps_set (i := 2) sc_l_take.nd rfl (.inl rfl) (pe_ix ix_list (pe_ix ix_list (pv 0) pe_int (fun _ _ => rfl)) pe_int (fun _ _ => rfl)))
  (pss_cons (ps_asg (pe_op op_fdivW (pv 2) (pv 1)) (pg_sub (pe_ix ix_list (pv 0) pe_int (fun _ _ => rfl)) pe_int set_list))
  (pss_cons (ps_if (PW.pt (pw_or (pt_cmpR op_eq (pe_ix ix_list (pe_ix ix_list (pv 0) pe_int (fun _ _ => rfl)) pe_int (fun _ _ => rfl)) pe_int (nomark _)) (pw_or1 (pt_cmpR op_eq (pe_ix ix_list (pe_ix ix_list (pv 0) pe_int (fun _ _ => rfl)) pe_int (fun _ _ => rfl)) (pe_un un_neg pe_int) (nomark _)))))
  (pss_one (ps_expr (pe_bm PySem.F.plainAttrs_list PySem.F.slot_list_pop PySem.F.type_list_pop mt_popAt (pe_ix ix_list (pv 0) pe_int (fun _ _ => rfl)) (pa_cons pe_int pa_nil))))
  pss_nil)
  (pss_one (ps_ret (pe_op op_mod (pv 2) (pv 1)))))))), ?_⟩
    -- if box[0] == []
    refine ⟨.ref b, rfl, b, _, 0, .ref l, rfl, rfl, SqL.of h1, atI_nat (j := 0) rfl, Nat.zero_le _, fun p np => ?_⟩
    have nb : b ≠ p := ne_of_none h1 np
    have nl : l ≠ p := ne_of_none h2 np
    have g1 : upd H p (.lst []) b = some (.lst [.ref l, .int st]) := by rw [upd_ne nb]; exact h1
    have g2 : upd H p (.lst []) l = some (.lst (ns.map V.int)) := by rw [upd_ne nl]; exact h2
    have keep : ∀ a o, H a = some o → upd H p (.lst []) a = some o := fun a o e => by rw [upd_ne (ne_of_none e np)]; exact e
    refine ⟨l, p, ns, [], rfl, rfl, SqL.of g2, SqL.of upd_same, _, rfl, ?_⟩
    generalize upd H p (.lst []) = H1 at g1 g2 keep
    cases ns with
    | nil =>
      refine iteT ?_
      -- box[1] = box[1] * 48271 % 2147483647
      refine ⟨.ref b, rfl, b, _, 1, .int st, rfl, rfl, SqL.of g1, atI_nat (j := 1) rfl, st, 48271, rfl, rfl, .inr ⟨by decide, by decide⟩, _, 2147483647, rfl, rfl, (by show (0 : Int) < 2147483647; decide), ?_⟩
      refine ⟨.ref b, rfl, b, _, 1, 1, rfl, rfl, g1, rfl, ?_⟩
      -- return box[1] // 7 % many
      refine ⟨.ref b, rfl, b, _, 1, _, rfl, rfl, SqL.of upd_same, atI_nat (j := 1) rfl, _, 7, rfl, rfl, ⟨by decide, by decide⟩, .int m, rfl, _, m, rfl, rfl, m0, ?_⟩
      refine q _ _ (Int.emod_nonneg _ (by omega)) (Int.emod_lt_of_pos _ m0) ⟨⟨[], _, upd_same, by rw [upd_ne nbl.symm]; exact g2⟩, fun a o e1 e2 e => by rw [upd_ne e1]; exact keep a o e⟩
    | cons n r =>
      refine iteF ?_
      -- number = box[0][0]
      refine ⟨.ref b, rfl, b, _, 0, .ref l, rfl, rfl, SqL.of g1, atI_nat (j := 0) rfl, l, _, 0, .int n, rfl, rfl, SqL.of g2, atI_nat (j := 0) rfl, ?_⟩
      -- box[0][0] = number // many
      refine ⟨.int n, rfl, .int m, rfl, n, m, rfl, rfl, wide_div m0 m9 (by decide) (by decide), ?_⟩
      refine ⟨.ref b, rfl, b, _, 0, .ref l, rfl, rfl, SqL.of g1, atI_nat (j := 0) rfl, l, _, 0, 0, rfl, rfl, g2, ix_ok rfl (by simp), ?_⟩
      have k1 : upd H1 l (.lst ((List.map V.int (n :: r)).set 0 (V.int (n / m)))) b = some (.lst [.ref l, .int st]) := by rw [upd_ne nbl]; exact g1
      have k2 : upd H1 l (.lst ((List.map V.int (n :: r)).set 0 (V.int (n / m)))) l = some (.lst (((n / m) :: r).map V.int)) := upd_same
      have keep2 : ∀ a o, a ≠ l → H a = some o → upd H1 l (.lst ((List.map V.int (n :: r)).set 0 (V.int (n / m)))) a = some o := fun a o e1 e => by rw [upd_ne e1]; exact keep a o e
      generalize upd H1 l (.lst ((List.map V.int (n :: r)).set 0 (V.int (n / m)))) = H2 at k1 k2 keep2
      -- the end
      have fin : ∀ H3, BoxAt H3 b l → (∀ a o, a ≠ b → a ≠ l → H a = some o → H3 a = some o) → tRet (tOp (rI (fun _ j => 0 < j) fun i j => .int (i % j)) (tVar 2) (tVar 1)) { nx := fun _ H' => Q .non H', rt := Q } [some (.ref b), some (.int m), some (.int n)] H3 := fun H3 bx kk =>
        ⟨.int n, rfl, .int m, rfl, n, m, rfl, rfl, m0, q _ _ (Int.emod_nonneg _ (by omega)) (Int.emod_lt_of_pos _ m0) ⟨bx, kk⟩⟩
      have drop : ∀ H3, H3 = H2 → tDrop (tBM K "list" rPopAt (tOp (rIxL K) (tVar 0) (tC (.int 0))) (tCons (tC (.int 0)) tNil)) { nx := fun σ H' => tRet (tOp (rI (fun _ j => 0 < j) fun i j => .int (i % j)) (tVar 2) (tVar 1)) { nx := fun _ H' => Q .non H', rt := Q } σ H', rt := Q } [some (.ref b), some (.int m), some (.int n)] H3 := fun H3 e => by
        subst e
        refine ⟨.ref b, rfl, b, _, 0, .ref l, rfl, rfl, SqL.of k1, atI_nat (j := 0) rfl, .inl ⟨rfl, _, SqL.of k2⟩, l, _, 0, 0, _, rfl, rfl, k2, by decide, by decide, (ixN_seq (ix_ok rfl (by simp))).1, rfl, ?_⟩
        refine fin _ ⟨r, st, by rw [upd_ne nbl]; exact k1, upd_same⟩ fun a o e1 e2 e => by rw [upd_ne e2]; exact keep2 a o e2 e
      refine ⟨.ref b, rfl, b, _, 0, .ref l, rfl, rfl, SqL.of k1, atI_nat (j := 0) rfl, l, _, 0, _, rfl, rfl, SqL.of k2, atI_nat (j := 0) rfl, rfl, _, rfl, ?_⟩
      cases e0 : decide (V.int (n / m) = V.int 0) with
      | true => exact iteT (iteT (drop _ rfl))
      | false =>
        refine iteF ?_
        refine ⟨.ref b, rfl, b, _, 0, .ref l, rfl, rfl, SqL.of k1, atI_nat (j := 0) rfl, l, _, 0, _, rfl, rfl, SqL.of k2, atI_nat (j := 0) rfl, 1, rfl, rfl, _, rfl, ?_⟩
        cases e1 : decide (V.int (n / m) = V.int (-1)) with
        | true => exact iteT (drop _ rfl)
        | false => exact iteF (fin _ ⟨_, st, k1, k2⟩ fun a o e1 e2 e => keep2 a o e2 e)
end
end K01
namespace K01
open PySem PySem.Spec PyProof.Rows L2 Kt
section
variable {P : Program} {w : World} {K : PySem.W.Frag} {mg : Str → Option Value} {base : Heap}
theorem ok_l_begun (T : Txt K mg) : FnOk P w K mg base CX0 1 T.d_l_begun.f T.d_l_begun.fd ["_law_script"] (spBegun K) := by
  refine T.d_l_begun.F.ok sc_l_begun (fun vs H Q E h => ?_) (fun cdv A outer s H vs Q E hr h => ?_)
  · obtain ⟨a, ns, rfl, _⟩ := h
    rfl
  · obtain ⟨a, ns, rfl, hS, hlen, q⟩ := h
    refine ⟨_, (pss_cons (ps_set (i := 1) sc_l_begun.nd rfl (.inl rfl) pe_int)
  (pss_cons (ps_for PassesOwn.never rfl (pi_list (pv 0)) (pg_name (i := 2) sc_l_begun.nd rfl (.inl rfl))
  (pss_one (ps_set (i := 1) sc_l_begun.nd rfl (.inl rfl) (pe_op op_mod (pe_op op_add (pe_op op_add (pe_op op_mul (pv 1) pe_int) (pe_op op_mul (pv 2) pe_int)) pe_int) pe_int))))
  (pss_one (ps_ret (pe_lst (pa_cons (pe_callTy call_list_of (by rfl) T.n_list (by decide +kernel) (pa_cons (pv 0) pa_nil)) (pa_cons (pe_op op_mul (pv 1) (pe_callTy call_int1 (by rfl) T.n_int (by decide +kernel) (pa_cons (pe_cmpR op_gt (pe_callB call_len_seq (by rfl) T.n_len PySem.boot_len (pa_cons (pv 0) pa_nil)) pe_int (nomark _)) pa_nil))) pa_nil))))))), ?_⟩
    refine ⟨.ref a, rfl, a, rfl, ⟨_, hS⟩, for_list (K := K) (a := a) (xs := ns.map V.int) (fun i σ H' => H' = H ∧ ∃ (st : Int) (y : Option V), σ = [some (.ref a), some (.int st), y]) ⟨rfl, 0, none, rfl⟩ (fun i σ H' _ p => ?_) (fun i x σ H' hx p => ?_) (fun σ H' p => ?_)⟩
    · obtain ⟨rfl, _⟩ := p
      exact hS
    · obtain ⟨rfl, st, y, rfl⟩ := p
      obtain ⟨k, hk, rfl⟩ := at_map hx
      refine ⟨.int st, rfl, st, 48271, rfl, rfl, .inr ⟨by decide, by decide⟩, .int k, rfl, k, 69621, rfl, rfl, .inr ⟨by decide, by decide⟩, _, _, rfl, rfl, _, 11, rfl, rfl, _, 2147483647, rfl, rfl, (by show (0 : Int) < 2147483647; decide), rfl, _, _, rfl⟩
    · obtain ⟨rfl, st, y, rfl⟩ := p
      refine ⟨.ref a, rfl, a, _, rfl, .inl hS, fun l nl => ?_⟩
      refine ⟨.int st, rfl, .ref a, rfl, a, _, rfl, .inl ((same_new nl).seq hS), _, 2, rfl, rfl, .inr ⟨_, rfl, ?_⟩⟩
      refine ⟨st, _, rfl, rfl, .inr (by split <;> constructor <;> decide), ?_⟩
      refine ⟨by show 2 ≤ sizeLine; decide, fun b nb => ?_⟩
      have nlb : l ≠ b := fun e => by rw [← e, upd_same] at nb; cases nb
      refine q b l _ ((same_new nl).trans (same_new nb)) ⟨ns, _, upd_same, by rw [upd_ne nlb, upd_same]⟩ ((same_new nl).free nb) nl
theorem ok_l_picked (T : Txt K mg) : FnOk P w K mg base CX0 2 T.d_l_picked.f T.d_l_picked.fd ["_law_box", "_law_signs", "_law_many"] spPicked := by
  refine T.d_l_picked.F.ok sc_l_picked (fun vs H Q E h => ?_) (fun cdv A outer s H vs Q E hr h => ?_)
  · obtain ⟨b, l, z, m, rfl, _⟩ := h
    rfl
  · obtain ⟨b, l, z, m, rfl, bx, hz, hm, q⟩ := h
    have nbl := bx.ne
    refine ⟨_, (pss_cons (ps_set (i := 3) sc_l_picked.nd rfl (.inr rfl) (pe_callTy (Kt.call_listS rfl) (by rfl) T.n_list (by decide +kernel) (pa_cons (pv 1) pa_nil)))
  (pss_one (ps_ret (pe_lc (own := [("_law_turn", 4)]) (g := gName 4) (tt := tYes) (te := (tBM K "list" rPopAt (tVar 3) (tCons (tCall spTake [] E0 (tCons (tVar 0) (tCons (tCB (rLenQ K) (tCons (tVar 3) tNil)) tNil))) tNil))) rfl sc_l_picked.nd (pi_range1 (by rfl) T.n_range (pa_cons (pv 2) pa_nil)) (blkOk_by (own := [("_law_turn", 4)]) (N := ["_law_box", "_law_signs", "_law_many", "_law_left", "_law_turn"]) (sc := defScope s_l_picked) (by decide +kernel)) (by exact fun _ _ _ _ _ => pg_name (i := 4) sc_l_picked.nd rfl (Or.inl rfl)) (by exact fun _ _ _ _ _ => pts_nil) (by exact fun _ _ _ _ _ => (pe_bm PySem.F.plainAttrs_list PySem.F.slot_list_pop PySem.F.type_list_pop mt_popAt (pv 3) (pa_cons (pe_call (ok_l_take T) (hr.mono (by decide)) (by rfl) T.d_l_take.g T.d_l_take.F.kp T.d_l_take.b .nil pass0 (pa_cons (pv 0) (pa_cons (pe_callB call_len_seq (by rfl) T.n_len PySem.boot_len (pa_cons (pv 3) pa_nil)) pa_nil))) pa_nil))))))), ?_⟩
    refine ⟨.str z, rfl, z, rfl, hz, fun L nL => ?_⟩
    refine ⟨.int m, rfl, m, rfl, by omega, by omega, fun D nD => ?_⟩
    have nL0 : L ≠ D := fun e => by rw [← e, upd_same] at nD; cases nD
    have nD0 : H D = none := by rw [upd_ne nL0.symm] at nD; exact nD
    have nLb : b ≠ L ∧ l ≠ L := let ⟨ns, st, h1, h2⟩ := bx; ⟨ne_of_none h1 nL, ne_of_none h2 nL⟩
    have nDb : b ≠ D ∧ l ≠ D := let ⟨ns, st, h1, h2⟩ := bx; ⟨ne_of_none h1 nD0, ne_of_none h2 nD0⟩
    refine lc_range (lo := 0) (n := (m : Int).toNat) (fun i H' => ∃ ps rest : List Nat, (ps ++ rest).Perm z.cps.toList ∧ ps.length = i ∧ Bxd b l H H' ∧ H' D = some (.lst (sgs ps)) ∧ H' L = some (.lst (sgs rest))) ?_ (fun i H' hi p => ?_) (fun H' p => ?_)
    · refine ⟨[], z.cps.toList, List.Perm.refl _, rfl, Bxd.same bx ((same_new nL).trans (same_new nD)), upd_same, ?_⟩
      rw [upd_ne nL0, upd_same]; rfl
    · obtain ⟨ps, rest, hp, hl, bd, hD, hL⟩ := p
      have hlen : ps.length + rest.length = z.cps.size := by
        have := hp.length_eq
        rw [List.length_append, Array.length_toList] at this; exact this
      have hpos : 0 < rest.length := by omega
      have hsl : (sgs rest).length = rest.length := by simp [sgs]
      refine ⟨rfl, lc_yes ?_⟩
      refine ⟨.ref L, rfl, .inl ⟨rfl, _, SqL.of hL⟩, .ref b, rfl, .ref L, rfl, L, _, rfl, .inl (SqL.of hL), b, l, ((sgs rest).length : Nat), rfl, bd.box, by omega, ?_, fun v H3 v0 v1 bd3 => ?_⟩
      · rw [hsl, Int.natAbs_natCast]
        exact Nat.lt_of_le_of_lt (show rest.length ≤ 1000 by omega) (by decide)
      obtain ⟨k, rfl⟩ := Int.eq_ofNat_of_zero_le v0
      have hk : k < rest.length := by omega
      have eL : H3 L = some (.lst (sgs rest)) := bd3.at' L _ nLb.1.symm nLb.2.symm hL
      have eD : H3 D = some (.lst (sgs ps)) := bd3.at' D _ nDb.1.symm nDb.2.symm hD
      refine ⟨L, sgs rest, k, k, .str (sg rest[k]), rfl, rfl, eL, by omega, by omega, (ixN_seq (ix_ok rfl (by rw [hsl]; exact hk))).1, map_at (map_at (List.getElem?_eq_getElem hk)), ?_⟩
      refine ⟨sgs ps, by rw [upd_ne nL0.symm]; exact eD, ?_, ps ++ [rest[k]], rest.eraseIdx k, ?_, by simp [hl], ⟨?_, ?_⟩, ?_, ?_⟩
      · have : (sgs ps).length = ps.length := by simp [sgs]
        rw [this]; exact small1000 (by omega)
      · refine List.Perm.trans ?_ hp
        rw [List.append_assoc]
        exact List.Perm.append_left ps (perm_erase (List.getElem?_eq_getElem hk))
      · exact bd3.box.kp (fun o e => by rw [upd_ne nDb.1, upd_ne nLb.1]; exact e) fun o e => by rw [upd_ne nDb.2, upd_ne nLb.2]; exact e
      · intro a o e1 e2 e
        rw [upd_ne (ne_of_none e nD0), upd_ne (ne_of_none e nL)]
        exact bd3.at' a o e1 e2 (bd.at' a o e1 e2 e)
      · rw [upd_same]; simp [sgs]
      · rw [upd_ne nL0, upd_same]
        unfold sgs; rw [erase_map, erase_map]
    · obtain ⟨ps, rest, hp, hl, bd, hD, hL⟩ := p
      exact q D ps rest H' hp (by rw [hl]; exact Int.toNat_natCast m) bd nD0 hD
end
end K01
namespace K01
open PySem PySem.Spec PyProof.Rows L2 Kt
section
variable {P : Program} {w : World} {K : PySem.W.Frag} {mg : Str → Option Value} {base : Heap}
theorem ok_l_sheet (T : Txt K mg) : FnOk P w K mg base CX0 3 T.d_l_sheet.f T.d_l_sheet.fd ["_law_box", "_law_most"] spSheet := by
  refine T.d_l_sheet.F.ok sc_l_sheet (fun vs H Q E h => ?_) (fun cdv A outer s H vs Q E hr h => ?_)
  · obtain ⟨b, l, m, rfl, _⟩ := h
    rfl
  · obtain ⟨b, l, most, rfl, bx, m1, m2, q⟩ := h
    refine ⟨_, (pss_cons (ps_set (i := 2) sc_l_sheet.nd rfl (.inl rfl) (pe_op op_add pe_int (pe_call (ok_l_take T) (hr.mono (by decide)) (by rfl) T.d_l_take.g T.d_l_take.F.kp T.d_l_take.b .nil pass0 (pa_cons (pv 0) (pa_cons (pv 1) pa_nil)))))
  (pss_cons (ps_set (i := 3) sc_l_sheet.nd rfl (.inl rfl) pe_str)
  (pss_cons (ps_set (i := 3) sc_l_sheet.nd rfl (.inl rfl) (pe_op op_add_str (pv 3) pe_str))
  (pss_cons (ps_set (i := 4) sc_l_sheet.nd rfl (.inl rfl) (pe_op op_fdivW (pe_call (ok_l_take T) (hr.mono (by decide)) (by rfl) T.d_l_take.g T.d_l_take.F.kp T.d_l_take.b .nil pass0 (pa_cons (pv 0) (pa_cons pe_int pa_nil))) pe_int))
  (pss_cons (ps_set (i := 5) sc_l_sheet.nd rfl (.inl rfl) (pe_call (ok_l_picked T) (hr.mono (by decide)) (by rfl) T.d_l_picked.g T.d_l_picked.F.kp T.d_l_picked.b .nil pass0 (pa_cons (pv 0) (pa_cons (pe_ix ix_list (pe_lst (pa_cons pe_str (pa_cons (pv 3) pa_nil))) (pv 4) (fun _ _ => rfl)) (pa_cons (pv 2) pa_nil)))))
  (pss_cons (ps_set (i := 6) sc_l_sheet.nd rfl (.inl rfl) (pe_call (ok_l_picked T) (hr.mono (by decide)) (by rfl) T.d_l_picked.g T.d_l_picked.F.kp T.d_l_picked.b .nil pass0 (pa_cons (pv 0) (pa_cons (pe_ix ix_list (pe_lst (pa_cons pe_str (pa_cons (pv 3) pa_nil))) (pv 4) (fun _ _ => rfl)) (pa_cons (pv 2) pa_nil)))))
  (pss_cons (ps_for PassesOwn.never rfl (pi_range1 (by rfl) T.n_range (pa_cons (pv 2) pa_nil)) (pg_name (i := 7) sc_l_sheet.nd rfl (.inl rfl))
  (pss_one (ps_if (PW.pt (pw_and (pt_cmpR op_eq (pe_call (ok_l_take T) (hr.mono (by decide)) (by rfl) T.d_l_take.g T.d_l_take.F.kp T.d_l_take.b .nil pass0 (pa_cons (pv 0) (pa_cons pe_int pa_nil))) pe_int (nomark _)) (pw_and1 (pt_cmpR op_notIn_seq (pe_ix ix_list (pv 5) (pv 7) (fun _ _ => rfl)) (pv 6) (by rfl)))))
  (pss_one (ps_asg (pe_ix ix_list (pv 5) (pv 7) (fun _ _ => rfl)) (pg_sub (pv 6) (pv 7) set_list)))
  pss_nil)))
  (pss_cons (ps_set (i := 8) sc_l_sheet.nd rfl (.inl rfl) (pe_ix ix_list (pe_lst (pa_cons pe_non (pa_cons (pe_call (ok_l_take T) (hr.mono (by decide)) (by rfl) T.d_l_take.g T.d_l_take.F.kp T.d_l_take.b .nil pass0 (pa_cons (pv 0) (pa_cons (pv 2) pa_nil))) pa_nil))) (pe_call (ok_l_take T) (hr.mono (by decide)) (by rfl) T.d_l_take.g T.d_l_take.F.kp T.d_l_take.b .nil pass0 (pa_cons (pv 0) (pa_cons pe_int pa_nil))) (fun _ _ => rfl)))
  (pss_one (ps_ret (pe_tup (pa_cons (pe_join pe_str (pv 5)) (pa_cons (pe_join pe_str (pv 6)) (pa_cons (pv 8) pa_nil)))))))))))))), ?_⟩
    -- many
    refine ⟨.ref b, rfl, .int most, rfl, b, l, most, rfl, bx, by omega, Nat.lt_of_le_of_lt (show (most : Int).natAbs ≤ 26 by omega) (by decide), fun v H1 v0 v1 bd1 => ?_⟩
    refine ⟨1, v, rfl, rfl, ?_⟩
    obtain ⟨n, hn, n1, n2⟩ : ∃ n : Nat, 1 + v = (n : Int) ∧ 1 ≤ n ∧ n ≤ most := ⟨(1 + v).toNat, by omega, by omega, by omega⟩
    -- every
    refine ⟨_, rfl, _, _, rfl, rfl, (by decide +kernel), ?_⟩
    -- often
    refine ⟨.ref b, rfl, b, l, 4, rfl, bd1.box, by decide, by decide, fun v4 H2 v40 v41 bd2 => ?_⟩
    refine ⟨v4, 3, rfl, rfl, ⟨by decide, by decide⟩, ?_⟩
    have hof : v4 / 3 = 0 ∨ v4 / 3 = 1 := by omega
    -- zero
    refine ⟨.ref b, rfl, _, rfl, by show 2 ≤ sizeLine; decide, fun p np => ?_⟩
    have bd2' := bd1.trans bd2
    have bd3 : ∀ o, Bxd b l H (upd H2 p o) := fun o => bd2'.trans (Bxd.same bd2'.box (same_new np))
    refine ⟨.int (v4 / 3), rfl, ix_pick hof (SqL.of upd_same) (by decide +kernel) (by decide +kernel) fun sz ok1 => ?_⟩
    refine ⟨.int (1 + v), rfl, b, l, sz, n, by rw [hn]; rfl, (bd3 _).box, (SOk.elim ok1).2.2.2, Nat.le_trans (Nat.le_trans n2 m2) (SOk.elim ok1).2.2.1, fun Dz zs rz H3 pz lz bd4 nDz eDz => ?_⟩
    have bd4' := (bd3 _).trans bd4
    have fDz : H Dz = none := (bd3 _).new bx nDz
    have nDzb : Dz ≠ b ∧ Dz ≠ l := by
      obtain ⟨ns, st, h1, h2⟩ := (bd3 (.lst [])).box
      obtain ⟨ns', st', h1', h2'⟩ := bd2'.box
      have q1 : p ≠ b := (ne_of_none h1' np).symm
      have q2 : p ≠ l := (ne_of_none h2' np).symm
      have r1 : Dz ≠ p := fun e => by rw [e, upd_same] at nDz; cases nDz
      rw [upd_ne r1] at nDz
      exact ⟨(ne_of_none h1' nDz).symm, (ne_of_none h2' nDz).symm⟩
    -- one
    refine ⟨.ref b, rfl, _, rfl, by show 2 ≤ sizeLine; decide, fun p2 np2 => ?_⟩
    have bd5 : ∀ o, Bxd b l H (upd H3 p2 o) := fun o => bd4'.trans (Bxd.same bd4'.box (same_new np2))
    refine ⟨.int (v4 / 3), rfl, ix_pick hof (SqL.of upd_same) (by decide +kernel) (by decide +kernel) fun so ok2 => ?_⟩
    refine ⟨.int (1 + v), rfl, b, l, so, n, by rw [hn]; rfl, (bd5 _).box, (SOk.elim ok2).2.2.2, Nat.le_trans (Nat.le_trans n2 m2) (SOk.elim ok2).2.2.1, fun Do os ro H4 po lo bd6 nDo eDo => ?_⟩
    have bd6' := (bd5 _).trans bd6
    have fDo : H Do = none := (bd5 _).new bx nDo
    have nDo3 : Do ≠ p2 := fun e => by rw [e, upd_same] at nDo; cases nDo
    rw [upd_ne nDo3] at nDo
    have nDob : Do ≠ b ∧ Do ≠ l := by
      obtain ⟨ns', st', h1', h2'⟩ := bd4'.box
      exact ⟨(ne_of_none h1' nDo).symm, (ne_of_none h2' nDo).symm⟩
    have nDD : Dz ≠ Do := ne_of_none eDz nDo
    have eDz4 : H4 Dz = some (.lst (sgs zs)) := bd6.at' Dz _ nDzb.1 nDzb.2 (by rw [upd_ne (ne_of_none eDz np2)]; exact eDz)
    obtain ⟨nz, az⟩ := picked_ok ok1 pz
    obtain ⟨no, ao⟩ := picked_ok ok2 po
    -- the loop
    refine ⟨.int (1 + v), rfl, 1 + v, rfl, by omega, by omega, ?_⟩
    rw [show (1 + v).toNat = n by omega]
    refine for_range (lo := 0) (n := n) (fun i σ H' => ∃ (os' : List Nat) (y7 : Option V) (sE : Str), os'.Nodup ∧ (∀ c ∈ os', 32 ≤ c ∧ c ≤ 126) ∧ os'.length = n ∧ H' Do = some (.lst (sgs os')) ∧ H' Dz = some (.lst (sgs zs)) ∧ Bxd b l H H' ∧
      σ = [some (.ref b), some (.int most), some (.int (1 + v)), some (.str sE), some (.int (v4 / 3)), some (.ref Dz), some (.ref Do), y7, none]) ?_ (fun i σ H' hi p => ?_) (fun σ H' p => ?_)
    · exact ⟨os, none, _, no, ao, lo, eDo, eDz4, bd6', rfl⟩
    · obtain ⟨os', y7, sE, no', ao', lo', eo', ez', bd', rfl⟩ := p
      -- take == 1
      refine ⟨.ref b, rfl, b, l, 4, rfl, bd'.box, by decide, by decide, fun u H5 u0 u1 bdu => ?_⟩
      have bdu' := bd'.trans bdu
      have eo5 : H5 Do = some (.lst (sgs os')) := bdu.at' Do _ nDob.1 nDob.2 eo'
      have ez5 : H5 Dz = some (.lst (sgs zs)) := bdu.at' Dz _ nDzb.1 nDzb.2 ez'
      have same : ∃ (os2 : List Nat) (y7 : Option V) (sE' : Str), os2.Nodup ∧ (∀ c ∈ os2, 32 ≤ c ∧ c ≤ 126) ∧ os2.length = n ∧ H5 Do = some (.lst (sgs os2)) ∧ H5 Dz = some (.lst (sgs zs)) ∧ Bxd b l H H5 ∧
          [some (V.ref b), some (.int most), some (.int (1 + v)), some (.str sE), some (.int (v4 / 3)), some (.ref Dz), some (.ref Do), some (.int (0 + (i : Int))), none] =
          [some (.ref b), some (.int most), some (.int (1 + v)), some (.str sE'), some (.int (v4 / 3)), some (.ref Dz), some (.ref Do), y7, none] := ⟨os', _, sE, no', ao', lo', eo5, ez5, bdu', rfl⟩
      refine ⟨rfl, _, rfl, ?_⟩
      cases decide (V.int u = V.int 1) with
      | false => exact iteF (iteF same)
      | true =>
        refine iteT ?_
        obtain ⟨c, hc⟩ : ∃ c, zs[i]? = some c := ⟨zs[i]'(by omega), List.getElem?_eq_getElem _⟩
        refine ⟨.ref Dz, rfl, .int (0 + (i : Int)), rfl, Dz, _, 0 + (i : Int), _, rfl, rfl, SqL.of ez5, at_of (by omega) (sgs_at hc), .ref Do, rfl, Do, _, rfl, .inl (SqL.of eo5), rfl, sgs_flat os', _, rfl, ?_⟩
        rw [if_pos rfl, sgs_in]
        by_cases hm : c ∈ os'
        · rw [decide_eq_true hm]
          exact iteF same
        · rw [decide_eq_false hm]
          refine iteT ?_
          refine ⟨.ref Dz, rfl, .int (0 + (i : Int)), rfl, Dz, _, 0 + (i : Int), _, rfl, rfl, SqL.of ez5, at_of (by omega) (sgs_at hc), .ref Do, rfl, .int (0 + (i : Int)), rfl, Do, _, 0 + (i : Int), i, rfl, rfl, eo5, ix_ok (by omega) (by rw [sgs_len]; omega), ?_⟩
          refine ⟨os'.set i c, _, sE, nodup_set no' hm, fun d hd => ?_, by rw [List.length_set]; exact lo', by rw [upd_same, sgs_set], by rw [upd_ne nDD]; exact ez5, ⟨?_, fun a o e1 e2 e => ?_⟩, rfl⟩
          · rcases mem_set_or hd with z | z
            · exact ao' d z
            · rw [z]; exact az c (List.mem_of_getElem? hc)
          · exact bdu'.box.kp (fun o e => by rw [upd_ne nDob.1.symm]; exact e) fun o e => by rw [upd_ne nDob.2.symm]; exact e
          · rw [upd_ne (ne_of_none e fDo)]
            exact bdu'.at' a o e1 e2 e
    · obtain ⟨os', y7, sE, no', ao', lo', eo', ez', bd', rfl⟩ := p
      -- home
      refine ⟨.ref b, rfl, .int (1 + v), rfl, b, l, 1 + v, rfl, bd'.box, by omega, Nat.lt_of_le_of_lt (show (1 + v).natAbs ≤ 26 by omega) (by decide), fun u H5 u0 u1 bdu => ?_⟩
      refine ⟨by show 2 ≤ sizeLine; decide, fun p3 np3 => ?_⟩
      have bd7 := bd'.trans bdu
      have bd8 : Bxd b l H (upd H5 p3 (HO.lst [V.non, V.int u])) := bd7.trans (Bxd.same bd7.box (same_new np3))
      refine ⟨.ref b, rfl, b, l, 2, rfl, bd8.box, by decide, by decide, fun t H6 t0 t1 bdt => ?_⟩
      have bd9 := bd8.trans bdt
      have e3 : upd H5 p3 (HO.lst [V.non, V.int u]) p3 = some (.lst [V.non, V.int u]) := upd_same
      have np3b : p3 ≠ b ∧ p3 ≠ l := by
        obtain ⟨ns, st, h1, h2⟩ := bd7.box
        exact ⟨(ne_of_none h1 np3).symm, (ne_of_none h2 np3).symm⟩
      have e36 : H6 p3 = some (.lst [V.non, V.int u]) := bdt.at' p3 _ np3b.1 np3b.2 e3
      have stay : ∀ a o, a ≠ b → a ≠ l → H' a = some o → H6 a = some o := fun a o e1 e2 e => bdt.at' a o e1 e2 (by
        have e5 := bdu.at' a o e1 e2 e
        rw [upd_ne (ne_of_none e5 np3)]; exact e5)
      have ez6 := stay Dz _ nDzb.1 nDzb.2 ez'
      have eo6 := stay Do _ nDob.1 nDob.2 eo'
      obtain ⟨hm, at3, hh⟩ : ∃ hm : V, atI [V.non, V.int u] t = some hm ∧ (hm = .non ∨ ∃ h : Nat, hm = .int h ∧ h < n) := by
        rcases (show t = 0 ∨ t = 1 by omega) with e | e <;> rw [e]
        · exact ⟨_, atI_nat (j := 0) rfl, .inl rfl⟩
        · exact ⟨_, atI_nat (j := 1) rfl, .inr ⟨u.toNat, by rw [show ((u.toNat : Nat) : Int) = u by omega], by omega⟩⟩
      refine ⟨p3, _, t, hm, rfl, rfl, SqL.of e36, at3, ?_⟩
      -- the tuple
      have lens : ∀ ps : List Nat, ps.length ≤ 26 → ((ps.map sg).map (·.length)).sum + (ps.map sg).length * (Str.ofString "").length ≤ 16777216 := fun ps hp => by
        have e0 : (Str.ofString "").length = 0 := by decide +kernel
        have e1 : (ps.map sg).map (·.length) = List.replicate ps.length 1 := by
          rw [List.map_map]
          exact List.map_eq_replicate_iff.mpr fun _ _ => rfl
        rw [e0, e1]
        simp
        omega
      refine ⟨⟨_, rfl⟩, .ref Dz, rfl, _, Dz, zs.map sg, rfl, rfl, .inl (SqL.of ez6), lens zs (by omega), ?_⟩
      refine ⟨⟨_, rfl⟩, .ref Do, rfl, _, Do, os'.map sg, rfl, rfl, .inl (SqL.of eo6), lens os' (by omega), ?_⟩
      refine ⟨hm, rfl, by show 3 ≤ sizeLine; decide, fun t' nt' => ?_⟩
      rw [join_sg, join_sg]
      refine q t' ⟨zs.toArray⟩ ⟨os'.toArray⟩ hm _ ⟨?_, ?_, ?_, nz, no', az, ao', ?_⟩ ?_ (bd9.trans (Bxd.same bd9.box (same_new nt'))) (bd9.new bx nt') upd_same
      · show os'.toArray.size = zs.toArray.size
        simp; omega
      · show 1 ≤ zs.toArray.size
        simp; omega
      · show zs.toArray.size ≤ 26
        simp; omega
      · rcases hh with e | ⟨h, e1, e2⟩
        · exact .inl e
        · refine .inr ⟨h, e1, ?_⟩
          show h < zs.toArray.size
          simp; omega
      · show zs.toArray.size ≤ most
        simp; omega
end
end K01
namespace K01
open PySem PySem.Spec PyProof.Rows L2 Kt
abbrev q2 : Str := "_first_of.<locals>.<lambda>"
abbrev qt : Str := "_law_of_tapes.<locals>.<lambda>"
abbrev qx : Str := "_law_of_texts.<locals>.<lambda>"
abbrev qs : Str := "_law_sheets.<locals>.<lambda>"
abbrev ql : Str := "law.<locals>.<lambda>"
/-- the tables of the text -/
abbrev tws {K : PySem.W.Frag} {mg : Str → Option Value} (T : Txt K mg) : TWs := ⟨[T.t_are_signs], [(T.t_first_of, q2), (T.t_l_of_tapes, qt), (T.t_l_of_texts, qx), (T.t_l_sheets, qs), (T.t_law, ql)]⟩
section
variable {K : PySem.W.Frag} {mg : Str → Option Value} (T : Txt K mg)
theorem mem_are_signs : T.t_are_signs ∈ (tws T).gs := by simp [tws]
theorem mem_first_of : (T.t_first_of, q2) ∈ (tws T).ls := by simp [tws]
theorem mem_l_of_tapes : (T.t_l_of_tapes, qt) ∈ (tws T).ls := by simp [tws]
theorem mem_l_of_texts : (T.t_l_of_texts, qx) ∈ (tws T).ls := by simp [tws]
theorem mem_l_sheets : (T.t_l_sheets, qs) ∈ (tws T).ls := by simp [tws]
theorem mem_law : (T.t_law, ql) ∈ (tws T).ls := by simp [tws]
/-- the classes of the text -/
abbrev kc : Kc := ⟨T.C_BadSheet, T.C_BadSet, T.C_BadCount, T.C_BadTape, T.C_NoSign⟩
end
section
variable {P : Program} {w : World} {K : PySem.W.Frag} {mg : Str → Option Value} {base : Heap}
theorem ok_are_signs (T : Txt K mg) (TB : GxR.TabB base mg T.c_are_signs T.t_are_signs) : FnOk P w K mg base CX0 1 T.d_are_signs.f T.d_are_signs.fd ["signs"] (spSigns T.t_are_signs) := by
  refine T.k_are_signs.ok sc_are_signs (fun vs H Q E h => ?_) (fun A outer s H vs Q E hr h => ?_)
  · obtain ⟨z, rfl, _⟩ := h
    rfl
  · obtain ⟨z, rfl, tb, q⟩ := h
    refine ⟨_, (pss_one (ps_ret (GxR.pe_allS hr (by rfl) T.n_all (by decide +kernel) TB rfl (Kt.genS_by rfl rfl (by decide +kernel) rfl rfl) (pv 0) (Kt.elt_in rfl rfl) (fun _ => rfl)))), ?_⟩
    refine ⟨.str z, rfl, z, rfl, tb, fun H2 t2 => ?_⟩
    rw [show pbIn " " "~" = fun c => decide (32 ≤ c ∧ c ≤ 126) from funext pbIn_32_126]
    exact q H2 t2
theorem ok_check_set (T : Txt K mg) : FnOk P w K mg base CX0 1 T.d_check_set.f T.d_check_set.fd ["begin"] spCheckSet := by
  refine T.d_check_set.F.ok sc_check_set (fun vs H Q E h => ?_) (fun cdv A outer s H vs Q E hr h => ?_)
  · obtain ⟨b, rfl, _⟩ := h
    rfl
  · obtain ⟨b, rfl, hb, q⟩ := h
    refine ⟨_, (pss_one (ps_if (PW.pt (pw_and (pt_cmpR op_ne (pv 0) pe_int (nomark _)) (pw_and1 (pt_cmpR op_ne (pv 0) pe_int (nomark _)))))
  (pss_one ps_never)
  pss_nil)), ?_⟩
    refine ⟨.int b, rfl, rfl, _, rfl, ?_⟩
    rcases hb with e | e <;> subst e
    · exact iteF (iteF q)
    · exact iteT ⟨.int 1, rfl, rfl, _, rfl, iteF q⟩
theorem ok_check_count (T : Txt K mg) : FnOk P w K mg base CX0 1 T.d_check_count.f T.d_check_count.fd ["many", "most"] spCount := by
  refine T.d_check_count.F.ok sc_check_count (fun vs H Q E h => ?_) (fun cdv A outer s H vs Q E hr h => ?_)
  · obtain ⟨m, n, rfl, _⟩ := h
    rfl
  · obtain ⟨m, n, rfl, h0, h1, q⟩ := h
    refine ⟨_, (pss_one (ps_if (pt_not (pt_chain op_le op_le pe_int (pv 0) (pv 1)))
  (pss_one ps_never)
  pss_nil)), ?_⟩
    refine ⟨.int m, rfl, 0, _, rfl, rfl, _, rfl, iteTd h0 ⟨.int n, rfl, m, n, rfl, rfl, _, rfl, iteNS h1 ?_⟩⟩
    exact q
theorem ok_set_behind (T : Txt K mg) : FnOk P w K mg base CX0 1 T.d_set_behind.f T.d_set_behind.fd ["sheet", "code", "now"] spBehind := by
  refine T.d_set_behind.F.ok sc_set_behind (fun vs H Q E h => ?_) (fun cdv A outer s H vs Q E hr h => ?_)
  · obtain ⟨t, z, o, hm, c, nw, rfl, _⟩ := h
    rfl
  · obtain ⟨t, z, o, hm, c, nw, rfl, gd, sh, q⟩ := h
    refine ⟨_, (pss_cons (ps_asg (pv 0) (pg_tup rfl (pgs_cons (pg_name (i := 3) sc_set_behind.nd rfl (.inl rfl)) (pgs_cons (pg_name (i := 4) sc_set_behind.nd rfl (.inl rfl)) (pgs_cons (pg_name (i := 5) sc_set_behind.nd rfl (.inl rfl)) pgs_nil)))))
  (pss_cons (ps_if (pt_cmpR op_ge (pv 1) (pe_callB call_len_str (by rfl) T.n_len PySem.boot_len (pa_cons (pv 3) pa_nil)) (nomark _))
  (pss_one (ps_ret (pe_op op_sub (pv 1) (pe_callB call_len_str (by rfl) T.n_len PySem.boot_len (pa_cons (pv 3) pa_nil)))))
  pss_nil)
  (pss_cons (ps_if (pt_cmpR op_eq (pv 1) (pv 5) (nomark _))
  (pss_one (ps_ret pe_int))
  pss_nil)
  (pss_one (ps_ret (pv 2)))))), ?_⟩
    have big : z.length ≤ sizeLine := Nat.le_trans gd.le (by decide)
    refine ⟨.ref t, rfl, t, _, rfl, SqT.of sh, rfl, _, _, rfl, _, _, rfl, _, _, rfl, rfl, ?_⟩
    refine ⟨.int c, rfl, .str z, rfl, z, rfl, big, c, _, rfl, rfl, _, rfl, ?_⟩
    unfold behind at q
    by_cases h : (z.cps.size : Int) ≤ c
    · rw [if_pos h] at q
      exact iteTd h ⟨.int c, rfl, .str z, rfl, z, rfl, big, c, _, rfl, rfl, q⟩
    · rw [if_neg h] at q
      refine iteFd h ?_
      refine ⟨.int c, rfl, hm, rfl, ?_, _, rfl, ?_⟩
      · rcases gd.home with e | ⟨h, e, _⟩ <;> rw [e] <;> rfl
      · by_cases e : V.int c = hm
        · rw [if_pos e] at q
          exact iteTd e q
        · rw [if_neg e] at q
          exact iteFd e ⟨.int nw, rfl, q⟩
theorem ok_shift_places (T : Txt K mg) : FnOk P w K mg base CX0 1 T.d_shift_places.f T.d_shift_places.fd ["sheet", "tape"] (spPlaces K) := by
  refine T.d_shift_places.F.ok sc_shift_places (fun vs H Q E h => ?_) (fun cdv A outer s H vs Q E hr h => ?_)
  · obtain ⟨t, a, z, o, hm, cs, rfl, _⟩ := h
    rfl
  · obtain ⟨t, a, z, o, hm, cs, rfl, gd, sh, hS, hl, q⟩ := h
    refine ⟨_, (pss_one (ps_ret (pe_lc (own := [("place", 2), ("code", 3)]) (g := gTup K 2 (gCons (gName 2) (gCons (gName 3) gNil))) (tt := (tTest (tOp _ _ (tCB _ (tCons (tOp (rIxT K) _ _) tNil))))) (te := _) rfl sc_shift_places.nd (pi_enum (by rfl) T.n_enumerate (pa_cons (pv 1) pa_nil)) (blkOk_by (own := [("place", 2), ("code", 3)]) (N := ["sheet", "tape", "place", "code"]) (sc := defScope s_shift_places) (by decide +kernel)) (by exact fun _ _ _ _ _ => pg_tup rfl (pgs_cons (pg_name (i := 2) sc_shift_places.nd rfl (Or.inl rfl)) (pgs_cons (pg_name (i := 3) sc_shift_places.nd rfl (Or.inl rfl)) pgs_nil))) (by exact fun _ _ _ _ _ => (pts_one (pt_cmpR op_ge (pv 3) (pe_callB call_len_str (by rfl) T.n_len PySem.boot_len (pa_cons (pe_ix ix_tup (pv 0) pe_int (fun _ _ => rfl)) pa_nil)) (nomark _)))) (by exact fun _ _ _ _ _ => (pv 2))))), ?_⟩
    have big : z.length ≤ sizeLine := Nat.le_trans gd.le (by decide)
    refine ⟨.ref a, rfl, a, _, rfl, hS, fun D nD => ?_⟩
    refine lc_enum (K := K) (a := a) (xs := cs.map V.int) (fun i H' => Same H H' ∧ i ≤ cs.length ∧ H' D = some (.lst (inZ (plcV z.cps.size cs i)))) ⟨sameD (Same.refl _) nD, Nat.zero_le _, upd_same⟩ (fun i H' _ p => p.1.seq hS) (fun i x T' H' hx p nT => ?_) (fun H' p => ?_)
    · obtain ⟨sm, _, eD⟩ := p
      obtain ⟨c, hc, rfl⟩ := at_map hx
      have hi := (List.getElem?_eq_some_iff.mp hc).1
      have eg : cs.getD i 0 = c := by rw [List.getD_eq_getElem?_getD, hc]; rfl
      have nTD : D ≠ T' := ne_of_none eD nT
      have s2 := sm.trans (same_new (o := HO.tup [V.int (i : Nat), V.int c]) nT)
      have sh' : Sh (upd H' T' (HO.tup [V.int (i : Nat), V.int c])) t z o hm := s2 _ _ sh
      have eD2 : upd H' T' (HO.tup [V.int (i : Nat), V.int c]) D = _ := (upd_ne nTD).trans eD
      refine ⟨T', _, rfl, SqT.of upd_same, rfl, _, _, rfl, _, _, rfl, rfl, rfl, ?_⟩
      refine ⟨.int c, rfl, .ref t, rfl, t, _, 0, _, rfl, rfl, SqT.of sh', atI_nat (j := 0) rfl, z, rfl, big, c, _, rfl, rfl, _, rfl, ?_⟩
      have st := plcV_succ z.cps.size cs i
      rw [eg] at st
      by_cases h : (z.cps.size : Int) ≤ c
      · rw [if_pos h] at st
        refine iteTd h ⟨.int (i : Nat), rfl, _, eD2, ?_, sameD s2 nD, hi, ?_⟩
        · unfold inZ; rw [List.length_map]; exact small1000 (Nat.le_trans (plcV_le _ _ _) (by omega))
        · rw [upd_same, st]; unfold inZ; rw [List.map_append]; rfl
      · rw [if_neg h, List.append_nil] at st
        refine iteFd h ⟨s2, hi, ?_⟩
        rw [eD2, st]
    · obtain ⟨sm, _, eD⟩ := p
      rw [List.length_map] at eD
      exact q D H' sm nD eD
theorem ok_count_unlike (T : Txt K mg) : FnOk P w K mg base CX0 1 T.d_count_unlike.f T.d_count_unlike.fd ["text", "other"] spUnlike := by
  refine T.d_count_unlike.F.ok sc_count_unlike (fun vs H Q E h => ?_) (fun cdv A outer s H vs Q E hr h => ?_)
  · obtain ⟨x, y, rfl, _⟩ := h
    rfl
  · obtain ⟨x, y, rfl, hxy, hl, q⟩ := h
    refine ⟨_, (pss_one (ps_ret (pe_callB (cr_sum rfl) (by rfl) T.n_sum (by decide +kernel) (pa_cons (pe_lc (own := [("sign", 2), ("instead", 3)]) (g := gTup K 2 (gCons (gName 2) (gCons (gName 3) gNil))) (tt := _) (te := _) rfl sc_count_unlike.nd (Kt.pi_zipS (by rfl) T.n_zip (pa_cons (pv 0) (pa_cons (pv 1) pa_nil))) (blkOk_by (own := [("sign", 2), ("instead", 3)]) (N := ["text", "other", "sign", "instead"]) (sc := defScope s_count_unlike) (by decide +kernel)) (by exact fun _ _ _ _ _ => pg_tup rfl (pgs_cons (pg_name (i := 2) sc_count_unlike.nd rfl (Or.inl rfl)) (pgs_cons (pg_name (i := 3) sc_count_unlike.nd rfl (Or.inl rfl)) pgs_nil))) (by exact fun _ _ _ _ _ => (pts_one (pt_cmpR op_ne (pv 2) (pv 3) (nomark _)))) (by exact fun _ _ _ _ _ => pe_int)) pa_nil)))), ?_⟩
    refine ⟨.str x, rfl, .str y, rfl, x, y, rfl, fun D nD => ?_⟩
    refine lc_zipS hxy (fun i H' => Same H H' ∧ i ≤ x.cps.size ∧ H' D = some (.lst ((List.replicate (unlikeV x y i) (1 : Int)).map V.int))) ⟨sameD (Same.refl _) nD, Nat.zero_le _, upd_same⟩ (fun i c d T' H' hc hd p nT => ?_) (fun H' p => ?_)
    · obtain ⟨sm, _, eD⟩ := p
      have hi := (List.getElem?_eq_some_iff.mp hc).1
      rw [Array.length_toList] at hi
      have nTD : D ≠ T' := ne_of_none eD nT
      have s2 := sm.trans (same_new (o := HO.tup [V.str (sg c), V.str (sg d)]) nT)
      have eD2 : upd H' T' (HO.tup [V.str (sg c), V.str (sg d)]) D = _ := (upd_ne nTD).trans eD
      have st := unlikeV_succ x y i
      have ec : x.cps.toList.getD i 0 = c := by rw [List.getD_eq_getElem?_getD, hc]; rfl
      have ed : y.cps.toList.getD i 0 = d := by rw [List.getD_eq_getElem?_getD, hd]; rfl
      rw [ec, ed] at st
      refine ⟨T', _, rfl, SqT.of upd_same, rfl, _, _, rfl, _, _, rfl, rfl, rfl, ?_⟩
      refine ⟨.str (sg c), rfl, .str (sg d), rfl, rfl, _, rfl, ?_⟩
      by_cases h : c = d
      · rw [if_neg (fun k => k h)] at st
        refine iteNS (by rw [h]) ⟨s2, hi, ?_⟩
        rw [eD2, st, Nat.add_zero]
      · rw [if_pos h] at st
        rw [show decide (V.str (sg c) = V.str (sg d)) = false from decide_eq_false fun k => h (sg_inj (V.str.inj k))]
        refine iteT ⟨_, eD2, ?_, sameD s2 nD, hi, ?_⟩
        · rw [List.length_map, List.length_replicate]
          exact small1000 (Nat.le_trans (unlikeV_le _ _ _) (by omega))
        · rw [upd_same, st, List.replicate_succ', List.map_append]; rfl
    · obtain ⟨sm, _, eD⟩ := p
      refine ⟨D, _, rfl, SqL.of eD, ?_⟩
      have e : (List.replicate (unlikeV x y x.cps.size) (1 : Int)).sum = ((unlike x y : Nat) : Int) := by
        unfold unlike
        generalize unlikeV x y x.cps.size = n
        induction n with
        | zero => rfl
        | succ n ih => rw [List.replicate_succ, List.sum_cons, ih]; omega
      rw [e]
      exact q H' sm
theorem ok_code_of (T : Txt K mg) : FnOk P w K mg base CX0 1 T.d_code_of.f T.d_code_of.fd ["sheet", "sign", "now"] spCodeOf := by
  refine T.d_code_of.F.ok sc_code_of (fun vs H Q E h => ?_) (fun cdv A outer s H vs Q E hr h => ?_)
  · obtain ⟨t, z, o, hm, c, now, rfl, _⟩ := h
    rfl
  · obtain ⟨t, z, o, hm, c, now, rfl, gd, sh, hn, q⟩ := h
    refine ⟨_, (pss_cons (ps_asg (pv 0) (pg_tup rfl (pgs_cons (pg_name (i := 3) sc_code_of.nd rfl (.inl rfl)) (pgs_cons (pg_name (i := 4) sc_code_of.nd rfl (.inl rfl)) (pgs_cons (pg_name (i := 5) sc_code_of.nd rfl (.inl rfl)) pgs_nil)))))
  (pss_cons (ps_if (pt_cmpR op_ne (pv 2) (pe_glob (v := .int 2) (by rfl) T.c_EITHER.choose_spec ⟨_, rfl⟩) (nomark _))
  (pss_one (ps_ret (pe_m1 PySem.F.slot_str_find PySem.F.type_str_find mt_find (pe_ix ix_tup (pv 0) (pv 2) (fun _ _ => rfl)) (pv 1))))
  pss_nil)
  (pss_cons (ps_set (i := 6) sc_code_of.nd rfl (.inl rfl) (pe_m1 PySem.F.slot_str_find PySem.F.type_str_find mt_find (pv 3) (pv 1)))
  (pss_cons (ps_if (pt_cmpR op_ne (pe_m1 PySem.F.slot_str_find PySem.F.type_str_find mt_find (pv 4) (pv 1)) (pv 6) (nomark _))
  (pss_one (ps_ret (pe_un un_neg pe_int)))
  pss_nil)
  (pss_one (ps_ret (pv 6))))))), ?_⟩
    refine ⟨.ref t, rfl, t, _, rfl, SqT.of sh, rfl, _, _, rfl, _, _, rfl, _, _, rfl, rfl, ?_⟩
    refine ⟨.int now, rfl, rfl, _, rfl, ?_⟩
    rcases hn with e | e | e <;> subst e
    · exact iteT ⟨.ref t, rfl, .int 0, rfl, t, _, 0, _, rfl, rfl, SqT.of sh, atI_nat (j := 0) rfl, ⟨z, rfl⟩, .str (sg c), rfl, z, sg c, rfl, rfl, q⟩
    · exact iteT ⟨.ref t, rfl, .int 1, rfl, t, _, 1, _, rfl, rfl, SqT.of sh, atI_nat (j := 1) rfl, ⟨o, rfl⟩, .str (sg c), rfl, o, sg c, rfl, rfl, q⟩
    · refine iteF ?_
      refine ⟨.str z, rfl, ⟨z, rfl⟩, .str (sg c), rfl, z, sg c, rfl, rfl, ?_⟩
      refine ⟨.str o, rfl, ⟨o, rfl⟩, .str (sg c), rfl, o, sg c, rfl, rfl, .int (fi z c), rfl, rfl, _, rfl, ?_⟩
      have e2 : cod z o c 2 = if fi o c ≠ fi z c then -1 else fi z c := rfl
      rw [e2] at q
      by_cases h : fi o c = fi z c
      · rw [if_neg (fun k => k h)] at q
        rw [show decide (V.int (Txt.find o (sg c)) = V.int (fi z c)) = true from decide_eq_true (congrArg V.int h)]
        exact iteF ⟨.int (fi z c), rfl, q⟩
      · rw [if_pos h] at q
        rw [show decide (V.int (Txt.find o (sg c)) = V.int (fi z c)) = false from decide_eq_false fun k => h (V.int.inj k)]
        exact iteT ⟨1, rfl, q⟩
theorem ok_first_of (T : Txt K mg) (TB2 : LamX.TabB base mg T.c_first_of T.t_first_of) : FnOk P w K mg base CX0 1 T.d_first_of.f T.d_first_of.fd ["tapes"] (spFirst T.t_first_of q2) := by
  refine T.k_first_of.ok sc_first_of (fun vs H Q E h => ?_) (fun A outer s H vs Q E hr h => ?_)
  · obtain ⟨l, as, L, rfl, _⟩ := h
    rfl
  · obtain ⟨l, as, L, rfl, hl, hr2, hne, hlen, ht, q⟩ := h
    refine ⟨_, (pss_one (ps_ret (Kt.pe_minKey rfl hr (by rfl) T.n_min T.n_len TB2 rfl (pv 0) rfl rfl rfl (by decide +kernel) (by decide +kernel) (by decide +kernel) rfl (by intros; rfl) (by decide +kernel)))), ?_⟩
    have e1 := hr2.len
    have pos : 0 < L.length := List.length_pos_iff.mpr hne
    have gd : ∀ i a, as[i]? = some a → H a = some (.lst ((L.getD i []).map V.int)) ∧ L.getD i [] ∈ L ∧ i < L.length := fun i a ha => by
      obtain ⟨u, h1, h2⟩ := hr2.get ha
      have h3 : L.getD i [] = u := by rw [List.getD_eq_getElem?_getD, h1]; rfl
      rw [h3]
      exact ⟨h2, List.mem_of_getElem? h1, (List.getElem?_eq_some_iff.mp h1).1⟩
    refine ⟨.ref l, rfl, l, as, fun j => L.getD j [], rfl, SqL.of hl, by omega, fun i a ha => ⟨SqL.of (gd i a ha).1, hlen _ (gd i a ha).2.1⟩, ht, fun i a H2 ha best bt t2 => ?_⟩
    rw [e1] at best
    exact q a _ H2 bt t2 (List.mem_of_getElem? ha) (gd i a ha).1 (best_first hne (gd i a ha).2.2 best)
theorem ok_can_be_a_set (T : Txt K mg) (TB : GxR.TabB base mg T.c_are_signs T.t_are_signs) : FnOk P w K mg base CX0 2 T.d_can_be_a_set.f T.d_can_be_a_set.fd ["signs"] (spCan T.t_are_signs) := by
  refine T.d_can_be_a_set.F.ok sc_can_be_a_set (fun vs H Q E h => ?_) (fun cdv A outer s H vs Q E hr h => ?_)
  · obtain ⟨z, rfl, _⟩ := h
    rfl
  · obtain ⟨z, rfl, hz, hn, hp, tb, q⟩ := h
    refine ⟨_, (pss_one (ps_ret (pe_and (pe_call (ok_are_signs T TB) (hr.mono (by decide)) (by rfl) T.d_are_signs.g T.d_are_signs.F.kp T.d_are_signs.b .nil pass0 (pa_cons (pv 0) pa_nil)) (pe_one (pe_cmpR op_eq (Kt.pe_lenSetS rfl (by rfl) T.n_len (by rfl) T.n_set (pv 0)) (pe_callB call_len_str (by rfl) T.n_len PySem.boot_len (pa_cons (pv 0) pa_nil)) (nomark _)))))), ?_⟩
    refine ⟨.str z, rfl, z, rfl, tb, fun H2 t2 => ?_⟩
    have e : (z.cps.toList.all fun c => decide (32 ≤ c ∧ c ≤ 126)) = true := List.all_eq_true.mpr fun c hc => decide_eq_true (hp c hc)
    rw [e]
    refine ⟨true, rfl, iteT ?_⟩
    refine ⟨.str z, rfl, z, rfl, hz, .str z, rfl, z, rfl, Nat.le_trans hz (by decide), rfl, ?_⟩
    rw [uq_nodup hn, Array.length_toList]
    rw [show decide (V.int ((z.cps.size : Nat) : Int) = V.int ((z.length : Nat) : Int)) = true from decide_eq_true rfl]
    exact q H2 t2
theorem ok_walked (T : Txt K mg) : FnOk P w K mg base CX0 2 T.d_walked.f T.d_walked.fd ["sheet", "tape", "begin"] (spRd K) := by
  refine T.d_walked.F.ok sc_walked (fun vs H Q E h => ?_) (fun cdv A outer s H vs Q E hr h => ?_)
  · obtain ⟨t, a, z, o, hm, cs, b, rfl, _⟩ := h
    rfl
  · obtain ⟨t, a, z, o, hm, cs, b, rfl, gd, sh, hS, hc, hl, hb, q⟩ := h
    refine ⟨_, (pss_cons (ps_set (i := 3) sc_walked.nd rfl (.inl rfl) pe_str)
  (pss_cons (ps_set (i := 4) sc_walked.nd rfl (.inl rfl) (pv 2))
  (pss_cons (ps_for PassesOwn.never rfl (pi_list (pv 1)) (pg_name (i := 5) sc_walked.nd rfl (.inl rfl))
  (pss_cons (ps_if (pt_cmpR op_lt (pv 5) (pe_callB call_len_str (by rfl) T.n_len PySem.boot_len (pa_cons (pe_ix ix_tup (pv 0) (pv 4) (fun _ _ => rfl)) pa_nil)) (nomark _))
  (pss_one (ps_aug (i := 3) sc_walked.nd rfl (.inl rfl) (pe_ix ix_str (pe_ix ix_tup (pv 0) (pv 4) (fun _ _ => rfl)) (pv 5) (fun _ _ => rfl)) Kt.ip_addS))
  pss_nil)
  (pss_one (ps_set (i := 4) sc_walked.nd rfl (.inl rfl) (pe_call (ok_set_behind T) (hr.mono (by decide)) (by rfl) T.d_set_behind.g T.d_set_behind.F.kp T.d_set_behind.b .nil pass0 (pa_cons (pv 0) (pa_cons (pv 5) (pa_cons (pv 4) pa_nil))))))))
  (pss_one (ps_ret (pe_tup (pa_cons (pv 3) (pa_cons (pv 4) pa_nil)))))))), ?_⟩
    have z2 := gd.le
    have big : z.length ≤ sizeLine := Nat.le_trans z2 (by decide)
    have hlen := gd.len
    have bigo : o.length ≤ sizeLine := Nat.le_trans (Nat.le_of_eq hlen) big
    refine ⟨.int b, rfl, ?_⟩
    refine ⟨.ref a, rfl, a, rfl, ⟨_, hS⟩, for_list (K := K) (a := a) (xs := cs.map V.int) (fun i σ H' => H' = H ∧ ∃ y : Option V, σ = [some (.ref t), some (.ref a), some (.int b), some (.str (rd z o hm (cs.take i) b).1), some (.int (rd z o hm (cs.take i) b).2), y])
      ⟨rfl, none, rfl⟩ (fun i σ H' _ p => p.1 ▸ hS) (fun i x σ H' hx p => ?_) (fun σ H' p => ?_)⟩
    · obtain ⟨rfl, y, rfl⟩ := p
      obtain ⟨c, hci, rfl⟩ := at_map hx
      have c01 := hc c (List.mem_of_getElem? hci)
      have ok := rd_ok (z := z) (o := o) (hm := hm) hb hc i
      have hil : i < cs.length := (List.getElem?_eq_some_iff.mp hci).1
      have st := rd_take (z := z) (o := o) (hm := hm) (b := b) hci
      rw [st]
      generalize rd z o hm (cs.take i) b = r at ok
      obtain ⟨tx, nw⟩ := r
      obtain ⟨ok1, ok2⟩ := ok
      have ok1 : nw = 0 ∨ nw = 1 := ok1
      have ok2 : tx.length ≤ i := ok2
      have at1 : atI [V.str z, V.str o, hm] nw = some (.str (if nw = 0 then z else o)) := by
        rcases ok1 with e | e <;> rw [e]
        · exact atI_nat (j := 0) rfl
        · exact atI_nat (j := 1) rfl
      have sz : (if nw = 0 then z else o).length = z.cps.size := by
        rcases ok1 with e | e <;> rw [e]
        · rfl
        · exact hlen
      have bigs : (if nw = 0 then z else o).length ≤ sizeLine := by rw [sz]; exact big
      refine ⟨.int c, rfl, .ref t, rfl, .int nw, rfl, t, _, nw, _, rfl, rfl, SqT.of sh, at1, _, rfl, bigs, c, _, rfl, rfl, _, rfl, ?_⟩
      have beh : ∀ σ : L2.St, σ = [some (.ref t), some (.ref a), some (.int b), some (.str (rdStep z o hm (tx, nw) c).1), some (.int nw), some (.int c)] →
          tAsg (tCall spBehind [] E0 (tCons (tVar 0) (tCons (tVar 5) (tCons (tVar 4) tNil)))) (gName 4) { nx := fun σ H'' => H'' = H' ∧ ∃ y : Option V, σ = [some (.ref t), some (.ref a), some (.int b), some (.str (rdStep z o hm (tx, nw) c).1), some (.int (rdStep z o hm (tx, nw) c).2), y], rt := Q } σ H' := by
        intro σ e
        subst e
        refine ⟨.ref t, rfl, .int c, rfl, .int nw, rfl, t, z, o, hm, c, nw, rfl, gd, sh, rfl, some (.int c), ?_⟩
        rw [rdStep_snd]; rfl
      by_cases h : (z.cps.size : Int) ≤ c
      · refine iteFd (by rw [sz]; omega) ?_
        refine beh _ ?_
        unfold rdStep
        rw [if_pos h]; rfl
      · refine iteTd (by rw [sz]; omega) ?_
        refine ⟨.str tx, rfl, .ref t, rfl, .int nw, rfl, t, _, nw, _, rfl, rfl, SqT.of sh, at1, .int c, rfl, _, c, _, rfl, rfl, bigs, atI_nd ⟨c01.1, ?_⟩, _, _, rfl, rfl, ?_, ?_⟩
        · rw [Array.length_toList]
          have : (if nw = 0 then z else o).cps.size = z.cps.size := sz
          rw [this]; omega
        · show tx.length + 1 ≤ sizeLine
          exact Nat.le_of_lt (small1000 (by omega))
        · refine beh _ ?_
          unfold rdStep
          rw [if_neg h]; rfl
    · obtain ⟨rfl, y, rfl⟩ := p
      rw [List.length_map, List.take_length]
      exact ⟨.str _, rfl, .int _, rfl, by show 2 ≤ sizeLine; decide, fun p np => q p _ (same_new np) np upd_same⟩
set_option maxHeartbeats 1000000 in
theorem ok_with_code (T : Txt K mg) : FnOk P w K mg base CX0 2 T.d_with_code.f T.d_with_code.fd ["sheet", "sign", "now", "spare", "rests"] spWcode := by
  refine T.d_with_code.F.ok sc_with_code (fun vs H Q E h => ?_) (fun cdv A outer s H vs Q E hr h => ?_)
  · obtain ⟨t, z, o, hm, c, now, sp, rs, R, H0, rfl, _⟩ := h
    rfl
  · obtain ⟨t, z, o, hm, c, now, sp, rs, R, H0, rfl, gd, sh, hn, sp0, sp1, gr, sr, q⟩ := h
    refine ⟨_, (pss_cons (ps_asg (pv 0) (pg_tup rfl (pgs_cons (pg_name (i := 5) sc_with_code.nd rfl (.inl rfl)) (pgs_cons (pg_name (i := 6) sc_with_code.nd rfl (.inl rfl)) (pgs_cons (pg_name (i := 7) sc_with_code.nd rfl (.inl rfl)) pgs_nil)))))
  (pss_cons (ps_set (i := 8) sc_with_code.nd rfl (.inl rfl) (pe_m1 PySem.F.slot_str_find PySem.F.type_str_find mt_find (pe_ix ix_tup (pv 0) (pv 2) (fun _ _ => rfl)) (pv 1)))
  (pss_cons (ps_if (pt_cmpR op_lt (pv 8) pe_int (nomark _))
  (pss_one (ps_ret (pe_lst pa_nil)))
  pss_nil)
  (pss_cons (ps_set (i := 9) sc_with_code.nd rfl (.inl rfl) (pe_ifExp (pt_cmpR op_eq (pe_ix ix_str (pv 5) (pv 8) (fun _ _ => rfl)) (pe_ix ix_str (pv 6) (pv 8) (fun _ _ => rfl)) (nomark _)) (pv 3) (pe_op op_sub (pv 3) pe_int)))
  (pss_cons (ps_if (pt_cmpR op_lt (pv 9) pe_int (nomark _))
  (pss_one (ps_ret (pe_lst pa_nil)))
  pss_nil)
  (pss_cons (ps_if (pt_cmpR op_eq (pv 8) (pv 7) (nomark _))
  (pss_one (ps_set (i := 9) sc_with_code.nd rfl (.inl rfl) (pe_glob (v := .int 32) (by rfl) T.c_SAFE.choose_spec ⟨_, rfl⟩)))
  pss_nil)
  (pss_one (ps_ret (pe_lst (pa_cons (pe_op op_cat (pe_lst (pa_cons (pv 8) pa_nil)) (pe_ix ix_list (pe_ix ix_list (pv 4) (pe_call (ok_set_behind T) (hr.mono (by decide)) (by rfl) T.d_set_behind.g T.d_set_behind.F.kp T.d_set_behind.b .nil pass0 (pa_cons (pv 0) (pa_cons (pv 8) (pa_cons (pv 2) pa_nil)))) (fun _ _ => rfl)) (pv 9) (fun _ _ => rfl))) pa_nil)))))))))), ?_⟩
    have big : z.length ≤ sizeLine := Nat.le_trans gd.le (by decide)
    have bigo : o.length ≤ sizeLine := Nat.le_trans (Nat.le_of_eq gd.len) big
    have pick : atI [V.str z, V.str o, hm] now = some (.str (at01 z o now)) := by
      rcases hn with e | e <;> subst e
      · exact atI_nat (j := 0) rfl
      · exact atI_nat (j := 1) rfl
    have ks := gk_spec gd c now
    refine ⟨.ref t, rfl, t, _, rfl, SqT.of sh, rfl, _, _, rfl, _, _, rfl, _, _, rfl, rfl, ?_⟩
    refine ⟨.ref t, rfl, .int now, rfl, t, _, now, _, rfl, rfl, SqT.of sh, pick, ⟨_, rfl⟩, .str (sg c), rfl, _, sg c, rfl, rfl, ?_⟩
    show gName 8 (V.int (gk z o c now)) _ _ _
    generalize hk : gk z o c now = k at ks
    refine ⟨.int k, rfl, _, 0, rfl, rfl, _, rfl, ?_⟩
    unfold wcL at q
    rw [hk] at q
    by_cases h1 : k < 0
    · rw [if_pos h1] at q
      exact iteTd h1 ⟨Nat.zero_le _, fun p np => q p [] _ (same_new np) np upd_same True.intro (fun a ha => nomatch ha)⟩
    · rw [if_neg h1] at q
      refine iteFd h1 ?_
      have kl : 0 ≤ k ∧ k < (z.cps.toList.length : Int) := ⟨by omega, by rw [Array.length_toList]; exact ks.1⟩
      have klo : 0 ≤ k ∧ k < (o.cps.toList.length : Int) := ⟨by omega, by rw [Array.length_toList, gd.len]; exact ks.1⟩
      refine ⟨.str z, rfl, .int k, rfl, z, k, _, rfl, rfl, big, atI_nd kl, .str o, rfl, .int k, rfl, o, k, _, rfl, rfl, bigo, atI_nd klo, rfl, _, rfl, ?_⟩
      have lf1 : ∀ x, lf0 z o c now sp = x → 0 ≤ x → x ≤ 32 := fun x e _ => by
        unfold lf0 at e
        split at e <;> omega
      by_cases h2 : z.cps.toList.getD k.toNat 0 = o.cps.toList.getD k.toNat 0
      case' pos =>
        have hlf : lf0 z o c now sp = sp := by unfold lf0; rw [hk, if_pos h2]
        rw [show decide (V.str ⟨#[z.cps.toList.getD k.toNat 0]⟩ = V.str ⟨#[o.cps.toList.getD k.toNat 0]⟩) = true from decide_eq_true (by rw [h2])]
        refine iteT ⟨.int sp, rfl, ?_⟩
      case' neg =>
        have hlf : lf0 z o c now sp = sp - 1 := by unfold lf0; rw [hk, if_neg h2]
        rw [show decide (V.str ⟨#[z.cps.toList.getD k.toNat 0]⟩ = V.str ⟨#[o.cps.toList.getD k.toNat 0]⟩) = false from decide_eq_false fun e => h2 (sg_inj (V.str.inj e))]
        refine iteF ⟨.int sp, rfl, sp, 1, rfl, rfl, ?_⟩
      all_goals
        refine ⟨.int _, rfl, _, 0, rfl, rfl, _, rfl, ?_⟩
        by_cases h3 : lf0 z o c now sp < 0
        · rw [if_pos h3] at q
          rw [hlf] at h3
          exact iteTd h3 ⟨Nat.zero_le _, fun p np => q p [] _ (same_new np) np upd_same True.intro (fun a ha => nomatch ha)⟩
        · rw [if_neg h3] at q
          rw [hlf] at h3
          have l32 := lf1 _ hlf (by omega)
          refine iteFd h3 ?_
          refine ⟨.int k, rfl, hm, rfl, ?_, _, rfl, ?_⟩
          · rcases gd.home with e | ⟨h, e, _⟩ <;> rw [e] <;> rfl
          have bh : behind z hm k now = bhd hm k now := by
            unfold behind bhd
            rw [if_neg (by omega)]
          have hn2 := is01_bhd (hm := hm) (k := k) hn
          obtain ⟨us, a, bs, e1, e2, e3, e4⟩ := gr.at hn2
          unfold lft at q
          rw [hk, hlf] at q
          by_cases h4 : V.int k = hm
          case' pos =>
            refine iteTd h4 ?_
            rw [if_pos h4] at q
            obtain ⟨d, e5, e6, _⟩ := e4 32 (by decide) (by decide)
          case' neg =>
            refine iteFd h4 ?_
            rw [if_neg h4] at q
            obtain ⟨d, e5, e6, _⟩ := e4 _ (by omega) l32
          all_goals
            refine ⟨.int k, rfl, by show 1 ≤ sizeLine; decide, fun p1 np1 => ?_⟩
            have s1 := same_new (o := HO.lst [V.int k]) np1
            refine ⟨.ref rs, rfl, .ref t, rfl, .int k, rfl, .int now, rfl, t, z, o, hm, k, now, rfl, gd, s1 _ _ sh, ?_⟩
            rw [bh]
            refine ⟨rs, us, _, .ref a, rfl, rfl, SqL.of (s1 _ _ e1), e2, .int _, rfl, a, _, _, .ref d, rfl, rfl, SqL.of (s1 _ _ e3), e5, p1, d, _, _, rfl, rfl, upd_same, s1 _ _ e6, ?_, fun p2 np2 => ?_⟩
            · rw [List.length_map]
              exact Nat.le_trans (Nat.add_le_add_left (sr _ _) _) (by show 1 + 500 ≤ sizeLine; decide)
            refine ⟨by show 1 ≤ sizeLine; decide, fun p3 np3 => ?_⟩
            have n2 : H p2 = none := s1.free np2
            refine q p3 [p2] _ ((s1.trans (same_new np2)).trans (same_new np3)) ((s1.trans (same_new np2)).free np3) upd_same ⟨same_new np3 _ _ upd_same, True.intro⟩ (fun a ha => by rw [List.mem_singleton.mp ha]; exact n2)
theorem ok_without_shift (T : Txt K mg) : FnOk P w K mg base CX0 2 T.d_without_shift.f T.d_without_shift.fd ["sheet", "sign", "now", "rests"] spWithout := by
  refine T.d_without_shift.F.ok sc_without_shift (fun vs H Q E h => ?_) (fun cdv A outer s H vs Q E hr h => ?_)
  · obtain ⟨t, z, o, hm, c, now, rs, a0, a1, a2, r, rfl, _⟩ := h
    rfl
  · obtain ⟨t, z, o, hm, c, now, rs, a0, a1, a2, r, rfl, gd, sh, hn, th, sr, q⟩ := h
    refine ⟨_, (pss_cons (ps_set (i := 4) sc_without_shift.nd rfl (.inl rfl) (pe_call (ok_code_of T) (hr.mono (by decide)) (by rfl) T.d_code_of.g T.d_code_of.F.kp T.d_code_of.b .nil pass0 (pa_cons (pv 0) (pa_cons (pv 1) (pa_cons (pv 2) pa_nil)))))
  (pss_cons (ps_if (pt_cmpR op_lt (pv 4) pe_int (nomark _))
  (pss_one (ps_ret (pe_lst pa_nil)))
  pss_nil)
  (pss_one (ps_ret (pe_lst (pa_cons (pe_op op_cat (pe_lst (pa_cons (pv 4) pa_nil)) (pe_ix ix_list (pv 3) (pe_call (ok_set_behind T) (hr.mono (by decide)) (by rfl) T.d_set_behind.g T.d_set_behind.F.kp T.d_set_behind.b .nil pass0 (pa_cons (pv 0) (pa_cons (pv 4) (pa_cons (pv 2) pa_nil)))) (fun _ _ => rfl))) pa_nil)))))), ?_⟩
    refine ⟨.ref t, rfl, .str (sg c), rfl, .int now, rfl, t, z, o, hm, c, now, rfl, gd, sh, hn, ?_⟩
    refine ⟨.int (cod z o c now), rfl, _, 0, rfl, rfl, _, rfl, ?_⟩
    by_cases h : cod z o c now < 0
    · refine iteTd h ⟨Nat.zero_le _, fun p np => ?_⟩
      refine q p [] _ (same_new np) np upd_same ?_ (fun a ha => nomatch ha)
      unfold plainL; rw [if_pos h]; exact True.intro
    · refine iteFd h ?_
      refine ⟨.int (cod z o c now), rfl, by show 1 ≤ sizeLine; decide, fun p1 np1 => ?_⟩
      have th1 := th.mono fun a us e => same_new (o := HO.lst [V.int (cod z o c now)]) np1 a _ e
      have sh1 : Sh (upd H p1 (HO.lst [V.int (cod z o c now)])) t z o hm := same_new np1 _ _ sh
      refine ⟨.ref rs, rfl, .ref t, rfl, .int (cod z o c now), rfl, .int now, rfl, t, z, o, hm, cod z o c now, now, rfl, gd, sh1, ?_⟩
      rw [behind_own gd]
      obtain ⟨a, ha1, ha2, _⟩ := th1.at (is012_bhd (hm := hm) (k := cod z o c now) hn)
      refine ⟨rs, _, _, .ref a, rfl, rfl, SqL.of th1.1, ha1, ?_⟩
      refine ⟨p1, a, _, _, rfl, rfl, upd_same, ha2, ?_, fun p2 np2 => ?_⟩
      · rw [List.length_map]
        have := sr (bhd hm (cod z o c now) now)
        exact Nat.le_of_lt (small1000 (by simp only [List.length_cons, List.length_nil]; omega))
      · refine ⟨by show 1 ≤ sizeLine; decide, fun p3 np3 => ?_⟩
        have s2 := (same_new (o := HO.lst [V.int (cod z o c now)]) np1).trans ((same_new (o := HO.lst ([V.int (cod z o c now)] ++ (r.at (bhd hm (cod z o c now) now)).map V.int)) np2))
        have n2 : H p2 = none := (same_new (o := HO.lst [V.int (cod z o c now)]) np1).free np2
        refine q p3 [p2] _ (s2.trans (same_new np3)) (s2.free np3) upd_same ?_ (fun b hb => by rw [List.mem_singleton.mp hb]; exact n2)
        unfold plainL; rw [if_neg h]
        refine ⟨?_, True.intro⟩
        exact same_new np3 _ _ upd_same
theorem ok_check_sheet (T : Txt K mg) (TB : GxR.TabB base mg T.c_are_signs T.t_are_signs) : FnOk P w K mg base CX0 3 T.d_check_sheet.f T.d_check_sheet.fd ["sheet"] (spCheckSheet T.t_are_signs) := by
  refine T.d_check_sheet.F.ok sc_check_sheet (fun vs H Q E h => ?_) (fun cdv A outer s H vs Q E hr h => ?_)
  · obtain ⟨t, z, o, hm, rfl, _⟩ := h
    rfl
  · obtain ⟨t, z, o, hm, rfl, gd, sh, tb, q⟩ := h
    refine ⟨_, (pss_cons (ps_asg (pv 0) (pg_tup rfl (pgs_cons (pg_name (i := 1) sc_check_sheet.nd rfl (.inl rfl)) (pgs_cons (pg_name (i := 2) sc_check_sheet.nd rfl (.inl rfl)) (pgs_cons (pg_name (i := 3) sc_check_sheet.nd rfl (.inl rfl)) pgs_nil)))))
  (pss_cons (ps_if (pt_cmpR op_ne (pe_callB call_len_str (by rfl) T.n_len PySem.boot_len (pa_cons (pv 1) pa_nil)) (pe_callB call_len_str (by rfl) T.n_len PySem.boot_len (pa_cons (pv 2) pa_nil)) (nomark _))
  (pss_one ps_never)
  pss_nil)
  (pss_cons (ps_if (pt_not (pt_chain op_le op_le pe_int (pe_callB call_len_str (by rfl) T.n_len PySem.boot_len (pa_cons (pv 1) pa_nil)) (pe_glob (v := .int 26) (by rfl) T.c_MOST_PLACES.choose_spec ⟨_, rfl⟩)))
  (pss_one ps_never)
  pss_nil)
  (pss_cons (ps_if (PW.pt (pw_or (pt_not (pt_val (pe_call (ok_can_be_a_set T TB) (hr.mono (by decide)) (by rfl) T.d_can_be_a_set.g T.d_can_be_a_set.F.kp T.d_can_be_a_set.b .nil pass0 (pa_cons (pv 1) pa_nil)))) (pw_or1 (pt_not (pt_val (pe_call (ok_can_be_a_set T TB) (hr.mono (by decide)) (by rfl) T.d_can_be_a_set.g T.d_can_be_a_set.F.kp T.d_can_be_a_set.b .nil pass0 (pa_cons (pv 2) pa_nil)))))))
  (pss_one ps_never)
  pss_nil)
  (pss_one (ps_if (PW.pt (pw_and (pt_cmp (pc_notN (pv 3))) (pw_and1 (pt_not (pt_chain op_le op_lt pe_int (pv 3) (pe_callB call_len_str (by rfl) T.n_len PySem.boot_len (pa_cons (pv 1) pa_nil)))))))
  (pss_one ps_never)
  pss_nil)))))), ?_⟩
    have z1 := gd.pos
    have z2 := gd.le
    have big : z.length ≤ sizeLine := Nat.le_trans z2 (by decide)
    have bigo : o.length ≤ sizeLine := Nat.le_trans (Nat.le_of_eq gd.len) big
    have elen : z.length = o.length := gd.len.symm
    refine ⟨.ref t, rfl, t, _, rfl, SqT.of sh, rfl, _, _, rfl, _, _, rfl, _, _, rfl, rfl, ?_⟩
    refine ⟨.str z, rfl, z, rfl, big, .str o, rfl, o, rfl, bigo, rfl, _, rfl, iteNS (by rw [elen]) ?_⟩
    have hz : (z.length : Int) = (z.cps.size : Int) := rfl
    refine ⟨.str z, rfl, z, rfl, big, 1, _, rfl, rfl, _, rfl, iteTd (by omega) ?_⟩
    refine ⟨_, 26, rfl, rfl, _, rfl, iteNS (by omega) ?_⟩
    refine ⟨.str z, rfl, z, rfl, Nat.le_trans z2 (by decide), gd.nz, gd.pz, tb, fun H1 t1 => ⟨true, rfl, iteF ?_⟩⟩
    refine ⟨.str o, rfl, o, rfl, Nat.le_trans (Nat.le_of_eq gd.len) (Nat.le_trans z2 (by decide)), gd.no, gd.po, t1.1, fun H2 t2 => ⟨true, rfl, iteF ?_⟩⟩
    have kp : Kp T.t_are_signs H H2 := (Kp.of_tabbed t1).trans (Kp.of_tabbed t2)
    refine ⟨hm, rfl, _, rfl, ?_⟩
    rcases gd.home with e | ⟨h, e, hh⟩
    · rw [e]
      exact iteF (iteF (q H2 kp))
    · rw [e]
      refine iteT ?_
      refine ⟨.int h, rfl, 0, _, rfl, rfl, _, rfl, iteTd (by omega) ?_⟩
      refine ⟨.str z, rfl, z, rfl, big, _, _, rfl, rfl, _, rfl, iteNS (by omega) ?_⟩
      exact q H2 kp
theorem ok_check_tape (T : Txt K mg) : FnOk P w K mg base CX0 3 T.d_check_tape.f T.d_check_tape.fd ["sheet", "tape"] (spCheckTape K) := by
  refine T.d_check_tape.F.ok sc_check_tape (fun vs H Q E h => ?_) (fun cdv A outer s H vs Q E hr h => ?_)
  · obtain ⟨t, a, z, o, hm, cs, rfl, _⟩ := h
    rfl
  · obtain ⟨t, a, z, o, hm, cs, rfl, gd, sh, hS, hc, hl, q⟩ := h
    refine ⟨_, (pss_cons (ps_set (i := 2) sc_check_tape.nd rfl (.inl rfl) (pe_op op_add (pe_callB call_len_str (by rfl) T.n_len PySem.boot_len (pa_cons (pe_ix ix_tup (pv 0) pe_int (fun _ _ => rfl)) pa_nil)) pe_int))
  (pss_one (ps_for PassesOwn.never rfl (pi_enum (by rfl) T.n_enumerate (pa_cons (pv 1) pa_nil)) (pg_tup rfl (pgs_cons (pg_name (i := 3) sc_check_tape.nd rfl (.inl rfl)) (pgs_cons (pg_name (i := 4) sc_check_tape.nd rfl (.inl rfl)) pgs_nil)))
  (pss_one (ps_if (PW.pt (pw_or (pt_cmpR op_eq (pv 3) (pe_glob (v := .int 100) (by rfl) T.c_MOST_CODES.choose_spec ⟨_, rfl⟩) (nomark _)) (pw_or1 (pt_not (pt_chain op_le op_le pe_int (pv 4) (pv 2))))))
  (pss_one ps_never)
  pss_nil))))), ?_⟩
    have z2 := gd.le
    have big : z.length ≤ sizeLine := Nat.le_trans z2 (by decide)
    refine ⟨.ref t, rfl, t, _, 0, _, rfl, rfl, SqT.of sh, atI_nat (j := 0) rfl, z, rfl, big, _, 1, rfl, rfl, ?_⟩
    refine ⟨.ref a, rfl, a, _, rfl, hS, ?_⟩
    refine ⟨fun i m σ H' => m = cs.length - i ∧ i ≤ cs.length ∧ Same H H' ∧ ∃ y3 y4 : Option V, σ = [some (.ref t), some (.ref a), some (.int ((z.length : Nat) + 1)), y3, y4], ⟨cs.length, by omega, Nat.zero_le _, Same.refl _, none, none, rfl⟩, fun i m σ H' hW => ?_⟩
    obtain ⟨em, hi, sm, y3, y4, rfl⟩ := hW
    have hS' := sm.seq hS
    by_cases hlt : i < cs.length
    · have hx : (cs.map V.int)[i]? = some (.int cs[i]) := map_at (List.getElem?_eq_getElem hlt)
      refine .inr ⟨⟨_, _, hS', hx⟩, fun σ' H2 => Same H H2 ∧ ∃ y3 y4 : Option V, σ' = [some (.ref t), some (.ref a), some (.int ((z.length : Nat) + 1)), y3, y4], fun σ' H2 p => ⟨m - 1, by omega, by omega, hlt, p.1, p.2⟩, fun x H2 hy => ?_⟩
      obtain ⟨D, x2, rfl, nD, rfl, f⟩ := hy
      obtain rfl : x2 = .int cs[i] := Option.some.inj ((f _ hS').symm.trans hx)
      have c01 := hc cs[i] (List.getElem_mem hlt)
      have hz : (z.length : Int) = (z.cps.size : Int) := rfl
      refine ⟨D, _, rfl, SqT.of upd_same, rfl, _, _, rfl, _, _, rfl, rfl, ?_⟩
      refine ⟨.int (i : Nat), rfl, rfl, _, rfl, iteFd (fun e => ?_) ?_⟩
      · injection e with e
        omega
      · refine ⟨.int cs[i], rfl, 0, _, rfl, rfl, _, rfl, iteTd c01.1 ⟨.int ((z.length : Nat) + 1), rfl, _, _, rfl, rfl, _, rfl, iteNS (by omega) ?_⟩⟩
        exact ⟨sm.trans (same_new nD), _, _, rfl⟩
    · refine .inl ⟨⟨_, hS', by rw [List.length_map]; omega⟩, ?_⟩
      exact q H' sm
theorem ok_check_text (T : Txt K mg) : FnOk P w K mg base CX0 3 T.d_check_text.f T.d_check_text.fd ["sheet", "text"] spCheckText := by
  refine T.d_check_text.F.ok sc_check_text (fun vs H Q E h => ?_) (fun cdv A outer s H vs Q E hr h => ?_)
  · obtain ⟨t, z, o, hm, x, rfl, _⟩ := h
    rfl
  · obtain ⟨t, z, o, hm, x, rfl, gd, sh, hx, hin, q⟩ := h
    refine ⟨_, (pss_cons (ps_asg (pv 0) (pg_tup rfl (pgs_cons (pg_name (i := 2) sc_check_text.nd rfl (.inl rfl)) (pgs_cons (pg_name (i := 3) sc_check_text.nd rfl (.inl rfl)) (pgs_cons (pg_name (i := 4) sc_check_text.nd rfl (.inl rfl)) pgs_nil)))))
  (pss_one (ps_for PassesOwn.never rfl (Kt.pi_enumS (by rfl) T.n_enumerate (pa_cons (pv 1) pa_nil)) (pg_tup rfl (pgs_cons (pg_name (i := 5) sc_check_text.nd rfl (.inl rfl)) (pgs_cons (pg_name (i := 6) sc_check_text.nd rfl (.inl rfl)) pgs_nil)))
  (pss_one (ps_if (PW.pt (pw_or (pt_cmpR op_eq (pv 5) (pe_glob (v := .int 32) (by rfl) T.c_MOST_SIGNS.choose_spec ⟨_, rfl⟩) (nomark _)) (pw_or1 (PW.pt (pw_and (pt_cmpR op_notIn_sign (pv 6) (pv 2) (by rfl)) (pw_and1 (pt_cmpR op_notIn_sign (pv 6) (pv 3) (by rfl))))))))
  (pss_one ps_never)
  pss_nil))))), ?_⟩
    refine ⟨.ref t, rfl, t, _, rfl, SqT.of sh, rfl, _, _, rfl, _, _, rfl, _, _, rfl, rfl, ?_⟩
    refine ⟨.str x, rfl, x, rfl, ?_⟩
    refine ⟨fun i m σ H' => m = x.cps.size - i ∧ i ≤ x.cps.size ∧ Same H H' ∧ ∃ y5 y6 : Option V, σ = [some (.ref t), some (.str x), some (.str z), some (.str o), some hm, y5, y6], ⟨x.cps.size, by omega, Nat.zero_le _, Same.refl _, none, none, rfl⟩, fun i m σ H' hW => ?_⟩
    obtain ⟨em, hi, sm, y5, y6, rfl⟩ := hW
    by_cases hlt : i < x.cps.size
    · refine .inr ⟨hlt, fun σ' H2 => Same H H2 ∧ ∃ y5 y6 : Option V, σ' = [some (.ref t), some (.str x), some (.str z), some (.str o), some hm, y5, y6], fun σ' H2 p => ⟨m - 1, by omega, by omega, hlt, p.1, p.2⟩, fun v H2 hy => ?_⟩
      obtain ⟨D, c, rfl, nD, rfl, hc⟩ := hy
      have hmem : c ∈ x.cps.toList := by
        rw [← Array.getElem?_toList] at hc
        exact List.mem_of_getElem? hc
      refine ⟨D, _, rfl, SqT.of upd_same, rfl, _, _, rfl, _, _, rfl, rfl, ?_⟩
      refine ⟨.int (i : Nat), rfl, rfl, _, rfl, iteFd (fun e => ?_) ?_⟩
      · injection e with e
        omega
      · refine ⟨.str (sg c), rfl, .str z, rfl, c, z, rfl, rfl, _, rfl, ?_⟩
        by_cases hz : c ∈ z.cps.toList
        · rw [decide_eq_true hz]
          exact iteF (iteF ⟨sm.trans (same_new nD), _, _, rfl⟩)
        · rw [decide_eq_false hz]
          have ho : c ∈ o.cps.toList := (hin c hmem).resolve_left hz
          refine iteT ⟨.str (sg c), rfl, .str o, rfl, c, o, rfl, rfl, _, rfl, ?_⟩
          rw [decide_eq_true ho]
          exact iteF ⟨sm.trans (same_new nD), _, _, rfl⟩
    · exact .inl ⟨by show x.cps.size ≤ i; omega, q H' sm⟩
theorem ok_text_without (T : Txt K mg) : FnOk P w K mg base CX0 3 T.d_text_without.f T.d_text_without.fd ["sheet", "tape", "begin", "place"] (spWo K) := by
  refine T.d_text_without.F.ok sc_text_without (fun vs H Q E h => ?_) (fun cdv A outer s H vs Q E hr h => ?_)
  · obtain ⟨t, a, z, o, hm, cs, b, i, rfl, _⟩ := h
    rfl
  · obtain ⟨t, a, z, o, hm, cs, b, i, rfl, gd, sh, hS, hc, hl, hb, hi, q⟩ := h
    refine ⟨_, (pss_cons (ps_asg (pe_call (ok_walked T) (hr.mono (by decide)) (by rfl) T.d_walked.g T.d_walked.F.kp T.d_walked.b .nil pass0 (pa_cons (pv 0) (pa_cons (pe_op op_cat (pe_slice sl_list (pv 1) po_none (po_some (pv 3))) (pe_slice sl_list (pv 1) (po_some (pe_op op_add (pv 3) pe_int)) po_none)) (pa_cons (pv 2) pa_nil)))) (pg_tup rfl (pgs_cons (pg_name (i := 4) sc_text_without.nd rfl (.inl rfl)) (pgs_cons (pg_name (i := 5) sc_text_without.nd rfl (.inl rfl)) pgs_nil))))
  (pss_one (ps_ret (pv 4)))), ?_⟩
    refine ⟨.ref t, rfl, .ref a, rfl, .int (i : Nat), rfl, (i : Nat), rfl, a, _, rfl, hS, fun p1 n1 => ?_⟩
    have s1 := same_new (o := HO.lst (cutV (cs.map V.int) none (some (i : Nat)))) n1
    refine ⟨.ref a, rfl, .int (i : Nat), rfl, (i : Nat), 1, rfl, rfl, _, rfl, a, _, rfl, s1.seq hS, fun p2 n2 => ?_⟩
    have s2 := s1.trans (same_new (o := HO.lst (cutV (cs.map V.int) (some ((i : Nat) + 1)) none)) n2)
    have e1 := cut_lo cs i (by omega)
    have e2 := cut_hi cs (i + 1) (by omega)
    refine ⟨p1, p2, _, _, rfl, rfl, same_new n2 _ _ upd_same, upd_same, Nat.le_trans (Nat.add_le_add (cutV_length _ _ _) (cutV_length _ _ _)) (by rw [List.length_map]; exact Nat.le_trans (Nat.add_le_add hl hl) (by decide)), fun p3 n3 => ?_⟩
    have s3 := s2.trans (same_new (o := HO.lst (cutV (cs.map V.int) none (some (i : Nat)) ++ cutV (cs.map V.int) (some ((i : Nat) + 1)) none)) n3)
    refine ⟨.int b, rfl, t, p3, z, o, hm, cutAt cs i, b, rfl, gd, s3 _ _ sh, ?_, cutAt_codes hc i, Nat.le_trans (cutAt_len cs i) (by omega), hb, fun p4 H4 s4 n4 e4 => ?_⟩
    · refine SqL.of ?_
      rw [upd_same, e1]
      unfold cutAt
      rw [List.map_append, ← e2]
      rfl
    · refine ⟨p4, _, rfl, SqT.of e4, rfl, _, _, rfl, _, _, rfl, rfl, ?_⟩
      exact ⟨_, rfl, q H4 (s3.trans s4)⟩
set_option maxHeartbeats 1000000 in
theorem ok_with_shifts (T : Txt K mg) : FnOk P w K mg base CX0 3 T.d_with_shifts.f T.d_with_shifts.fd ["sheet", "sign", "now", "most", "rests"] spWshifts := by
  refine T.d_with_shifts.F.ok sc_with_shifts (fun vs H Q E h => ?_) (fun cdv A outer s H vs Q E hr h => ?_)
  · obtain ⟨t, z, o, hm, c, now, most, rs, R, H0, rfl, _⟩ := h
    rfl
  · obtain ⟨t, z, o, hm, c, now, most, rs, R, H0, rfl, gd, sh, hn, sp0, sp1, gr, sr, q⟩ := h
    refine ⟨_, (pss_cons (ps_set (i := 5) sc_with_shifts.nd rfl (.inl rfl) (pe_op op_sub pe_int (pv 2)))
  (pss_cons (ps_asg (pe_tup (pa_cons (pe_op op_add (pe_callB call_len_str (by rfl) T.n_len PySem.boot_len (pa_cons (pe_ix ix_tup (pv 0) pe_int (fun _ _ => rfl)) pa_nil)) (pv 2)) (pa_cons (pe_op op_add (pe_callB call_len_str (by rfl) T.n_len PySem.boot_len (pa_cons (pe_ix ix_tup (pv 0) pe_int (fun _ _ => rfl)) pa_nil)) (pv 5)) pa_nil))) (pg_tup rfl (pgs_cons (pg_name (i := 6) sc_with_shifts.nd rfl (.inr rfl)) (pgs_cons (pg_name (i := 7) sc_with_shifts.nd rfl (.inr rfl)) pgs_nil))))
  (pss_cons (ps_setLc (i := 8) (own := [("tape", 11)]) (g := gName 11) (tt := tYes) (te := _) rfl sc_with_shifts.nd rfl rfl (sw_true rfl rfl rfl (by decide +kernel)) (pi_list (pe_call (ok_with_code T) (hr.mono (by decide)) (by rfl) T.d_with_code.g T.d_with_code.F.kp T.d_with_code.b .nil pass0 (pa_cons (pv 0) (pa_cons (pv 1) (pa_cons (pv 2) (pa_cons (pe_glob (v := .int 32) (by rfl) T.c_SAFE.choose_spec ⟨_, rfl⟩) (pa_cons (pv 4) pa_nil))))))) (blkOk_by (own := [("tape", 11)]) (N := ["sheet", "sign", "now", "most", "rests", "other", "stay", "turn", "again", "once", "twice", "tape"]) (sc := defScope s_with_shifts) (by decide +kernel)) (by exact fun _ _ _ _ _ => pg_name (i := 11) sc_with_shifts.nd rfl (Or.inl rfl)) (by exact fun _ _ _ _ _ => pts_nil) (by exact fun _ _ _ _ _ => (pe_op op_cat (pe_lst (pa_cons (pv 6) pa_nil)) (pv 11))))
  (pss_cons (ps_setLc (i := 9) (own := [("tape", 11)]) (g := gName 11) (tt := tYes) (te := _) rfl sc_with_shifts.nd rfl rfl (sw_true rfl rfl rfl (by decide +kernel)) (pi_list (pe_call (ok_with_code T) (hr.mono (by decide)) (by rfl) T.d_with_code.g T.d_with_code.F.kp T.d_with_code.b .nil pass0 (pa_cons (pv 0) (pa_cons (pv 1) (pa_cons (pv 5) (pa_cons (pv 3) (pa_cons (pv 4) pa_nil))))))) (blkOk_by (own := [("tape", 11)]) (N := ["sheet", "sign", "now", "most", "rests", "other", "stay", "turn", "again", "once", "twice", "tape"]) (sc := defScope s_with_shifts) (by decide +kernel)) (by exact fun _ _ _ _ _ => pg_name (i := 11) sc_with_shifts.nd rfl (Or.inl rfl)) (by exact fun _ _ _ _ _ => pts_nil) (by exact fun _ _ _ _ _ => (pe_op op_cat (pe_lst (pa_cons (pv 7) pa_nil)) (pv 11))))
  (pss_cons (ps_setLc (i := 10) (own := [("tape", 11)]) (g := gName 11) (tt := tYes) (te := _) rfl sc_with_shifts.nd rfl rfl (sw_true rfl rfl rfl (by decide +kernel)) (pi_list (pe_call (ok_with_code T) (hr.mono (by decide)) (by rfl) T.d_with_code.g T.d_with_code.F.kp T.d_with_code.b .nil pass0 (pa_cons (pv 0) (pa_cons (pv 1) (pa_cons (pv 5) (pa_cons (pe_glob (v := .int 32) (by rfl) T.c_SAFE.choose_spec ⟨_, rfl⟩) (pa_cons (pv 4) pa_nil))))))) (blkOk_by (own := [("tape", 11)]) (N := ["sheet", "sign", "now", "most", "rests", "other", "stay", "turn", "again", "once", "twice", "tape"]) (sc := defScope s_with_shifts) (by decide +kernel)) (by exact fun _ _ _ _ _ => pg_name (i := 11) sc_with_shifts.nd rfl (Or.inl rfl)) (by exact fun _ _ _ _ _ => pts_nil) (by exact fun _ _ _ _ _ => (pe_op op_cat (pe_lst (pa_cons (pv 7) (pa_cons (pv 7) pa_nil))) (pv 11))))
  (pss_one (ps_ret (pe_op op_cat (pe_op op_cat (pv 8) (pv 9)) (pv 10))))))))), ?_⟩
    have big : z.length ≤ sizeLine := Nat.le_trans gd.le (by decide)
    have ho := is01_other hn
    refine ⟨.int now, rfl, 1, now, rfl, rfl, ?_⟩
    refine ⟨.ref t, rfl, t, _, 0, _, rfl, rfl, SqT.of sh, atI_nat (j := 0) rfl, z, rfl, big, .int now, rfl, _, _, rfl, rfl, .ref t, rfl, t, _, 0, _, rfl, rfl, SqT.of sh, atI_nat (j := 0) rfl, z, rfl, big, .int (1 - now), rfl, _, _, rfl, rfl, by show 2 ≤ sizeLine; decide, fun p0 n0 => ?_⟩
    have s0 := same_new (o := HO.tup [V.int ((z.length : Nat) + now), V.int ((z.length : Nat) + (1 - now))]) n0
    refine ⟨p0, _, rfl, SqT.of upd_same, rfl, _, _, rfl, _, _, rfl, rfl, ?_⟩
    generalize upd H p0 (HO.tup [V.int ((z.length : Nat) + now), V.int ((z.length : Nat) + (1 - now))]) = H1 at s0
    -- A
    refine ⟨.ref t, rfl, .str (sg c), rfl, .int now, rfl, .ref rs, rfl, t, z, o, hm, c, now, 32, rs, R, H0, rfl, gd, s0 _ _ sh, hn, by decide, by decide, gr.mono (fun a us e => s0 _ _ e), sr, fun pA asA HaA saA naA eaA taA nasA => ⟨pA, rfl, ⟨_, SqL.of eaA⟩, fun DA nDA => ?_⟩⟩
    have wlA := wcL_len (z := z) (o := o) (hm := hm) (c := c) (now := now) (sp := 32) sr
    have alA := taA.len
    refine lc_list (K := K) (a := pA) (xs := asA.map V.ref) (fun i H' => Same HaA H' ∧ i ≤ asA.length ∧ ∃ bs : List Addr, bs.length = i ∧ H' DA = some (.lst (bs.map V.ref)) ∧ Tps H' bs (((wcL z o hm c now 32 R).take i).map fun u => [((z.length : Nat) : Int) + now] ++ u) ∧ ∀ b ∈ bs, HaA b = none ∧ b ≠ DA)
      ⟨sameD (Same.refl _) nDA, Nat.zero_le _, [], rfl, upd_same, by rw [List.take_zero]; exact True.intro, fun b h => nomatch h⟩ (fun i H' _ p => SqL.of (p.1 _ _ eaA)) (fun i v H' hx p => ?_) (fun HA p => ?_)
    · obtain ⟨sm, _, bs, bl, eD, tp, nb⟩ := p
      obtain ⟨a, ha, rfl⟩ := at_map hx
      obtain ⟨u, hu, eu⟩ := taA.get ha
      have hil := (List.getElem?_eq_some_iff.mp ha).1
      have ul := wlA.2 u (List.mem_of_getElem? hu)
      refine ⟨rfl, lc_yes ?_⟩
      refine ⟨.int ((z.length : Nat) + now), rfl, by show 1 ≤ sizeLine; decide, fun q1 m1 => ?_⟩
      have u1 := same_new (o := HO.lst ([((z.length : Nat) : Int) + now].map V.int)) m1
      refine ⟨.ref a, rfl, q1, a, _, _, rfl, rfl, upd_same, u1 _ _ (sm _ _ eu), ?_, fun q2 m2 => ?_⟩
      · rw [List.length_map]
        exact Nat.le_trans (Nat.add_le_add_left ul _) (by show [((z.length : Nat) : Int) + now].length + 501 ≤ sizeLine; exact Nat.le_trans (Nat.add_le_add_right (show [((z.length : Nat) : Int) + now].length ≤ 2 from by simp) _) (by decide))
      have u2 := u1.trans (same_new (o := HO.lst ([((z.length : Nat) : Int) + now].map V.int ++ u.map V.int)) m2)
      have m2' := u1.free m2
      have nqD : q2 ≠ DA := fun e => by rw [e, eD] at m2'; cases m2'
      refine ⟨bs.map V.ref, u2 _ _ eD, by rw [List.length_map, bl]; exact small1000 (by omega), sameD (sm.trans u2) nDA, hil, bs ++ [q2], by rw [List.length_append, bl]; rfl, by rw [upd_same, List.map_append]; rfl, ?_, fun b hb => ?_⟩
      · rw [List.take_add_one, hu, List.map_append]
        refine Tps.app ((tp.mono fun b us e => u2 _ _ e).upd fun b hb => (nb b hb).2) ⟨?_, True.intro⟩
        exact (upd_ne nqD).trans (upd_same.trans (by rw [List.map_append]; rfl))
      · rcases List.mem_append.mp hb with m | m
        · exact nb b m
        · rw [List.mem_singleton.mp m]; exact ⟨sm.free m2', nqD⟩
    obtain ⟨smA, _, bsA, blA, eDA, tpA, nbA⟩ := p
    rw [List.length_map, alA, List.take_length] at tpA
    have nDHA : H DA = none := s0.free (saA.free nDA)
    have sTA := s0.trans (saA.trans smA)
    have nbHA : ∀ b ∈ bsA, H b = none := fun b hb => s0.free (saA.free (nbA b hb).1)
    -- B
    refine ⟨.ref t, rfl, .str (sg c), rfl, .int (1 - now), rfl, .int most, rfl, .ref rs, rfl, t, z, o, hm, c, (1 - now), most, rs, R, H0, rfl, gd, sTA _ _ sh, ho, sp0, sp1, gr.mono (fun a us e => sTA _ _ e), sr, fun pB asB HaB saB naB eaB taB nasB => ⟨pB, rfl, ⟨_, SqL.of eaB⟩, fun DB nDB => ?_⟩⟩
    have wlB := wcL_len (z := z) (o := o) (hm := hm) (c := c) (now := (1 - now)) (sp := most) sr
    have alB := taB.len
    refine lc_list (K := K) (a := pB) (xs := asB.map V.ref) (fun i H' => Same HaB H' ∧ i ≤ asB.length ∧ ∃ bs : List Addr, bs.length = i ∧ H' DB = some (.lst (bs.map V.ref)) ∧ Tps H' bs (((wcL z o hm c (1 - now) most R).take i).map fun u => [((z.length : Nat) : Int) + (1 - now)] ++ u) ∧ ∀ b ∈ bs, HaB b = none ∧ b ≠ DB)
      ⟨sameD (Same.refl _) nDB, Nat.zero_le _, [], rfl, upd_same, by rw [List.take_zero]; exact True.intro, fun b h => nomatch h⟩ (fun i H' _ p => SqL.of (p.1 _ _ eaB)) (fun i v H' hx p => ?_) (fun HB p => ?_)
    · obtain ⟨sm, _, bs, bl, eD, tp, nb⟩ := p
      obtain ⟨a, ha, rfl⟩ := at_map hx
      obtain ⟨u, hu, eu⟩ := taB.get ha
      have hil := (List.getElem?_eq_some_iff.mp ha).1
      have ul := wlB.2 u (List.mem_of_getElem? hu)
      refine ⟨rfl, lc_yes ?_⟩
      refine ⟨.int ((z.length : Nat) + (1 - now)), rfl, by show 1 ≤ sizeLine; decide, fun q1 m1 => ?_⟩
      have u1 := same_new (o := HO.lst ([((z.length : Nat) : Int) + (1 - now)].map V.int)) m1
      refine ⟨.ref a, rfl, q1, a, _, _, rfl, rfl, upd_same, u1 _ _ (sm _ _ eu), ?_, fun q2 m2 => ?_⟩
      · rw [List.length_map]
        exact Nat.le_trans (Nat.add_le_add_left ul _) (by show [((z.length : Nat) : Int) + (1 - now)].length + 501 ≤ sizeLine; exact Nat.le_trans (Nat.add_le_add_right (show [((z.length : Nat) : Int) + (1 - now)].length ≤ 2 from by simp) _) (by decide))
      have u2 := u1.trans (same_new (o := HO.lst ([((z.length : Nat) : Int) + (1 - now)].map V.int ++ u.map V.int)) m2)
      have m2' := u1.free m2
      have nqD : q2 ≠ DB := fun e => by rw [e, eD] at m2'; cases m2'
      refine ⟨bs.map V.ref, u2 _ _ eD, by rw [List.length_map, bl]; exact small1000 (by omega), sameD (sm.trans u2) nDB, hil, bs ++ [q2], by rw [List.length_append, bl]; rfl, by rw [upd_same, List.map_append]; rfl, ?_, fun b hb => ?_⟩
      · rw [List.take_add_one, hu, List.map_append]
        refine Tps.app ((tp.mono fun b us e => u2 _ _ e).upd fun b hb => (nb b hb).2) ⟨?_, True.intro⟩
        exact (upd_ne nqD).trans (upd_same.trans (by rw [List.map_append]; rfl))
      · rcases List.mem_append.mp hb with m | m
        · exact nb b m
        · rw [List.mem_singleton.mp m]; exact ⟨sm.free m2', nqD⟩
    obtain ⟨smB, _, bsB, blB, eDB, tpB, nbB⟩ := p
    rw [List.length_map, alB, List.take_length] at tpB
    have nDHB : H DB = none := sTA.free (saB.free nDB)
    have sTB := sTA.trans (saB.trans smB)
    have nbHB : ∀ b ∈ bsB, H b = none := fun b hb => sTA.free (saB.free (nbB b hb).1)
    -- C
    refine ⟨.ref t, rfl, .str (sg c), rfl, .int (1 - now), rfl, .ref rs, rfl, t, z, o, hm, c, (1 - now), 32, rs, R, H0, rfl, gd, sTB _ _ sh, ho, by decide, by decide, gr.mono (fun a us e => sTB _ _ e), sr, fun pC asC HaC saC naC eaC taC nasC => ⟨pC, rfl, ⟨_, SqL.of eaC⟩, fun DC nDC => ?_⟩⟩
    have wlC := wcL_len (z := z) (o := o) (hm := hm) (c := c) (now := (1 - now)) (sp := 32) sr
    have alC := taC.len
    refine lc_list (K := K) (a := pC) (xs := asC.map V.ref) (fun i H' => Same HaC H' ∧ i ≤ asC.length ∧ ∃ bs : List Addr, bs.length = i ∧ H' DC = some (.lst (bs.map V.ref)) ∧ Tps H' bs (((wcL z o hm c (1 - now) 32 R).take i).map fun u => [((z.length : Nat) : Int) + (1 - now), ((z.length : Nat) : Int) + (1 - now)] ++ u) ∧ ∀ b ∈ bs, HaC b = none ∧ b ≠ DC)
      ⟨sameD (Same.refl _) nDC, Nat.zero_le _, [], rfl, upd_same, by rw [List.take_zero]; exact True.intro, fun b h => nomatch h⟩ (fun i H' _ p => SqL.of (p.1 _ _ eaC)) (fun i v H' hx p => ?_) (fun HC p => ?_)
    · obtain ⟨sm, _, bs, bl, eD, tp, nb⟩ := p
      obtain ⟨a, ha, rfl⟩ := at_map hx
      obtain ⟨u, hu, eu⟩ := taC.get ha
      have hil := (List.getElem?_eq_some_iff.mp ha).1
      have ul := wlC.2 u (List.mem_of_getElem? hu)
      refine ⟨rfl, lc_yes ?_⟩
      refine ⟨.int ((z.length : Nat) + (1 - now)), rfl, .int ((z.length : Nat) + (1 - now)), rfl, by show 2 ≤ sizeLine; decide, fun q1 m1 => ?_⟩
      have u1 := same_new (o := HO.lst ([((z.length : Nat) : Int) + (1 - now), ((z.length : Nat) : Int) + (1 - now)].map V.int)) m1
      refine ⟨.ref a, rfl, q1, a, _, _, rfl, rfl, upd_same, u1 _ _ (sm _ _ eu), ?_, fun q2 m2 => ?_⟩
      · rw [List.length_map]
        exact Nat.le_trans (Nat.add_le_add_left ul _) (by show [((z.length : Nat) : Int) + (1 - now), ((z.length : Nat) : Int) + (1 - now)].length + 501 ≤ sizeLine; exact Nat.le_trans (Nat.add_le_add_right (show [((z.length : Nat) : Int) + (1 - now), ((z.length : Nat) : Int) + (1 - now)].length ≤ 2 from by simp) _) (by decide))
      have u2 := u1.trans (same_new (o := HO.lst ([((z.length : Nat) : Int) + (1 - now), ((z.length : Nat) : Int) + (1 - now)].map V.int ++ u.map V.int)) m2)
      have m2' := u1.free m2
      have nqD : q2 ≠ DC := fun e => by rw [e, eD] at m2'; cases m2'
      refine ⟨bs.map V.ref, u2 _ _ eD, by rw [List.length_map, bl]; exact small1000 (by omega), sameD (sm.trans u2) nDC, hil, bs ++ [q2], by rw [List.length_append, bl]; rfl, by rw [upd_same, List.map_append]; rfl, ?_, fun b hb => ?_⟩
      · rw [List.take_add_one, hu, List.map_append]
        refine Tps.app ((tp.mono fun b us e => u2 _ _ e).upd fun b hb => (nb b hb).2) ⟨?_, True.intro⟩
        exact (upd_ne nqD).trans (upd_same.trans (by rw [List.map_append]; rfl))
      · rcases List.mem_append.mp hb with m | m
        · exact nb b m
        · rw [List.mem_singleton.mp m]; exact ⟨sm.free m2', nqD⟩
    obtain ⟨smC, _, bsC, blC, eDC, tpC, nbC⟩ := p
    rw [List.length_map, alC, List.take_length] at tpC
    have nDHC : H DC = none := sTB.free (saC.free nDC)
    have sTC := sTB.trans (saC.trans smC)
    have nbHC : ∀ b ∈ bsC, H b = none := fun b hb => sTB.free (saC.free (nbC b hb).1)
    have eA := smC _ _ (saC _ _ (smB _ _ (saB _ _ eDA)))
    have eB := smC _ _ (saC _ _ eDB)
    have tA := tpA.mono fun b us e => smC _ _ (saC _ _ (smB _ _ (saB _ _ e)))
    have tB := tpB.mono fun b us e => smC _ _ (saC _ _ e)
    have lA : bsA.length ≤ 1 := by have := tpA.len; rw [List.length_map] at this; have := wlA.1; omega
    have lB : bsB.length ≤ 1 := by have := tpB.len; rw [List.length_map] at this; have := wlB.1; omega
    have lC : bsC.length ≤ 1 := by have := tpC.len; rw [List.length_map] at this; have := wlC.1; omega
    refine ⟨.ref DA, rfl, .ref DB, rfl, DA, DB, _, _, rfl, rfl, eA, eB, by rw [List.length_map, List.length_map]; exact Nat.le_of_lt (small1000 (by omega)), fun q4 m4 => ?_⟩
    have v4 := same_new (o := HO.lst (bsA.map V.ref ++ bsB.map V.ref)) m4
    refine ⟨.ref DC, rfl, q4, DC, _, _, rfl, rfl, upd_same, v4 _ _ eDC, by rw [List.length_append, List.length_map, List.length_map, List.length_map]; exact Nat.le_of_lt (small1000 (by omega)), fun q5 m5 => ?_⟩
    have v5 := v4.trans (same_new (o := HO.lst (bsA.map V.ref ++ bsB.map V.ref ++ bsC.map V.ref)) m5)
    refine q q5 (bsA ++ bsB ++ bsC) _ (sTC.trans v5) (sTC.free (v4.free m5)) (by rw [upd_same, List.map_append, List.map_append]) ?_ (fun a ha => ?_)
    · unfold wsL
      exact ((tA.app tB).app tpC).mono fun b us e => v5 _ _ e
    · rcases List.mem_append.mp ha with m | m
      · rcases List.mem_append.mp m with m | m
        · exact nbHA a m
        · exact nbHB a m
      · exact nbHC a m
theorem ok_shift_ahead (T : Txt K mg) : FnOk P w K mg base CX0 3 T.d_shift_ahead.f T.d_shift_ahead.fd ["sheet", "tape", "now", "wanted"] (spAhead K) := by
  refine T.d_shift_ahead.F.ok sc_shift_ahead (fun vs H Q E h => ?_) (fun cdv A outer s H vs Q E hr h => ?_)
  · obtain ⟨t, a, z, o, hm, cs, n, w', rfl, _⟩ := h
    rfl
  · obtain ⟨t, a, z, o, hm, cs, n, w', rfl, gd, sh, hS, hc, hl, hn, hw, q⟩ := h
    refine ⟨_, (pss_cons (ps_asg (pe_call (ok_walked T) (hr.mono (by decide)) (by rfl) T.d_walked.g T.d_walked.F.kp T.d_walked.b .nil pass0 (pa_cons (pv 0) (pa_cons (pv 1) (pa_cons (pv 2) pa_nil)))) (pg_tup rfl (pgs_cons (pg_name (i := 4) sc_shift_ahead.nd rfl (.inl rfl)) (pgs_cons (pg_name (i := 5) sc_shift_ahead.nd rfl (.inl rfl)) pgs_nil))))
  (pss_cons (ps_asg (pe_call (ok_walked T) (hr.mono (by decide)) (by rfl) T.d_walked.g T.d_walked.F.kp T.d_walked.b .nil pass0 (pa_cons (pv 0) (pa_cons (pv 1) (pa_cons (pv 3) pa_nil)))) (pg_tup rfl (pgs_cons (pg_name (i := 6) sc_shift_ahead.nd rfl (.inl rfl)) (pgs_cons (pg_name (i := 5) sc_shift_ahead.nd rfl (.inl rfl)) pgs_nil))))
  (pss_cons (ps_if (pt_cmpR op_eq (pv 4) (pv 6) (nomark _))
  (pss_one (ps_ret (pe_lst pa_nil)))
  pss_nil)
  (pss_one (ps_ret (pe_lst (pa_cons (pe_op op_add (pe_callB call_len_str (by rfl) T.n_len PySem.boot_len (pa_cons (pe_ix ix_tup (pv 0) pe_int (fun _ _ => rfl)) pa_nil)) (pv 3)) pa_nil))))))), ?_⟩
    have big : z.length ≤ sizeLine := Nat.le_trans gd.le (by decide)
    refine ⟨.ref t, rfl, .ref a, rfl, .int n, rfl, t, a, z, o, hm, cs, n, rfl, gd, sh, hS, hc, hl, hn, fun p1 H1 s1 n1 e1 => ?_⟩
    refine ⟨p1, _, rfl, SqT.of e1, rfl, _, _, rfl, _, _, rfl, rfl, ?_⟩
    refine ⟨.ref t, rfl, .ref a, rfl, .int w', rfl, t, a, z, o, hm, cs, w', rfl, gd, s1 _ _ sh, s1.seq hS, hc, hl, hw, fun p2 H2 s2 n2 e2 => ?_⟩
    refine ⟨p2, _, rfl, SqT.of e2, rfl, _, _, rfl, _, _, rfl, rfl, ?_⟩
    have s12 := s1.trans s2
    refine ⟨.str _, rfl, .str _, rfl, rfl, _, rfl, ?_⟩
    unfold ahd at q
    by_cases h : (rd z o hm cs n).1 = (rd z o hm cs w').1
    · rw [if_pos h] at q
      rw [show decide (V.str (rd z o hm cs n).1 = V.str (rd z o hm cs w').1) = true from decide_eq_true (congrArg V.str h)]
      exact iteT ⟨Nat.zero_le _, fun p np => q p _ (s12.trans (same_new np)) (s12.free np) upd_same⟩
    · rw [if_neg h] at q
      rw [show decide (V.str (rd z o hm cs n).1 = V.str (rd z o hm cs w').1) = false from decide_eq_false fun k => h (V.str.inj k)]
      refine iteF ⟨.ref t, rfl, t, _, 0, _, rfl, rfl, SqT.of (s12 _ _ sh), atI_nat (j := 0) rfl, z, rfl, big, .int w', rfl, _, _, rfl, rfl, by show 1 ≤ sizeLine; decide, fun p np => ?_⟩
      exact q p _ (s12.trans (same_new np)) (s12.free np) upd_same
set_option maxHeartbeats 1000000 in
theorem ok_with_sign_shortest (T : Txt K mg) (TB : GxR.TabB base mg T.c_are_signs T.t_are_signs) (TB2 : LamX.TabB base mg T.c_first_of T.t_first_of) (ne : T.t_are_signs ≠ T.t_first_of) : FnOk P w K mg base CX0 3 T.d_with_sign_shortest.f T.d_with_sign_shortest.fd ["sheet", "sign", "rests"] (spWith T.t_are_signs T.t_first_of q2) := by
  refine T.d_with_sign_shortest.F.ok sc_with_sign_shortest (fun vs H Q E h => ?_) (fun cdv A outer s H vs Q E hr h => ?_)
  · obtain ⟨t, z, o, hm, c, rs, a0, a1, a2, r, rfl, _⟩ := h
    rfl
  · obtain ⟨t, z, o, hm, c, rs, a0, a1, a2, r, rfl, gd, sh, th, sr, ins, tw, q⟩ := h
    refine ⟨_, (pss_cons (ps_set (i := 3) sc_with_sign_shortest.nd rfl (.inr rfl) (pe_callB call_len_str (by rfl) T.n_len PySem.boot_len (pa_cons (pe_ix ix_tup (pv 0) pe_int (fun _ _ => rfl)) pa_nil)))
  (pss_cons (ps_set (i := 4) sc_with_sign_shortest.nd rfl (.inr rfl) (pe_lc (own := [("now", 6)]) (g := gName 6) (tt := tYes) (te := _) rfl sc_with_sign_shortest.nd (pi_tup (pe_tup (pa_cons pe_int (pa_cons pe_int (pa_cons (pe_glob (v := .int 2) (by rfl) T.c_EITHER.choose_spec ⟨_, rfl⟩) pa_nil))))) (blkOk_by (own := [("now", 6)]) (N := ["sheet", "sign", "rests", "size", "plain", "shifted", "now", "tape", "tapes"]) (sc := defScope s_with_sign_shortest) (by decide +kernel)) (by exact fun _ _ _ _ _ => pg_name (i := 6) sc_with_sign_shortest.nd rfl (Or.inl rfl)) (by exact fun _ _ _ _ _ => pts_nil) (by exact fun _ _ _ _ _ => (pe_call (ok_without_shift T) (hr.mono (by decide)) (by rfl) T.d_without_shift.g T.d_without_shift.F.kp T.d_without_shift.b .nil pass0 (pa_cons (pv 0) (pa_cons (pv 1) (pa_cons (pv 6) (pa_cons (pv 2) pa_nil))))))))
  (pss_cons (ps_set (i := 5) sc_with_sign_shortest.nd rfl (.inr rfl) (pe_lc2 (own := [("now", 6), ("tape", 7)]) (vs1 := [7]) (g := gName 6) (g1 := gName 7) (tt := tYes) (tt1 := tYes) (wi1 := iList K (tOp (rIxL K) (tVar 4) (tVar 6))) rfl sc_with_sign_shortest.nd (pi_tup (pe_tup (pa_cons pe_int (pa_cons pe_int pa_nil)))) (blkOk_by (own := [("now", 6), ("tape", 7)]) (N := ["sheet", "sign", "rests", "size", "plain", "shifted", "now", "tape", "tapes"]) (sc := defScope s_with_sign_shortest) (by decide +kernel)) (by decide) (by exact fun _ _ _ _ _ => pg_name (i := 6) sc_with_sign_shortest.nd rfl (Or.inl rfl)) (by exact fun _ _ _ _ _ => pts_nil) (by exact fun _ _ _ _ _ => (pi_list (pe_ix ix_list (pv 4) (pv 6) (fun _ _ => rfl)))) (by exact fun _ _ _ _ _ => pg_name (i := 7) sc_with_sign_shortest.nd rfl (Or.inl rfl)) (by exact fun _ _ _ _ _ => pts_nil) (by exact fun _ _ _ _ _ => (pe_op op_cat (pe_lst (pa_cons (pe_op op_add (pv 3) (pv 6)) pa_nil)) (pv 7)))))
  (pss_one (ps_ret (pe_lc (own := [("tapes", 8)]) (g := gName 8) (tt := tYes) (te := _) rfl sc_with_sign_shortest.nd (pi_list (pv 4)) (blkOk_by (own := [("tapes", 8)]) (N := ["sheet", "sign", "rests", "size", "plain", "shifted", "now", "tape", "tapes"]) (sc := defScope s_with_sign_shortest) (by decide +kernel)) (by exact fun _ _ _ _ _ => pg_name (i := 8) sc_with_sign_shortest.nd rfl (Or.inl rfl)) (by exact fun _ _ _ _ _ => pts_nil) (by exact fun _ _ _ _ _ => (pe_call (ok_first_of T TB2) (hr.mono (by decide)) (by rfl) T.d_first_of.g T.d_first_of.F.kp T.d_first_of.b .nil pass0 (pa_cons (pe_op op_cat (pv 8) (pv 5)) pa_nil))))))))), ?_⟩
    have big : z.length ≤ sizeLine := Nat.le_trans gd.le (by decide)
    refine ⟨.ref t, rfl, t, _, 0, _, rfl, rfl, SqT.of sh, atI_nat (j := 0) rfl, z, rfl, big, ?_⟩
    -- plain
    refine ⟨by show 3 ≤ sizeLine; decide, fun pt npt => ⟨pt, rfl, ⟨_, SqT.of upd_same⟩, fun D nD => ?_⟩⟩
    have s1 : Same H (upd H pt (HO.tup [V.int 0, V.int 1, V.int 2])) := same_new npt
    have nD0 : H D = none := s1.free nD
    have nptD : pt ≠ D := fun e => by rw [← e, upd_same] at nD; cases nD
    refine lc_tup (K := K) (a := pt) (xs := [V.int 0, V.int 1, V.int 2]) (fun i H' => Same H H' ∧ H' pt = some (.tup [V.int 0, V.int 1, V.int 2]) ∧ ∃ ps : List Addr, ps.length = i ∧ i ≤ 3 ∧ H' D = some (.lst (ps.map V.ref)) ∧ ∀ j p, ps[j]? = some p → PlainAt H D z o hm c r H' p (j : Nat))
      ⟨same_upd s1 nD0, by rw [upd_ne nptD]; exact upd_same, [], rfl, by decide, upd_same, fun j p e => by simp at e⟩ (fun i H' _ p => SqT.of p.2.1) (fun i x H' hx p => ?_) (fun H' p => ?_)
    · obtain ⟨sm, ept, ps, hl, hi3, eD, hp⟩ := p
      obtain ⟨rfl, hi, h012⟩ : x = .int (i : Nat) ∧ i < 3 ∧ Is012 (i : Nat) := by
        match i, hx with
        | 0, hx => exact ⟨(Option.some.inj hx).symm, by decide, .inl rfl⟩
        | 1, hx => exact ⟨(Option.some.inj hx).symm, by decide, .inr (.inl rfl)⟩
        | 2, hx => exact ⟨(Option.some.inj hx).symm, by decide, .inr (.inr rfl)⟩
        | i + 3, hx => simp at hx
      refine ⟨rfl, lc_yes ?_⟩
      refine ⟨.ref t, rfl, .str (sg c), rfl, .int (i : Nat), rfl, .ref rs, rfl, t, z, o, hm, c, (i : Nat), rs, a0, a1, a2, r, rfl, gd, sm _ _ sh, h012, th.mono fun a us e => sm _ _ e, sr, fun p as H4 s4 np ep rows nas => ?_⟩
      have npD : p ≠ D := fun e => by rw [e, eD] at np; cases np
      refine ⟨ps.map V.ref, s4 _ _ eD, by rw [List.length_map, hl]; exact small1000 (by omega), same_upd (sm.trans s4) nD0, by rw [upd_ne nptD]; exact s4 _ _ ept, ps ++ [p], by rw [List.length_append, hl]; rfl, hi, by rw [upd_same, List.map_append]; rfl, fun j p' e => ?_⟩
      rcases Nat.lt_or_ge j ps.length with hj | hj
      · rw [List.getElem?_append_left hj] at e
        exact (hp j p' e).upd s4
      · rw [List.getElem?_append_right hj] at e
        have hj0 : j - ps.length = 0 := by
          have := (List.getElem?_eq_some_iff.mp e).1
          simp at this; omega
        rw [hj0] at e
        obtain rfl : p = p' := by simpa using e
        obtain rfl : j = i := by omega
        refine ⟨npD, as, by rw [upd_ne npD]; exact ep, rows.upd fun a ha e2 => ?_, fun a ha => ⟨sm.free (nas a ha), fun e2 => ?_⟩⟩
        · have := nas a ha
          rw [e2, eD] at this; cases this
        · have := nas a ha
          rw [e2, eD] at this; cases this
    obtain ⟨sm2, _, ps, hl, _, eD, hp⟩ := p
    obtain ⟨p0, p1, p2, rfl⟩ : ∃ p0 p1 p2, ps = [p0, p1, p2] := by
      match ps, hl with
      | [p0, p1, p2], _ => exact ⟨p0, p1, p2, rfl⟩
    have pl0 := hp 0 p0 rfl
    have pl1 := hp 1 p1 rfl
    have pl2 := hp 2 p2 rfl
    obtain ⟨_, as0, e0, r0, n0⟩ := pl0
    obtain ⟨_, as1, e1, r1, n1⟩ := pl1
    obtain ⟨_, as2, e2, r2, n2⟩ := pl2
    clear hp
    have eD : H' D = some (.lst [.ref p0, .ref p1, .ref p2]) := eD
    have at0 : ∀ x, x = 0 ∨ x = 1 → ∃ p as, atI [V.ref p0, V.ref p1, V.ref p2] x = some (.ref p) ∧ H' p = some (.lst (as.map V.ref)) ∧ Rows H' as (plainL z o hm c r x) ∧ ∀ a ∈ as, H a = none := by
      rintro x (rfl | rfl)
      · exact ⟨p0, as0, atI_nat (j := 0) rfl, e0, r0, fun a ha => (n0 a ha).1⟩
      · exact ⟨p1, as1, atI_nat (j := 1) rfl, e1, r1, fun a ha => (n1 a ha).1⟩
    have nnD : H D = none := nD0
    clear nD0 nptD nD
    -- shifted
    refine ⟨by show 2 ≤ sizeLine; decide, fun qt nqt => ⟨qt, rfl, ⟨_, SqT.of upd_same⟩, fun D2 nD2 => ?_⟩⟩
    have s2 : Same H' (upd H' qt (HO.tup [V.int 0, V.int 1])) := same_new nqt
    have nD2' : H' D2 = none := s2.free nD2
    have nqtD : qt ≠ D2 := fun e => by rw [← e, upd_same] at nD2; cases nD2
    refine walk_t (K := K) (a := qt) (xs := [V.int 0, V.int 1]) (fun i H3 => Same H' H3 ∧ H3 qt = some (.tup [V.int 0, V.int 1]) ∧ i ≤ 2 ∧ ∃ bs : List Addr, H3 D2 = some (.lst (bs.map V.ref)) ∧
        Rows H3 bs (((List.range i).map fun k => (plainL z o hm c r (k : Nat)).map fun u => ((z.cps.size : Int) + (k : Nat)) :: u).flatten) ∧ ∀ b ∈ bs, H' b = none ∧ b ≠ D2)
      ⟨same_upd s2 nD2', by rw [upd_ne nqtD]; exact upd_same, by decide, [], upd_same, True.intro, fun b hb => nomatch hb⟩ (fun i H3 _ p => SqT.of p.2.1) (fun i x H3 hx p => ?_) (fun H3 p => ?_)
    · obtain ⟨sm3, eqt, hi2, bs, eD2, rows, nbs⟩ := p
      obtain ⟨rfl, hi, h01⟩ : x = .int (i : Nat) ∧ i < 2 ∧ (((i : Nat) : Int) = 0 ∨ ((i : Nat) : Int) = 1) := by
        match i, hx with
        | 0, hx => exact ⟨(Option.some.inj hx).symm, by decide, .inl rfl⟩
        | 1, hx => exact ⟨(Option.some.inj hx).symm, by decide, .inr rfl⟩
        | i + 2, hx => simp at hx
      obtain ⟨pI, asI, ha, hb, hc, hd⟩ := at0 ((i : Nat) : Int) h01
      refine ⟨rfl, lc_yes ?_⟩
      refine ⟨.ref D, rfl, .int (i : Nat), rfl, D, _, (i : Nat), .ref pI, rfl, rfl, SqL.of (sm3 _ _ eD), ha, pI, rfl, ⟨_, SqL.of (sm3 _ _ hb)⟩, ?_⟩
      have elen := hc.len
      have pl := (plain_len (z := z) (o := o) (hm := hm) (c := c) sr ((i : Nat) : Int))
      refine walk_l (K := K) (a := pI) (xs := asI.map V.ref) (fun j H4 => Same H' H4 ∧ H4 qt = some (.tup [V.int 0, V.int 1]) ∧ ∃ bs : List Addr, H4 D2 = some (.lst (bs.map V.ref)) ∧
          Rows H4 bs ((((List.range i).map fun k => (plainL z o hm c r (k : Nat)).map fun u => ((z.cps.size : Int) + (k : Nat)) :: u).flatten) ++ ((plainL z o hm c r (i : Nat)).take j).map fun u => ((z.cps.size : Int) + (i : Nat)) :: u) ∧ (∀ b ∈ bs, H' b = none ∧ b ≠ D2) ∧ bs.length ≤ 500 + j)
        ⟨sm3, eqt, bs, eD2, ?_, nbs, ?_⟩ (fun j H4 _ p => SqL.of (p.1 _ _ hb)) (fun j x H4 hx p => ?_) (fun H4 p => ?_)
      · rw [List.take_zero, List.map_nil, List.append_nil]; exact rows
      · have e9 := rows.len
        have p0' := (plain_len (z := z) (o := o) (hm := hm) (c := c) sr 0).1
        rcases (show i = 0 ∨ i = 1 by omega) with e8 | e8 <;> subst e8
        · rw [e9]; exact Nat.zero_le _
        · rw [e9]
          show ((plainL z o hm c r 0).map (fun u => ((z.cps.size : Int) + 0) :: u) ++ []).length ≤ _
          rw [List.append_nil, List.length_map]; omega
      · obtain ⟨sm4, eqt4, bs4, eD4, rows4, nbs4, l4⟩ := p
        obtain ⟨a, hai, rfl⟩ := at_map hx
        obtain ⟨u, hu, eu⟩ := hc.get hai
        have hj : j < (plainL z o hm c r (i : Nat)).length := (List.getElem?_eq_some_iff.mp hu).1
        refine ⟨rfl, lc_yes ?_⟩
        refine ⟨.int (z.length : Nat), rfl, .int (i : Nat), rfl, _, _, rfl, rfl, by show 1 ≤ sizeLine; decide, fun p1 np1 => ?_⟩
        have ul := pl.2 u (List.mem_of_getElem? hu)
        refine ⟨.ref a, rfl, p1, a, _, _, rfl, rfl, upd_same, same_new np1 _ _ (sm4 _ _ eu), by
          rw [List.length_map]
          exact Nat.le_of_lt (small1000 (by simp only [List.length_cons, List.length_nil]; omega)), fun p2 np2 => ?_⟩
        have s6 := same_new (o := HO.lst [V.int ((z.length : Nat) + ((i : Nat) : Int))]) np1
        have s7 := s6.trans (same_new (o := HO.lst ([V.int ((z.length : Nat) + ((i : Nat) : Int))] ++ u.map V.int)) np2)
        have eD6 := s6 _ _ eD4
        have n2 : D2 ≠ p2 := ne_of_none eD6 np2
        refine ⟨bs4.map V.ref, s7 _ _ eD4, by rw [List.length_map]; exact small1000 (by omega), same_upd (sm4.trans s7) nD2', by rw [upd_ne nqtD]; exact s7 _ _ eqt4, bs4 ++ [p2], by rw [upd_same, List.map_append]; rfl, ?_, fun b hb => ?_, by rw [List.length_append]; simp only [List.length_cons, List.length_nil]; omega⟩
        · rw [List.take_add_one, hu, List.map_append, ← List.append_assoc]
          refine Rows.app ((rows4.same s7).upd fun b hb => (nbs4 b hb).2) ⟨?_, True.intro⟩
          rw [upd_ne n2.symm]
          exact upd_same
        · rcases List.mem_append.mp hb with k | k
          · exact nbs4 b k
          · rw [List.mem_singleton.mp k]
            exact ⟨(sm4.trans s6).free np2, n2.symm⟩
      · obtain ⟨sm4, eqt4, bs4, eD4, rows4, nbs4, _⟩ := p
        refine ⟨sm4, eqt4, by omega, bs4, eD4, ?_, nbs4⟩
        rw [List.length_map, elen, List.take_length] at rows4
        rw [List.range_succ, List.map_append, List.flatten_append]
        rw [show (([i].map fun k => (plainL z o hm c r (k : Nat)).map fun u => ((z.cps.size : Int) + (k : Nat)) :: u).flatten) = (plainL z o hm c r (i : Nat)).map fun u => ((z.cps.size : Int) + (i : Nat)) :: u by simp]
        exact rows4
    · obtain ⟨sm3, _, _, bs2, eD2, rows2, nbs2⟩ := p
      have eS : (((List.range 2).map fun k => (plainL z o hm c r (k : Nat)).map fun u => ((z.cps.size : Int) + (k : Nat)) :: u).flatten) = shiftL z o hm c r := by
        unfold shiftL
        show (plainL z o hm c r 0).map (fun u => ((z.cps.size : Int) + 0) :: u) ++ ((plainL z o hm c r 1).map (fun u => ((z.cps.size : Int) + 1) :: u) ++ []) = _
        rw [List.append_nil]
      have rows2 : Rows H3 bs2 (shiftL z o hm c r) := eS ▸ rows2
      have sm' := sm2.trans sm3
      have tw3 := tw.same sm'
      have eD3 := sm3 _ _ eD
      have sl := shift_len (z := z) (o := o) (hm := hm) (c := c) sr
      refine ⟨.ref D, rfl, D, rfl, ⟨_, SqL.of eD3⟩, fun D3 nD3 => ?_⟩
      refine lc_list (K := K) (a := D) (xs := [V.ref p0, V.ref p1, V.ref p2]) (fun i H4 => Kq T.t_are_signs T.t_first_of q2 H3 H4 ∧ ∃ bs : List Addr, bs.length = i ∧ i ≤ 3 ∧ H4 D3 = some (.lst (bs.map V.ref)) ∧
          ∀ j b, bs[j]? = some b → ∃ u : List Int, H3 b = some (.lst (u.map V.int)) ∧ IsFirst (plainL z o hm c r (j : Nat) ++ shiftL z o hm c r) u ∧ H b = none)
        ⟨Kq.same tw3 (same_new nD3), [], rfl, by decide, upd_same, fun j b e => by simp at e⟩ (fun i H4 _ p => SqL.of (p.1.lst tw3 eD3)) (fun i x H4 hx p => ?_) (fun H4 p => ?_)
      · obtain ⟨k, bs, hbl, hi3, e3, hbs⟩ := p
        obtain ⟨p, as, rfl, hi, ep, rp, np⟩ : ∃ p as, x = .ref p ∧ i < 3 ∧ H' p = some (.lst (as.map V.ref)) ∧ Rows H' as (plainL z o hm c r (i : Nat)) ∧ ∀ a ∈ as, H a = none := by
          match i, hx with
          | 0, hx => exact ⟨p0, as0, (Option.some.inj hx).symm, by decide, e0, r0, fun a ha => (n0 a ha).1⟩
          | 1, hx => exact ⟨p1, as1, (Option.some.inj hx).symm, by decide, e1, r1, fun a ha => (n1 a ha).1⟩
          | 2, hx => exact ⟨p2, as2, (Option.some.inj hx).symm, by decide, e2, r2, fun a ha => (n2 a ha).1⟩
          | i + 3, hx => simp at hx
        have pl := (plain_len (z := z) (o := o) (hm := hm) (c := c) sr ((i : Nat) : Int))
        have rp3 := rp.same sm3
        have rall := rp3.app rows2
        have e10 := rp.len
        have e11 := rows2.len
        refine ⟨rfl, lc_yes ?_⟩
        refine ⟨.ref p, rfl, .ref D2, rfl, p, D2, _, _, rfl, rfl, k.lst tw3 (sm3 _ _ ep), k.lst tw3 eD2, by
          rw [List.length_map, List.length_map]
          exact Nat.le_of_lt (small1000 (by omega)), fun p4 np4 => ?_⟩
        have s4 := same_new (o := HO.lst (as.map V.ref ++ bs2.map V.ref)) np4
        have k4 := k.trans (Kq.same k.tw s4)
        refine ⟨p4, as ++ bs2, plainL z o hm c r (i : Nat) ++ shiftL z o hm c r, rfl, by rw [upd_same, List.map_append], rall.mono fun a u e => k4.lst tw3 e, fun e => shift_ne ins (List.append_eq_nil_iff.mp e).2, fun u hu => ?_, k4.tw.t2, fun a u H5 bt t2 ha ea first => ?_⟩
        · rcases List.mem_append.mp hu with m | m
          · have := pl.2 u m; omega
          · have := sl.2 u m; omega
        · have k5 := Kq.but ne k4.tw bt t2
          have k6 := k4.trans k5
          have e5 : H5 D3 = some (.lst (bs.map V.ref)) := k5.lst k4.tw (s4 _ _ e3)
          refine ⟨bs.map V.ref, e5, by rw [List.length_map, hbl]; exact small1000 (by omega), k6.upd nD3 e5, bs ++ [a], by rw [List.length_append, hbl]; rfl, hi, by rw [upd_same, List.map_append]; rfl, fun j b e => ?_⟩
          rcases Nat.lt_or_ge j bs.length with hj | hj
          · rw [List.getElem?_append_left hj] at e
            exact hbs j b e
          · rw [List.getElem?_append_right hj] at e
            have hj0 : j - bs.length = 0 := by
              have := (List.getElem?_eq_some_iff.mp e).1
              simp at this; omega
            rw [hj0] at e
            obtain rfl : a = b := by simpa using e
            obtain rfl : j = i := by omega
            obtain ⟨n, hn, en⟩ := List.mem_iff_getElem.mp ha
            obtain ⟨u', hu', eu'⟩ := rall.get (i := n) (a := a) (by rw [List.getElem?_eq_getElem hn, en])
            have e12 : HO.lst (u'.map V.int) = HO.lst (u.map V.int) := Option.some.inj ((k4.lst tw3 eu').symm.trans ea)
            refine ⟨u, by rw [eu', e12], first, ?_⟩
            rcases List.mem_append.mp ha with m | m
            · exact np a m
            · exact sm2.free (nbs2 a m).1
      · obtain ⟨k, bs, hbl, _, e3, hbs⟩ := p
        obtain ⟨b0, b1, b2, rfl⟩ : ∃ b0 b1 b2, bs = [b0, b1, b2] := by
          match bs, hbl with
          | [b0, b1, b2], _ => exact ⟨b0, b1, b2, rfl⟩
        obtain ⟨u0, x0, y0, w0⟩ := hbs 0 b0 rfl
        obtain ⟨u1, x1, y1, w1⟩ := hbs 1 b1 rfl
        obtain ⟨u2, x2, y2, w2⟩ := hbs 2 b2 rfl
        refine q D3 b0 b1 b2 ⟨u0, u1, u2⟩ H4 ((Kq.same tw sm').trans k) w0 w1 w2 ⟨e3, k.lst tw3 x0, k.lst tw3 x1, k.lst tw3 x2⟩ ?_
        rintro b (rfl | rfl | rfl)
        · exact y0
        · exact y1
        · exact y2
theorem ok_check_begun (T : Txt K mg) (TB : GxR.TabB base mg T.c_are_signs T.t_are_signs) : FnOk P w K mg base CX0 4 T.d_check_begun.f T.d_check_begun.fd ["sheet", "tape", "begin"] (spBegun3 K T.t_are_signs) := by
  refine T.d_check_begun.F.ok sc_check_begun (fun vs H Q E h => ?_) (fun cdv A outer s H vs Q E hr h => ?_)
  · obtain ⟨t, a, z, o, hm, cs, b, rfl, _⟩ := h
    rfl
  · obtain ⟨t, a, z, o, hm, cs, b, rfl, gd, sh, hS, hc, hl, hb, tb, q⟩ := h
    refine ⟨_, (pss_cons (ps_expr (pe_call (ok_check_sheet T TB) (hr.mono (by decide)) (by rfl) T.d_check_sheet.g T.d_check_sheet.F.kp T.d_check_sheet.b .nil pass0 (pa_cons (pv 0) pa_nil)))
  (pss_cons (ps_expr (pe_call (ok_check_tape T) (hr.mono (by decide)) (by rfl) T.d_check_tape.g T.d_check_tape.F.kp T.d_check_tape.b .nil pass0 (pa_cons (pv 0) (pa_cons (pv 1) pa_nil))))
  (pss_one (ps_expr (pe_call (ok_check_set T) (hr.mono (by decide)) (by rfl) T.d_check_set.g T.d_check_set.F.kp T.d_check_set.b .nil pass0 (pa_cons (pv 2) pa_nil)))))), ?_⟩
    refine ⟨.ref t, rfl, t, z, o, hm, rfl, gd, sh, tb, fun H1 k1 => ?_⟩
    refine ⟨.ref t, rfl, .ref a, rfl, t, a, z, o, hm, cs, rfl, gd, k1.get tb sh fun _ e => (nomatch e), k1.seqL tb hS, hc, hl, fun H2 s2 => ?_⟩
    exact ⟨.int b, rfl, b, rfl, hb, q H2 (k1.trans (Kp.same k1.tab s2))⟩
set_option maxHeartbeats 1000000 in
theorem ok_with_sign_guarding (T : Txt K mg) : FnOk P w K mg base CX0 4 T.d_with_sign_guarding.f T.d_with_sign_guarding.fd ["sheet", "sign", "most", "rests"] spGwith := by
  refine T.d_with_sign_guarding.F.ok sc_with_sign_guarding (fun vs H Q E h => ?_) (fun cdv A outer s H vs Q E hr h => ?_)
  · obtain ⟨t, z, o, hm, c, most, rs, R, H0, rfl, _⟩ := h
    rfl
  · obtain ⟨t, z, o, hm, c, most, rs, R, H0, rfl, gd, sh, hin, m0, m1, gr, sr, q⟩ := h
    refine ⟨_, (pss_cons (ps_set (i := 4) sc_with_sign_guarding.nd rfl (.inl rfl) (pe_lst pa_nil))
  (pss_cons (ps_for PassesOwn.never rfl (pi_tup (pe_tup (pa_cons pe_int (pa_cons pe_int pa_nil)))) (pg_name (i := 5) sc_with_sign_guarding.nd rfl (.inr rfl))
  (pss_cons (ps_set (i := 6) sc_with_sign_guarding.nd rfl (.inr rfl) (pe_call (ok_with_shifts T) (hr.mono (by decide)) (by rfl) T.d_with_shifts.g T.d_with_shifts.F.kp T.d_with_shifts.b .nil pass0 (pa_cons (pv 0) (pa_cons (pv 1) (pa_cons (pv 5) (pa_cons (pv 2) (pa_cons (pv 3) pa_nil)))))))
  (pss_cons (ps_setLc (i := 7) (own := [("spare", 8)]) (g := gName 8) (tt := tYes) (te := _) rfl sc_with_sign_guarding.nd rfl rfl (sw_true rfl rfl rfl (by decide +kernel)) (pi_range1 (by rfl) T.n_range (pa_cons (pe_op op_add (pe_glob (v := .int 32) (by rfl) T.c_SAFE.choose_spec ⟨_, rfl⟩) pe_int) pa_nil)) (blkOk_by (own := [("spare", 8)]) (N := ["sheet", "sign", "most", "rests", "tapes", "now", "shifted", "plain", "spare", "some"]) (sc := defScope s_with_sign_guarding) (by decide +kernel)) (by exact fun _ _ _ _ _ => pg_name (i := 8) sc_with_sign_guarding.nd rfl (Or.inl rfl)) (by exact fun _ _ _ _ _ => pts_nil) (by exact fun _ _ _ _ _ => (pe_call (ok_with_code T) (hr.mono (by decide)) (by rfl) T.d_with_code.g T.d_with_code.F.kp T.d_with_code.b .nil pass0 (pa_cons (pv 0) (pa_cons (pv 1) (pa_cons (pv 5) (pa_cons (pv 8) (pa_cons (pv 3) pa_nil))))))))
  (pss_one (ps_expr (pe_bm PySem.F.plainAttrs_list PySem.F.slot_list_append PySem.F.type_list_append mt_append (pv 4) (pa_cons (pe_lc (own := [("some", 9)]) (g := gName 9) (tt := tYes) (te := (Kt.tMinL K _)) rfl sc_with_sign_guarding.nd (pi_list (pv 7)) (blkOk_by (own := [("some", 9)]) (N := ["sheet", "sign", "most", "rests", "tapes", "now", "shifted", "plain", "spare", "some"]) (sc := defScope s_with_sign_guarding) (by decide +kernel)) (by exact fun _ _ _ _ _ => pg_name (i := 9) sc_with_sign_guarding.nd rfl (Or.inl rfl)) (by exact fun _ _ _ _ _ => pts_nil) (by exact fun _ _ _ _ _ => (Kt.pe_minLen rfl (by rfl) T.n_min (by rfl) T.n_len (pe_op op_cat (pv 9) (pv 6))))) pa_nil)))))))
  (pss_one (ps_ret (pv 4))))), ?_⟩
    refine ⟨Nat.zero_le _, fun T' nT => ?_⟩
    have s0 := same_new (o := HO.lst []) nT
    refine ⟨by show 2 ≤ sizeLine; decide, fun p np => ⟨p, rfl, ⟨_, SqT.of upd_same⟩, ?_⟩⟩
    have npT : p ≠ T' := fun e => by rw [e, upd_same] at np; cases np
    refine for_tup (K := K) (a := p) (xs := [V.int 0, V.int 1]) (fun i σ H' => Same H H' ∧ H' p = some (.tup [V.int 0, V.int 1]) ∧ ∃ (rws : List Addr) (y5 y6 y7 : Option V), rws.length = i ∧ i ≤ 2 ∧ H' T' = some (.lst (rws.map V.ref)) ∧
        (∀ j a, rws[j]? = some a → a ≠ T' ∧ ∃ bs : List Addr, H' a = some (.lst (bs.map V.ref)) ∧ Tps H' bs (row33 (stepR z o hm c most R) (j : Nat)) ∧ ∀ d ∈ bs, H d = none ∧ d ≠ T') ∧
        σ = [some (.ref t), some (.str (sg c)), some (.int most), some (.ref rs), some (.ref T'), y5, y6, y7, none, none])
      ⟨s0.trans (same_new np), upd_same, [], none, none, none, rfl, by decide, same_new np _ _ upd_same, fun j a e => by simp at e, rfl⟩ (fun i σ H' _ p => SqT.of p.2.1) (fun i x σ H' hx p => ?_) (fun σ H' p => ?_)
    · obtain ⟨sm, ep, rws, y5, y6, y7, rl, i2, eT, hrw, rfl⟩ := p
      obtain ⟨rfl, hi, h01⟩ : x = .int (i : Nat) ∧ i < 2 ∧ Is01 (i : Nat) := by
        match i, hx with
        | 0, hx => exact ⟨(Option.some.inj hx).symm, by decide, .inl rfl⟩
        | 1, hx => exact ⟨(Option.some.inj hx).symm, by decide, .inr rfl⟩
        | i + 2, hx => simp at hx
      generalize hnow : ((i : Nat) : Int) = now at h01
      refine ⟨.ref t, rfl, .str (sg c), rfl, .int now, rfl, .int most, rfl, .ref rs, rfl, t, z, o, hm, c, now, most, rs, R, H0, rfl, gd, sm _ _ sh, h01, m0, m1, gr.mono (fun a us e => sm _ _ e), sr, fun p1 as1 H1 s1 n1 e1 t1 f1 => ?_⟩
      have sm1 := sm.trans s1
      -- plain
      refine ⟨_, 1, rfl, rfl, _, rfl, by decide, by decide, fun D nD => ?_⟩
      refine lc_range (lo := 0) (n := ((32 : Int) + 1).toNat) (fun j H2 => Same H1 H2 ∧ j ≤ 33 ∧ ∃ ps : List Addr, ps.length = j ∧ H2 D = some (.lst (ps.map V.ref)) ∧ ∀ k p, ps[k]? = some p → p ≠ D ∧ ∃ as : List Addr, H2 p = some (.lst (as.map V.ref)) ∧ Tps H2 as (wcL z o hm c now (k : Nat) R) ∧ ∀ a ∈ as, H1 a = none ∧ a ≠ D)
        ⟨sameD (Same.refl _) nD, by decide, [], rfl, upd_same, fun k p e => by simp at e⟩ (fun j H2 hj p => ?_) (fun H2 p => ?_)
      · obtain ⟨s2, _, ps, pl, eD, hp⟩ := p
        have hj : j < 33 := hj
        refine ⟨rfl, lc_yes ?_⟩
        have smj := sm1.trans s2
        refine ⟨.ref t, rfl, .str (sg c), rfl, .int now, rfl, .int (0 + (j : Int)), rfl, .ref rs, rfl, t, z, o, hm, c, now, (j : Nat), rs, R, H0, by rw [Int.zero_add]; rfl, gd, smj _ _ sh, h01, by omega, by omega, gr.mono (fun a us e => smj _ _ e), sr, fun p3 as3 H3 s3 n3 e3 t3 f3 => ?_⟩
        have npD : p3 ≠ D := fun e => by rw [e, eD] at n3; cases n3
        refine ⟨ps.map V.ref, s3 _ _ eD, by rw [List.length_map, pl]; exact small1000 (by omega), sameD (s2.trans s3) nD, hj, ps ++ [p3], by rw [List.length_append, pl]; rfl, by rw [upd_same, List.map_append]; rfl, fun k p' e => ?_⟩
        rcases Nat.lt_or_ge k ps.length with hk | hk
        · rw [List.getElem?_append_left hk] at e
          obtain ⟨g1, as, g2, g3, g4⟩ := hp k p' e
          exact ⟨g1, as, by rw [upd_ne g1]; exact s3 _ _ g2, (g3.mono fun a us e => s3 _ _ e).upd fun a ha => (g4 a ha).2, g4⟩
        · rw [List.getElem?_append_right hk] at e
          have hk0 : k - ps.length = 0 := by
            have := (List.getElem?_eq_some_iff.mp e).1
            simp at this; omega
          rw [hk0] at e
          obtain rfl : p3 = p' := by simpa using e
          obtain rfl : k = j := by omega
          refine ⟨npD, as3, by rw [upd_ne npD]; exact e3, t3.upd fun a ha e' => ?_, fun a ha => ⟨s2.free (f3 a ha), fun e' => ?_⟩⟩
          · have := f3 a ha
            rw [e', eD] at this; cases this
          · have := f3 a ha
            rw [e', eD] at this; cases this
      · obtain ⟨s2, _, ps, pl, eD, hp⟩ := p
        have pl : ps.length = 33 := pl
        have sm2 := sm1.trans s2
        have eT2 := s2 _ _ (s1 _ _ eT)
        have e12 := s2 _ _ e1
        have t12 := t1.mono fun a us e => s2 _ _ e
        refine ⟨.ref T', rfl, .inl ⟨rfl, _, SqL.of eT2⟩, .ref D, rfl, D, rfl, ⟨_, SqL.of eD⟩, fun D2 nD2 => ?_⟩
        refine lc_list (K := K) (a := D) (xs := ps.map V.ref) (fun k H3 => Same H2 H3 ∧ k ≤ 33 ∧ ∃ ds : List Addr, ds.length = k ∧ H3 D2 = some (.lst (ds.map V.ref)) ∧ Tps H3 ds ((List.range k).map fun (j : Nat) => stepR z o hm c most R now (j : Int)) ∧ ∀ d ∈ ds, H d = none ∧ d ≠ T' ∧ d ≠ D2)
          ⟨sameD (Same.refl _) nD2, by decide, [], rfl, upd_same, True.intro, fun d h => nomatch h⟩ (fun k H3 _ p => SqL.of (p.1 _ _ eD)) (fun k v H3 hx p => ?_) (fun H3 p => ?_)
        · obtain ⟨s3, _, ds, dl, eD2, td, nd'⟩ := p
          obtain ⟨pk, hpk, rfl⟩ := at_map hx
          have hk := (List.getElem?_eq_some_iff.mp hpk).1
          obtain ⟨g1, as, g2, g3, g4⟩ := hp k pk hpk
          have wl := wcL_len (z := z) (o := o) (hm := hm) (c := c) (now := now) (sp := (k : Int)) sr
          have sl := wsL_len (z := z) (o := o) (hm := hm) (c := c) (now := now) (most := most) sr
          have al := g3.len
          have al1 := t1.len
          have g23 := s3 _ _ g2
          have e13 := s3 _ _ e12
          refine ⟨rfl, lc_yes ?_⟩
          refine ⟨.ref pk, rfl, .ref p1, rfl, pk, p1, _, _, rfl, rfl, g23, e13, by rw [List.length_map, List.length_map]; exact Nat.le_of_lt (small1000 (by omega)), fun q1 nq1 => ?_⟩
          have u1 := same_new (o := HO.lst (as.map V.ref ++ as1.map V.ref)) nq1
          have tps : Tps (upd H3 q1 (HO.lst (as.map V.ref ++ as1.map V.ref))) (as ++ as1) (wcL z o hm c now (k : Nat) R ++ wsL z o hm c now most R) := ((g3.mono fun a us e => u1 _ _ (s3 _ _ e)).app (t12.mono fun a us e => u1 _ _ (s3 _ _ e)))
          have ne := wsL_ne (z := z) (o := o) (hm := hm) (c := c) (now := now) (most := most) (R := R) h01 hin
          have Lne : wcL z o hm c now (k : Nat) R ++ wsL z o hm c now most R ≠ [] := fun e => ne (List.append_eq_nil_iff.mp e).2
          have all : ∀ u ∈ wcL z o hm c now (k : Nat) R ++ wsL z o hm c now most R, u.length ≤ 503 := fun u hu => by
            rcases List.mem_append.mp hu with m | m
            · have := wl.2 u m; omega
            · have := sl.2 u m; omega
          generalize hLL : wcL z o hm c now (k : Nat) R ++ wsL z o hm c now most R = LL at tps Lne all
          have tl := tps.len
          have gd' : ∀ i a, (as ++ as1)[i]? = some a → upd H3 q1 (HO.lst (as.map V.ref ++ as1.map V.ref)) a = some (.lst ((LL.getD i []).map V.int)) ∧ LL.getD i [] ∈ LL := fun i a ha => by
            obtain ⟨u, h1, h2⟩ := tps.get ha
            have h3 : LL.getD i [] = u := by rw [List.getD_eq_getElem?_getD, h1]; rfl
            rw [h3]
            exact ⟨h2, List.mem_of_getElem? h1⟩
          refine ⟨q1, as ++ as1, fun i => LL.getD i [], rfl, SqL.of (by rw [upd_same, List.map_append]), by rw [tl]; exact List.length_pos_iff.mpr Lne, fun i a ha => ⟨SqL.of (gd' i a ha).1, Nat.le_trans (all _ (gd' i a ha).2) (by decide)⟩, fun a ha => ?_⟩
          have ga := (gd' _ a ha).1
          have na : H a = none ∧ a ≠ T' := by
            rcases List.mem_append.mp (List.mem_of_getElem? ha) with m | m
            · have x1 := (g4 a m).1
              exact ⟨sm1.free x1, fun e => by rw [e, s1 _ _ eT] at x1; cases x1⟩
            · have x1 := f1 a m
              exact ⟨sm.free x1, fun e => by rw [e, eT] at x1; cases x1⟩
          have naD : a ≠ D2 := fun e => by
            have x := u1 _ _ eD2
            rw [← e, ga] at x
            have hmem : a ∈ as ++ as1 := List.mem_of_getElem? ha
            have x2 : H2 a ≠ none := by
              rcases List.mem_append.mp hmem with m | m
              · obtain ⟨n, hn, en⟩ := List.mem_iff_getElem.mp m
                obtain ⟨u', hu', eu'⟩ := g3.get (i := n) (a := a) (by rw [List.getElem?_eq_getElem hn, en])
                rw [eu']; exact fun h => nomatch h
              · obtain ⟨n, hn, en⟩ := List.mem_iff_getElem.mp m
                obtain ⟨u', hu', eu'⟩ := t12.get (i := n) (a := a) (by rw [List.getElem?_eq_getElem hn, en])
                rw [eu']; exact fun h => nomatch h
            rw [e] at x2
            exact x2 nD2
          have eD23 := u1 _ _ eD2
          refine ⟨ds.map V.ref, eD23, by rw [List.length_map, dl]; exact small1000 (by omega), sameD (s3.trans u1) nD2, by omega, ds ++ [a], by rw [List.length_append, dl]; rfl, by rw [upd_same, List.map_append]; rfl, ?_, fun d hd => ?_⟩
          · rw [List.range_succ, List.map_append]
            refine Tps.app ((td.mono fun a us e => u1 _ _ e).upd fun b hb => (nd' b hb).2.2) ⟨?_, True.intro⟩
            rw [upd_ne naD, ga, tl]
            show _ = some (HO.lst ((minL (wcL z o hm c now (k : Nat) R ++ wsL z o hm c now most R)).map V.int))
            rw [hLL]; rfl
          · rcases List.mem_append.mp hd with m | m
            · exact nd' d m
            · rw [List.mem_singleton.mp m]; exact ⟨na.1, na.2, naD⟩
        · obtain ⟨s3, _, ds, dl, eD2, td, nd'⟩ := p
          rw [List.length_map, pl] at dl td
          have eT3 := s3 _ _ eT2
          have smF := sm2.trans s3
          have nTD : D2 ≠ T' := fun e => by rw [e, eT2] at nD2; cases nD2
          refine ⟨T', _, _, rfl, rfl, eT3, by rw [List.length_map, rl]; exact small1000 (by omega), sameD smF nT, by rw [upd_ne npT]; exact s3 _ _ (s2 _ _ (s1 _ _ ep)), rws ++ [D2], _, _, _, by rw [List.length_append, rl]; rfl, hi, by rw [upd_same, List.map_append]; rfl, fun j a e => ?_, by rw [← hnow]; rfl⟩
          rcases Nat.lt_or_ge j rws.length with hk | hk
          · rw [List.getElem?_append_left hk] at e
            obtain ⟨g1, bs, g2, g3, g4⟩ := hrw j a e
            have go : ∀ c us, H' c = some (HO.lst us) → H3 c = some (HO.lst us) := fun c us e => s3 _ _ (s2 _ _ (s1 _ _ e))
            exact ⟨g1, bs, by rw [upd_ne g1]; exact go _ _ g2, (g3.mono go).upd fun a ha => (g4 a ha).2, g4⟩
          · rw [List.getElem?_append_right hk] at e
            have hk0 : j - rws.length = 0 := by
              have := (List.getElem?_eq_some_iff.mp e).1
              simp at this; omega
            rw [hk0] at e
            obtain rfl : D2 = a := by simpa using e
            obtain rfl : j = i := by omega
            rw [hnow]
            exact ⟨nTD, ds, by rw [upd_ne nTD]; exact eD2, td.upd fun a ha => (nd' a ha).2.1, fun d hd => ⟨(nd' d hd).1, (nd' d hd).2.1⟩⟩
    · obtain ⟨sm, ep, rws, y5, y6, y7, rl, i2, eT, hrw, rfl⟩ := p
      obtain ⟨r0, r1, rfl⟩ : ∃ r0 r1, rws = [r0, r1] := by
        match rws, rl with
        | [r0, r1], _ => exact ⟨r0, r1, rfl⟩
      obtain ⟨_, b0, x1, x2, x3⟩ := hrw 0 r0 rfl
      obtain ⟨_, b1, w1, w2, w3⟩ := hrw 1 r1 rfl
      exact ⟨.ref T', rfl, q T' H' sm nT ⟨r0, r1, b0, b1, eT, x1, w1, x2, w2, fun a ha => (x3 a ha).1, fun a ha => (w3 a ha).1⟩⟩
theorem ok_joined (T : Txt K mg) (TB : GxR.TabB base mg T.c_are_signs T.t_are_signs) : FnOk P w K mg base CX0 4 T.d_joined.f T.d_joined.fd ["sheet", "tapes", "begin"] (spJoined K T.t_are_signs) := by
  refine T.d_joined.F.ok sc_joined (fun vs H Q E h => ?_) (fun cdv A outer s H vs Q E hr h => ?_)
  · obtain ⟨t, l, z, o, hm, as, L, bg, rfl, _⟩ := h
    rfl
  · obtain ⟨t, l, z, o, hm, as, L, bg, rfl, gd, sh, hl, tps, hL, hn, hb, tb, q⟩ := h
    refine ⟨_, (pss_cons (ps_expr (pe_call (ok_check_sheet T TB) (hr.mono (by decide)) (by rfl) T.d_check_sheet.g T.d_check_sheet.F.kp T.d_check_sheet.b .nil pass0 (pa_cons (pv 0) pa_nil)))
  (pss_cons (ps_for PassesOwn.never rfl (pi_list (pv 1)) (pg_name (i := 3) sc_joined.nd rfl (.inl rfl))
  (pss_one (ps_expr (pe_call (ok_check_tape T) (hr.mono (by decide)) (by rfl) T.d_check_tape.g T.d_check_tape.F.kp T.d_check_tape.b .nil pass0 (pa_cons (pv 0) (pa_cons (pv 3) pa_nil))))))
  (pss_cons (ps_expr (pe_call (ok_check_set T) (hr.mono (by decide)) (by rfl) T.d_check_set.g T.d_check_set.F.kp T.d_check_set.b .nil pass0 (pa_cons (pv 2) pa_nil)))
  (pss_cons (ps_set (i := 4) sc_joined.nd rfl (.inl rfl) (pe_lst pa_nil))
  (pss_cons (ps_set (i := 5) sc_joined.nd rfl (.inl rfl) (pv 2))
  (pss_cons (ps_for PassesOwn.never rfl (pi_list (pv 1)) (pg_name (i := 3) sc_joined.nd rfl (.inl rfl))
  (pss_cons (ps_set (i := 6) sc_joined.nd rfl (.inl rfl) (pe_op op_cat (pe_call (ok_shift_ahead T) (hr.mono (by decide)) (by rfl) T.d_shift_ahead.g T.d_shift_ahead.F.kp T.d_shift_ahead.b .nil pass0 (pa_cons (pv 0) (pa_cons (pv 3) (pa_cons (pv 5) (pa_cons (pv 2) pa_nil))))) (pv 3)))
  (pss_cons (ps_asg (pe_call (ok_walked T) (hr.mono (by decide)) (by rfl) T.d_walked.g T.d_walked.F.kp T.d_walked.b .nil pass0 (pa_cons (pv 0) (pa_cons (pv 6) (pa_cons (pv 5) pa_nil)))) (pg_tup rfl (pgs_cons (pg_name (i := 7) sc_joined.nd rfl (.inl rfl)) (pgs_cons (pg_name (i := 5) sc_joined.nd rfl (.inl rfl)) pgs_nil))))
  (pss_one (ps_expr (pe_bm PySem.F.plainAttrs_list PySem.F.slot_list_extend PySem.F.type_list_extend mt_extend (pv 4) (pa_cons (pv 6) pa_nil)))))))
  (pss_one (ps_ret (pv 4))))))))), ?_⟩
    have al := tps.len
    refine ⟨.ref t, rfl, t, z, o, hm, rfl, gd, sh, tb, fun H1 k1 => ?_⟩
    have sh1 : Sh H1 t z o hm := k1.get tb sh fun _ e => (nomatch e)
    have hl1 : H1 l = some (.lst (as.map V.ref)) := k1.get tb hl fun _ e => (nomatch e)
    have tps1 : Tps H1 as L := tps.mono fun a us e => k1.get tb e fun _ e => (nomatch e)
    -- the checks
    refine ⟨.ref l, rfl, l, rfl, ⟨_, SqL.of hl1⟩, for_list (K := K) (a := l) (xs := as.map V.ref) (fun i σ H' => Same H1 H' ∧ ∃ y3 : Option V, σ = [some (.ref t), some (.ref l), some (.int bg), y3, none, none, none, none]) ⟨Same.refl _, none, rfl⟩ (fun i σ H' _ p => SqL.of (p.1 _ _ hl1)) (fun i x σ H' hx p => ?_) (fun σ H' p => ?_)⟩
    · obtain ⟨sm, y3, rfl⟩ := p
      obtain ⟨a, ha, rfl⟩ := at_map hx
      obtain ⟨u, hu, eu⟩ := tps1.get ha
      have hLu := hL u (List.mem_of_getElem? hu)
      refine ⟨.ref t, rfl, .ref a, rfl, t, a, z, o, hm, u, rfl, gd, sm _ _ sh1, SqL.of (sm _ _ eu), hLu.1, hLu.2, fun H2 s2 => ?_⟩
      exact ⟨sm.trans s2, _, rfl⟩
    · obtain ⟨sm, y3, rfl⟩ := p
      refine ⟨.int bg, rfl, bg, rfl, hb, ?_⟩
      have k2 := k1.trans (Kp.same k1.tab sm)
      refine ⟨Nat.zero_le _, fun W nW => ?_⟩
      have s3 := same_new (o := HO.lst []) nW
      have nWH : H W = none := k2.new tb nW
      have sb := sm.trans s3
      have sh2 : Sh H' t z o hm := sm _ _ sh1
      have hl2 := sm _ _ hl1
      have tps2 : Tps H' as L := tps1.mono fun a us e => sm _ _ e
      refine ⟨.int bg, rfl, ?_⟩
      refine ⟨.ref l, rfl, l, rfl, ⟨_, SqL.of (s3 _ _ hl2)⟩, for_list (K := K) (a := l) (xs := as.map V.ref) (fun i σ H2 => Same H' H2 ∧ i ≤ L.length ∧ H2 W = some (.lst ((jns z o hm bg (L.take i)).1.map V.int)) ∧ ∃ y3 y6 y7 : Option V, σ = [some (.ref t), some (.ref l), some (.int bg), y3, some (.ref W), some (.int (jns z o hm bg (L.take i)).2), y6, y7])
        ⟨s3, Nat.zero_le _, by rw [List.take_zero]; exact upd_same, _, _, _, by rw [List.take_zero]; rfl⟩ (fun i σ H2 _ p => SqL.of (p.1 _ _ hl2)) (fun i x σ H2 hx p => ?_) (fun σ H2 p => ?_)⟩
      · obtain ⟨s2, _, eW, y3, y6, y7, rfl⟩ := p
        obtain ⟨a, ha, rfl⟩ := at_map hx
        obtain ⟨u, hu, eu⟩ := tps2.get ha
        have hLu := hL u (List.mem_of_getElem? hu)
        have hil := (List.getElem?_eq_some_iff.mp hu).1
        have hT : ∀ cs ∈ L.take i, Codes z.cps.size cs := fun cs h => (hL cs (List.mem_of_mem_take h)).1
        have jc := jns_codes (o := o) (hm := hm) hb hT
        have jl : (jns z o hm bg (L.take i)).1.length ≤ 300 * 101 := Nat.le_trans (jns_len (m := 100) fun cs h => (hL cs (List.mem_of_mem_take h)).2) (Nat.mul_le_mul_right _ (by rw [List.length_take]; omega))
        have st : jns z o hm bg (L.take (i + 1)) = jstep z o hm bg (jns z o hm bg (L.take i)) u := by
          rw [List.take_add_one, hu]; exact jns_snoc ..
        generalize jns z o hm bg (L.take i) = s at eW jc jl st
        obtain ⟨w1, now⟩ := s
        have al1 := ahd_len z o hm u now bg
        have pc : Codes z.cps.size (jpart z o hm bg now u) := ahd_codes hb hLu.1
        have pl : (jpart z o hm bg now u).length ≤ 101 := by
          unfold jpart; rw [List.length_append]; omega
        refine ⟨.ref t, rfl, .ref a, rfl, .int now, rfl, .int bg, rfl, t, a, z, o, hm, u, now, bg, rfl, gd, s2 _ _ sh2, SqL.of (s2 _ _ eu), hLu.1, by omega, jc.2, hb, fun p1 H3 s4 n4 e4 => ?_⟩
        refine ⟨.ref a, rfl, p1, a, _, _, rfl, rfl, e4, s4 _ _ (s2 _ _ eu), by rw [List.length_map, List.length_map]; exact Nat.le_of_lt (small1000 (by omega)), fun p2 n5 => ?_⟩
        have s5 := s4.trans (same_new (o := HO.lst ((ahd z o hm u now bg).map V.int ++ u.map V.int)) n5)
        have e5 : L2.upd H3 p2 (HO.lst ((ahd z o hm u now bg).map V.int ++ u.map V.int)) p2 = some (.lst ((jpart z o hm bg now u).map V.int)) := by
          rw [upd_same]; unfold jpart; rw [List.map_append]
        refine ⟨.ref t, rfl, .ref p2, rfl, .int now, rfl, t, p2, z, o, hm, jpart z o hm bg now u, now, rfl, gd, s5 _ _ (s2 _ _ sh2), SqL.of e5, pc, by omega, jc.2, fun p3 H4 s6 n6 e6 => ?_⟩
        refine ⟨p3, _, rfl, SqT.of e6, rfl, _, _, rfl, _, _, rfl, rfl, ?_⟩
        have s7 := s5.trans s6
        refine ⟨.ref W, rfl, .inl ⟨rfl, _, SqL.of (s7 _ _ eW)⟩, .ref p2, rfl, W, p2, _, _, rfl, rfl, s7 _ _ eW, s6 _ _ e5, ?_, sameD (s2.trans s7) nW, hil, ?_, some (.ref a), some (.ref p2), some (.str (rd z o hm (jpart z o hm bg now u) now).1), ?_⟩
        · rw [List.length_map, List.length_map]
          exact Nat.le_trans (Nat.add_le_add jl pl) (by decide)
        · rw [upd_same, st]
          unfold jstep
          rw [List.map_append]
        · rw [st]; rfl
      · obtain ⟨s2, _, eW, y3, y6, y7, rfl⟩ := p
        rw [List.length_map, al, List.take_length] at eW
        exact ⟨.ref W, rfl, q W H2 (k2.trans (Kp.same k2.tab s2)) nWH eW⟩
theorem ok_best_tapes (T : Txt K mg) (TB : GxR.TabB base mg T.c_are_signs T.t_are_signs) (TB2 : LamX.TabB base mg T.c_first_of T.t_first_of) (ne : T.t_are_signs ≠ T.t_first_of) : FnOk P w K mg base CX0 4 T.d_best_tapes.f T.d_best_tapes.fd ["sheet", "text"] (spBestTapes T.t_are_signs T.t_first_of q2) := by
  refine T.d_best_tapes.F.ok sc_best_tapes (fun vs H Q E h => ?_) (fun cdv A outer s H vs Q E hr h => ?_)
  · obtain ⟨t, z, o, hm, x, rfl, _⟩ := h
    rfl
  · obtain ⟨t, z, o, hm, x, rfl, gd, sh, hx, hin, tw, q⟩ := h
    refine ⟨_, (pss_cons (ps_set (i := 2) sc_best_tapes.nd rfl (.inl rfl) (pe_lst (pa_cons (pe_lst pa_nil) (pa_cons (pe_lst pa_nil) (pa_cons (pe_lst pa_nil) pa_nil)))))
  (pss_cons (ps_for PassesOwn.never rfl (Kt.pi_revS (by rfl) T.n_reversed (pv 1)) (pg_name (i := 3) sc_best_tapes.nd rfl (.inl rfl))
  (pss_one (ps_set (i := 2) sc_best_tapes.nd rfl (.inl rfl) (pe_call (ok_with_sign_shortest T TB TB2 ne) (hr.mono (by decide)) (by rfl) T.d_with_sign_shortest.g T.d_with_sign_shortest.F.kp T.d_with_sign_shortest.b .nil pass0 (pa_cons (pv 0) (pa_cons (pv 3) (pa_cons (pv 2) pa_nil)))))))
  (pss_one (ps_ret (pv 2))))), ?_⟩
    refine ⟨Nat.zero_le _, fun a0 n0 => ⟨Nat.zero_le _, fun a1 n1 => ⟨Nat.zero_le _, fun a2 n2 => ⟨by show 3 ≤ sizeLine; decide, fun rs nrs => ?_⟩⟩⟩⟩
    have s0 := same_new (o := HO.lst []) n0
    have s1 := same_new (o := HO.lst []) n1
    have s2 := same_new (o := HO.lst []) n2
    have s3 := same_new (o := HO.lst [V.ref a0, V.ref a1, V.ref a2]) nrs
    have m1 := s0.free n1
    have m2 := s0.free (s1.free n2)
    have sA := s0.trans (s1.trans (s2.trans s3))
    have th : Three _ rs a0 a1 a2 ⟨[], [], []⟩ := ⟨upd_same, s3 _ _ (s2 _ _ (s1 _ _ upd_same)), s3 _ _ (s2 _ _ upd_same), s3 _ _ upd_same⟩
    refine ⟨.str x, rfl, x, rfl, Nat.le_trans hx (by decide), ?_⟩
    refine ⟨fun i m σ H' => m = x.cps.size - i ∧ i ≤ x.cps.size ∧ Kq T.t_are_signs T.t_first_of q2 H H' ∧ ∃ rs a0 a1 a2 R, ∃ y : Option V, H a0 = none ∧ H a1 = none ∧ H a2 = none ∧ Three H' rs a0 a1 a2 R ∧ Tells z o hm (x.cps.toList.drop (x.cps.size - i)) R ∧ σ = [some (.ref t), some (.str x), some (.ref rs), y],
      ⟨x.cps.size, by omega, Nat.zero_le _, Kq.same tw sA, rs, a0, a1, a2, _, none, n0, m1, m2, th, ?_, rfl⟩, fun i m σ H' hW => ?_⟩
    · rw [List.drop_of_length_le (by rw [Array.length_toList]; omega)]
      exact .nil
    obtain ⟨em, hi, k, rs, a0, a1, a2, R, y, f0, f1, f2, th, tl, rfl⟩ := hW
    by_cases hlt : i < x.cps.size
    · refine .inr ⟨hlt, fun σ' H2 => Kq T.t_are_signs T.t_first_of q2 H H2 ∧ ∃ rs a0 a1 a2 R, ∃ y : Option V, H a0 = none ∧ H a1 = none ∧ H a2 = none ∧ Three H2 rs a0 a1 a2 R ∧ Tells z o hm (x.cps.toList.drop (x.cps.size - (i + 1))) R ∧ σ' = [some (.ref t), some (.str x), some (.ref rs), y],
        fun σ' H2 p => ⟨m - 1, by omega, by omega, hlt, p⟩, fun v H2 hy => ?_⟩
      obtain ⟨rfl, c, hc, rfl⟩ := hy
      have hc' : x.cps.toList[x.cps.size - 1 - i]? = some c := by rw [Array.getElem?_toList]; exact hc
      have hmem : c ∈ x.cps.toList := List.mem_of_getElem? hc'
      have ed : x.cps.toList.drop (x.cps.size - (i + 1)) = c :: x.cps.toList.drop (x.cps.size - i) := by
        have hl : x.cps.size - (i + 1) < x.cps.toList.length := by rw [Array.length_toList]; omega
        rw [List.drop_eq_getElem_cons hl]
        have e2 : x.cps.size - (i + 1) + 1 = x.cps.size - i := by omega
        rw [e2]
        congr 1
        have e3 := (List.getElem?_eq_some_iff.mp hc').2
        rw [← e3]
        congr 1
        omega
      have sr : Short3 R := fun b => by
        have e1 := (Tells.short gd tl b).1
        have e2 : (x.cps.toList.drop (x.cps.size - i)).length ≤ 32 := by
          rw [List.length_drop]
          refine Nat.le_trans (Nat.sub_le _ _) ?_
          rw [Array.length_toList]; exact hx
        exact Nat.le_trans e1 (by omega)
      refine ⟨.ref t, rfl, .str (sg c), rfl, .ref rs, rfl, t, z, o, hm, c, rs, a0, a1, a2, R, rfl, gd, k.sh tw sh, th, sr, hin c hmem, k.tw, fun p b0 b1 b2 R' H5 k5 g0 g1 g2 th5 first => ?_⟩
      exact ⟨k.trans k5, p, b0, b1, b2, R', _, k.new g0, k.new g1, k.new g2, th5, ed ▸ Tells.cons tl (first 0 (.inl rfl)) (first 1 (.inr (.inl rfl))) (first 2 (.inr (.inr rfl))), rfl⟩
    · have e : x.cps.size - i = 0 := by omega
      rw [e, List.drop_zero] at tl
      exact .inl ⟨by show x.cps.size ≤ i; omega, .ref rs, rfl, q rs a0 a1 a2 R H' k f0 f1 f2 th tl⟩
theorem ok_written (T : Txt K mg) (TB : GxR.TabB base mg T.c_are_signs T.t_are_signs) : FnOk P w K mg base CX0 4 T.d_written.f T.d_written.fd ["sheet"] (spWritten T.t_are_signs) := by
  refine T.d_written.F.ok sc_written (fun vs H Q E h => ?_) (fun cdv A outer s H vs Q E hr h => ?_)
  · obtain ⟨t, z, o, hm, rfl, _⟩ := h
    rfl
  · obtain ⟨t, z, o, hm, rfl, gd, sh, tb, q⟩ := h
    refine ⟨_, (pss_cons (ps_expr (pe_call (ok_check_sheet T TB) (hr.mono (by decide)) (by rfl) T.d_check_sheet.g T.d_check_sheet.F.kp T.d_check_sheet.b .nil pass0 (pa_cons (pv 0) pa_nil)))
  (pss_cons (ps_asg (pv 0) (pg_tup rfl (pgs_cons (pg_name (i := 1) sc_written.nd rfl (.inl rfl)) (pgs_cons (pg_name (i := 2) sc_written.nd rfl (.inl rfl)) (pgs_cons (pg_name (i := 3) sc_written.nd rfl (.inl rfl)) pgs_nil)))))
  (pss_cons (ps_set (i := 4) sc_written.nd rfl (.inl rfl) (pe_ifExp (pt_cmp (pc_isN (pv 3))) (pe_glob (v := .str "-") (by rfl) T.c_NO_HOME.choose_spec ⟨_, rfl⟩) (pe_callTy call_str_int (by rfl) T.n_str (by decide +kernel) (pa_cons (pv 3) pa_nil))))
  (pss_one (ps_ret (pe_join pe_str (pe_lst (pa_cons (pv 1) (pa_cons (pv 2) (pa_cons (pv 4) pa_nil)))))))))), ?_⟩
    refine ⟨.ref t, rfl, t, z, o, hm, rfl, gd, sh, tb, fun H1 k1 => ?_⟩
    have sh1 : Sh H1 t z o hm := k1.get tb sh fun _ e => (nomatch e)
    refine ⟨.ref t, rfl, t, _, rfl, SqT.of sh1, rfl, _, _, rfl, _, _, rfl, _, _, rfl, rfl, ?_⟩
    have fin : tRet (tM1 (fun x xs H Q => ∃ a p ys, x = .str a ∧ xs = [.ref p] ∧ (SqL K H p (ys.map V.str) ∨ SqT K H p (ys.map V.str)) ∧ (ys.map (·.length)).sum + ys.length * a.length ≤ 16777216 ∧ Q (.str (Txt.join a ys)) H) (tC (.str "\n")) (tLst (tCons (tVar 1) (tCons (tVar 2) (tCons (tVar 4) tNil))))) { nx := fun _ H' => Q .non H', rt := Q } [some (.ref t), some (.str z), some (.str o), some hm, some (.str (homeT hm))] H1 := by
      refine ⟨⟨_, rfl⟩, .str z, rfl, .str o, rfl, .str (homeT hm), rfl, by show 3 ≤ sizeLine; decide, fun D nD => ?_⟩
      refine ⟨_, D, [z, o, homeT hm], rfl, rfl, .inl (SqL.of upd_same), ?_, ?_⟩
      · have a := gd.le
        have b := gd.len
        have c := gd.homeOk.sz
        have e : (Str.ofString "\n").length = 1 := by decide +kernel
        simp only [List.map_cons, List.map_nil, List.sum_cons, List.sum_nil, List.length_cons, List.length_nil, e]
        show z.cps.size + (o.cps.size + ((homeT hm).cps.size + 0)) + _ ≤ _
        omega
      · exact q _ (k1.trans (Kp.same k1.tab (same_new nD)))
    refine ⟨hm, rfl, ?_⟩
    rcases gd.home with e | ⟨h, e, lt⟩ <;> subst e
    · exact ⟨true, dec_t rfl, iteT fin⟩
    · refine ⟨false, dec_f (fun e => nomatch e), iteF ⟨.int h, rfl, h, rfl, ?_, fin⟩⟩
      exact (home_all ⟨h, Nat.lt_of_lt_of_le lt gd.le⟩).2.2.2.2.2
theorem ok_read (T : Txt K mg) (TB : GxR.TabB base mg T.c_are_signs T.t_are_signs) : FnOk P w K mg base CX0 5 T.d_read.f T.d_read.fd ["sheet", "tape", "begin"] (spRead K T.t_are_signs false) := by
  refine T.d_read.F.ok sc_read (fun vs H Q E h => ?_) (fun cdv A outer s H vs Q E hr h => ?_)
  · obtain ⟨t, a, z, o, hm, cs, b, rfl, _⟩ := h
    rfl
  · obtain ⟨t, a, z, o, hm, cs, b, rfl, gd, sh, hS, hc, hl, hb, tb, q⟩ := h
    refine ⟨_, (pss_cons (ps_expr (pe_call (ok_check_begun T TB) (hr.mono (by decide)) (by rfl) T.d_check_begun.g T.d_check_begun.F.kp T.d_check_begun.b .nil pass0 (pa_cons (pv 0) (pa_cons (pv 1) (pa_cons (pv 2) pa_nil)))))
  (pss_cons (ps_asg (pe_call (ok_walked T) (hr.mono (by decide)) (by rfl) T.d_walked.g T.d_walked.F.kp T.d_walked.b .nil pass0 (pa_cons (pv 0) (pa_cons (pv 1) (pa_cons (pv 2) pa_nil)))) (pg_tup rfl (pgs_cons (pg_name (i := 3) sc_read.nd rfl (.inl rfl)) (pgs_cons (pg_name (i := 4) sc_read.nd rfl (.inl rfl)) pgs_nil))))
  (pss_one (ps_ret (pv 3))))), ?_⟩
    refine ⟨.ref t, rfl, .ref a, rfl, .int b, rfl, t, a, z, o, hm, cs, b, rfl, gd, sh, hS, hc, hl, hb, tb, fun H1 k1 => ?_⟩
    refine ⟨.ref t, rfl, .ref a, rfl, .int b, rfl, t, a, z, o, hm, cs, b, rfl, gd, k1.get tb sh fun _ e => (nomatch e), k1.seqL tb hS, hc, by omega, hb, fun p H2 s2 np ep => ?_⟩
    refine ⟨p, _, rfl, SqT.of ep, rfl, _, _, rfl, _, _, rfl, rfl, ?_⟩
    exact ⟨_, rfl, q H2 (k1.trans (Kp.same k1.tab s2))⟩
theorem ok_last_set (T : Txt K mg) (TB : GxR.TabB base mg T.c_are_signs T.t_are_signs) : FnOk P w K mg base CX0 5 T.d_last_set.f T.d_last_set.fd ["sheet", "tape", "begin"] (spRead K T.t_are_signs true) := by
  refine T.d_last_set.F.ok sc_last_set (fun vs H Q E h => ?_) (fun cdv A outer s H vs Q E hr h => ?_)
  · obtain ⟨t, a, z, o, hm, cs, b, rfl, _⟩ := h
    rfl
  · obtain ⟨t, a, z, o, hm, cs, b, rfl, gd, sh, hS, hc, hl, hb, tb, q⟩ := h
    refine ⟨_, (pss_cons (ps_expr (pe_call (ok_check_begun T TB) (hr.mono (by decide)) (by rfl) T.d_check_begun.g T.d_check_begun.F.kp T.d_check_begun.b .nil pass0 (pa_cons (pv 0) (pa_cons (pv 1) (pa_cons (pv 2) pa_nil)))))
  (pss_cons (ps_asg (pe_call (ok_walked T) (hr.mono (by decide)) (by rfl) T.d_walked.g T.d_walked.F.kp T.d_walked.b .nil pass0 (pa_cons (pv 0) (pa_cons (pv 1) (pa_cons (pv 2) pa_nil)))) (pg_tup rfl (pgs_cons (pg_name (i := 3) sc_last_set.nd rfl (.inl rfl)) (pgs_cons (pg_name (i := 4) sc_last_set.nd rfl (.inl rfl)) pgs_nil))))
  (pss_one (ps_ret (pv 4))))), ?_⟩
    refine ⟨.ref t, rfl, .ref a, rfl, .int b, rfl, t, a, z, o, hm, cs, b, rfl, gd, sh, hS, hc, hl, hb, tb, fun H1 k1 => ?_⟩
    refine ⟨.ref t, rfl, .ref a, rfl, .int b, rfl, t, a, z, o, hm, cs, b, rfl, gd, k1.get tb sh fun _ e => (nomatch e), k1.seqL tb hS, hc, by omega, hb, fun p H2 s2 np ep => ?_⟩
    refine ⟨p, _, rfl, SqT.of ep, rfl, _, _, rfl, _, _, rfl, rfl, ?_⟩
    exact ⟨_, rfl, q H2 (k1.trans (Kp.same k1.tab s2))⟩
theorem ok_spoilt (T : Txt K mg) (TB : GxR.TabB base mg T.c_are_signs T.t_are_signs) : FnOk P w K mg base CX0 5 T.d_spoilt.f T.d_spoilt.fd ["sheet", "tape", "begin"] (spSpoilt K T.t_are_signs) := by
  refine T.d_spoilt.F.ok sc_spoilt (fun vs H Q E h => ?_) (fun cdv A outer s H vs Q E hr h => ?_)
  · obtain ⟨t, a, z, o, hm, cs, b, rfl, _⟩ := h
    rfl
  · obtain ⟨t, a, z, o, hm, cs, b, rfl, gd, sh, hS, hc, hl, hb, tb, q⟩ := h
    refine ⟨_, (pss_cons (ps_expr (pe_call (ok_check_begun T TB) (hr.mono (by decide)) (by rfl) T.d_check_begun.g T.d_check_begun.F.kp T.d_check_begun.b .nil pass0 (pa_cons (pv 0) (pa_cons (pv 1) (pa_cons (pv 2) pa_nil)))))
  (pss_cons (ps_asg (pe_call (ok_walked T) (hr.mono (by decide)) (by rfl) T.d_walked.g T.d_walked.F.kp T.d_walked.b .nil pass0 (pa_cons (pv 0) (pa_cons (pv 1) (pa_cons (pv 2) pa_nil)))) (pg_tup rfl (pgs_cons (pg_name (i := 3) sc_spoilt.nd rfl (.inr rfl)) (pgs_cons (pg_name (i := 4) sc_spoilt.nd rfl (.inl rfl)) pgs_nil))))
  (pss_one (ps_ret (pe_lc (own := [("place", 5)]) (g := gName 5) (tt := tYes) (te := _) rfl sc_spoilt.nd (pi_list (pe_call (ok_shift_places T) (hr.mono (by decide)) (by rfl) T.d_shift_places.g T.d_shift_places.F.kp T.d_shift_places.b .nil pass0 (pa_cons (pv 0) (pa_cons (pv 1) pa_nil)))) (blkOk_by (own := [("place", 5)]) (N := ["sheet", "tape", "begin", "text", "_", "place"]) (sc := defScope s_spoilt) (by decide +kernel)) (by exact fun _ _ _ _ _ => pg_name (i := 5) sc_spoilt.nd rfl (Or.inl rfl)) (by exact fun _ _ _ _ _ => pts_nil) (by exact fun _ _ _ _ _ => (pe_tup (pa_cons (pv 5) (pa_cons (pe_call (ok_count_unlike T) (hr.mono (by decide)) (by rfl) T.d_count_unlike.g T.d_count_unlike.F.kp T.d_count_unlike.b .nil pass0 (pa_cons (pv 3) (pa_cons (pe_call (ok_text_without T) (hr.mono (by decide)) (by rfl) T.d_text_without.g T.d_text_without.F.kp T.d_text_without.b .nil pass0 (pa_cons (pv 0) (pa_cons (pv 1) (pa_cons (pv 2) (pa_cons (pv 5) pa_nil))))) pa_nil))) pa_nil))))))))), ?_⟩
    refine ⟨.ref t, rfl, .ref a, rfl, .int b, rfl, t, a, z, o, hm, cs, b, rfl, gd, sh, hS, hc, hl, hb, tb, fun H1 k1 => ?_⟩
    have sh1 : Sh H1 t z o hm := k1.get tb sh fun _ e => (nomatch e)
    have hS1 := k1.seqL tb hS
    refine ⟨.ref t, rfl, .ref a, rfl, .int b, rfl, t, a, z, o, hm, cs, b, rfl, gd, sh1, hS1, hc, by omega, hb, fun p H2 s2 np ep => ?_⟩
    refine ⟨p, _, rfl, SqT.of ep, rfl, _, _, rfl, _, _, rfl, rfl, ?_⟩
    have sh2 : Sh H2 t z o hm := s2 _ _ sh1
    have hS2 := s2.seq hS1
    refine ⟨.ref t, rfl, .ref a, rfl, t, a, z, o, hm, cs, rfl, gd, sh2, hS2, by omega, fun pl H3 s3 npl epl => ⟨pl, rfl, ⟨_, SqL.of epl⟩, fun D nD => ?_⟩⟩
    have k3 := k1.trans ((Kp.same k1.tab s2).trans (Kp.same (tab_same k1.tab fun o e => s2 _ o e) s3))
    have nDH : H D = none := k3.new tb nD
    have pll : (plc z.cps.size cs).length ≤ cs.length := plcV_le z.cps.size cs cs.length
    refine lc_list (K := K) (a := pl) (xs := inZ (plc z.cps.size cs)) (fun i H' => Same H3 H' ∧ ∃ as : List Addr, as.length = i ∧ i ≤ (plc z.cps.size cs).length ∧ H' D = some (.lst (as.map V.ref)) ∧ Prs H' as (((plc z.cps.size cs).take i).map (lossOf z o hm cs b)) ∧ ∀ c ∈ as, H3 c = none)
      ⟨sameD (Same.refl _) nD, [], rfl, Nat.zero_le _, upd_same, by rw [List.take_zero]; exact True.intro, fun c hc => nomatch hc⟩ (fun i H' _ p => SqL.of (p.1 _ _ epl)) (fun i x H' hx p => ?_) (fun H' p => ?_)
    · obtain ⟨sm, as, hal, hil, eD, prs, nas⟩ := p
      obtain ⟨k, hk, rfl⟩ := at_map hx
      have hin : k ∈ plc z.cps.size cs := List.mem_of_getElem? hk
      have hkl := (List.getElem?_eq_some_iff.mp hk).1
      have sh' : Sh H' t z o hm := sm _ _ (s3 _ _ sh2)
      have hS' := sm.seq (s3.seq hS2)
      refine ⟨rfl, lc_yes ?_⟩
      refine ⟨.int (k : Nat), rfl, .str (rd z o hm cs b).1, rfl, .ref t, rfl, .ref a, rfl, .int b, rfl, .int (k : Nat), rfl, t, a, z, o, hm, cs, b, k, rfl, gd, sh', hS', hc, hl, hb, (plc_lt hin).1, fun H4 s4 => ?_⟩
      have sz := rd_size z o hm cs b
      have szl : (rd z o hm cs b).1.cps.size ≤ 1000 := by
        rw [sz]; exact Nat.le_trans (List.length_filter_le _ _) (by omega)
      refine ⟨_, _, rfl, (wo_size hin).symm, szl, fun H5 s5 => ?_⟩
      refine ⟨by show 2 ≤ sizeLine; decide, fun u nu => ?_⟩
      have s6 := s4.trans (s5.trans (same_new (o := HO.tup [V.int (k : Nat), V.int ((unlike (rd z o hm cs b).1 (wo z o hm cs b k) : Nat) : Int)]) nu))
      have nu' : H' u = none := (s4.trans s5).free nu
      have eD6 := s6 _ _ eD
      refine ⟨as.map V.ref, eD6, by rw [List.length_map, hal]; exact small1000 (by omega), sameD (sm.trans s6) nD, as ++ [u], by rw [List.length_append, hal]; rfl, hkl, by rw [upd_same, List.map_append]; rfl, ?_, fun c hc => ?_⟩
      · rw [List.take_add_one, hk, List.map_append]
        have nuD : u ≠ D := fun e => by rw [e, eD] at nu'; cases nu'
        refine Prs.app (prs.mono fun c xs e => ?_) ⟨?_, True.intro⟩
        · rw [upd_ne (ne_of (s6 _ _ e) eD6 fun e => nomatch e)]; exact s6 _ _ e
        · rw [upd_ne nuD]; exact upd_same
      · rcases List.mem_append.mp hc with m | m
        · exact nas c m
        · rw [List.mem_singleton.mp m]; exact sm.free nu'
    · obtain ⟨sm, as, hal, hil, eD, prs, nas⟩ := p
      have e : (inZ (plc z.cps.size cs)).length = (plc z.cps.size cs).length := by unfold inZ; rw [List.length_map]
      rw [e, List.take_length] at prs
      exact q D as H' (k3.trans (Kp.same k3.tab sm)) nDH eD prs fun c hc => k3.new tb (nas c hc)
theorem ok_lost_at (T : Txt K mg) (TB : GxR.TabB base mg T.c_are_signs T.t_are_signs) : FnOk P w K mg base CX0 5 T.d_lost_at.f T.d_lost_at.fd ["sheet", "tape", "begin", "text"] (spLostAt K T.t_are_signs) := by
  refine T.d_lost_at.F.ok sc_lost_at (fun vs H Q E h => ?_) (fun cdv A outer s H vs Q E hr h => ?_)
  · obtain ⟨t, a, z, o, hm, cs, b, x, rfl, _⟩ := h
    rfl
  · obtain ⟨t, a, z, o, hm, cs, b, x, rfl, gd, sh, hS, hc, hl, hb, tb, q⟩ := h
    refine ⟨_, (pss_cons (ps_expr (pe_call (ok_check_begun T TB) (hr.mono (by decide)) (by rfl) T.d_check_begun.g T.d_check_begun.F.kp T.d_check_begun.b .nil pass0 (pa_cons (pv 0) (pa_cons (pv 1) (pa_cons (pv 2) pa_nil)))))
  (pss_cons (ps_set (i := 4) sc_lost_at.nd rfl (.inl rfl) (pe_call (ok_shift_places T) (hr.mono (by decide)) (by rfl) T.d_shift_places.g T.d_shift_places.F.kp T.d_shift_places.b .nil pass0 (pa_cons (pv 0) (pa_cons (pv 1) pa_nil))))
  (pss_one (ps_ret (pe_lc (own := [("place", 5)]) (g := gName 5) (tt := _) (te := _) rfl sc_lost_at.nd (pi_list (pv 4)) (blkOk_by (own := [("place", 5)]) (N := ["sheet", "tape", "begin", "text", "places", "place"]) (sc := defScope s_lost_at) (by decide +kernel)) (by exact fun _ _ _ _ _ => pg_name (i := 5) sc_lost_at.nd rfl (Or.inl rfl)) (by exact fun _ _ _ _ _ => (pts_one (pt_cmpR op_eq (pe_call (ok_text_without T) (hr.mono (by decide)) (by rfl) T.d_text_without.g T.d_text_without.F.kp T.d_text_without.b .nil pass0 (pa_cons (pv 0) (pa_cons (pv 1) (pa_cons (pv 2) (pa_cons (pv 5) pa_nil))))) (pv 3) (nomark _)))) (by exact fun _ _ _ _ _ => (pv 5))))))), ?_⟩
    refine ⟨.ref t, rfl, .ref a, rfl, .int b, rfl, t, a, z, o, hm, cs, b, rfl, gd, sh, hS, hc, hl, hb, tb, fun H1 k1 => ?_⟩
    have sh1 : Sh H1 t z o hm := k1.get tb sh fun _ e => (nomatch e)
    have hS1 := k1.seqL tb hS
    refine ⟨.ref t, rfl, .ref a, rfl, t, a, z, o, hm, cs, rfl, gd, sh1, hS1, by omega, fun pl H3 s3 npl epl => ⟨.ref pl, rfl, pl, rfl, ⟨_, SqL.of epl⟩, fun D nD => ?_⟩⟩
    have k3 := k1.trans (Kp.same k1.tab s3)
    have nDH : H D = none := k3.new tb nD
    have pll : (plc z.cps.size cs).length ≤ cs.length := plcV_le z.cps.size cs cs.length
    refine lc_list (K := K) (a := pl) (xs := inZ (plc z.cps.size cs)) (fun i H' => Same H3 H' ∧ i ≤ (plc z.cps.size cs).length ∧ H' D = some (.lst (inZ (((plc z.cps.size cs).take i).filter fun i => decide (wo z o hm cs b i = x)))))
      ⟨sameD (Same.refl _) nD, Nat.zero_le _, by rw [List.take_zero]; exact upd_same⟩ (fun i H' _ p => SqL.of (p.1 _ _ epl)) (fun i v H' hx p => ?_) (fun H' p => ?_)
    · obtain ⟨sm, hil, eD⟩ := p
      obtain ⟨k, hk, rfl⟩ := at_map hx
      have hin : k ∈ plc z.cps.size cs := List.mem_of_getElem? hk
      have hkl := (List.getElem?_eq_some_iff.mp hk).1
      have sh' : Sh H' t z o hm := sm _ _ (s3 _ _ sh1)
      have hS' := sm.seq (s3.seq hS1)
      refine ⟨rfl, ?_⟩
      refine ⟨.ref t, rfl, .ref a, rfl, .int b, rfl, .int (k : Nat), rfl, t, a, z, o, hm, cs, b, k, rfl, gd, sh', hS', hc, hl, hb, (plc_lt hin).1, fun H4 s4 => ?_⟩
      refine ⟨.str x, rfl, rfl, _, rfl, ?_⟩
      have eD4 := s4 _ _ eD
      have st : ((plc z.cps.size cs).take (i + 1)).filter (fun i => decide (wo z o hm cs b i = x)) = ((plc z.cps.size cs).take i).filter (fun i => decide (wo z o hm cs b i = x)) ++ if wo z o hm cs b k = x then [k] else [] := by
        rw [List.take_add_one, hk, List.filter_append]
        congr 1
        by_cases e : wo z o hm cs b k = x
        · rw [if_pos e]; exact List.filter_cons_of_pos (decide_eq_true e)
        · rw [if_neg e]; exact List.filter_cons_of_neg (by simpa using e)
      by_cases e : wo z o hm cs b k = x
      · rw [if_pos e] at st
        rw [show decide (V.str (wo z o hm cs b k) = V.str x) = true from decide_eq_true (congrArg V.str e)]
        refine iteT ⟨.int (k : Nat), rfl, _, eD4, ?_, sameD (sm.trans s4) nD, hkl, ?_⟩
        · unfold inZ; rw [List.length_map]
          refine small1000 (Nat.le_trans (List.length_filter_le _ _) ?_)
          rw [List.length_take]; omega
        · rw [upd_same, st]; unfold inZ; rw [List.map_append]; rfl
      · rw [if_neg e, List.append_nil] at st
        rw [show decide (V.str (wo z o hm cs b k) = V.str x) = false from decide_eq_false fun h => e (V.str.inj h)]
        refine iteF ⟨sm.trans s4, hkl, ?_⟩
        rw [eD4, st]
    · obtain ⟨sm, hil, eD⟩ := p
      have e : (inZ (plc z.cps.size cs)).length = (plc z.cps.size cs).length := by unfold inZ; rw [List.length_map]
      rw [e, List.take_length] at eD
      exact q D H' (k3.trans (Kp.same k3.tab sm)) nDH eD
theorem ok_guarded (T : Txt K mg) (TB : GxR.TabB base mg T.c_are_signs T.t_are_signs) : FnOk P w K mg base CX0 5 T.d_guarded.f T.d_guarded.fd ["sheet", "text", "begin", "most"] (spGuarded T.t_are_signs) := by
  refine T.d_guarded.F.ok sc_guarded (fun vs H Q E h => ?_) (fun cdv A outer s H vs Q E hr h => ?_)
  · obtain ⟨t, z, o, hm, x, b, most, rfl, _⟩ := h
    rfl
  · obtain ⟨t, z, o, hm, x, b, most, rfl, gd, sh, hx, hin, hb, m0, m1, tb, q⟩ := h
    refine ⟨_, (pss_cons (ps_expr (pe_call (ok_check_sheet T TB) (hr.mono (by decide)) (by rfl) T.d_check_sheet.g T.d_check_sheet.F.kp T.d_check_sheet.b .nil pass0 (pa_cons (pv 0) pa_nil)))
  (pss_cons (ps_expr (pe_call (ok_check_text T) (hr.mono (by decide)) (by rfl) T.d_check_text.g T.d_check_text.F.kp T.d_check_text.b .nil pass0 (pa_cons (pv 0) (pa_cons (pv 1) pa_nil))))
  (pss_cons (ps_expr (pe_call (ok_check_set T) (hr.mono (by decide)) (by rfl) T.d_check_set.g T.d_check_set.F.kp T.d_check_set.b .nil pass0 (pa_cons (pv 2) pa_nil)))
  (pss_cons (ps_expr (pe_call (ok_check_count T) (hr.mono (by decide)) (by rfl) T.d_check_count.g T.d_check_count.F.kp T.d_check_count.b .nil pass0 (pa_cons (pv 3) (pa_cons (pe_glob (v := .int 32) (by rfl) T.c_MOST_SIGNS.choose_spec ⟨_, rfl⟩) pa_nil))))
  (pss_cons (ps_setLc (i := 4) (own := [("_", 7)]) (g := gName 7) (tt := tYes) (te := _) rfl sc_guarded.nd rfl rfl (sw_true rfl rfl rfl (by decide +kernel)) (pi_range1 (by rfl) T.n_range (pa_cons (pe_op op_add (pe_glob (v := .int 32) (by rfl) T.c_SAFE.choose_spec ⟨_, rfl⟩) pe_int) pa_nil)) (blkOk_by (own := [("_", 7)]) (N := ["sheet", "text", "begin", "most", "ends", "tapes", "sign", "_"]) (sc := defScope s_guarded) (by decide +kernel)) (by exact fun _ _ _ _ _ => pg_name (i := 7) sc_guarded.nd rfl (Or.inl rfl)) (by exact fun _ _ _ _ _ => pts_nil) (by exact fun _ _ _ _ _ => (pe_lst pa_nil)))
  (pss_cons (ps_set (i := 5) sc_guarded.nd rfl (.inl rfl) (pe_lst (pa_cons (pv 4) (pa_cons (pv 4) pa_nil))))
  (pss_cons (ps_for PassesOwn.never rfl (Kt.pi_revS (by rfl) T.n_reversed (pv 1)) (pg_name (i := 6) sc_guarded.nd rfl (.inl rfl))
  (pss_one (ps_set (i := 5) sc_guarded.nd rfl (.inl rfl) (pe_call (ok_with_sign_guarding T) (hr.mono (by decide)) (by rfl) T.d_with_sign_guarding.g T.d_with_sign_guarding.F.kp T.d_with_sign_guarding.b .nil pass0 (pa_cons (pv 0) (pa_cons (pv 6) (pa_cons (pv 3) (pa_cons (pv 5) pa_nil))))))))
  (pss_one (ps_ret (pe_ix ix_list (pe_ix ix_list (pv 5) (pv 2) (fun _ _ => rfl)) (pe_glob (v := .int 32) (by rfl) T.c_SAFE.choose_spec ⟨_, rfl⟩) (fun _ _ => rfl))))))))))), ?_⟩
    refine ⟨.ref t, rfl, t, z, o, hm, rfl, gd, sh, tb, fun H1 k1 => ?_⟩
    have sh1 : Sh H1 t z o hm := k1.get tb sh fun _ e => (nomatch e)
    refine ⟨.ref t, rfl, .str x, rfl, t, z, o, hm, x, rfl, gd, sh1, hx, hin, fun H2 s2 => ?_⟩
    have k2 := k1.trans (Kp.same k1.tab s2)
    refine ⟨.int b, rfl, b, rfl, hb, ?_⟩
    refine ⟨.int most, rfl, most, 32, rfl, m0, m1, ?_⟩
    -- the ends
    refine ⟨_, 1, rfl, rfl, _, rfl, by decide, by decide, fun D nD => ?_⟩
    refine lc_range (lo := 0) (n := ((32 : Int) + 1).toNat) (fun j H3 => Same H2 H3 ∧ j ≤ 33 ∧ ∃ ds : List Addr, ds.length = j ∧ H3 D = some (.lst (ds.map V.ref)) ∧ Tps H3 ds ((List.range j).map fun (j : Nat) => gR z o hm most [] 0 (j : Int)) ∧ ∀ d ∈ ds, H2 d = none ∧ d ≠ D)
      ⟨sameD (Same.refl _) nD, by decide, [], rfl, upd_same, True.intro, fun d h => nomatch h⟩ (fun j H3 hj p => ?_) (fun H3 p => ?_)
    · obtain ⟨s3, _, ds, dl, eD, td, nd'⟩ := p
      have hj : j < 33 := hj
      refine ⟨rfl, lc_yes ?_⟩
      refine ⟨Nat.zero_le _, fun u nu => ?_⟩
      have s4 := same_new (o := HO.lst []) nu
      have nuD : u ≠ D := fun e => by rw [e, eD] at nu; cases nu
      refine ⟨ds.map V.ref, s4 _ _ eD, by rw [List.length_map, dl]; exact small1000 (by omega), sameD (s3.trans s4) nD, hj, ds ++ [u], by rw [List.length_append, dl]; rfl, by rw [upd_same, List.map_append]; rfl, ?_, fun d hd => ?_⟩
      · rw [List.range_succ, List.map_append]
        exact Tps.app ((td.mono fun a us e => s4 _ _ e).upd fun b hb => (nd' b hb).2) ⟨(upd_ne nuD).trans upd_same, True.intro⟩
      · rcases List.mem_append.mp hd with m | m
        · exact nd' d m
        · rw [List.mem_singleton.mp m]; exact ⟨s3.free nu, nuD⟩
    · obtain ⟨s3, _, ds, dl, eD, td, nd'⟩ := p
      have k3 := k2.trans (Kp.same k2.tab s3)
      refine ⟨.ref D, rfl, .ref D, rfl, by show 2 ≤ sizeLine; decide, fun T0 nT0 => ?_⟩
      have s4 := same_new (o := HO.lst [V.ref D, V.ref D]) nT0
      have k4 := k3.trans (Kp.same k3.tab s4)
      have td4 := td.mono fun a us e => s4 _ _ e
      have gr0 : Grid H (upd H3 T0 (HO.lst [V.ref D, V.ref D])) T0 (gR z o hm most []) :=
        ⟨D, D, ds, ds, upd_same, s4 _ _ eD, s4 _ _ eD, td4, td4, fun a ha => k2.new tb (nd' a ha).1, fun a ha => k2.new tb (nd' a ha).1⟩
      refine ⟨.str x, rfl, x, rfl, Nat.le_trans hx (by decide), ?_⟩
      refine ⟨fun i m σ H' => m = x.cps.size - i ∧ i ≤ x.cps.size ∧ Kp T.t_are_signs H H' ∧ ∃ rs, ∃ y : Option V, Grid H H' rs (gR z o hm most (x.cps.toList.drop (x.cps.size - i))) ∧ σ = [some (.ref t), some (.str x), some (.int b), some (.int most), some (.ref D), some (.ref rs), y, none],
        ⟨x.cps.size, by omega, Nat.zero_le _, k4, T0, none, ?_, rfl⟩, fun i m σ H' hW => ?_⟩
      · rw [List.drop_of_length_le (by rw [Array.length_toList]; omega)]
        exact gr0
      obtain ⟨em, hi, k, rs, y, gr, rfl⟩ := hW
      by_cases hlt : i < x.cps.size
      · refine .inr ⟨hlt, fun σ' H2 => Kp T.t_are_signs H H2 ∧ ∃ rs, ∃ y : Option V, Grid H H2 rs (gR z o hm most (x.cps.toList.drop (x.cps.size - (i + 1)))) ∧ σ' = [some (.ref t), some (.str x), some (.int b), some (.int most), some (.ref D), some (.ref rs), y, none],
          fun σ' H2 p => ⟨m - 1, by omega, by omega, hlt, p⟩, fun v H2 hy => ?_⟩
        obtain ⟨rfl, c, hc, rfl⟩ := hy
        have hc' : x.cps.toList[x.cps.size - 1 - i]? = some c := by rw [Array.getElem?_toList]; exact hc
        have hmem : c ∈ x.cps.toList := List.mem_of_getElem? hc'
        have ed : x.cps.toList.drop (x.cps.size - (i + 1)) = c :: x.cps.toList.drop (x.cps.size - i) := by
          have hl : x.cps.size - (i + 1) < x.cps.toList.length := by rw [Array.length_toList]; omega
          rw [List.drop_eq_getElem_cons hl]
          have e2 : x.cps.size - (i + 1) + 1 = x.cps.size - i := by omega
          rw [e2]
          congr 1
          have e3 := (List.getElem?_eq_some_iff.mp hc').2
          rw [← e3]
          congr 1
          omega
        have sr : ShortR (gR z o hm most (x.cps.toList.drop (x.cps.size - i))) 500 := fun b sp => by
          have e1 := gR_short z o hm most (x.cps.toList.drop (x.cps.size - i)) b sp
          have e2 : (x.cps.toList.drop (x.cps.size - i)).length ≤ 32 := by
            rw [List.length_drop]
            refine Nat.le_trans (Nat.sub_le _ _) ?_
            rw [Array.length_toList]; exact hx
          exact Nat.le_trans e1 (by omega)
        have sh' : Sh H2 t z o hm := k.get tb sh fun _ e => (nomatch e)
        refine ⟨.ref t, rfl, .str (sg c), rfl, .int most, rfl, .ref rs, rfl, t, z, o, hm, c, most, rs, _, H, rfl, gd, sh', hin c hmem, m0, m1, gr, sr, fun T1 H5 s5 nT1 gr5 => ?_⟩
        exact ⟨k.trans (Kp.same k.tab s5), T1, some (.str (sg c)), ed ▸ gr5.back (fun a ha => k.new tb ha), rfl⟩
      · have e : x.cps.size - i = 0 := by omega
        rw [e, List.drop_zero] at gr
        obtain ⟨us, a, bs, e1, e2, e3, e4⟩ := gr.at hb
        obtain ⟨d, e5, e6, e7⟩ := e4 32 (by decide) (by decide)
        exact .inl ⟨by show x.cps.size ≤ i; omega, .ref rs, rfl, .int b, rfl, rs, us, b, .ref a, rfl, rfl, SqL.of e1, e2, a, _, 32, .ref d, rfl, rfl, SqL.of e3, e5, q d H' k e7 e6⟩
theorem ok_cut (T : Txt K mg) (TB : GxR.TabB base mg T.c_are_signs T.t_are_signs) : FnOk P w K mg base CX0 5 T.d_cut.f T.d_cut.fd ["sheet", "tape", "begin", "place"] (spCut K T.t_are_signs) := by
  refine T.d_cut.F.ok sc_cut (fun vs H Q E h => ?_) (fun cdv A outer s H vs Q E hr h => ?_)
  · obtain ⟨t, a, z, o, hm, cs, bg, i, rfl, _⟩ := h
    rfl
  · obtain ⟨t, a, z, o, hm, cs, bg, i, rfl, gd, sh, hS, hc, hl, hb, hi, tb, q⟩ := h
    refine ⟨_, (pss_cons (ps_expr (pe_call (ok_check_begun T TB) (hr.mono (by decide)) (by rfl) T.d_check_begun.g T.d_check_begun.F.kp T.d_check_begun.b .nil pass0 (pa_cons (pv 0) (pa_cons (pv 1) (pa_cons (pv 2) pa_nil)))))
  (pss_cons (ps_expr (pe_call (ok_check_count T) (hr.mono (by decide)) (by rfl) T.d_check_count.g T.d_check_count.F.kp T.d_check_count.b .nil pass0 (pa_cons (pv 3) (pa_cons (pe_callB call_len_seq (by rfl) T.n_len PySem.boot_len (pa_cons (pv 1) pa_nil)) pa_nil))))
  (pss_cons (ps_par (i := 4) (j := 5) rfl sc_cut.nd rfl rfl (by decide) rfl rfl (pa_cons (pe_slice sl_list (pv 1) po_none (po_some (pv 3))) (pa_cons (pe_slice sl_list (pv 1) (po_some (pv 3)) po_none) pa_nil)) (by rfl))
  (pss_cons (ps_asg (pe_call (ok_walked T) (hr.mono (by decide)) (by rfl) T.d_walked.g T.d_walked.F.kp T.d_walked.b .nil pass0 (pa_cons (pv 0) (pa_cons (pv 4) (pa_cons (pv 2) pa_nil)))) (pg_tup rfl (pgs_cons (pg_name (i := 6) sc_cut.nd rfl (.inl rfl)) (pgs_cons (pg_name (i := 7) sc_cut.nd rfl (.inl rfl)) pgs_nil))))
  (pss_one (ps_ret (pe_tup (pa_cons (pv 4) (pa_cons (pe_op op_cat (pe_call (ok_shift_ahead T) (hr.mono (by decide)) (by rfl) T.d_shift_ahead.g T.d_shift_ahead.F.kp T.d_shift_ahead.b .nil pass0 (pa_cons (pv 0) (pa_cons (pv 5) (pa_cons (pv 2) (pa_cons (pv 7) pa_nil))))) (pv 5)) pa_nil))))))))), ?_⟩
    refine ⟨.ref t, rfl, .ref a, rfl, .int bg, rfl, t, a, z, o, hm, cs, bg, rfl, gd, sh, hS, hc, hl, hb, tb, fun H1 k1 => ?_⟩
    have sh1 : Sh H1 t z o hm := k1.get tb sh fun _ e => (nomatch e)
    have hS1 := k1.seqL tb hS
    refine ⟨.int (i : Nat), rfl, .ref a, rfl, a, _, rfl, .inl hS1, (i : Nat), _, rfl, by omega, by rw [List.length_map]; omega, ?_⟩
    refine ⟨.ref a, rfl, .int (i : Nat), rfl, (i : Nat), rfl, a, _, rfl, hS1, fun f nf => ?_⟩
    rw [cut_lo cs i hi]
    have s2 := same_new (o := HO.lst ((cs.take i).map V.int)) nf
    refine ⟨.ref a, rfl, .int (i : Nat), rfl, (i : Nat), rfl, a, _, rfl, s2.seq hS1, fun k nk => ?_⟩
    rw [cut_hi cs i hi]
    have s3 := s2.trans (same_new (o := HO.lst ((cs.drop i).map V.int)) nk)
    have ef : L2.upd (L2.upd H1 f (HO.lst ((cs.take i).map V.int))) k (HO.lst ((cs.drop i).map V.int)) f = some (.lst ((cs.take i).map V.int)) := same_new nk _ _ upd_same
    have ek : L2.upd (L2.upd H1 f (HO.lst ((cs.take i).map V.int))) k (HO.lst ((cs.drop i).map V.int)) k = some (.lst ((cs.drop i).map V.int)) := upd_same
    generalize L2.upd (L2.upd H1 f (HO.lst ((cs.take i).map V.int))) k (HO.lst ((cs.drop i).map V.int)) = H3 at s3 ef ek
    refine ⟨_, _, rfl, ?_⟩
    have ct := codes_take hc i
    have cd := codes_drop hc i
    have lt : (cs.take i).length ≤ 100 := by rw [List.length_take]; omega
    have ld : (cs.drop i).length ≤ 100 := by rw [List.length_drop]; omega
    refine ⟨.ref t, rfl, .ref f, rfl, .int bg, rfl, t, f, z, o, hm, cs.take i, bg, rfl, gd, s3 _ _ sh1, SqL.of ef, ct, by omega, hb, fun p4 H4 s4 n4 e4 => ?_⟩
    refine ⟨p4, _, rfl, SqT.of e4, rfl, _, _, rfl, _, _, rfl, rfl, ?_⟩
    have s34 := s3.trans s4
    refine ⟨.ref f, rfl, .ref t, rfl, .ref k, rfl, .int bg, rfl, .int _, rfl, t, k, z, o, hm, cs.drop i, bg, _, rfl, gd, s34 _ _ sh1, SqL.of (s4 _ _ ek), cd, by omega, hb, rd_end hb ct, fun p5 H5 s5 n5 e5 => ?_⟩
    have al := ahd_len z o hm (cs.drop i) bg (rd z o hm (cs.take i) bg).2
    refine ⟨.ref k, rfl, p5, k, _, _, rfl, rfl, e5, s5 _ _ (s4 _ _ ek), by rw [List.length_map, List.length_map]; exact Nat.le_of_lt (small1000 (by omega)), fun p6 n6 => ?_⟩
    refine ⟨by show 2 ≤ sizeLine; decide, fun p7 n7 => ?_⟩
    have s6 := same_new (o := HO.lst ((ahd z o hm (cs.drop i) bg (rd z o hm (cs.take i) bg).2).map V.int ++ (cs.drop i).map V.int)) n6
    have s7 := same_new (o := HO.tup [V.ref f, V.ref p6]) n7
    have sA := s34.trans (s5.trans (s6.trans s7))
    have kA := k1.trans (Kp.same k1.tab sA)
    have ef5 := s5 _ _ (s4 _ _ ef)
    refine q p7 f p6 _ kA (k1.new tb (s34.free (s5.free (s6.free n7)))) (k1.new tb nf) (k1.new tb (s34.free (s5.free n6))) (ne_of_none ef5 n6) upd_same (s7 _ _ (s6 _ _ ef5)) ?_
    rw [s7 _ _ upd_same]
    unfold cutB
    rw [List.map_append]
theorem ok_shortest (T : Txt K mg) (TB : GxR.TabB base mg T.c_are_signs T.t_are_signs) (TB2 : LamX.TabB base mg T.c_first_of T.t_first_of) (ne : T.t_are_signs ≠ T.t_first_of) : FnOk P w K mg base CX0 5 T.d_shortest.f T.d_shortest.fd ["sheet", "text", "begin"] (spShortest T.t_are_signs T.t_first_of q2) := by
  refine T.d_shortest.F.ok sc_shortest (fun vs H Q E h => ?_) (fun cdv A outer s H vs Q E hr h => ?_)
  · obtain ⟨t, z, o, hm, x, b, rfl, _⟩ := h
    rfl
  · obtain ⟨t, z, o, hm, x, b, rfl, gd, sh, hx, hin, hb, tw, q⟩ := h
    refine ⟨_, (pss_cons (ps_expr (pe_call (ok_check_sheet T TB) (hr.mono (by decide)) (by rfl) T.d_check_sheet.g T.d_check_sheet.F.kp T.d_check_sheet.b .nil pass0 (pa_cons (pv 0) pa_nil)))
  (pss_cons (ps_expr (pe_call (ok_check_text T) (hr.mono (by decide)) (by rfl) T.d_check_text.g T.d_check_text.F.kp T.d_check_text.b .nil pass0 (pa_cons (pv 0) (pa_cons (pv 1) pa_nil))))
  (pss_cons (ps_expr (pe_call (ok_check_set T) (hr.mono (by decide)) (by rfl) T.d_check_set.g T.d_check_set.F.kp T.d_check_set.b .nil pass0 (pa_cons (pv 2) pa_nil)))
  (pss_one (ps_ret (pe_ix ix_list (pe_call (ok_best_tapes T TB TB2 ne) (hr.mono (by decide)) (by rfl) T.d_best_tapes.g T.d_best_tapes.F.kp T.d_best_tapes.b .nil pass0 (pa_cons (pv 0) (pa_cons (pv 1) pa_nil))) (pv 2) (fun _ _ => rfl))))))), ?_⟩
    refine ⟨.ref t, rfl, t, z, o, hm, rfl, gd, sh, tw.t1, fun H1 k1 => ?_⟩
    have k1 := Kq.kp ne tw k1
    refine ⟨.ref t, rfl, .str x, rfl, t, z, o, hm, x, rfl, gd, k1.sh tw sh, hx, hin, fun H2 s2 => ?_⟩
    have k2 := k1.trans (Kq.same k1.tw s2)
    refine ⟨.int b, rfl, b, rfl, hb, ?_⟩
    refine ⟨.ref t, rfl, .str x, rfl, t, z, o, hm, x, rfl, gd, k2.sh tw sh, hx, hin, k2.tw, fun p b0 b1 b2 R H3 k3 g0 g1 g2 th tl => ?_⟩
    obtain ⟨a, ha1, ha2, ha3⟩ := th.at (show Is012 b from hb.elim .inl fun e => .inr (.inl e))
    refine ⟨.int b, rfl, p, _, b, .ref a, rfl, rfl, SqL.of th.1, ha1, q a R H3 (k2.trans k3) ?_ tl ha2⟩
    rcases ha3 with e | e | e <;> rw [e]
    · exact k2.new g0
    · exact k2.new g1
    · exact k2.new g2
theorem ok_either (T : Txt K mg) (TB : GxR.TabB base mg T.c_are_signs T.t_are_signs) (TB2 : LamX.TabB base mg T.c_first_of T.t_first_of) (ne : T.t_are_signs ≠ T.t_first_of) : FnOk P w K mg base CX0 5 T.d_either.f T.d_either.fd ["sheet", "text"] (spEither T.t_are_signs T.t_first_of q2) := by
  refine T.d_either.F.ok sc_either (fun vs H Q E h => ?_) (fun cdv A outer s H vs Q E hr h => ?_)
  · obtain ⟨t, z, o, hm, x, rfl, _⟩ := h
    rfl
  · obtain ⟨t, z, o, hm, x, rfl, gd, sh, hx, hin, tw, q⟩ := h
    refine ⟨_, (pss_cons (ps_expr (pe_call (ok_check_sheet T TB) (hr.mono (by decide)) (by rfl) T.d_check_sheet.g T.d_check_sheet.F.kp T.d_check_sheet.b .nil pass0 (pa_cons (pv 0) pa_nil)))
  (pss_cons (ps_expr (pe_call (ok_check_text T) (hr.mono (by decide)) (by rfl) T.d_check_text.g T.d_check_text.F.kp T.d_check_text.b .nil pass0 (pa_cons (pv 0) (pa_cons (pv 1) pa_nil))))
  (pss_one (ps_ret (pe_ix ix_list (pe_call (ok_best_tapes T TB TB2 ne) (hr.mono (by decide)) (by rfl) T.d_best_tapes.g T.d_best_tapes.F.kp T.d_best_tapes.b .nil pass0 (pa_cons (pv 0) (pa_cons (pv 1) pa_nil))) (pe_glob (v := .int 2) (by rfl) T.c_EITHER.choose_spec ⟨_, rfl⟩) (fun _ _ => rfl)))))), ?_⟩
    refine ⟨.ref t, rfl, t, z, o, hm, rfl, gd, sh, tw.t1, fun H1 k1 => ?_⟩
    have k1 := Kq.kp ne tw k1
    refine ⟨.ref t, rfl, .str x, rfl, t, z, o, hm, x, rfl, gd, k1.sh tw sh, hx, hin, fun H2 s2 => ?_⟩
    have k2 := k1.trans (Kq.same k1.tw s2)
    refine ⟨.ref t, rfl, .str x, rfl, t, z, o, hm, x, rfl, gd, k2.sh tw sh, hx, hin, k2.tw, fun p b0 b1 b2 R H3 k3 g0 g1 g2 th tl => ?_⟩
    exact ⟨p, _, 2, .ref b2, rfl, rfl, SqL.of th.1, atI_nat (j := 2) rfl, q b2 R H3 (k2.trans k3) (k2.new g2) tl th.2.2.2⟩
theorem ok_is_guarded (T : Txt K mg) (TB : GxR.TabB base mg T.c_are_signs T.t_are_signs) : FnOk P w K mg base CX0 6 T.d_is_guarded.f T.d_is_guarded.fd ["sheet", "tape", "begin", "most"] (spIsGuarded K T.t_are_signs) := by
  refine T.d_is_guarded.F.ok sc_is_guarded (fun vs H Q E h => ?_) (fun cdv A outer s H vs Q E hr h => ?_)
  · obtain ⟨t, a, z, o, hm, cs, b, m, rfl, _⟩ := h
    rfl
  · obtain ⟨t, a, z, o, hm, cs, b, m, rfl, gd, sh, hS, hc, hl, hb, m0, m1, tb, q⟩ := h
    refine ⟨_, (pss_cons (ps_set (i := 4) sc_is_guarded.nd rfl (.inl rfl) (pe_call (ok_spoilt T TB) (hr.mono (by decide)) (by rfl) T.d_spoilt.g T.d_spoilt.F.kp T.d_spoilt.b .nil pass0 (pa_cons (pv 0) (pa_cons (pv 1) (pa_cons (pv 2) pa_nil)))))
  (pss_cons (ps_expr (pe_call (ok_check_count T) (hr.mono (by decide)) (by rfl) T.d_check_count.g T.d_check_count.F.kp T.d_check_count.b .nil pass0 (pa_cons (pv 3) (pa_cons (pe_glob (v := .int 32) (by rfl) T.c_MOST_SIGNS.choose_spec ⟨_, rfl⟩) pa_nil))))
  (pss_one (ps_ret (pe_callB (cr_all rfl) (by rfl) T.n_all (by decide +kernel) (pa_cons (pe_lc (own := [("_", 5), ("many", 6)]) (g := gTup K 2 (gCons (gName 5) (gCons (gName 6) gNil))) (tt := tYes) (te := _) rfl sc_is_guarded.nd (pi_list (pv 4)) (blkOk_by (own := [("_", 5), ("many", 6)]) (N := ["sheet", "tape", "begin", "most", "losses", "_", "many"]) (sc := defScope s_is_guarded) (by decide +kernel)) (by exact fun _ _ _ _ _ => pg_tup rfl (pgs_cons (pg_name (i := 5) sc_is_guarded.nd rfl (Or.inl rfl)) (pgs_cons (pg_name (i := 6) sc_is_guarded.nd rfl (Or.inl rfl)) pgs_nil))) (by exact fun _ _ _ _ _ => pts_nil) (by exact fun _ _ _ _ _ => (pe_cmpR op_le (pv 6) (pv 3) (nomark _)))) pa_nil)))))), ?_⟩
    refine ⟨.ref t, rfl, .ref a, rfl, .int b, rfl, t, a, z, o, hm, cs, b, rfl, gd, sh, hS, hc, hl, hb, tb, fun p as H1 k1 np ep prs nas => ?_⟩
    refine ⟨.int m, rfl, m, 32, rfl, m0, m1, ?_⟩
    refine ⟨.ref p, rfl, p, rfl, ⟨_, SqL.of ep⟩, fun D nD => ?_⟩
    have ll := losses_len z o hm cs b
    have al := prs.len
    refine lc_list (K := K) (a := p) (xs := as.map V.ref) (fun i H' => Same H1 H' ∧ i ≤ as.length ∧ H' D = some (.lst ((((losses z o hm cs b).take i).map fun p => decide (p.2 ≤ m)).map V.bl)))
      ⟨sameD (Same.refl _) nD, Nat.zero_le _, by rw [List.take_zero]; exact upd_same⟩ (fun i H' _ p => SqL.of (p.1 _ _ ep)) (fun i v H' hx p => ?_) (fun H' p => ?_)
    · obtain ⟨sm, hil, eD⟩ := p
      obtain ⟨u, hu, rfl⟩ := at_map hx
      obtain ⟨pr, hp, eu⟩ := prs.get hu
      have hul := (List.getElem?_eq_some_iff.mp hu).1
      refine ⟨u, _, rfl, SqT.of (sm _ _ eu), rfl, _, _, rfl, _, _, rfl, rfl, rfl, lc_yes ?_⟩
      refine ⟨.int pr.2, rfl, .int m, rfl, _, _, rfl, rfl, _, eD, ?_, sameD sm nD, hul, ?_⟩
      · rw [List.length_map, List.length_map, List.length_take]
        exact small1000 (by omega)
      · rw [upd_same, List.take_add_one, hp, List.map_append, List.map_append]; rfl
    · obtain ⟨sm, hil, eD⟩ := p
      rw [List.length_map, al, List.take_length] at eD
      refine ⟨D, _, rfl, SqL.of eD, ?_⟩
      have e : ((losses z o hm cs b).map fun p => decide (p.2 ≤ m)).all id = kept z o hm cs b m := by
        unfold kept
        rw [List.all_map]; rfl
      rw [e]
      exact q H' (k1.trans (Kp.same k1.tab sm))
end
end K01
namespace K01
open PySem PySem.Spec PyProof.Rows L2 Kt
section
variable {P : Program} {w : World} {K : PySem.W.Frag} {mg : Str → Option Value} {base : Heap}
theorem log_small {n : Nat} (h : n ≤ 1000) : ((n : Nat) : Int).natAbs.log2 < 1920 := by
  rw [Int.natAbs_natCast]
  by_cases e : n = 0
  · subst e; decide
  · exact (Nat.log2_lt e).mpr (Nat.lt_of_le_of_lt h (Nat.lt_of_lt_of_le (by decide : 1000 < 2 ^ 10) (Nat.pow_le_pow_right (by decide) (by decide))))
theorem ok_init_BadTape (T : Txt K mg) : FnOk P w K mg base CX0 1 T.in_BadTape.f T.in_BadTape.fd ["self", "place"] (spInit K T.C_BadTape "place") := by
  refine T.in_BadTape.F.ok sc_init_BadTape (fun vs H Q E h => ?_) (fun cdv A outer s H vs Q E hr h => ?_)
  · obtain ⟨a, n, rfl, _⟩ := h
    rfl
  · obtain ⟨a, n, rfl, hn, ha, q⟩ := h
    refine ⟨_, pss_cons (ps_expr (Kt.pe_cinit (by rfl) T.bc.g T.bc.rd T.bc.sg T.bc.fc (pa_cons (pv 0) (pa_cons (pe_joined (.cons pe_str (.cons (pe_fmt (pv 1)) .nil))) pa_nil)))) (pss_one (ps_ost (pv 0) (pv 1))), ?_⟩
    have e := int_text_length_le (k := 1920) (by decide) hn
    have e1 : (Str.ofString "no code of a tape stands at place ").length = 34 := by decide +kernel
    have e0 : Str.empty.length = 0 := rfl
    have e3 : (Str.ofString (toString n)).length ≤ 3000 := by rw [PySem.ofString_length]; omega
    have sz : ∀ k, k ≤ 4000 → k ≤ sizeLine := fun k h => Nat.le_trans h (by decide)
    refine ⟨.ref a, rfl, _, rfl, sz _ (by rw [Str.length_append, e0, e1]; decide), .int n, rfl, .inr ⟨n, rfl, hn, _, rfl, sz _ (by rw [Str.length_append, Str.length_append, e0, e1]; omega), a, T.C_BadTape, _, rfl, by simp, T.in_BadTape.ox, ha, ?_⟩⟩
    refine ⟨.int n, rfl, .ref a, rfl, a, T.C_BadTape, rfl, T.in_BadTape.ox, T.in_BadTape.no, .inl ⟨ha, fun dx hd ne => q dx hd ne⟩⟩
theorem ok_init_NoSign (T : Txt K mg) : FnOk P w K mg base CX0 1 T.in_NoSign.f T.in_NoSign.fd ["self", "place"] (spInit K T.C_NoSign "place") := by
  refine T.in_NoSign.F.ok sc_init_NoSign (fun vs H Q E h => ?_) (fun cdv A outer s H vs Q E hr h => ?_)
  · obtain ⟨a, n, rfl, _⟩ := h
    rfl
  · obtain ⟨a, n, rfl, hn, ha, q⟩ := h
    refine ⟨_, pss_cons (ps_expr (Kt.pe_cinit (by rfl) T.bc.g T.bc.rd T.bc.sg T.bc.fc (pa_cons (pv 0) (pa_cons (pe_joined (.cons pe_str (.cons (pe_fmt (pv 1)) .nil))) pa_nil)))) (pss_one (ps_ost (pv 0) (pv 1))), ?_⟩
    have e := int_text_length_le (k := 1920) (by decide) hn
    have e1 : (Str.ofString "no sign that can be written stands at place ").length = 44 := by decide +kernel
    have e0 : Str.empty.length = 0 := rfl
    have e3 : (Str.ofString (toString n)).length ≤ 3000 := by rw [PySem.ofString_length]; omega
    have sz : ∀ k, k ≤ 4000 → k ≤ sizeLine := fun k h => Nat.le_trans h (by decide)
    refine ⟨.ref a, rfl, _, rfl, sz _ (by rw [Str.length_append, e0, e1]; decide), .int n, rfl, .inr ⟨n, rfl, hn, _, rfl, sz _ (by rw [Str.length_append, Str.length_append, e0, e1]; omega), a, T.C_NoSign, _, rfl, by simp, T.in_NoSign.ox, ha, ?_⟩⟩
    refine ⟨.int n, rfl, .ref a, rfl, a, T.C_NoSign, rfl, T.in_NoSign.ox, T.in_NoSign.no, .inl ⟨ha, fun dx hd ne => q dx hd ne⟩⟩
theorem okg_can_be_a_set (T : Txt K mg) (TB : GxR.TabB base mg T.c_are_signs T.t_are_signs) : FnOk P w K mg base CX0 2 T.d_can_be_a_set.f T.d_can_be_a_set.fd ["signs"] (spCanG T.t_are_signs) := by
  refine T.d_can_be_a_set.F.ok sc_can_be_a_set (fun vs H Q E h => ?_) (fun cdv A outer s H vs Q E hr h => ?_)
  · obtain ⟨z, rfl, _⟩ := h
    rfl
  · obtain ⟨z, rfl, hz, tb, q⟩ := h
    refine ⟨_, (pss_one (ps_ret (pe_and (pe_call (ok_are_signs T TB) (hr.mono (by decide)) (by rfl) T.d_are_signs.g T.d_are_signs.F.kp T.d_are_signs.b .nil pass0 (pa_cons (pv 0) pa_nil)) (pe_one (pe_cmpR op_eq (Kt.pe_lenSetS rfl (by rfl) T.n_len (by rfl) T.n_set (pv 0)) (pe_callB call_len_str (by rfl) T.n_len PySem.boot_len (pa_cons (pv 0) pa_nil)) (nomark _)))))), ?_⟩
    refine ⟨.str z, rfl, z, rfl, tb, fun H2 t2 => ?_⟩
    have q := q H2 t2
    unfold canB at q
    change Q (.bl (signsOk z && decide z.cps.toList.Nodup)) H2 at q
    refine ⟨signsOk z, rfl, ?_⟩
    cases hs : signsOk z with
    | false => 
      rw [hs] at q
      exact iteF q
    | true =>
      rw [hs, Bool.true_and] at q
      refine iteT ?_
      refine ⟨.str z, rfl, z, rfl, hz, .str z, rfl, z, rfl, Nat.le_trans hz (by decide), rfl, ?_⟩
      have e : decide (V.int (((uq z.cps.toList).length : Nat) : Int) = V.int ((z.length : Nat) : Int)) = decide z.cps.toList.Nodup := by
        rw [← uq_dec]
        by_cases h : (uq z.cps.toList).length = z.cps.toList.length
        · rw [decide_eq_true h]
          exact decide_eq_true (by rw [h]; rfl)
        · rw [decide_eq_false h]
          exact decide_eq_false fun k => h (by have k := V.int.inj k; have k2 : (uq z.cps.toList).length = z.length := by omega
                                               exact k2)
      rw [e]
      exact q
theorem okx_check_sheet (T : Txt K mg) (TB : GxR.TabB base mg T.c_are_signs T.t_are_signs) : FnOk P w K mg base (L2.CX P w) 3 T.d_check_sheet.f T.d_check_sheet.fd ["sheet"] (spCheckG T.t_are_signs T.C_BadSheet) := by
  refine T.d_check_sheet.F.okX sc_check_sheet (fun vs H Q E h => ?_) (fun cdv A outer s H vs Q E hr h => ?_)
  · obtain ⟨t, z, o, hm, rfl, _⟩ := h
    rfl
  · obtain ⟨t, z, o, hm, rfl, hh, sh, zz, zo, tb, qg, qb⟩ := h
    refine ⟨_, (pss_cons (ps_asg (pv 0) (pg_tup rfl (pgs_cons (pg_name (i := 1) sc_check_sheet.nd rfl (.inl rfl)) (pgs_cons (pg_name (i := 2) sc_check_sheet.nd rfl (.inl rfl)) (pgs_cons (pg_name (i := 3) sc_check_sheet.nd rfl (.inl rfl)) pgs_nil)))))
  (pss_cons (ps_if (pt_cmpR op_ne (pe_callB call_len_str (by rfl) T.n_len PySem.boot_len (pa_cons (pv 1) pa_nil)) (pe_callB call_len_str (by rfl) T.n_len PySem.boot_len (pa_cons (pv 2) pa_nil)) (nomark _))
  (pss_one (ps_raise rfl (takes_of rfl rfl rfl rfl) (pmk_own PySem.F.excBase_ValueError T.q_BadSheet T.x_BadSheet.g T.x_BadSheet.kp T.x_BadSheet.raises rfl)))
  pss_nil)
  (pss_cons (ps_if (pt_not (pt_chain op_le op_le pe_int (pe_callB call_len_str (by rfl) T.n_len PySem.boot_len (pa_cons (pv 1) pa_nil)) (pe_glob (v := .int 26) (by rfl) T.c_MOST_PLACES.choose_spec ⟨_, rfl⟩)))
  (pss_one (ps_raise rfl (takes_of rfl rfl rfl rfl) (pmk_own PySem.F.excBase_ValueError T.q_BadSheet T.x_BadSheet.g T.x_BadSheet.kp T.x_BadSheet.raises rfl)))
  pss_nil)
  (pss_cons (ps_if (PW.pt (pw_or (pt_not (pt_val (pe_call (okg_can_be_a_set T TB) hr (by rfl) T.d_can_be_a_set.g T.d_can_be_a_set.F.kp T.d_can_be_a_set.b .nil pass0 (pa_cons (pv 1) pa_nil)))) (pw_or1 (pt_not (pt_val (pe_call (okg_can_be_a_set T TB) hr (by rfl) T.d_can_be_a_set.g T.d_can_be_a_set.F.kp T.d_can_be_a_set.b .nil pass0 (pa_cons (pv 2) pa_nil)))))))
  (pss_one (ps_raise rfl (takes_of rfl rfl rfl rfl) (pmk_own PySem.F.excBase_ValueError T.q_BadSheet T.x_BadSheet.g T.x_BadSheet.kp T.x_BadSheet.raises rfl)))
  pss_nil)
  (pss_one (ps_if (PW.pt (pw_and (pt_cmp (pc_notN (pv 3))) (pw_and1 (pt_not (pt_chain op_le op_lt pe_int (pv 3) (pe_callB call_len_str (by rfl) T.n_len PySem.boot_len (pa_cons (pv 1) pa_nil)))))))
  (pss_one (ps_raise rfl (takes_of rfl rfl rfl rfl) (pmk_own PySem.F.excBase_ValueError T.q_BadSheet T.x_BadSheet.g T.x_BadSheet.kp T.x_BadSheet.raises rfl)))
  pss_nil)))))), ?_⟩
    have big : z.length ≤ sizeLine := Nat.le_trans zz (by decide)
    have bigo : o.length ≤ sizeLine := Nat.le_trans zo (by decide)
    have kr : Kp T.t_are_signs H H := Kp.of_tabbed (tabbed_refl tb)
    have hz : (z.length : Int) = (z.cps.size : Int) := rfl
    have hzo : (o.length : Int) = (o.cps.size : Int) := rfl
    unfold goodB at qg qb
    refine ⟨.ref t, rfl, t, _, rfl, SqT.of sh, rfl, _, _, rfl, _, _, rfl, _, _, rfl, rfl, ?_⟩
    refine ⟨.str z, rfl, z, rfl, big, .str o, rfl, o, rfl, bigo, rfl, ?_⟩
    by_cases h1 : z.cps.size = o.cps.size
    case neg =>
      rw [decide_eq_false h1, Bool.false_and] at qb
      exact ⟨true, by rw [decide_eq_false (show ¬ V.int ((z.length : Nat) : Int) = V.int ((o.length : Nat) : Int) from fun k => h1 (by have := V.int.inj k; omega))]; rfl, iteT (qb rfl H kr)⟩
    rw [decide_eq_true h1, Bool.true_and] at qg qb
    refine ⟨false, by rw [decide_eq_true (show V.int ((z.length : Nat) : Int) = V.int ((o.length : Nat) : Int) from by rw [hz, hzo, h1])]; rfl, iteF ?_⟩
    refine ⟨.str z, rfl, z, rfl, big, 1, _, rfl, rfl, _, rfl, ?_⟩
    by_cases h2 : 1 ≤ z.cps.size
    case neg =>
      rw [decide_eq_false (fun k => h2 k.1), Bool.false_and] at qb
      exact iteFd (by omega) ⟨false, rfl, iteT (qb rfl H kr)⟩
    refine iteTd (by omega) ?_
    by_cases h3 : z.cps.size ≤ 26
    case neg =>
      rw [decide_eq_false (fun k => h3 k.2), Bool.false_and] at qb
      exact ⟨_, 26, rfl, rfl, false, dec_f (by omega), iteT (qb rfl H kr)⟩
    rw [decide_eq_true ⟨h2, h3⟩, Bool.true_and] at qg qb
    refine ⟨_, 26, rfl, rfl, true, dec_t (by omega), iteF ?_⟩
    refine ⟨.str z, rfl, z, rfl, zz, tb, fun H1 t1 => ⟨canB z, rfl, ?_⟩⟩
    cases h4 : canB z with
    | false =>
      rw [h4, Bool.false_and, Bool.false_and] at qb
      exact iteT (iteT (qb rfl H1 (Kp.of_tabbed t1)))
    | true =>
    rw [h4, Bool.true_and] at qg qb
    refine iteF ⟨.str o, rfl, o, rfl, zo, t1.1, fun H2 t2 => ⟨canB o, rfl, ?_⟩⟩
    have kp : Kp T.t_are_signs H H2 := (Kp.of_tabbed t1).trans (Kp.of_tabbed t2)
    cases h5 : canB o with
    | false =>
      rw [h5, Bool.false_and] at qb
      exact iteT (qb rfl H2 kp)
    | true =>
    rw [h5, Bool.true_and] at qg qb
    refine iteF ⟨hm, rfl, _, rfl, ?_⟩
    rcases hh with e | ⟨i, e⟩ <;> subst e
    · exact iteF (iteF (qg rfl H2 kp))
    · refine iteT ?_
      refine ⟨.int i, rfl, 0, _, rfl, rfl, _, rfl, ?_⟩
      unfold homeB at qg qb
      by_cases h6 : 0 ≤ i
      · refine iteTd h6 ?_
        refine ⟨.str z, rfl, z, rfl, big, _, _, rfl, rfl, ?_⟩
        by_cases h7 : i < (z.cps.size : Int)
        · exact ⟨true, dec_t h7, iteF (qg (decide_eq_true ⟨h6, h7⟩) H2 kp)⟩
        · exact ⟨false, dec_f h7, iteT (qb (decide_eq_false fun k => h7 k.2) H2 kp)⟩
      · exact iteFd h6 ⟨false, rfl, iteT (qb (decide_eq_false fun k => h6 k.1) H2 kp)⟩
theorem okx_check_tape (T : Txt K mg) : FnOk P w K mg base (L2.CX P w) 3 T.d_check_tape.f T.d_check_tape.fd ["sheet", "tape"] (spTapeX K (kc T)) := by
  refine T.d_check_tape.F.okX sc_check_tape (fun vs H Q E h => ?_) (fun cdv A outer s H vs Q E hr h => ?_)
  · obtain ⟨t, a, z, o, hm, cs, r, rfl, _⟩ := h
    rfl
  · obtain ⟨t, a, z, o, hm, cs, r, rfl, gd, sh, hS, hl, tv, q⟩ := h
    refine ⟨_, (pss_cons (ps_set (i := 2) sc_check_tape.nd rfl (.inl rfl) (pe_op op_add (pe_callB call_len_str (by rfl) T.n_len PySem.boot_len (pa_cons (pe_ix ix_tup (pv 0) pe_int (fun _ _ => rfl)) pa_nil)) pe_int))
  (pss_one (ps_for (passes_of rfl) rfl (pi_enum (by rfl) T.n_enumerate (pa_cons (pv 1) pa_nil)) (pg_tup rfl (pgs_cons (pg_name (i := 3) sc_check_tape.nd rfl (.inl rfl)) (pgs_cons (pg_name (i := 4) sc_check_tape.nd rfl (.inl rfl)) pgs_nil)))
  (pss_one (ps_if (PW.pt (pw_or (pt_cmpR op_eq (pv 3) (pe_glob (v := .int 100) (by rfl) T.c_MOST_CODES.choose_spec ⟨_, rfl⟩) (nomark _)) (pw_or1 (pt_not (pt_chain op_le op_le pe_int (pv 4) (pv 2))))))
  (pss_one (ps_raise rfl (takes_of rfl rfl rfl rfl) (pmk_oex T.in_BadTape.ox T.in_BadTape.ii T.in_BadTape.ti (ok_init_BadTape T) (hr.mono (by decide)) T.in_BadTape.b .nil pass0 (by rfl) T.x_BadTape.g (pa_cons (pv 3) pa_nil))))
  pss_nil))))), ?_⟩
    have z2 := gd.le
    have hz : (z.length : Int) = (z.cps.size : Int) := rfl
    have big : z.length ≤ sizeLine := Nat.le_trans z2 (by decide)
    refine ⟨.ref t, rfl, t, _, 0, _, rfl, rfl, SqT.of sh, atI_nat (j := 0) rfl, z, rfl, big, _, 1, rfl, rfl, ?_⟩
    refine ⟨.ref a, rfl, a, _, rfl, hS, ?_⟩
    refine ⟨fun i m σ H' => m = cs.length - i ∧ i ≤ cs.length ∧ (∀ p, r = some p → i ≤ p) ∧ Same H H' ∧ ∃ y3 y4 : Option V, σ = [some (.ref t), some (.ref a), some (.int ((z.length : Nat) + 1)), y3, y4], ⟨cs.length, by omega, Nat.zero_le _, fun _ _ => Nat.zero_le _, Same.refl _, none, none, rfl⟩, fun i m σ H' hW => ?_⟩
    obtain ⟨em, hi, hp, sm, y3, y4, rfl⟩ := hW
    have hS' := sm.seq hS
    by_cases hlt : i < cs.length
    · have hx : (cs.map V.int)[i]? = some (.int cs[i]) := map_at (List.getElem?_eq_getElem hlt)
      have hci : cs[i]? = some cs[i] := List.getElem?_eq_getElem hlt
      generalize cs[i] = c at hx hci
      refine .inr ⟨⟨_, _, hS', hx⟩, fun σ' H2 => (∀ p, r = some p → i + 1 ≤ p) ∧ Same H H2 ∧ ∃ y3 y4 : Option V, σ' = [some (.ref t), some (.ref a), some (.int ((z.length : Nat) + 1)), y3, y4], fun σ' H2 p => ⟨m - 1, by omega, by omega, hlt, p.1, p.2⟩, fun x H2 hy => ?_⟩
      obtain ⟨D, x2, rfl, nD, rfl, f⟩ := hy
      obtain rfl : x2 = .int c := Option.some.inj ((f _ hS').symm.trans hx)
      have s2 := sm.trans (same_new (o := HO.tup [V.int (i : Nat), V.int c]) nD)
      refine ⟨D, _, rfl, SqT.of upd_same, rfl, _, _, rfl, _, _, rfl, rfl, ?_⟩
      refine ⟨.int (i : Nat), rfl, rfl, _, rfl, ?_⟩
      have dec : (i ≠ 100 ∧ (0 ≤ c ∧ c < (z.cps.size : Int) + 2) ∧ ∀ p, r = some p → i + 1 ≤ p) ∨ (r = some i ∧ (i = 100 ∨ ¬ (0 ≤ c ∧ c < (z.cps.size : Int) + 2))) := by
        cases r with
        | none =>
          obtain ⟨hc, hl⟩ := tv
          exact .inl ⟨by omega, hc c (List.mem_of_getElem? hci), fun p e => nomatch e⟩
        | some p =>
          obtain ⟨p100, good, c', hc', bad⟩ := tv
          have hip := hp p rfl
          by_cases hip' : i < p
          · exact .inl ⟨by omega, good i c hip' hci, fun p' e => by cases e; omega⟩
          · have e : i = p := by omega
            subst e
            rw [hci] at hc'
            cases hc'
            exact .inr ⟨rfl, bad⟩
      rcases dec with ⟨h100, c01, hp'⟩ | ⟨e, bad⟩
      · refine iteFd (fun e' => by injection e' with e'; omega) ⟨.int c, rfl, 0, _, rfl, rfl, _, rfl, iteTd c01.1 ⟨.int ((z.length : Nat) + 1), rfl, _, _, rfl, rfl, _, rfl, iteNS (by omega) ⟨hp', s2, _, _, rfl⟩⟩⟩
      · subst e
        by_cases h100 : i = 100
        · refine iteTd (congrArg V.int (by rw [h100]; rfl)) (iteT ⟨.int (i : Nat), rfl, ?_⟩)
          exact mk_init (log_small (by omega)) fun dx hd => q _ dx s2 hd
        · refine iteFd (fun e' => by injection e' with e'; omega) ?_
          have bad := bad.resolve_left h100
          refine ⟨.int c, rfl, 0, _, rfl, rfl, _, rfl, ?_⟩
          by_cases h6 : 0 ≤ c
          · refine iteTd h6 ⟨.int ((z.length : Nat) + 1), rfl, _, _, rfl, rfl, false, dec_f (by omega), iteT ⟨.int (i : Nat), rfl, ?_⟩⟩
            exact mk_init (log_small (by omega)) fun dx hd => q _ dx s2 hd
          · refine iteFd h6 ⟨false, rfl, iteT ⟨.int (i : Nat), rfl, ?_⟩⟩
            exact mk_init (log_small (by omega)) fun dx hd => q _ dx s2 hd
    · refine .inl ⟨⟨_, hS', by rw [List.length_map]; omega⟩, ?_⟩
      cases r with
      | none => exact q H' sm
      | some p =>
        obtain ⟨_, _, c', hc', _⟩ := tv
        have := (List.getElem?_eq_some_iff.mp hc').1
        have := hp p rfl
        omega
theorem okx_check_set (T : Txt K mg) : FnOk P w K mg base (L2.CX P w) 1 T.d_check_set.f T.d_check_set.fd ["begin"] (spSetX (kc T)) := by
  refine T.d_check_set.F.okX sc_check_set (fun vs H Q E h => ?_) (fun cdv A outer s H vs Q E hr h => ?_)
  · obtain ⟨b, rfl, _⟩ := h
    rfl
  · obtain ⟨b, rfl, qg, qb⟩ := h
    refine ⟨_, (pss_one (ps_if (PW.pt (pw_and (pt_cmpR op_ne (pv 0) pe_int (nomark _)) (pw_and1 (pt_cmpR op_ne (pv 0) pe_int (nomark _)))))
  (pss_one (ps_raise rfl (takes_of rfl rfl rfl rfl) (pmk_own PySem.F.excBase_ValueError T.q_BadSet T.x_BadSet.g T.x_BadSet.kp T.x_BadSet.raises rfl)))
  pss_nil)), ?_⟩
    refine ⟨.int b, rfl, rfl, _, rfl, ?_⟩
    by_cases h0 : b = 0
    · subst h0
      exact iteF (iteF (qg (.inl rfl)))
    · rw [decide_eq_false (show ¬ V.int b = V.int 0 from fun e => h0 (V.int.inj e))]
      refine iteT ⟨.int b, rfl, rfl, _, rfl, ?_⟩
      by_cases h1 : b = 1
      · subst h1
        exact iteF (qg (.inr rfl))
      · rw [decide_eq_false (show ¬ V.int b = V.int 1 from fun e => h1 (V.int.inj e))]
        exact iteT (qb fun k => k.elim h0 h1)
theorem okx_check_count (T : Txt K mg) : FnOk P w K mg base (L2.CX P w) 1 T.d_check_count.f T.d_check_count.fd ["many", "most"] (spCountX (kc T)) := by
  refine T.d_check_count.F.okX sc_check_count (fun vs H Q E h => ?_) (fun cdv A outer s H vs Q E hr h => ?_)
  · obtain ⟨m, n, rfl, _⟩ := h
    rfl
  · obtain ⟨m, n, rfl, hn, qg, qb⟩ := h
    refine ⟨_, (pss_one (ps_if (pt_not (pt_chain op_le op_le pe_int (pv 0) (pv 1)))
  (pss_one (ps_raise rfl (takes_of rfl rfl rfl rfl) (SkE.pmk_own1 PySem.F.excBase_ValueError T.q_BadCount T.x_BadCount.g T.x_BadCount.kp T.x_BadCount.raises rfl (pe_joined (.cons pe_str (.cons (pe_fmt (pv 1)) (.cons pe_str .nil)))))))
  pss_nil)), ?_⟩
    have e := int_text_length_le (k := 1920) (by decide) hn
    have e1 : (Str.ofString "a number from 0 to ").length = 19 := by decide +kernel
    have e2 : (Str.ofString " is wanted here").length = 15 := by decide +kernel
    have e0 : Str.empty.length = 0 := rfl
    have e3 : (Str.ofString (toString n)).length ≤ 3000 := by rw [PySem.ofString_length]; omega
    have sz : ∀ k, k ≤ 4000 → k ≤ sizeLine := fun k h => Nat.le_trans h (by decide)
    refine ⟨.int m, rfl, 0, _, rfl, rfl, _, rfl, ?_⟩
    by_cases h0 : 0 ≤ m
    · refine iteTd h0 ⟨.int n, rfl, m, n, rfl, rfl, ?_⟩
      by_cases h1 : m ≤ n
      · exact ⟨true, dec_t h1, iteF (qg ⟨h0, h1⟩)⟩
      · exact ⟨false, dec_f h1, iteT ⟨_, rfl, sz _ (by rw [Str.length_append, e0, e1]; decide), .int n, rfl, .inr ⟨n, rfl, hn, _, rfl, sz _ (by rw [Str.length_append, Str.length_append, e0, e1]; omega), _, rfl, sz _ (by rw [Str.length_append, Str.length_append, Str.length_append, e0, e1, e2]; omega), qb fun k => h1 k.2⟩⟩⟩
    · refine iteFd h0 ⟨false, rfl, iteT ⟨_, rfl, sz _ (by rw [Str.length_append, e0, e1]; decide), .int n, rfl, .inr ⟨n, rfl, hn, _, rfl, sz _ (by rw [Str.length_append, Str.length_append, e0, e1]; omega), _, rfl, sz _ (by rw [Str.length_append, Str.length_append, Str.length_append, e0, e1, e2]; omega), qb fun k => h0 k.1⟩⟩⟩
theorem okx_check_text (T : Txt K mg) : FnOk P w K mg base (L2.CX P w) 3 T.d_check_text.f T.d_check_text.fd ["sheet", "text"] (spTextX (kc T)) := by
  refine T.d_check_text.F.okX sc_check_text (fun vs H Q E h => ?_) (fun cdv A outer s H vs Q E hr h => ?_)
  · obtain ⟨t, z, o, hm, x, r, rfl, _⟩ := h
    rfl
  · obtain ⟨t, z, o, hm, x, r, rfl, gd, sh, hl, tv, q⟩ := h
    refine ⟨_, (pss_cons (ps_asg (pv 0) (pg_tup rfl (pgs_cons (pg_name (i := 2) sc_check_text.nd rfl (.inl rfl)) (pgs_cons (pg_name (i := 3) sc_check_text.nd rfl (.inl rfl)) (pgs_cons (pg_name (i := 4) sc_check_text.nd rfl (.inl rfl)) pgs_nil)))))
  (pss_one (ps_for (passes_of rfl) rfl (Kt.pi_enumS (by rfl) T.n_enumerate (pa_cons (pv 1) pa_nil)) (pg_tup rfl (pgs_cons (pg_name (i := 5) sc_check_text.nd rfl (.inl rfl)) (pgs_cons (pg_name (i := 6) sc_check_text.nd rfl (.inl rfl)) pgs_nil)))
  (pss_one (ps_if (PW.pt (pw_or (pt_cmpR op_eq (pv 5) (pe_glob (v := .int 32) (by rfl) T.c_MOST_SIGNS.choose_spec ⟨_, rfl⟩) (nomark _)) (pw_or1 (PW.pt (pw_and (pt_cmpR op_notIn_sign (pv 6) (pv 2) (by rfl)) (pw_and1 (pt_cmpR op_notIn_sign (pv 6) (pv 3) (by rfl))))))))
  (pss_one (ps_raise rfl (takes_of rfl rfl rfl rfl) (pmk_oex T.in_NoSign.ox T.in_NoSign.ii T.in_NoSign.ti (ok_init_NoSign T) (hr.mono (by decide)) T.in_NoSign.b .nil pass0 (by rfl) T.x_NoSign.g (pa_cons (pv 5) pa_nil))))
  pss_nil))))), ?_⟩
    refine ⟨.ref t, rfl, t, _, rfl, SqT.of sh, rfl, _, _, rfl, _, _, rfl, _, _, rfl, rfl, ?_⟩
    refine ⟨.str x, rfl, x, rfl, ?_⟩
    refine ⟨fun i m σ H' => m = x.cps.size - i ∧ i ≤ x.cps.size ∧ (∀ p, r = some p → i ≤ p) ∧ Same H H' ∧ ∃ y5 y6 : Option V, σ = [some (.ref t), some (.str x), some (.str z), some (.str o), some hm, y5, y6], ⟨x.cps.size, by omega, Nat.zero_le _, fun _ _ => Nat.zero_le _, Same.refl _, none, none, rfl⟩, fun i m σ H' hW => ?_⟩
    obtain ⟨em, hi, hp, sm, y5, y6, rfl⟩ := hW
    by_cases hlt : i < x.cps.size
    · refine .inr ⟨hlt, fun σ' H2 => (∀ p, r = some p → i + 1 ≤ p) ∧ Same H H2 ∧ ∃ y5 y6 : Option V, σ' = [some (.ref t), some (.str x), some (.str z), some (.str o), some hm, y5, y6], fun σ' H2 p => ⟨m - 1, by omega, by omega, hlt, p.1, p.2⟩, fun v H2 hy => ?_⟩
      obtain ⟨D, c, rfl, nD, rfl, hc⟩ := hy
      have hci : x.cps.toList[i]? = some c := by rw [Array.getElem?_toList]; exact hc
      have s2 := sm.trans (same_new (o := HO.tup [V.int (i : Nat), V.str (sg c)]) nD)
      refine ⟨D, _, rfl, SqT.of upd_same, rfl, _, _, rfl, _, _, rfl, rfl, ?_⟩
      refine ⟨.int (i : Nat), rfl, rfl, _, rfl, ?_⟩
      have dec : (i ≠ 32 ∧ InSet z o c ∧ ∀ p, r = some p → i + 1 ≤ p) ∨ (r = some i ∧ (i = 32 ∨ ¬ InSet z o c)) := by
        cases r with
        | none =>
          obtain ⟨hl, hc⟩ := tv
          exact .inl ⟨by omega, hc c (List.mem_of_getElem? hci), fun p e => nomatch e⟩
        | some p =>
          obtain ⟨p100, good, c', hc', bad⟩ := tv
          have hip := hp p rfl
          by_cases hip' : i < p
          · exact .inl ⟨by omega, good i c hip' hci, fun p' e => by cases e; omega⟩
          · have e : i = p := by omega
            subst e
            rw [hci] at hc'
            cases hc'
            exact .inr ⟨rfl, bad⟩
      rcases dec with ⟨h32, ins, hp'⟩ | ⟨e, bad⟩
      · refine iteFd (fun e' => by injection e' with e'; omega) ?_
        refine ⟨.str (sg c), rfl, .str z, rfl, c, z, rfl, rfl, _, rfl, ?_⟩
        by_cases hz : c ∈ z.cps.toList
        · rw [decide_eq_true hz]
          exact iteF (iteF ⟨hp', s2, _, _, rfl⟩)
        · rw [decide_eq_false hz]
          have ho : c ∈ o.cps.toList := ins.resolve_left hz
          refine iteT ⟨.str (sg c), rfl, .str o, rfl, c, o, rfl, rfl, _, rfl, ?_⟩
          rw [decide_eq_true ho]
          exact iteF ⟨hp', s2, _, _, rfl⟩
      · subst e
        by_cases h32 : i = 32
        · refine iteTd (congrArg V.int (by rw [h32]; rfl)) (iteT ⟨.int (i : Nat), rfl, ?_⟩)
          exact mk_init (log_small (by omega)) fun dx hd => q _ dx s2 hd
        · refine iteFd (fun e' => by injection e' with e'; omega) ?_
          have bad := bad.resolve_left h32
          refine ⟨.str (sg c), rfl, .str z, rfl, c, z, rfl, rfl, _, rfl, ?_⟩
          rw [decide_eq_false (fun k => bad (.inl k))]
          refine iteT ⟨.str (sg c), rfl, .str o, rfl, c, o, rfl, rfl, _, rfl, ?_⟩
          rw [decide_eq_false (fun k => bad (.inr k))]
          refine iteT ⟨.int (i : Nat), rfl, ?_⟩
          exact mk_init (log_small (by omega)) fun dx hd => q _ dx s2 hd
    · refine .inl ⟨by show x.cps.size ≤ i; omega, ?_⟩
      cases r with
      | none => exact q H' sm
      | some p =>
        obtain ⟨_, _, c', hc', _⟩ := tv
        have h1 := (List.getElem?_eq_some_iff.mp hc').1
        rw [Array.length_toList] at h1
        have := hp p rfl
        omega
theorem okx_check_begun (T : Txt K mg) (ap : (tws T).Apart) (TB : GxR.TabB base mg T.c_are_signs T.t_are_signs) : FnOk P w K mg base (L2.CX P w) 4 T.d_check_begun.f T.d_check_begun.fd ["sheet", "tape", "begin"] (spTp (kc T) (tws T)) := by
  refine T.d_check_begun.F.okX sc_check_begun (fun vs H Q E h => ?_) (fun cdv A outer s H vs Q E hr h => ?_)
  · obtain ⟨t, a, z, o, hm, cs, b, r, rfl, _⟩ := h
    rfl
  · obtain ⟨t, a, z, o, hm, cs, b, r, rfl, an, is, v, tw, en⟩ := h
    refine ⟨_, (pss_cons (ps_expr (pe_callS (okx_check_sheet T TB) (hr.mono (by decide)) (by rfl) T.d_check_sheet.g T.d_check_sheet.F.kp T.d_check_sheet.b (fun σ => passAt (takes_of rfl rfl rfl rfl) σ) (pa_cons (pv 0) pa_nil)))
  (pss_cons (ps_expr (pe_callS (okx_check_tape T) (hr.mono (by decide)) (by rfl) T.d_check_tape.g T.d_check_tape.F.kp T.d_check_tape.b (fun σ => passAt (takes_of rfl rfl rfl rfl) σ) (pa_cons (pv 0) (pa_cons (pv 1) pa_nil))))
  (pss_one (ps_expr (pe_callS (okx_check_set T) (hr.mono (by decide)) (by rfl) T.d_check_set.g T.d_check_set.F.kp T.d_check_set.b (fun σ => passAt (takes_of rfl rfl rfl rfl) σ) (pa_cons (pv 2) pa_nil)))))), ?_⟩
    refine ⟨.ref t, rfl, t, z, o, hm, rfl, an.hh, an.sh, an.zz, an.zo, tw.g _ (mem_are_signs T), fun g H1 k1 => ?_, fun g H1 k1 => ?_⟩
    · have k1 := kz_p ap (mem_are_signs T) tw k1
      have gd := goodB_iff.mp g
      have an1 := an.kz k1
      have is1 := is.kz k1
      obtain ⟨rt, hv, rest⟩ : ∃ rt, TapeV z.cps.size cs rt ∧ ((∃ p, rt = some p ∧ r = some (.tape p)) ∨ (rt = none ∧ ((r = none ∧ Is01 b) ∨ (r = some .set ∧ ¬ Is01 b)))) := by
        match r, v with
        | none, v => exact ⟨none, v.2.1, .inr ⟨rfl, .inl ⟨rfl, v.2.2⟩⟩⟩
        | some .sheet, v => rw [v] at g; cases g
        | some (.tape p), v => exact ⟨some p, v.2, .inl ⟨p, rfl, rfl⟩⟩
        | some .set, v => exact ⟨none, v.2.1, .inr ⟨rfl, .inr ⟨rfl, v.2.2⟩⟩⟩
      refine ⟨.ref t, rfl, .ref a, rfl, t, a, z, o, hm, cs, rt, rfl, gd, an1.sh, SqL.of is1.at', is1.le, hv, ?_⟩
      rcases rest with ⟨p, rfl, rfl⟩ | ⟨rfl, rest⟩
      · exact fun H2 dx s2 nd => en H2 dx (k1.trans (Kz.same k1.tb s2)) nd
      · refine fun H2 s2 => ⟨.int b, rfl, b, rfl, fun hb => ?_, fun hb => ?_⟩
        · rcases rest with ⟨rfl, _⟩ | ⟨_, nb⟩
          · exact en _ H2 (k1.trans (Kz.same k1.tb s2))
          · exact absurd hb nb
        · rcases rest with ⟨_, nb⟩ | ⟨rfl, _⟩
          · exact absurd nb hb
          · exact en H2 (k1.trans (Kz.same k1.tb s2))
    · have k1 := kz_p ap (mem_are_signs T) tw k1
      match r, v with
      | none, v => rw [goodB_iff.mpr v.1] at g; cases g
      | some .sheet, v => exact en H1 k1
      | some (.tape p), v => rw [goodB_iff.mpr v.1] at g; cases g
      | some .set, v => rw [goodB_iff.mpr v.1] at g; cases g
end
end K01
namespace K01
open PySem PySem.Spec PyProof.Rows L2 Kt
section
variable {P : Program} {w : World} {K : PySem.W.Frag} {mg : Str → Option Value} {base : Heap}
theorem okb_read (T : Txt K mg) (ap : (tws T).Apart) (TB : GxR.TabB base mg T.c_are_signs T.t_are_signs) : FnOk P w K mg base (L2.CX P w) 5 T.d_read.f T.d_read.fd ["sheet", "tape", "begin"] (spTpN (kc T) (tws T)) := by
  refine T.d_read.F.okX sc_read (fun vs H Q E h => ?_) (fun cdv A outer s H vs Q E hr h => ?_)
  · obtain ⟨t, a, z, o, hm, cs, b, r, rfl, _⟩ := h
    rfl
  · obtain ⟨t, a, z, o, hm, cs, b, r, rfl, an, is, v, tw, en⟩ := h
    refine ⟨_, (pss_cons (ps_expr (pe_callS (okx_check_begun T ap TB) (hr.mono (by decide)) (by rfl) T.d_check_begun.g T.d_check_begun.F.kp T.d_check_begun.b (fun σ => passAt (takes_of rfl rfl rfl rfl) σ) (pa_cons (pv 0) (pa_cons (pv 1) (pa_cons (pv 2) pa_nil)))))
  pss_never), ?_⟩
    exact ⟨.ref t, rfl, .ref a, rfl, .int b, rfl, t, a, z, o, hm, cs, b, some r, rfl, an, is, v, tw, en⟩
theorem okx_read (T : Txt K mg) (ap : (tws T).Apart) (TB : GxR.TabB base mg T.c_are_signs T.t_are_signs) : FnOk P w K mg base (L2.CX P w) 5 T.d_read.f T.d_read.fd ["sheet", "tape", "begin"] (spTp (kc T) (tws T)) := by
  refine Kt.FnOk.both (ok_read T TB) (okb_read T ap TB) (by decide) fun vs H Q E h => ?_
  obtain ⟨t, a, z, o, hm, cs, b, r, rfl, an, is, v, tw, en⟩ := h
  cases r with
  | none => exact .inl ⟨t, a, z, o, hm, cs, b, rfl, v.1, an.sh, SqL.of is.at', v.2.1.1, v.2.1.2, v.2.2, tw.g _ (mem_are_signs T), fun H' k => en _ H' (kz_p ap (mem_are_signs T) tw k)⟩
  | some r => exact .inr ⟨t, a, z, o, hm, cs, b, r, rfl, an, is, v, tw, en⟩
theorem okb_last_set (T : Txt K mg) (ap : (tws T).Apart) (TB : GxR.TabB base mg T.c_are_signs T.t_are_signs) : FnOk P w K mg base (L2.CX P w) 5 T.d_last_set.f T.d_last_set.fd ["sheet", "tape", "begin"] (spTpN (kc T) (tws T)) := by
  refine T.d_last_set.F.okX sc_last_set (fun vs H Q E h => ?_) (fun cdv A outer s H vs Q E hr h => ?_)
  · obtain ⟨t, a, z, o, hm, cs, b, r, rfl, _⟩ := h
    rfl
  · obtain ⟨t, a, z, o, hm, cs, b, r, rfl, an, is, v, tw, en⟩ := h
    refine ⟨_, (pss_cons (ps_expr (pe_callS (okx_check_begun T ap TB) (hr.mono (by decide)) (by rfl) T.d_check_begun.g T.d_check_begun.F.kp T.d_check_begun.b (fun σ => passAt (takes_of rfl rfl rfl rfl) σ) (pa_cons (pv 0) (pa_cons (pv 1) (pa_cons (pv 2) pa_nil)))))
  pss_never), ?_⟩
    exact ⟨.ref t, rfl, .ref a, rfl, .int b, rfl, t, a, z, o, hm, cs, b, some r, rfl, an, is, v, tw, en⟩
theorem okx_last_set (T : Txt K mg) (ap : (tws T).Apart) (TB : GxR.TabB base mg T.c_are_signs T.t_are_signs) : FnOk P w K mg base (L2.CX P w) 5 T.d_last_set.f T.d_last_set.fd ["sheet", "tape", "begin"] (spTp (kc T) (tws T)) := by
  refine Kt.FnOk.both (ok_last_set T TB) (okb_last_set T ap TB) (by decide) fun vs H Q E h => ?_
  obtain ⟨t, a, z, o, hm, cs, b, r, rfl, an, is, v, tw, en⟩ := h
  cases r with
  | none => exact .inl ⟨t, a, z, o, hm, cs, b, rfl, v.1, an.sh, SqL.of is.at', v.2.1.1, v.2.1.2, v.2.2, tw.g _ (mem_are_signs T), fun H' k => en _ H' (kz_p ap (mem_are_signs T) tw k)⟩
  | some r => exact .inr ⟨t, a, z, o, hm, cs, b, r, rfl, an, is, v, tw, en⟩
theorem okb_spoilt (T : Txt K mg) (ap : (tws T).Apart) (TB : GxR.TabB base mg T.c_are_signs T.t_are_signs) : FnOk P w K mg base (L2.CX P w) 5 T.d_spoilt.f T.d_spoilt.fd ["sheet", "tape", "begin"] (spTpN (kc T) (tws T)) := by
  refine T.d_spoilt.F.okX sc_spoilt (fun vs H Q E h => ?_) (fun cdv A outer s H vs Q E hr h => ?_)
  · obtain ⟨t, a, z, o, hm, cs, b, r, rfl, _⟩ := h
    rfl
  · obtain ⟨t, a, z, o, hm, cs, b, r, rfl, an, is, v, tw, en⟩ := h
    refine ⟨_, (pss_cons (ps_expr (pe_callS (okx_check_begun T ap TB) (hr.mono (by decide)) (by rfl) T.d_check_begun.g T.d_check_begun.F.kp T.d_check_begun.b (fun σ => passAt (takes_of rfl rfl rfl rfl) σ) (pa_cons (pv 0) (pa_cons (pv 1) (pa_cons (pv 2) pa_nil)))))
  pss_never), ?_⟩
    exact ⟨.ref t, rfl, .ref a, rfl, .int b, rfl, t, a, z, o, hm, cs, b, some r, rfl, an, is, v, tw, en⟩
theorem okx_spoilt (T : Txt K mg) (ap : (tws T).Apart) (TB : GxR.TabB base mg T.c_are_signs T.t_are_signs) : FnOk P w K mg base (L2.CX P w) 5 T.d_spoilt.f T.d_spoilt.fd ["sheet", "tape", "begin"] (spTp (kc T) (tws T)) := by
  refine Kt.FnOk.both (ok_spoilt T TB) (okb_spoilt T ap TB) (by decide) fun vs H Q E h => ?_
  obtain ⟨t, a, z, o, hm, cs, b, r, rfl, an, is, v, tw, en⟩ := h
  cases r with
  | none => exact .inl ⟨t, a, z, o, hm, cs, b, rfl, v.1, an.sh, SqL.of is.at', v.2.1.1, v.2.1.2, v.2.2, tw.g _ (mem_are_signs T), fun p as H' k _ _ _ _ => en _ H' (kz_p ap (mem_are_signs T) tw k)⟩
  | some r => exact .inr ⟨t, a, z, o, hm, cs, b, r, rfl, an, is, v, tw, en⟩
theorem okb_lost_at (T : Txt K mg) (ap : (tws T).Apart) (TB : GxR.TabB base mg T.c_are_signs T.t_are_signs) : FnOk P w K mg base (L2.CX P w) 5 T.d_lost_at.f T.d_lost_at.fd ["sheet", "tape", "begin", "text"] (spTpSN (kc T) (tws T)) := by
  refine T.d_lost_at.F.okX sc_lost_at (fun vs H Q E h => ?_) (fun cdv A outer s H vs Q E hr h => ?_)
  · obtain ⟨t, a, z, o, hm, cs, b, x, r, rfl, _⟩ := h
    rfl
  · obtain ⟨t, a, z, o, hm, cs, b, x, r, rfl, an, is, v, tw, en⟩ := h
    refine ⟨_, (pss_cons (ps_expr (pe_callS (okx_check_begun T ap TB) (hr.mono (by decide)) (by rfl) T.d_check_begun.g T.d_check_begun.F.kp T.d_check_begun.b (fun σ => passAt (takes_of rfl rfl rfl rfl) σ) (pa_cons (pv 0) (pa_cons (pv 1) (pa_cons (pv 2) pa_nil)))))
  pss_never), ?_⟩
    exact ⟨.ref t, rfl, .ref a, rfl, .int b, rfl, t, a, z, o, hm, cs, b, some r, rfl, an, is, v, tw, en⟩
theorem okx_lost_at (T : Txt K mg) (ap : (tws T).Apart) (TB : GxR.TabB base mg T.c_are_signs T.t_are_signs) : FnOk P w K mg base (L2.CX P w) 5 T.d_lost_at.f T.d_lost_at.fd ["sheet", "tape", "begin", "text"] (spTpS (kc T) (tws T)) := by
  refine Kt.FnOk.both (ok_lost_at T TB) (okb_lost_at T ap TB) (by decide) fun vs H Q E h => ?_
  obtain ⟨t, a, z, o, hm, cs, b, x, r, rfl, an, is, v, tw, en⟩ := h
  cases r with
  | none => exact .inl ⟨t, a, z, o, hm, cs, b, x, rfl, v.1, an.sh, SqL.of is.at', v.2.1.1, v.2.1.2, v.2.2, tw.g _ (mem_are_signs T), fun p H' k _ _ => en _ H' (kz_p ap (mem_are_signs T) tw k)⟩
  | some r => exact .inr ⟨t, a, z, o, hm, cs, b, x, r, rfl, an, is, v, tw, en⟩
theorem okb_is_guarded (T : Txt K mg) (ap : (tws T).Apart) (TB : GxR.TabB base mg T.c_are_signs T.t_are_signs) : FnOk P w K mg base (L2.CX P w) 6 T.d_is_guarded.f T.d_is_guarded.fd ["sheet", "tape", "begin", "most"] (spTpGN (kc T) (tws T)) := by
  refine T.d_is_guarded.F.okX sc_is_guarded (fun vs H Q E h => ?_) (fun cdv A outer s H vs Q E hr h => ?_)
  · obtain ⟨t, a, z, o, hm, cs, b, m, r, rfl, _⟩ := h
    rfl
  · obtain ⟨t, a, z, o, hm, cs, b, m, r, rfl, an, is, v, tw, en⟩ := h
    refine ⟨_, (pss_cons (ps_set (i := 4) sc_is_guarded.nd rfl (.inl rfl) (pe_callS (okx_spoilt T ap TB) (hr.mono (by decide)) (by rfl) T.d_spoilt.g T.d_spoilt.F.kp T.d_spoilt.b (fun σ => passAt (takes_of rfl rfl rfl rfl) σ) (pa_cons (pv 0) (pa_cons (pv 1) (pa_cons (pv 2) pa_nil)))))
  (pss_cons (ps_expr (pe_callS (okx_check_count T) (hr.mono (by decide)) (by rfl) T.d_check_count.g T.d_check_count.F.kp T.d_check_count.b (fun σ => passAt (takes_of rfl rfl rfl rfl) σ) (pa_cons (pv 3) (pa_cons (pe_glob (v := .int 32) (by rfl) T.c_MOST_SIGNS.choose_spec ⟨_, rfl⟩) pa_nil))))
  pss_never)), ?_⟩
    rcases v.split with ⟨e, v2, nok⟩ | ⟨v2, _⟩
    · cases e
      refine ⟨.ref t, rfl, .ref a, rfl, .int b, rfl, t, a, z, o, hm, cs, b, none, rfl, an, is, v2, tw, fun u H1 k1 => ?_⟩
      exact ⟨.int m, rfl, m, 32, rfl, by decide, fun k => absurd k nok, fun _ => en H1 k1⟩
    · exact ⟨.ref t, rfl, .ref a, rfl, .int b, rfl, t, a, z, o, hm, cs, b, some r, rfl, an, is, v2, tw, en⟩
theorem okx_is_guarded (T : Txt K mg) (ap : (tws T).Apart) (TB : GxR.TabB base mg T.c_are_signs T.t_are_signs) : FnOk P w K mg base (L2.CX P w) 6 T.d_is_guarded.f T.d_is_guarded.fd ["sheet", "tape", "begin", "most"] (spTpG (kc T) (tws T)) := by
  refine Kt.FnOk.both (ok_is_guarded T TB) (okb_is_guarded T ap TB) (by decide) fun vs H Q E h => ?_
  obtain ⟨t, a, z, o, hm, cs, b, m, r, rfl, an, is, v, tw, en⟩ := h
  cases r with
  | none =>
    obtain ⟨v, m0, m1⟩ := v
    exact .inl ⟨t, a, z, o, hm, cs, b, m, rfl, v.1, an.sh, SqL.of is.at', v.2.1.1, v.2.1.2, v.2.2, m0, m1, tw.g _ (mem_are_signs T), fun H' k => en _ H' (kz_p ap (mem_are_signs T) tw k)⟩
  | some r => exact .inr ⟨t, a, z, o, hm, cs, b, m, r, rfl, an, is, v, tw, en⟩
theorem okb_cut (T : Txt K mg) (ap : (tws T).Apart) (TB : GxR.TabB base mg T.c_are_signs T.t_are_signs) : FnOk P w K mg base (L2.CX P w) 5 T.d_cut.f T.d_cut.fd ["sheet", "tape", "begin", "place"] (spTpCN (kc T) (tws T)) := by
  refine T.d_cut.F.okX sc_cut (fun vs H Q E h => ?_) (fun cdv A outer s H vs Q E hr h => ?_)
  · obtain ⟨t, a, z, o, hm, cs, b, m, r, rfl, _⟩ := h
    rfl
  · obtain ⟨t, a, z, o, hm, cs, b, m, r, rfl, an, is, v, tw, en⟩ := h
    refine ⟨_, (pss_cons (ps_expr (pe_callS (okx_check_begun T ap TB) (hr.mono (by decide)) (by rfl) T.d_check_begun.g T.d_check_begun.F.kp T.d_check_begun.b (fun σ => passAt (takes_of rfl rfl rfl rfl) σ) (pa_cons (pv 0) (pa_cons (pv 1) (pa_cons (pv 2) pa_nil)))))
  (pss_cons (ps_expr (pe_callS (okx_check_count T) (hr.mono (by decide)) (by rfl) T.d_check_count.g T.d_check_count.F.kp T.d_check_count.b (fun σ => passAt (takes_of rfl rfl rfl rfl) σ) (pa_cons (pv 3) (pa_cons (pe_callB call_len_seq (by rfl) T.n_len PySem.boot_len (pa_cons (pv 1) pa_nil)) pa_nil))))
  pss_never)), ?_⟩
    rcases v.split with ⟨e, v2, nok⟩ | ⟨v2, _⟩
    · cases e
      refine ⟨.ref t, rfl, .ref a, rfl, .int b, rfl, t, a, z, o, hm, cs, b, none, rfl, an, is, v2, tw, fun u H1 k1 => ?_⟩
      have is1 := is.kz k1
      refine ⟨.int m, rfl, .ref a, rfl, a, _, rfl, .inl (SqL.of is1.at'), m, _, rfl, ?_, fun k => absurd ?_ nok, fun _ => en H1 k1⟩
      · rw [List.length_map]; exact log_small is.le
      · rw [List.length_map] at k; exact k
    · exact ⟨.ref t, rfl, .ref a, rfl, .int b, rfl, t, a, z, o, hm, cs, b, some r, rfl, an, is, v2, tw, en⟩
theorem okx_cut (T : Txt K mg) (ap : (tws T).Apart) (TB : GxR.TabB base mg T.c_are_signs T.t_are_signs) : FnOk P w K mg base (L2.CX P w) 5 T.d_cut.f T.d_cut.fd ["sheet", "tape", "begin", "place"] (spTpC (kc T) (tws T)) := by
  refine Kt.FnOk.both (ok_cut T TB) (okb_cut T ap TB) (by decide) fun vs H Q E h => ?_
  obtain ⟨t, a, z, o, hm, cs, b, m, r, rfl, an, is, v, tw, en⟩ := h
  cases r with
  | none =>
    obtain ⟨v, m0, m1⟩ := v
    obtain ⟨i, rfl⟩ := Int.eq_ofNat_of_zero_le m0
    exact .inl ⟨t, a, z, o, hm, cs, b, i, rfl, v.1, an.sh, SqL.of is.at', v.2.1.1, v.2.1.2, v.2.2, by omega, tw.g _ (mem_are_signs T), fun p f k' H' k _ _ _ _ _ _ _ => en _ H' (kz_p ap (mem_are_signs T) tw k)⟩
  | some r => exact .inr ⟨t, a, z, o, hm, cs, b, m, r, rfl, an, is, v, tw, en⟩
theorem okb_joined (T : Txt K mg) (ap : (tws T).Apart) (TB : GxR.TabB base mg T.c_are_signs T.t_are_signs) : FnOk P w K mg base (L2.CX P w) 4 T.d_joined.f T.d_joined.fd ["sheet", "tapes", "begin"] (spJnN (kc T) (tws T)) := by
  refine T.d_joined.F.okX sc_joined (fun vs H Q E h => ?_) (fun cdv A outer s H vs Q E hr h => ?_)
  · obtain ⟨t, l, z, o, hm, as, L, b, r, rfl, _⟩ := h
    rfl
  · obtain ⟨t, l, z, o, hm, as, L, b, r, rfl, an, hl, tps, hL, hn, v, tw, en⟩ := h
    refine ⟨_, (pss_cons (ps_expr (pe_callS (okx_check_sheet T TB) (hr.mono (by decide)) (by rfl) T.d_check_sheet.g T.d_check_sheet.F.kp T.d_check_sheet.b (fun σ => passAt (takes_of rfl rfl rfl rfl) σ) (pa_cons (pv 0) pa_nil)))
  (pss_cons (ps_for (passes_of rfl) rfl (pi_list (pv 1)) (pg_name (i := 3) sc_joined.nd rfl (.inl rfl))
  (pss_one (ps_expr (pe_callS (okx_check_tape T) (hr.mono (by decide)) (by rfl) T.d_check_tape.g T.d_check_tape.F.kp T.d_check_tape.b (fun σ => passAt (takes_of rfl rfl rfl rfl) σ) (pa_cons (pv 0) (pa_cons (pv 3) pa_nil))))))
  (pss_cons (ps_expr (pe_callS (okx_check_set T) (hr.mono (by decide)) (by rfl) T.d_check_set.g T.d_check_set.F.kp T.d_check_set.b (fun σ => passAt (takes_of rfl rfl rfl rfl) σ) (pa_cons (pv 2) pa_nil)))
  pss_never))), ?_⟩
    have al := tps.len
    refine ⟨.ref t, rfl, t, z, o, hm, rfl, an.hh, an.sh, an.zz, an.zo, tw.g _ (mem_are_signs T), fun g H1 k1 => ?_, fun g H1 k1 => by cases v.bad g; exact en H1 (kz_p ap (mem_are_signs T) tw k1)⟩
    have k1 := kz_p ap (mem_are_signs T) tw k1
    have gd := goodB_iff.mp g
    have an1 := an.kz k1
    have hl1 := k1.lst hl
    have tps1 : Tps H1 as L := tps.mono fun a us e => k1.lst e
    obtain ⟨n, hgood, rest⟩ : ∃ n : Nat, (∀ (j : Nat) (u : List Int), j < n → L[j]? = some u → TapeV z.cps.size u none) ∧ ((∃ p cs, r = .tape p ∧ L[n]? = some cs ∧ TapeV z.cps.size cs (some p)) ∨ (n = L.length ∧ r = .set ∧ ¬ Is01 b)) := by
      match r, v with
      | .sheet, v => exact (good_not gd v).elim
      | .tape p, v =>
        obtain ⟨_, i, cs, h1, h2, h3⟩ := v
        exact ⟨i, h1, .inl ⟨p, cs, rfl, h2, h3⟩⟩
      | .set, v => exact ⟨L.length, fun j u _ e => v.2.1 u (List.mem_of_getElem? e), .inr ⟨rfl, rfl, v.2.2⟩⟩
    have hnL : n ≤ L.length := by
      rcases rest with ⟨p, cs, _, e, _⟩ | ⟨e, _⟩
      · exact Nat.le_of_lt (List.getElem?_eq_some_iff.mp e).1
      · omega
    refine ⟨.ref l, rfl, l, rfl, ⟨_, SqL.of hl1⟩, for_list (K := K) (a := l) (xs := as.map V.ref) (fun i σ H' => i ≤ n ∧ Same H1 H' ∧ ∃ y3 : Option V, σ = [some (.ref t), some (.ref l), some (.int b), y3, none, none, none, none]) ⟨Nat.zero_le _, Same.refl _, none, rfl⟩ (fun i σ H' _ p => SqL.of (p.2.1 _ _ hl1)) (fun i x σ H' hx p => ?_) (fun σ H' p => ?_)⟩
    · obtain ⟨hi, sm, y3, rfl⟩ := p
      obtain ⟨a, ha, rfl⟩ := at_map hx
      obtain ⟨u, hu, eu⟩ := tps1.get ha
      have hiL := (List.getElem?_eq_some_iff.mp hu).1
      by_cases hin : i < n
      · refine ⟨.ref t, rfl, .ref a, rfl, t, a, z, o, hm, u, none, rfl, gd, sm _ _ an1.sh, SqL.of (sm _ _ eu), hL u (List.mem_of_getElem? hu), hgood i u hin hu, fun H2 s2 => ?_⟩
        exact ⟨hin, sm.trans s2, _, rfl⟩
      · have e : i = n := by omega
        subst e
        rcases rest with ⟨p, cs, rfl, e, hv⟩ | ⟨e, _⟩
        · rw [hu] at e
          cases e
          refine ⟨.ref t, rfl, .ref a, rfl, t, a, z, o, hm, u, some p, rfl, gd, sm _ _ an1.sh, SqL.of (sm _ _ eu), hL u (List.mem_of_getElem? hu), hv, fun H2 dx s2 nd => ?_⟩
          exact en H2 dx (k1.trans (Kz.same k1.tb (sm.trans s2))) nd
        · omega
    · obtain ⟨hi, sm, y3, rfl⟩ := p
      rw [List.length_map, al] at hi
      rcases rest with ⟨p, cs, rfl, e, hv⟩ | ⟨e, rfl, nb⟩
      · have := (List.getElem?_eq_some_iff.mp e).1
        omega
      · exact ⟨.int b, rfl, b, rfl, fun hb => absurd hb nb, fun _ => en H' (k1.trans (Kz.same k1.tb sm))⟩
theorem okx_joined (T : Txt K mg) (ap : (tws T).Apart) (TB : GxR.TabB base mg T.c_are_signs T.t_are_signs) : FnOk P w K mg base (L2.CX P w) 4 T.d_joined.f T.d_joined.fd ["sheet", "tapes", "begin"] (spJn (kc T) (tws T)) := by
  refine Kt.FnOk.both (ok_joined T TB) (okb_joined T ap TB) (by decide) fun vs H Q E h => ?_
  obtain ⟨t, l, z, o, hm, as, L, b, r, rfl, an, hl, tps, hL, hn, v, tw, en⟩ := h
  cases r with
  | none => exact .inl ⟨t, l, z, o, hm, as, L, b, rfl, v.1, an.sh, hl, tps, fun cs h => v.2.1 cs h, hn, v.2.2, tw.g _ (mem_are_signs T), fun p H' k _ _ => en _ H' (kz_p ap (mem_are_signs T) tw k)⟩
  | some r => exact .inr ⟨t, l, z, o, hm, as, L, b, r, rfl, an, hl, tps, hL, hn, v, tw, en⟩
theorem okb_written (T : Txt K mg) (ap : (tws T).Apart) (TB : GxR.TabB base mg T.c_are_signs T.t_are_signs) : FnOk P w K mg base (L2.CX P w) 4 T.d_written.f T.d_written.fd ["sheet"] (spWrN (kc T) (tws T)) := by
  refine T.d_written.F.okX sc_written (fun vs H Q E h => ?_) (fun cdv A outer s H vs Q E hr h => ?_)
  · obtain ⟨t, z, o, hm, r, rfl, _⟩ := h
    rfl
  · obtain ⟨t, z, o, hm, r, rfl, an, v, tw, en⟩ := h
    refine ⟨_, (pss_cons (ps_expr (pe_callS (okx_check_sheet T TB) (hr.mono (by decide)) (by rfl) T.d_check_sheet.g T.d_check_sheet.F.kp T.d_check_sheet.b (fun σ => passAt (takes_of rfl rfl rfl rfl) σ) (pa_cons (pv 0) pa_nil)))
  pss_never), ?_⟩
    match r, v with
    | .sheet, v =>
      exact ⟨.ref t, rfl, t, z, o, hm, rfl, an.hh, an.sh, an.zz, an.zo, tw.g _ (mem_are_signs T), fun g H1 k1 => (good_not (goodB_iff.mp g) v).elim, fun g H1 k1 => en H1 (kz_p ap (mem_are_signs T) tw k1)⟩
theorem okx_written (T : Txt K mg) (ap : (tws T).Apart) (TB : GxR.TabB base mg T.c_are_signs T.t_are_signs) : FnOk P w K mg base (L2.CX P w) 4 T.d_written.f T.d_written.fd ["sheet"] (spWr (kc T) (tws T)) := by
  refine Kt.FnOk.both (ok_written T TB) (okb_written T ap TB) (by decide) fun vs H Q E h => ?_
  obtain ⟨t, z, o, hm, r, rfl, an, v, tw, en⟩ := h
  cases r with
  | none => exact .inl ⟨t, z, o, hm, rfl, v, an.sh, tw.g _ (mem_are_signs T), fun H' k => en _ H' (kz_p ap (mem_are_signs T) tw k)⟩
  | some r => exact .inr ⟨t, z, o, hm, r, rfl, an, v, tw, en⟩
end
end K01
namespace K01
open PySem PySem.Spec PyProof.Rows L2 Kt
section
variable {P : Program} {w : World} {K : PySem.W.Frag} {mg : Str → Option Value} {base : Heap}
theorem apne {T : Txt K mg} (ap : (tws T).Apart) : T.t_are_signs ≠ T.t_first_of := ap.ne2 (mem_are_signs T) (mem_first_of T)
theorem apkq {T : Txt K mg} (ap : (tws T).Apart) {H H' : Hp} (t : Tb (tws T) H) (k : Kq T.t_are_signs T.t_first_of q2 H H') : Kz (tws T) H H' := kz_q ap (mem_are_signs T) (mem_first_of T) t k
theorem aptw {T : Txt K mg} {H : Hp} (t : Tb (tws T) H) : Tw T.t_are_signs T.t_first_of q2 H := ⟨t.g _ (mem_are_signs T), t.l _ (mem_first_of T)⟩
theorem okb_shortest (T : Txt K mg) (ap : (tws T).Apart) (TB : GxR.TabB base mg T.c_are_signs T.t_are_signs) : FnOk P w K mg base (L2.CX P w) 5 T.d_shortest.f T.d_shortest.fd ["sheet", "text", "begin"] (spTxN (kc T) (tws T)) := by
  refine T.d_shortest.F.okX sc_shortest (fun vs H Q E h => ?_) (fun cdv A outer s H vs Q E hr h => ?_)
  · obtain ⟨t, z, o, hm, x, b, r, rfl, _⟩ := h
    rfl
  · obtain ⟨t, z, o, hm, x, b, r, rfl, an, hx, v, tw, en⟩ := h
    refine ⟨_, (pss_cons (ps_expr (pe_callS (okx_check_sheet T TB) (hr.mono (by decide)) (by rfl) T.d_check_sheet.g T.d_check_sheet.F.kp T.d_check_sheet.b (fun σ => passAt (takes_of rfl rfl rfl rfl) σ) (pa_cons (pv 0) pa_nil)))
  (pss_cons (ps_expr (pe_callS (okx_check_text T) (hr.mono (by decide)) (by rfl) T.d_check_text.g T.d_check_text.F.kp T.d_check_text.b (fun σ => passAt (takes_of rfl rfl rfl rfl) σ) (pa_cons (pv 0) (pa_cons (pv 1) pa_nil))))
  (pss_cons (ps_expr (pe_callS (okx_check_set T) (hr.mono (by decide)) (by rfl) T.d_check_set.g T.d_check_set.F.kp T.d_check_set.b (fun σ => passAt (takes_of rfl rfl rfl rfl) σ) (pa_cons (pv 2) pa_nil)))
  pss_never))), ?_⟩
    refine ⟨.ref t, rfl, t, z, o, hm, rfl, an.hh, an.sh, an.zz, an.zo, tw.g _ (mem_are_signs T), fun g H1 k1 => ?_, fun g H1 k1 => by cases v.bad g; exact en H1 (kz_p ap (mem_are_signs T) tw k1)⟩
    have k1 := kz_p ap (mem_are_signs T) tw k1
    have gd := goodB_iff.mp g
    have an1 := an.kz k1
    cases v.rest gd with
    | sign p hv =>
      exact ⟨.ref t, rfl, .str x, rfl, t, z, o, hm, x, some p, rfl, gd, an1.sh, hx, hv, fun H2 dx s2 nd => en H2 dx (k1.trans (Kz.same k1.tb s2)) nd⟩
    | set hv nb =>
      refine ⟨.ref t, rfl, .str x, rfl, t, z, o, hm, x, none, rfl, gd, an1.sh, hx, hv, fun H2 s2 => ?_⟩
      exact ⟨.int b, rfl, b, rfl, fun hb => absurd hb nb, fun _ => en H2 (k1.trans (Kz.same k1.tb s2))⟩
theorem okx_shortest (T : Txt K mg) (ap : (tws T).Apart) (TB : GxR.TabB base mg T.c_are_signs T.t_are_signs) (TB2 : LamX.TabB base mg T.c_first_of T.t_first_of) : FnOk P w K mg base (L2.CX P w) 5 T.d_shortest.f T.d_shortest.fd ["sheet", "text", "begin"] (spTx (kc T) (tws T)) := by
  refine Kt.FnOk.both (ok_shortest T TB TB2 (apne ap)) (okb_shortest T ap TB) (by decide) fun vs H Q E h => ?_
  obtain ⟨t, z, o, hm, x, b, r, rfl, an, hx, v, tw, en⟩ := h
  cases r with
  | none => exact .inl ⟨t, z, o, hm, x, b, rfl, v.1, an.sh, v.2.1.1, v.2.1.2, v.2.2, aptw tw, fun a R H' k _ _ _ => en _ H' (apkq ap tw k)⟩
  | some r => exact .inr ⟨t, z, o, hm, x, b, r, rfl, an, hx, v, tw, en⟩
theorem okb_either (T : Txt K mg) (ap : (tws T).Apart) (TB : GxR.TabB base mg T.c_are_signs T.t_are_signs) : FnOk P w K mg base (L2.CX P w) 5 T.d_either.f T.d_either.fd ["sheet", "text"] (spEiN (kc T) (tws T)) := by
  refine T.d_either.F.okX sc_either (fun vs H Q E h => ?_) (fun cdv A outer s H vs Q E hr h => ?_)
  · obtain ⟨t, z, o, hm, x, r, rfl, _⟩ := h
    rfl
  · obtain ⟨t, z, o, hm, x, r, rfl, an, hx, v, tw, en⟩ := h
    refine ⟨_, (pss_cons (ps_expr (pe_callS (okx_check_sheet T TB) (hr.mono (by decide)) (by rfl) T.d_check_sheet.g T.d_check_sheet.F.kp T.d_check_sheet.b (fun σ => passAt (takes_of rfl rfl rfl rfl) σ) (pa_cons (pv 0) pa_nil)))
  (pss_cons (ps_expr (pe_callS (okx_check_text T) (hr.mono (by decide)) (by rfl) T.d_check_text.g T.d_check_text.F.kp T.d_check_text.b (fun σ => passAt (takes_of rfl rfl rfl rfl) σ) (pa_cons (pv 0) (pa_cons (pv 1) pa_nil))))
  pss_never)), ?_⟩
    refine ⟨.ref t, rfl, t, z, o, hm, rfl, an.hh, an.sh, an.zz, an.zo, tw.g _ (mem_are_signs T), fun g H1 k1 => ?_, fun g H1 k1 => by cases v.bad g; exact en H1 (kz_p ap (mem_are_signs T) tw k1)⟩
    have k1 := kz_p ap (mem_are_signs T) tw k1
    have gd := goodB_iff.mp g
    have an1 := an.kz k1
    match r, v with
    | .sheet, v => exact (good_not gd v).elim
    | .sign p, v => exact ⟨.ref t, rfl, .str x, rfl, t, z, o, hm, x, some p, rfl, gd, an1.sh, hx, v.2, fun H2 dx s2 nd => en H2 dx (k1.trans (Kz.same k1.tb s2)) nd⟩
theorem okx_either (T : Txt K mg) (ap : (tws T).Apart) (TB : GxR.TabB base mg T.c_are_signs T.t_are_signs) (TB2 : LamX.TabB base mg T.c_first_of T.t_first_of) : FnOk P w K mg base (L2.CX P w) 5 T.d_either.f T.d_either.fd ["sheet", "text"] (spEi (kc T) (tws T)) := by
  refine Kt.FnOk.both (ok_either T TB TB2 (apne ap)) (okb_either T ap TB) (by decide) fun vs H Q E h => ?_
  obtain ⟨t, z, o, hm, x, r, rfl, an, hx, v, tw, en⟩ := h
  cases r with
  | none => exact .inl ⟨t, z, o, hm, x, rfl, v.1, an.sh, v.2.1, v.2.2, aptw tw, fun a R H' k _ _ _ => en _ H' (apkq ap tw k)⟩
  | some r => exact .inr ⟨t, z, o, hm, x, r, rfl, an, hx, v, tw, en⟩
theorem okb_guarded (T : Txt K mg) (ap : (tws T).Apart) (TB : GxR.TabB base mg T.c_are_signs T.t_are_signs) : FnOk P w K mg base (L2.CX P w) 5 T.d_guarded.f T.d_guarded.fd ["sheet", "text", "begin", "most"] (spTxGN (kc T) (tws T)) := by
  refine T.d_guarded.F.okX sc_guarded (fun vs H Q E h => ?_) (fun cdv A outer s H vs Q E hr h => ?_)
  · obtain ⟨t, z, o, hm, x, b, m, r, rfl, _⟩ := h
    rfl
  · obtain ⟨t, z, o, hm, x, b, m, r, rfl, an, hx, v, tw, en⟩ := h
    refine ⟨_, (pss_cons (ps_expr (pe_callS (okx_check_sheet T TB) (hr.mono (by decide)) (by rfl) T.d_check_sheet.g T.d_check_sheet.F.kp T.d_check_sheet.b (fun σ => passAt (takes_of rfl rfl rfl rfl) σ) (pa_cons (pv 0) pa_nil)))
  (pss_cons (ps_expr (pe_callS (okx_check_text T) (hr.mono (by decide)) (by rfl) T.d_check_text.g T.d_check_text.F.kp T.d_check_text.b (fun σ => passAt (takes_of rfl rfl rfl rfl) σ) (pa_cons (pv 0) (pa_cons (pv 1) pa_nil))))
  (pss_cons (ps_expr (pe_callS (okx_check_set T) (hr.mono (by decide)) (by rfl) T.d_check_set.g T.d_check_set.F.kp T.d_check_set.b (fun σ => passAt (takes_of rfl rfl rfl rfl) σ) (pa_cons (pv 2) pa_nil)))
  (pss_cons (ps_expr (pe_callS (okx_check_count T) (hr.mono (by decide)) (by rfl) T.d_check_count.g T.d_check_count.F.kp T.d_check_count.b (fun σ => passAt (takes_of rfl rfl rfl rfl) σ) (pa_cons (pv 3) (pa_cons (pe_glob (v := .int 32) (by rfl) T.c_MOST_SIGNS.choose_spec ⟨_, rfl⟩) pa_nil))))
  pss_never)))), ?_⟩
    have vb : goodB z o hm = false → r = .sheet := fun g => by
      rcases v.split with ⟨e, v2, nok⟩ | ⟨v2, _⟩
      · exact (good_not v2.1 g).elim
      · exact Option.some.inj (v2.bad g)
    refine ⟨.ref t, rfl, t, z, o, hm, rfl, an.hh, an.sh, an.zz, an.zo, tw.g _ (mem_are_signs T), fun g H1 k1 => ?_, fun g H1 k1 => by cases vb g; exact en H1 (kz_p ap (mem_are_signs T) tw k1)⟩
    have k1 := kz_p ap (mem_are_signs T) tw k1
    have gd := goodB_iff.mp g
    have an1 := an.kz k1
    rcases v.split with ⟨e, v2, nok⟩ | ⟨v2, _⟩
    · cases e
      refine ⟨.ref t, rfl, .str x, rfl, t, z, o, hm, x, none, rfl, gd, an1.sh, hx, v2.2.1, fun H2 s2 => ?_⟩
      refine ⟨.int b, rfl, b, rfl, fun _ => ?_, fun nb => absurd v2.2.2 nb⟩
      exact ⟨.int m, rfl, m, 32, rfl, by decide, fun k => absurd k nok, fun _ => en H2 (k1.trans (Kz.same k1.tb s2))⟩
    · cases v2.rest gd with
      | sign p hv =>
        exact ⟨.ref t, rfl, .str x, rfl, t, z, o, hm, x, some p, rfl, gd, an1.sh, hx, hv, fun H2 dx s2 nd => en H2 dx (k1.trans (Kz.same k1.tb s2)) nd⟩
      | set hv nb =>
        refine ⟨.ref t, rfl, .str x, rfl, t, z, o, hm, x, none, rfl, gd, an1.sh, hx, hv, fun H2 s2 => ?_⟩
        exact ⟨.int b, rfl, b, rfl, fun hb => absurd hb nb, fun _ => en H2 (k1.trans (Kz.same k1.tb s2))⟩
theorem okx_guarded (T : Txt K mg) (ap : (tws T).Apart) (TB : GxR.TabB base mg T.c_are_signs T.t_are_signs) : FnOk P w K mg base (L2.CX P w) 5 T.d_guarded.f T.d_guarded.fd ["sheet", "text", "begin", "most"] (spTxG (kc T) (tws T)) := by
  refine Kt.FnOk.both (ok_guarded T TB) (okb_guarded T ap TB) (by decide) fun vs H Q E h => ?_
  obtain ⟨t, z, o, hm, x, b, m, r, rfl, an, hx, v, tw, en⟩ := h
  cases r with
  | none =>
    obtain ⟨v, m0, m1⟩ := v
    exact .inl ⟨t, z, o, hm, x, b, m, rfl, v.1, an.sh, v.2.1.1, v.2.1.2, v.2.2, m0, m1, tw.g _ (mem_are_signs T), fun a H' k _ _ => en _ H' (kz_p ap (mem_are_signs T) tw k)⟩
  | some r => exact .inr ⟨t, z, o, hm, x, b, m, r, rfl, an, hx, v, tw, en⟩
end
end K01
namespace K01
open PySem PySem.Spec PyProof.Rows L2 Kt
section
variable {P : Program} {w : World} {K : PySem.W.Frag} {mg : Str → Option Value} {base : Heap}
theorem ok_l_text (T : Txt K mg) : FnOk P w K mg base CX0 2 T.d_l_text.f T.d_l_text.fd ["_law_box", "_law_sheet_here", "_law_most"] spText := by
  refine T.d_l_text.F.ok sc_l_text (fun vs H Q E h => ?_) (fun cdv A outer s H vs Q E hr h => ?_)
  · obtain ⟨b, l, t, z, o, hm, m, rfl, _⟩ := h
    rfl
  · obtain ⟨b, l, t, z, o, hm, most, rfl, bx, gd, sh, m1, q⟩ := h
    refine ⟨_, (pss_cons (ps_set (i := 3) sc_l_text.nd rfl (.inl rfl) pe_str)
  (pss_cons (ps_set (i := 4) sc_l_text.nd rfl (.inl rfl) pe_int)
  (pss_cons (ps_set (i := 5) sc_l_text.nd rfl (.inl rfl) (pe_op op_add pe_int (pe_call (ok_l_take T) (hr.mono (by decide)) (by rfl) T.d_l_take.g T.d_l_take.F.kp T.d_l_take.b .nil pass0 (pa_cons (pv 0) (pa_cons pe_int pa_nil)))))
  (pss_cons (ps_for PassesOwn.never rfl (pi_range1 (by rfl) T.n_range (pa_cons (pe_call (ok_l_take T) (hr.mono (by decide)) (by rfl) T.d_l_take.g T.d_l_take.F.kp T.d_l_take.b .nil pass0 (pa_cons (pv 0) (pa_cons (pe_op op_add (pv 2) pe_int) pa_nil))) pa_nil)) (pg_name (i := 6) sc_l_text.nd rfl (.inl rfl))
  (pss_cons (ps_if (pt_cmpR op_eq (pe_call (ok_l_take T) (hr.mono (by decide)) (by rfl) T.d_l_take.g T.d_l_take.F.kp T.d_l_take.b .nil pass0 (pa_cons (pv 0) (pa_cons (pv 5) pa_nil))) pe_int (nomark _))
  (pss_one (ps_set (i := 4) sc_l_text.nd rfl (.inl rfl) (pe_op op_sub pe_int (pv 4))))
  pss_nil)
  (pss_one (ps_set (i := 3) sc_l_text.nd rfl (.inl rfl) (pe_op op_add_str (pv 3) (pe_ix ix_str (pe_ix ix_tup (pv 1) (pv 4) (fun _ _ => rfl)) (pe_call (ok_l_take T) (hr.mono (by decide)) (by rfl) T.d_l_take.g T.d_l_take.F.kp T.d_l_take.b .nil pass0 (pa_cons (pv 0) (pa_cons (pe_callB call_len_str (by rfl) T.n_len PySem.boot_len (pa_cons (pe_ix ix_tup (pv 1) pe_int (fun _ _ => rfl)) pa_nil)) pa_nil))) (fun _ _ => rfl)))))))
  (pss_one (ps_ret (pv 3))))))), ?_⟩
    have z1 := gd.pos
    have z2 := gd.le
    have hz : (z.length : Int) = (z.cps.size : Int) := rfl
    have big : z.length ≤ sizeLine := Nat.le_trans gd.le (by decide)
    have pick : ∀ nb : Int, Is01 nb → atI [V.str z, V.str o, hm] nb = some (.str (at01 z o nb)) := by
      rintro nb (rfl | rfl)
      · exact atI_nat (j := 0) rfl
      · exact atI_nat (j := 1) rfl
    refine ⟨.ref b, rfl, b, l, 4, rfl, bx, by decide, by decide, fun v H1 v0 v1 bd1 => ⟨2, v, rfl, rfl, ?_⟩⟩
    refine ⟨.ref b, rfl, .int most, rfl, most, 1, rfl, rfl, b, l, _, rfl, bd1.box, by omega, Nat.lt_of_le_of_lt (show ((most : Int) + 1).natAbs ≤ 33 by omega) (by decide), fun m H2 w0 w1 bd3 => ?_⟩
    refine ⟨m, rfl, by omega, by omega, for_range (lo := 0) (n := m.toNat) (fun i σ H' => ∃ (x : Str) (nb : Int) (y : Option V), x.cps.size = i ∧ (∀ c ∈ x.cps.toList, InSet z o c) ∧ Is01 nb ∧ Bxd b l H H' ∧
      σ = [some (.ref b), some (.ref t), some (.int most), some (.str x), some (.int nb), some (.int (2 + v)), y]) ?_ (fun i σ H' hi p => ?_) (fun σ H' p => ?_)⟩
    · have e : (Str.ofString "").cps.toList = [] := by decide +kernel
      exact ⟨Str.ofString "", 0, none, rfl, (fun c hc => by rw [e] at hc; cases hc), .inl rfl, bd1.trans bd3, rfl⟩
    · obtain ⟨x, nb, y, hl, hin, hnb, bd, rfl⟩ := p
      refine ⟨.ref b, rfl, .int (2 + v), rfl, b, l, 2 + v, rfl, bd.box, by omega, Nat.lt_of_le_of_lt (show (2 + v).natAbs ≤ 6 by omega) (by decide), fun u H3 u0 u1 bdu => ⟨rfl, _, rfl, ?_⟩⟩
      have bdu' := bd.trans bdu
      have sh3 : Sh H3 t z o hm := bdu'.tup bx sh
      have fin : ∀ NB : Int, Is01 NB → ∀ k : Int, 0 ≤ k → k < (z.length : Nat) → ∀ H4, Bxd b l H3 H4 → rIxS (.str (at01 z o NB)) (.int k) H4 fun y H5 => ∃ i1 j1, V.str x = .str i1 ∧ y = .str j1 ∧ i1.length + j1.length ≤ sizeLine ∧
          ∃ (x' : Str) (nb' : Int) (y' : Option V), x'.cps.size = i + 1 ∧ (∀ c ∈ x'.cps.toList, InSet z o c) ∧ Is01 nb' ∧ Bxd b l H H5 ∧
            [some (V.ref b), some (.ref t), some (.int most), some (.str (i1 ++ j1)), some (.int NB), some (.int (2 + v)), some (.int (0 + (i : Int)))] = [some (.ref b), some (.ref t), some (.int most), some (.str x'), some (.int nb'), some (.int (2 + v)), y'] := by
        intro NB hN k k0 k1 H4 bd4
        have sz : (at01 z o NB).cps.size = z.cps.size := at01_size gd NB
        have kb : 0 ≤ k ∧ k < ((at01 z o NB).cps.toList.length : Int) := ⟨k0, by rw [Array.length_toList, sz]; exact k1⟩
        refine ⟨_, k, _, rfl, rfl, by show (at01 z o NB).cps.size ≤ _; rw [sz]; exact big, atI_nd kb, _, _, rfl, rfl, ?_, _, NB, _, ?_, fun c hc => ?_, hN, bdu'.trans bd4, rfl⟩
        · show x.cps.size + 1 ≤ sizeLine
          exact Nat.le_of_lt (small1000 (by omega))
        · rw [Str.cps_append, Array.size_append, hl]; rfl
        · rw [Str.cps_append, Array.toList_append] at hc
          rcases List.mem_append.mp hc with e | e
          · exact hin c e
          · have e : c = (at01 z o NB).cps.toList.getD k.toNat 0 := by simpa [sg] using e
            have hk : k.toNat < (at01 z o NB).cps.toList.length := by omega
            have e2 : c ∈ (at01 z o NB).cps.toList := by
              rw [e, List.getD_eq_getElem?_getD, List.getElem?_eq_getElem hk]
              exact List.getElem_mem hk
            unfold at01 at e2
            split at e2
            · exact .inl e2
            · exact .inr e2
      cases decide (V.int u = V.int 1) with
      | true =>
        have hN := is01_other hnb
        refine iteT ⟨.int nb, rfl, 1, nb, rfl, rfl, ?_⟩
        refine ⟨.str x, rfl, .ref t, rfl, .int (1 - nb), rfl, t, _, (1 - nb), .str (at01 z o (1 - nb)), rfl, rfl, SqT.of sh3, pick (1 - nb) hN, .ref b, rfl, .ref t, rfl, t, _, 0, _, rfl, rfl, SqT.of sh3, atI_nat (j := 0) rfl, z, rfl, big, b, l, (z.length : Nat), rfl, bdu'.box, by omega, Nat.lt_of_le_of_lt (show ((z.length : Nat) : Int).natAbs ≤ 26 by omega) (by decide), fun k H4 k0 k1 bd4 => ?_⟩
        exact fin _ hN k k0 k1 H4 bd4
      | false =>
        have hN := hnb
        refine iteF ?_
        refine ⟨.str x, rfl, .ref t, rfl, .int nb, rfl, t, _, nb, .str (at01 z o nb), rfl, rfl, SqT.of sh3, pick nb hN, .ref b, rfl, .ref t, rfl, t, _, 0, _, rfl, rfl, SqT.of sh3, atI_nat (j := 0) rfl, z, rfl, big, b, l, (z.length : Nat), rfl, bdu'.box, by omega, Nat.lt_of_le_of_lt (show ((z.length : Nat) : Int).natAbs ≤ 26 by omega) (by decide), fun k H4 k0 k1 bd4 => ?_⟩
        exact fin _ hN k k0 k1 H4 bd4
    · obtain ⟨x, nb, y, hl, hin, hnb, bd, rfl⟩ := p
      exact ⟨.str x, rfl, q x H' (by omega) hin bd⟩
set_option maxHeartbeats 1000000 in
theorem ok_l_alike (T : Txt K mg) : ∀ n : Nat, FnOk P w K mg base CX0 (n + 1) T.d_l_alike.f T.d_l_alike.fd ["_law_found", "_law_due"] (spAl n)
  | 0 => by
    refine T.d_l_alike.F.ok sc_l_alike (fun vs H Q E h => ?_) (fun cdv A outer s H vs Q E hr h => ?_)
    · obtain ⟨a, b, rfl, _⟩ := h
      rfl
    · obtain ⟨a, b, rfl, al, q⟩ := h
      refine ⟨_, (pss_cons (ps_if (pt_cmp (pc_isN (pv 1)))
  (pss_one (ps_ret (pe_cmp (pc_isN (pv 0)) rfl)))
  pss_nil)
  (pss_cons (ps_if (pt_val (pe_callB call_isi (by rfl) T.n_isinstance (by decide +kernel) (pa_cons (pv 1) (pa_cons (pe_bltn (v := .ty "bool") (by rfl) T.n_bool (by decide +kernel) rfl) pa_nil))))
  (pss_one (ps_ret (pe_and (pe_callB call_isi (by rfl) T.n_isinstance (by decide +kernel) (pa_cons (pv 0) (pa_cons (pe_bltn (v := .ty "bool") (by rfl) T.n_bool (by decide +kernel) rfl) pa_nil))) (pe_one (pe_cmpR op_eq (pv 0) (pv 1) (nomark _))))))
  pss_nil)
  (pss_cons (ps_if (pt_val (pe_callB call_isi (by rfl) T.n_isinstance (by decide +kernel) (pa_cons (pv 1) (pa_cons (pe_bltn (v := .ty "int") (by rfl) T.n_int (by decide +kernel) rfl) pa_nil))))
  (pss_one (ps_ret (pe_and (pe_callB call_isi (by rfl) T.n_isinstance (by decide +kernel) (pa_cons (pv 0) (pa_cons (pe_bltn (v := .ty "int") (by rfl) T.n_int (by decide +kernel) rfl) pa_nil))) (pe_and (pe_not (pe_callB call_isi (by rfl) T.n_isinstance (by decide +kernel) (pa_cons (pv 0) (pa_cons (pe_bltn (v := .ty "bool") (by rfl) T.n_bool (by decide +kernel) rfl) pa_nil)))) (pe_one (pe_cmpR op_eq (pv 0) (pv 1) (nomark _)))))))
  pss_nil)
  (pss_cons (ps_if (pt_val (pe_callB call_isi (by rfl) T.n_isinstance (by decide +kernel) (pa_cons (pv 1) (pa_cons (pe_bltn (v := .ty "str") (by rfl) T.n_str (by decide +kernel) rfl) pa_nil))))
  (pss_one (ps_ret (pe_and (pe_callB call_isi (by rfl) T.n_isinstance (by decide +kernel) (pa_cons (pv 0) (pa_cons (pe_bltn (v := .ty "str") (by rfl) T.n_str (by decide +kernel) rfl) pa_nil))) (pe_one (pe_cmpR op_eq (pv 0) (pv 1) (nomark _))))))
  pss_nil)
  pss_never)))), ?_⟩
      cases al with
      | non =>
        refine ⟨.non, rfl, true, rfl, iteT ⟨.non, rfl, ?_⟩⟩
        exact q
      | bl _ i =>
        refine ⟨.bl i, rfl, false, dec_f (fun e => nomatch e), iteF ?_⟩
        refine ⟨.bl i, rfl, .bl i, .ty "bool", .type "bool", .type "bool", true, rfl, .ty _, .base (.bl i), kit_ty (by decide +kernel), true, rfl, iteT ?_⟩
        refine ⟨.bl i, rfl, .bl i, .ty "bool", .type "bool", .type "bool", true, rfl, .ty _, .base (.bl i), kit_ty (by decide +kernel), true, rfl, iteT ?_⟩
        refine ⟨.bl i, rfl, .bl i, rfl, rfl, ?_⟩
        rw [decide_eq_true rfl]
        exact q
      | int _ i =>
        refine ⟨.int i, rfl, false, dec_f (fun e => nomatch e), iteF ?_⟩
        refine ⟨.int i, rfl, .int i, .ty "bool", .type "int", .type "bool", false, rfl, .ty _, .base (.int i), kit_ty (by decide +kernel), false, rfl, iteF ?_⟩
        refine ⟨.int i, rfl, .int i, .ty "int", .type "int", .type "int", true, rfl, .ty _, .base (.int i), kit_ty (by decide +kernel), true, rfl, iteT ?_⟩
        refine ⟨.int i, rfl, .int i, .ty "int", .type "int", .type "int", true, rfl, .ty _, .base (.int i), kit_ty (by decide +kernel), true, rfl, iteT ?_⟩
        refine ⟨.int i, rfl, .int i, .ty "bool", .type "int", .type "bool", false, rfl, .ty _, .base (.int i), kit_ty (by decide +kernel), false, rfl, true, rfl, iteT ?_⟩
        refine ⟨.int i, rfl, .int i, rfl, rfl, ?_⟩
        rw [decide_eq_true rfl]
        exact q
      | str _ s =>
        refine ⟨.str s, rfl, false, dec_f (fun e => nomatch e), iteF ?_⟩
        refine ⟨.str s, rfl, .str s, .ty "bool", .type "str", .type "bool", false, rfl, .ty _, .base (.str s), kit_ty (by decide +kernel), false, rfl, iteF ?_⟩
        refine ⟨.str s, rfl, .str s, .ty "int", .type "str", .type "int", false, rfl, .ty _, .base (.str s), kit_ty (by decide +kernel), false, rfl, iteF ?_⟩
        refine ⟨.str s, rfl, .str s, .ty "str", .type "str", .type "str", true, rfl, .ty _, .base (.str s), kit_ty (by decide +kernel), true, rfl, iteT ?_⟩
        refine ⟨.str s, rfl, .str s, .ty "str", .type "str", .type "str", true, rfl, .ty _, .base (.str s), kit_ty (by decide +kernel), true, rfl, iteT ?_⟩
        refine ⟨.str s, rfl, .str s, rfl, rfl, ?_⟩
        rw [decide_eq_true rfl]
        exact q
  | n + 1 => by
    have ih := ok_l_alike T n
    refine T.d_l_alike.F.ok sc_l_alike (fun vs H Q E h => ?_) (fun cdv A outer s H vs Q E hr h => ?_)
    · obtain ⟨a, b, rfl, _⟩ := h
      rfl
    · obtain ⟨a, b, rfl, al, q⟩ := h
      refine ⟨_, (pss_cons (ps_if (pt_cmp (pc_isN (pv 1)))
  (pss_one (ps_ret (pe_cmp (pc_isN (pv 0)) rfl)))
  pss_nil)
  (pss_cons (ps_if (pt_val (pe_callB call_isi (by rfl) T.n_isinstance (by decide +kernel) (pa_cons (pv 1) (pa_cons (pe_bltn (v := .ty "bool") (by rfl) T.n_bool (by decide +kernel) rfl) pa_nil))))
  (pss_one (ps_ret (pe_and (pe_callB call_isi (by rfl) T.n_isinstance (by decide +kernel) (pa_cons (pv 0) (pa_cons (pe_bltn (v := .ty "bool") (by rfl) T.n_bool (by decide +kernel) rfl) pa_nil))) (pe_one (pe_cmpR op_eq (pv 0) (pv 1) (nomark _))))))
  pss_nil)
  (pss_cons (ps_if (pt_val (pe_callB call_isi (by rfl) T.n_isinstance (by decide +kernel) (pa_cons (pv 1) (pa_cons (pe_bltn (v := .ty "int") (by rfl) T.n_int (by decide +kernel) rfl) pa_nil))))
  (pss_one (ps_ret (pe_and (pe_callB call_isi (by rfl) T.n_isinstance (by decide +kernel) (pa_cons (pv 0) (pa_cons (pe_bltn (v := .ty "int") (by rfl) T.n_int (by decide +kernel) rfl) pa_nil))) (pe_and (pe_not (pe_callB call_isi (by rfl) T.n_isinstance (by decide +kernel) (pa_cons (pv 0) (pa_cons (pe_bltn (v := .ty "bool") (by rfl) T.n_bool (by decide +kernel) rfl) pa_nil)))) (pe_one (pe_cmpR op_eq (pv 0) (pv 1) (nomark _)))))))
  pss_nil)
  (pss_cons (ps_if (pt_val (pe_callB call_isi (by rfl) T.n_isinstance (by decide +kernel) (pa_cons (pv 1) (pa_cons (pe_bltn (v := .ty "str") (by rfl) T.n_str (by decide +kernel) rfl) pa_nil))))
  (pss_one (ps_ret (pe_and (pe_callB call_isi (by rfl) T.n_isinstance (by decide +kernel) (pa_cons (pv 0) (pa_cons (pe_bltn (v := .ty "str") (by rfl) T.n_str (by decide +kernel) rfl) pa_nil))) (pe_one (pe_cmpR op_eq (pv 0) (pv 1) (nomark _))))))
  pss_nil)
  (pss_cons (ps_if (PW.pt (pw_or (pt_cmpR op_ne (pe_callB call_isi (by rfl) T.n_isinstance (by decide +kernel) (pa_cons (pv 1) (pa_cons (pe_bltn (v := .ty "tuple") (by rfl) T.n_tuple (by decide +kernel) rfl) pa_nil))) (pe_callB call_isi (by rfl) T.n_isinstance (by decide +kernel) (pa_cons (pv 0) (pa_cons (pe_bltn (v := .ty "tuple") (by rfl) T.n_tuple (by decide +kernel) rfl) pa_nil))) (nomark _)) (pw_or1 (pt_cmpR op_ne (pe_callB call_isi (by rfl) T.n_isinstance (by decide +kernel) (pa_cons (pv 1) (pa_cons (pe_bltn (v := .ty "list") (by rfl) T.n_list (by decide +kernel) rfl) pa_nil))) (pe_callB call_isi (by rfl) T.n_isinstance (by decide +kernel) (pa_cons (pv 0) (pa_cons (pe_bltn (v := .ty "list") (by rfl) T.n_list (by decide +kernel) rfl) pa_nil))) (nomark _)))))
  (pss_one (ps_ret pe_bl))
  pss_nil)
  (pss_cons (ps_if (pt_cmpR op_ne (pe_callB call_len_seq (by rfl) T.n_len PySem.boot_len (pa_cons (pv 0) pa_nil)) (pe_callB call_len_seq (by rfl) T.n_len PySem.boot_len (pa_cons (pv 1) pa_nil)) (nomark _))
  (pss_one (ps_ret pe_bl))
  pss_nil)
  (pss_cons (ps_for PassesOwn.never rfl (pi_range1 (by rfl) T.n_range (pa_cons (pe_callB call_len_seq (by rfl) T.n_len PySem.boot_len (pa_cons (pv 1) pa_nil)) pa_nil)) (pg_name (i := 2) sc_l_alike.nd rfl (.inl rfl))
  (pss_one (ps_if (pt_not (pt_val (pe_call ih hr (by rfl) T.d_l_alike.g T.d_l_alike.F.kp T.d_l_alike.b .nil pass0 (pa_cons (pe_ix ix_seq (pv 0) (pv 2) (fun _ _ => rfl)) (pa_cons (pe_ix ix_seq (pv 1) (pv 2) (fun _ _ => rfl)) pa_nil)))))
  (pss_one (ps_ret pe_bl))
  pss_nil)))
  (pss_one (ps_ret pe_bl))))))))), ?_⟩
      cases al with
      | non =>
        refine ⟨.non, rfl, true, rfl, iteT ⟨.non, rfl, ?_⟩⟩
        exact q
      | bl _ i =>
        refine ⟨.bl i, rfl, false, dec_f (fun e => nomatch e), iteF ?_⟩
        refine ⟨.bl i, rfl, .bl i, .ty "bool", .type "bool", .type "bool", true, rfl, .ty _, .base (.bl i), kit_ty (by decide +kernel), true, rfl, iteT ?_⟩
        refine ⟨.bl i, rfl, .bl i, .ty "bool", .type "bool", .type "bool", true, rfl, .ty _, .base (.bl i), kit_ty (by decide +kernel), true, rfl, iteT ?_⟩
        refine ⟨.bl i, rfl, .bl i, rfl, rfl, ?_⟩
        rw [decide_eq_true rfl]
        exact q
      | int _ i =>
        refine ⟨.int i, rfl, false, dec_f (fun e => nomatch e), iteF ?_⟩
        refine ⟨.int i, rfl, .int i, .ty "bool", .type "int", .type "bool", false, rfl, .ty _, .base (.int i), kit_ty (by decide +kernel), false, rfl, iteF ?_⟩
        refine ⟨.int i, rfl, .int i, .ty "int", .type "int", .type "int", true, rfl, .ty _, .base (.int i), kit_ty (by decide +kernel), true, rfl, iteT ?_⟩
        refine ⟨.int i, rfl, .int i, .ty "int", .type "int", .type "int", true, rfl, .ty _, .base (.int i), kit_ty (by decide +kernel), true, rfl, iteT ?_⟩
        refine ⟨.int i, rfl, .int i, .ty "bool", .type "int", .type "bool", false, rfl, .ty _, .base (.int i), kit_ty (by decide +kernel), false, rfl, true, rfl, iteT ?_⟩
        refine ⟨.int i, rfl, .int i, rfl, rfl, ?_⟩
        rw [decide_eq_true rfl]
        exact q
      | str _ s =>
        refine ⟨.str s, rfl, false, dec_f (fun e => nomatch e), iteF ?_⟩
        refine ⟨.str s, rfl, .str s, .ty "bool", .type "str", .type "bool", false, rfl, .ty _, .base (.str s), kit_ty (by decide +kernel), false, rfl, iteF ?_⟩
        refine ⟨.str s, rfl, .str s, .ty "int", .type "str", .type "int", false, rfl, .ty _, .base (.str s), kit_ty (by decide +kernel), false, rfl, iteF ?_⟩
        refine ⟨.str s, rfl, .str s, .ty "str", .type "str", .type "str", true, rfl, .ty _, .base (.str s), kit_ty (by decide +kernel), true, rfl, iteT ?_⟩
        refine ⟨.str s, rfl, .str s, .ty "str", .type "str", .type "str", true, rfl, .ty _, .base (.str s), kit_ty (by decide +kernel), true, rfl, iteT ?_⟩
        refine ⟨.str s, rfl, .str s, rfl, rfl, ?_⟩
        rw [decide_eq_true rfl]
        exact q
      | lst ha hb hl hz hh =>
        rename_i a b xs ys
        refine ⟨.ref b, rfl, false, dec_f (fun e => nomatch e), iteF ?_⟩
        refine ⟨.ref b, rfl, .ref b, .ty "bool", .type "list", .type "bool", false, rfl, .ty _, .base (.lst hb), kit_ty (by decide +kernel), false, rfl, iteF ?_⟩
        refine ⟨.ref b, rfl, .ref b, .ty "int", .type "list", .type "int", false, rfl, .ty _, .base (.lst hb), kit_ty (by decide +kernel), false, rfl, iteF ?_⟩
        refine ⟨.ref b, rfl, .ref b, .ty "str", .type "list", .type "str", false, rfl, .ty _, .base (.lst hb), kit_ty (by decide +kernel), false, rfl, iteF ?_⟩
        refine ⟨.ref b, rfl, .ref b, .ty "tuple", .type "list", .type "tuple", false, rfl, .ty _, .base (.lst hb), kit_ty (by decide +kernel), .ref a, rfl, .ref a, .ty "tuple", .type "list", .type "tuple", false, rfl, .ty _, .base (.lst ha), kit_ty (by decide +kernel), rfl, false, rfl, iteF ?_⟩
        refine ⟨.ref b, rfl, .ref b, .ty "list", .type "list", .type "list", true, rfl, .ty _, .base (.lst hb), kit_ty (by decide +kernel), .ref a, rfl, .ref a, .ty "list", .type "list", .type "list", true, rfl, .ty _, .base (.lst ha), kit_ty (by decide +kernel), rfl, false, rfl, iteF ?_⟩
        refine ⟨.ref a, rfl, a, _, rfl, .inl (SqL.of ha), .ref b, rfl, b, _, rfl, .inl (SqL.of hb), rfl, _, rfl, iteNS (by rw [hl]) ?_⟩
        refine ⟨.ref b, rfl, b, _, rfl, .inl (SqL.of hb), _, rfl, by omega, by omega, for_range (lo := 0) (n := ((ys.length : Nat) : Int).toNat) (fun i σ H' => H' = H ∧ ∃ y : Option V, σ = [some (.ref a), some (.ref b), y]) ⟨rfl, _, rfl⟩ (fun i σ H' hi p => ?_) (fun σ H' p => ?_)⟩
        · obtain ⟨rfl, y, rfl⟩ := p
          have h1 : i < ys.length := by omega
          have h2 : i < xs.length := by omega
          refine ⟨.ref a, rfl, .int (0 + (i : Int)), rfl, .inl ⟨a, _, _, _, rfl, rfl, SqL.of ha, at_of (by omega) (List.getElem?_eq_getElem h2), .ref b, rfl, .int (0 + (i : Int)), rfl, .inl ⟨b, _, _, _, rfl, rfl, SqL.of hb, at_of (by omega) (List.getElem?_eq_getElem h1), ?_⟩⟩⟩
          refine ⟨_, _, rfl, hh i _ _ (List.getElem?_eq_getElem h2) (List.getElem?_eq_getElem h1), true, rfl, iteF ⟨rfl, _, rfl⟩⟩
        · obtain ⟨rfl, y, rfl⟩ := p
          exact q
      | tup ha hb hl hz hh =>
        rename_i a b xs ys
        refine ⟨.ref b, rfl, false, dec_f (fun e => nomatch e), iteF ?_⟩
        refine ⟨.ref b, rfl, .ref b, .ty "bool", .type "tuple", .type "bool", false, rfl, .ty _, .base (.tup hb), kit_ty (by decide +kernel), false, rfl, iteF ?_⟩
        refine ⟨.ref b, rfl, .ref b, .ty "int", .type "tuple", .type "int", false, rfl, .ty _, .base (.tup hb), kit_ty (by decide +kernel), false, rfl, iteF ?_⟩
        refine ⟨.ref b, rfl, .ref b, .ty "str", .type "tuple", .type "str", false, rfl, .ty _, .base (.tup hb), kit_ty (by decide +kernel), false, rfl, iteF ?_⟩
        refine ⟨.ref b, rfl, .ref b, .ty "tuple", .type "tuple", .type "tuple", true, rfl, .ty _, .base (.tup hb), kit_ty (by decide +kernel), .ref a, rfl, .ref a, .ty "tuple", .type "tuple", .type "tuple", true, rfl, .ty _, .base (.tup ha), kit_ty (by decide +kernel), rfl, false, rfl, iteF ?_⟩
        refine ⟨.ref b, rfl, .ref b, .ty "list", .type "tuple", .type "list", false, rfl, .ty _, .base (.tup hb), kit_ty (by decide +kernel), .ref a, rfl, .ref a, .ty "list", .type "tuple", .type "list", false, rfl, .ty _, .base (.tup ha), kit_ty (by decide +kernel), rfl, false, rfl, iteF ?_⟩
        refine ⟨.ref a, rfl, a, _, rfl, .inr (SqT.of ha), .ref b, rfl, b, _, rfl, .inr (SqT.of hb), rfl, _, rfl, iteNS (by rw [hl]) ?_⟩
        refine ⟨.ref b, rfl, b, _, rfl, .inr (SqT.of hb), _, rfl, by omega, by omega, for_range (lo := 0) (n := ((ys.length : Nat) : Int).toNat) (fun i σ H' => H' = H ∧ ∃ y : Option V, σ = [some (.ref a), some (.ref b), y]) ⟨rfl, _, rfl⟩ (fun i σ H' hi p => ?_) (fun σ H' p => ?_)⟩
        · obtain ⟨rfl, y, rfl⟩ := p
          have h1 : i < ys.length := by omega
          have h2 : i < xs.length := by omega
          refine ⟨.ref a, rfl, .int (0 + (i : Int)), rfl, (.inr (.inl ⟨a, _, _, _, rfl, rfl, SqT.of ha, at_of (by omega) (List.getElem?_eq_getElem h2), .ref b, rfl, .int (0 + (i : Int)), rfl, (.inr (.inl ⟨b, _, _, _, rfl, rfl, SqT.of hb, at_of (by omega) (List.getElem?_eq_getElem h1), ?_⟩))⟩))⟩
          refine ⟨_, _, rfl, hh i _ _ (List.getElem?_eq_getElem h2) (List.getElem?_eq_getElem h1), true, rfl, iteF ⟨rfl, _, rfl⟩⟩
        · obtain ⟨rfl, y, rfl⟩ := p
          exact q
end
end K01
namespace K01
open PySem PySem.Spec PyProof.Rows L2 Kt
section
variable {P : Program} {w : World} {K : PySem.W.Frag} {mg : Str → Option Value} {base : Heap}
def kcs (T : Txt K mg) : List Addr := [T.C_BadSheet, T.C_BadSet, T.C_BadTape, T.C_NoSign, T.C_BadCount, T.C_BadText]
theorem ok_l_class (T : Txt K mg) : FnX P w K mg base CX0 1 T.d_l_class.f T.d_l_class.fd ["_law_e"] (spClass K mg (kcs T) T.C_TapeError) := by
  refine fun_okX T.d_l_class.F sc_l_class (fun a cls d vs H Q E h => ?_) (fun cdv A outer s H vs Q E a oe cls d hz hf hr h => ?_)
  · obtain ⟨i, C, rfl, _⟩ := h
    rfl
  · obtain ⟨i, C, rfl, rfl, kd, dx, q⟩ := h
    obtain ⟨x, ex⟩ := kd.ex
    have hi := kd.lt
    refine ⟨_, (pss_cons (ps_set (i := 1) sc_l_class.nd rfl (.inl rfl) (pe_lst (pa_cons (pe_callB (Kt.call_isX ex T.ob (List.mem_singleton.mpr rfl) hz hf) (by rfl) T.n_isinstance (by decide +kernel) (pa_cons (pv 0) (pa_cons (pe_glob (v := .ref T.C_BadSheet) (by rfl) T.x_BadSheet.g rfl) pa_nil))) (pa_cons (pe_callB (Kt.call_isX ex T.ob (List.mem_singleton.mpr rfl) hz hf) (by rfl) T.n_isinstance (by decide +kernel) (pa_cons (pv 0) (pa_cons (pe_glob (v := .ref T.C_BadSet) (by rfl) T.x_BadSet.g rfl) pa_nil))) (pa_cons (pe_callB (Kt.call_isX ex T.ob (List.mem_singleton.mpr rfl) hz hf) (by rfl) T.n_isinstance (by decide +kernel) (pa_cons (pv 0) (pa_cons (pe_glob (v := .ref T.C_BadTape) (by rfl) T.x_BadTape.g rfl) pa_nil))) (pa_cons (pe_callB (Kt.call_isX ex T.ob (List.mem_singleton.mpr rfl) hz hf) (by rfl) T.n_isinstance (by decide +kernel) (pa_cons (pv 0) (pa_cons (pe_glob (v := .ref T.C_NoSign) (by rfl) T.x_NoSign.g rfl) pa_nil))) pa_nil))))))
  (pss_cons (ps_set (i := 1) sc_l_class.nd rfl (.inl rfl) (pe_op op_cat (pv 1) (pe_lst (pa_cons (pe_callB (Kt.call_isX ex T.ob (List.mem_singleton.mpr rfl) hz hf) (by rfl) T.n_isinstance (by decide +kernel) (pa_cons (pv 0) (pa_cons (pe_glob (v := .ref T.C_BadCount) (by rfl) T.x_BadCount.g rfl) pa_nil))) (pa_cons (pe_callB (Kt.call_isX ex T.ob (List.mem_singleton.mpr rfl) hz hf) (by rfl) T.n_isinstance (by decide +kernel) (pa_cons (pv 0) (pa_cons (pe_glob (v := .ref T.C_BadText) (by rfl) T.x_BadText.g rfl) pa_nil))) pa_nil)))))
  (pss_cons (ps_set (i := 2) sc_l_class.nd rfl (.inl rfl) (pe_lst (pa_cons pe_str (pa_cons pe_str (pa_cons pe_str (pa_cons pe_str (pa_cons pe_str (pa_cons pe_str pa_nil))))))))
  (pss_one (ps_ret (pe_ifExp (PW.pt (pw_and (pt_cmpR op_eq (pe_bm PySem.F.plainAttrs_list PySem.F.slot_list_count PySem.F.type_list_count Kt.mt_countF (pv 1) (pa_cons pe_bl pa_nil)) pe_int (nomark _)) (pw_and1 (pt_val (pe_callB (Kt.call_isX ex T.ob (List.mem_singleton.mpr rfl) hz hf) (by rfl) T.n_isinstance (by decide +kernel) (pa_cons (pv 0) (pa_cons (pe_bltn (v := .ty "ValueError") (by rfl) T.n_ValueError (by decide +kernel) rfl) pa_nil))))))) (pe_ix ix_list (pv 2) (pe_bm PySem.F.plainAttrs_list PySem.F.slot_list_index PySem.F.type_list_index mt_index (pv 1) (pa_cons pe_bl pa_nil)) (fun _ _ => rfl)) pe_str)))))), ?_⟩
    refine ⟨.ref a, rfl, _, _, _, rfl, dx, fun u h => h, kd.ki 0 _ rfl, .ref a, rfl, _, _, _, rfl, dx, fun u h => h, kd.ki 1 _ rfl, .ref a, rfl, _, _, _, rfl, dx, fun u h => h, kd.ki 2 _ rfl, .ref a, rfl, _, _, _, rfl, dx, fun u h => h, kd.ki 3 _ rfl, by show 4 ≤ sizeLine; decide, fun p np => ?_⟩
    have s1 := same_new (o := HO.lst [V.bl (decide (i = 0)), V.bl (decide (i = 1)), V.bl (decide (i = 2)), V.bl (decide (i = 3))]) np
    have e1 : upd H p (HO.lst [V.bl (decide (i = 0)), V.bl (decide (i = 1)), V.bl (decide (i = 2)), V.bl (decide (i = 3))]) p = some (HO.lst [V.bl (decide (i = 0)), V.bl (decide (i = 1)), V.bl (decide (i = 2)), V.bl (decide (i = 3))]) := upd_same
    have dx1 := dx.same s1
    refine ⟨.ref p, rfl, .ref a, rfl, _, _, _, rfl, dx1, fun u h => h, kd.ki 4 _ rfl, .ref a, rfl, _, _, _, rfl, dx1, fun u h => h, kd.ki 5 _ rfl, by show 2 ≤ sizeLine; decide, fun p2 np2 => ?_⟩
    have s2 := s1.trans (same_new (o := HO.lst [V.bl (decide (i = 4)), V.bl (decide (i = 5))]) np2)
    refine ⟨p, p2, _, _, rfl, rfl, same_new np2 _ _ e1, upd_same, by show 4 + 2 ≤ sizeLine; decide, fun p3 np3 => ?_⟩
    have s3 := s2.trans (same_new (o := HO.lst (kindsOf i)) np3)
    have e3 : upd (upd (upd H p (HO.lst [V.bl (decide (i = 0)), V.bl (decide (i = 1)), V.bl (decide (i = 2)), V.bl (decide (i = 3))])) p2 (HO.lst [V.bl (decide (i = 4)), V.bl (decide (i = 5))])) p3 (HO.lst (kindsOf i)) p3 = some (HO.lst (kindsOf i)) := upd_same
    have ek : [V.bl (decide (i = 0)), V.bl (decide (i = 1)), V.bl (decide (i = 2)), V.bl (decide (i = 3))] ++ [V.bl (decide (i = 4)), V.bl (decide (i = 5))] = kindsOf i := rfl
    rw [ek]
    generalize upd (upd (upd H p (HO.lst [V.bl (decide (i = 0)), V.bl (decide (i = 1)), V.bl (decide (i = 2)), V.bl (decide (i = 3))])) p2 (HO.lst [V.bl (decide (i = 4)), V.bl (decide (i = 5))])) p3 (HO.lst (kindsOf i)) = H3 at s3 e3
    refine ⟨by show 6 ≤ sizeLine; decide, fun p4 np4 => ?_⟩
    have s4 := s3.trans (same_new (o := HO.lst [V.str "BadSheet", V.str "BadSet", V.str "BadTape", V.str "NoSign", V.str "BadCount", V.str "BadText"]) np4)
    have e4 : upd H3 p4 (HO.lst [V.str "BadSheet", V.str "BadSet", V.str "BadTape", V.str "NoSign", V.str "BadCount", V.str "BadText"]) p4 = some (HO.lst [V.str "BadSheet", V.str "BadSet", V.str "BadTape", V.str "NoSign", V.str "BadCount", V.str "BadText"]) := upd_same
    have e5 := same_new (o := HO.lst [V.str "BadSheet", V.str "BadSet", V.str "BadTape", V.str "NoSign", V.str "BadCount", V.str "BadText"]) np4 _ _ e3
    generalize upd H3 p4 (HO.lst [V.str "BadSheet", V.str "BadSet", V.str "BadTape", V.str "NoSign", V.str "BadCount", V.str "BadText"]) = H4 at s4 e4 e5
    obtain ⟨z, hz1, hz2⟩ := kinds_at ⟨i, hi⟩
    refine ⟨.ref p3, rfl, .inl ⟨rfl, _, SqL.of e5⟩, p3, _, _, rfl, rfl, SqL.of e5, rfl, kinds_flat i, rfl, true, dec_t (by rw [kinds_cnt ⟨i, hi⟩]; rfl), iteT ?_⟩
    refine ⟨.ref a, rfl, _, _, _, rfl, dx.same s4, fun u h => h, kd.kv, true, rfl, iteT ?_⟩
    refine ⟨.ref p4, rfl, .ref p3, rfl, .inl ⟨rfl, _, SqL.of e5⟩, p3, _, _, i, z, rfl, rfl, SqL.of e5, rfl, kinds_flat i, hz1, hz2, fun m z' hm e => kinds_before hi m z' hm e, ?_⟩
    exact ⟨p4, _, (i : Nat), _, rfl, rfl, SqL.of e4, atI_nat (kind_word ⟨i, hi⟩), q _ s4⟩
/-- the level of a lambda -/
abbrev thk : Nat := 10
/-- the readings of the try -/
abbrev tbRefused (P : Program) (w : World) (mg : Str → Option Value) (base : Heap) (T : Txt K mg) : WX → TS := fun W => tDrop (tThk P w K mg base thk 0 (WE W))
abbrev tsRefused (T : Txt K mg) : Addr → Value → Option Addr → TS := fun a cls d => tSeq (tAsg (fun σ H Q => (tCons (tVar 1) tNil) σ H fun vs H1 => spClass K mg (kcs T) T.C_TapeError a cls d vs H1 Q E0) (gName 2))
  (tRet (tIf (tTest (tOp (rIn K false) (tVar 2) (tTup (tCons (tC (.str "BadTape")) (tCons (tC (.str "NoSign")) tNil))))) (tTup (tCons (tVar 2) (tCons (tXfA K a cls d "place" (tVar 1)) tNil))) (tTup (tCons (tVar 2) (tCons (tC (.int 0)) tNil)))))
set_option maxHeartbeats 1000000 in
theorem ok_l_refused (T : Txt K mg) : FnOk P w K mg base CX0 17 T.d_l_refused.f T.d_l_refused.fd ["_law_work"] (spRefused P w K mg base thk (kc T) (tws T)) := by
  refine T.d_l_refused.F.ok sc_l_refused (fun vs H Q E h => ?_) (fun cdv A outer s H vs Q E hr h => ?_)
  · obtain ⟨f, r, rfl, _⟩ := h
    rfl
  · obtain ⟨f, r, rfl, th, tw, q⟩ := h
    refine ⟨_, (pss_cons (ps_try_as (i := 1) (tb := tbRefused P w mg base T) (ts := tsRefused T) (Wout := fun _ _ _ _ => False) rfl rfl sc_l_refused.nd rfl rfl ⟨rfl, by decide, Or.inl T.bc.g⟩ takes0 (fun W pn xe tk _ => (pss_one (ps_expr (Kt.pe_callT (E := WE W) (hr.mono (by decide)) (fun σ => passAt tk σ) (i := 0) (by rfl) (.inl rfl))))) (fun a oe cls d pn hz hf => (pss_cons (ps_set (i := 2) sc_l_refused.nd rfl (.inl rfl) (Kt.pe_callX (ok_l_class T) (hr.mono (by decide)) hz hf (by rfl) T.d_l_class.g T.d_l_class.F.kp T.d_l_class.b pass0 (pa_cons (pv 1) pa_nil)))
  (pss_one (ps_ret (pe_ifExp (pt_cmpR op_in_seq (pv 2) (pe_tup (pa_cons pe_str (pa_cons pe_str pa_nil))) (by rfl)) (pe_tup (pa_cons (pv 2) (pa_cons (Kt.pe_xfA hz hf (pv 1)) pa_nil))) (pe_tup (pa_cons (pv 2) (pa_cons pe_int pa_nil)))))))))
  (pss_one (ps_ret pe_non))), ?_⟩
    refine ⟨f, thSp (kc T) (tws T) r, rfl, th, tw, ?_⟩
    cases r with
    | none => exact fun v H' k => q .non H' k rfl
    | some rf =>
      cases rf with
      | sheet =>
        refine fun H1 k => ⟨true, T.kd_BadSheet.em, fun _ a na => ?_, fun e => nomatch e⟩
        refine ⟨.ref a, rfl, 0, T.C_BadSheet, rfl, rfl, T.kd_BadSheet, fun dd e => (nomatch e), fun H2 s2 => ?_⟩
        refine ⟨.str (kindWord 0), rfl, by show 2 ≤ sizeLine; decide, fun pt npt => ⟨pt, _, rfl, .inr (SqT.of upd_same), rfl, rfl, false, rfl, iteF ?_⟩⟩
        refine ⟨.str (kindWord 0), rfl, by show 2 ≤ sizeLine; decide, fun p np => ?_⟩
        exact q (.ref p) _ (k.trans (Kz.same k.tb ((s2.trans (same_new npt)).trans (same_new np)))) ⟨p, rfl, upd_same⟩
      | set =>
        refine fun H1 k => ⟨true, T.kd_BadSet.em, fun _ a na => ?_, fun e => nomatch e⟩
        refine ⟨.ref a, rfl, 1, T.C_BadSet, rfl, rfl, T.kd_BadSet, fun dd e => (nomatch e), fun H2 s2 => ?_⟩
        refine ⟨.str (kindWord 1), rfl, by show 2 ≤ sizeLine; decide, fun pt npt => ⟨pt, _, rfl, .inr (SqT.of upd_same), rfl, rfl, false, rfl, iteF ?_⟩⟩
        refine ⟨.str (kindWord 1), rfl, by show 2 ≤ sizeLine; decide, fun p np => ?_⟩
        exact q (.ref p) _ (k.trans (Kz.same k.tb ((s2.trans (same_new npt)).trans (same_new np)))) ⟨p, rfl, upd_same⟩
      | count =>
        refine fun H1 k => ⟨true, T.kd_BadCount.em, fun _ a na => ?_, fun e => nomatch e⟩
        refine ⟨.ref a, rfl, 4, T.C_BadCount, rfl, rfl, T.kd_BadCount, fun dd e => (nomatch e), fun H2 s2 => ?_⟩
        refine ⟨.str (kindWord 4), rfl, by show 2 ≤ sizeLine; decide, fun pt npt => ⟨pt, _, rfl, .inr (SqT.of upd_same), rfl, rfl, false, rfl, iteF ?_⟩⟩
        refine ⟨.str (kindWord 4), rfl, by show 2 ≤ sizeLine; decide, fun p np => ?_⟩
        exact q (.ref p) _ (k.trans (Kz.same k.tb ((s2.trans (same_new npt)).trans (same_new np)))) ⟨p, rfl, upd_same⟩
      | tape n =>
        refine fun H1 dx k nd => ⟨true, T.kd_BadTape.em, fun _ a na => ?_, fun e => nomatch e⟩
        have s0 := same_new (o := HO.xd [("place", V.int (n : Nat))]) nd
        refine ⟨.ref a, rfl, 2, T.C_BadTape, rfl, rfl, T.kd_BadTape, fun dd e => ⟨_, by cases e; exact upd_same⟩, fun H2 s2 => ?_⟩
        refine ⟨.str (kindWord 2), rfl, by show 2 ≤ sizeLine; decide, fun pt npt => ⟨pt, _, rfl, .inr (SqT.of upd_same), rfl, rfl, true, rfl, iteT ?_⟩⟩
        have s3 := s2.trans (same_new (o := HO.tup [V.str "BadTape", V.str "NoSign"]) npt)
        refine ⟨.str (kindWord 2), rfl, .ref a, rfl, T.C_BadTape, rfl, rfl, T.x_BadTape.xf, T.in_BadTape.no, dx, _, .int (n : Nat), rfl, s3 _ _ upd_same, rfl, by show 2 ≤ sizeLine; decide, fun p np => ?_⟩
        exact q (.ref p) _ (k.trans (Kz.same k.tb ((s0.trans s3).trans (same_new np)))) ⟨p, rfl, upd_same⟩
      | sign n =>
        refine fun H1 dx k nd => ⟨true, T.kd_NoSign.em, fun _ a na => ?_, fun e => nomatch e⟩
        have s0 := same_new (o := HO.xd [("place", V.int (n : Nat))]) nd
        refine ⟨.ref a, rfl, 3, T.C_NoSign, rfl, rfl, T.kd_NoSign, fun dd e => ⟨_, by cases e; exact upd_same⟩, fun H2 s2 => ?_⟩
        refine ⟨.str (kindWord 3), rfl, by show 2 ≤ sizeLine; decide, fun pt npt => ⟨pt, _, rfl, .inr (SqT.of upd_same), rfl, rfl, true, rfl, iteT ?_⟩⟩
        have s3 := s2.trans (same_new (o := HO.tup [V.str "BadTape", V.str "NoSign"]) npt)
        refine ⟨.str (kindWord 3), rfl, .ref a, rfl, T.C_NoSign, rfl, rfl, T.x_NoSign.xf, T.in_NoSign.no, dx, _, .int (n : Nat), rfl, s3 _ _ upd_same, rfl, by show 2 ≤ sizeLine; decide, fun p np => ?_⟩
        exact q (.ref p) _ (k.trans (Kz.same k.tb ((s0.trans s3).trans (same_new np)))) ⟨p, rfl, upd_same⟩
set_option maxHeartbeats 1000000 in
theorem ok_l_all (T : Txt K mg) : FnOk P w K mg base CX0 18 T.d_l_all.f T.d_l_all.fd ["_law_works", "_law_due"] (spAll P w K mg base thk (kc T) (tws T)) := by
  refine T.d_l_all.F.ok sc_l_all (fun vs H Q E h => ?_) (fun cdv A outer s H vs Q E hr h => ?_)
  · obtain ⟨l, fs, due, r, rfl, _⟩ := h
    rfl
  · obtain ⟨l, fs, due, r, rfl, hl, hn, hth, hd, tw, q⟩ := h
    refine ⟨_, (pss_one (ps_ret (pe_cmpR (op_eqD hr.units) (pe_lc (own := [("_law_work", 2)]) (g := gName 2) (tt := (tNot (tB (tCall (spAl 2) [] E0 (tCons (tCall (spRefused P w K mg base thk (kc T) (tws T)) [] E0 (tCons (tVar 2) tNil)) (tCons (tVar 1) tNil)))))) (te := _) rfl sc_l_all.nd (pi_list (pv 0)) (blkOk_by (own := [("_law_work", 2)]) (N := ["_law_works", "_law_due", "_law_work"]) (sc := defScope s_l_all) (by decide +kernel)) (by exact fun _ _ _ _ _ => pg_name (i := 2) sc_l_all.nd rfl (Or.inl rfl)) (by exact fun _ _ _ _ _ => (pts_one (pt_not (pt_val (pe_call (ok_l_alike T 2) (hr.mono (by decide)) (by rfl) T.d_l_alike.g T.d_l_alike.F.kp T.d_l_alike.b .nil pass0 (pa_cons (pe_call (ok_l_refused T) (hr.mono (by decide)) (by rfl) T.d_l_refused.g T.d_l_refused.F.kp T.d_l_refused.b .nil pass0 (pa_cons (pv 2) pa_nil)) (pa_cons (pv 1) pa_nil))))))) (by exact fun _ _ _ _ _ => (pv 2))) (pe_lst pa_nil) (nomark _)))), ?_⟩
    refine ⟨.ref l, rfl, l, rfl, ⟨_, SqL.of hl⟩, fun D nD => ?_⟩
    refine lc_list (K := K) (a := l) (xs := fs.map V.ref) (fun i H' => Kz (tws T) H H' ∧ H' D = some (.lst [])) ⟨Kz.same tw (same_new nD), upd_same⟩ (fun i H' _ p => SqL.of (p.1.lst hl)) (fun i x H' hx p => ?_) (fun H' p => ?_)
    · obtain ⟨k, eD⟩ := p
      obtain ⟨f, hf, rfl⟩ := at_map hx
      refine ⟨rfl, ?_⟩
      refine ⟨.ref f, rfl, f, r, rfl, (hth f (List.mem_of_getElem? hf)).mono k.stays, k.tb, fun v H2 k2 rv => ?_⟩
      refine ⟨due, rfl, v, due, rfl, rv.al (hd.kz (k.trans k2)), true, rfl, iteF ?_⟩
      exact ⟨k.trans k2, k2.lst eD⟩
    · obtain ⟨k, eD⟩ := p
      refine ⟨Nat.zero_le _, fun p2 np2 => ?_⟩
      have s2 := same_new (o := HO.lst []) np2
      refine ⟨.list [], .list [], .lst (SqL.of (s2 _ _ eD)) .nil, .lst (SqL.of upd_same) .nil, rfl, rfl, ?_⟩
      have e : PyData.eqv (.list []) (.list []) = true := by simp [PyData.eqv, PyData.eqvAll]
      rw [e]
      exact q _ (k.trans (Kz.same k.tb s2))
end
end K01
namespace K01
open PySem PySem.Spec PyProof.Rows L2 Kt
section
variable {P : Program} {w : World} {K : PySem.W.Frag} {mg : Str → Option Value} {base : Heap}
theorem cap_l_of_texts : CapS (defScope s_l_of_texts) ["_law_sheet_here", "_law_text_here", "_law_begin", "_law_most"] := ⟨by decide +kernel⟩
theorem cap_l_of_tapes : CapS (defScope s_l_of_tapes) ["_law_sheet_here", "_law_tape_here", "_law_begin", "_law_place"] := ⟨by decide +kernel⟩
set_option maxHeartbeats 4000000 in
theorem ok_l_of_texts (T : Txt K mg) (ap : (tws T).Apart) (TB : GxR.TabB base mg T.c_are_signs T.t_are_signs) (TB2 : LamX.TabB base mg T.c_first_of T.t_first_of) (TB_l_of_texts : LamX.TabB base mg T.c_l_of_texts T.t_l_of_texts) :
    FnOk P w K mg base CX0 6 T.d_l_of_texts.f T.d_l_of_texts.fd ["_law_sheet_here", "_law_text_here", "_law_begin", "_law_most"] (spOfTexts P w K mg base thk (kc T) (tws T)) := by
  refine Kt.coded_okR T.k_l_of_texts sc_l_of_texts (fun vs H Q E h => ?_) cap_l_of_texts.cap (fun A outer s H vs Q E hr h => ?_)
  · obtain ⟨t, z, o, hm, x, b, m, r, rfl, _⟩ := h
    rfl
  · obtain ⟨t, z, o, hm, x, b, m, r, rfl, an, hx, v, hm0, tw, q⟩ := h
    refine ⟨_, (Kt.psr_ret (pe_lst (pa_cons (Kt.pe_lam0 TB_l_of_texts rfl (mem_l_of_texts T) (ap.hu (mem_l_of_texts T)) (ap.hg (mem_l_of_texts T)) (Kt.hfree_by rfl cap_l_of_texts (by decide +kernel))) (pa_cons (Kt.pe_lam1 TB_l_of_texts rfl (mem_l_of_texts T) (ap.hu (mem_l_of_texts T)) (ap.hg (mem_l_of_texts T)) (Kt.hfree_by rfl cap_l_of_texts (by decide +kernel))) pa_nil)))), ?_⟩
    refine ⟨tw, fun f0 H1 k1 n0 l0 => ⟨k1.tb, fun f1 H2 k2 n1 l1 => ⟨by show 2 ≤ sizeLine; decide, fun p1 np1 => ?_⟩⟩⟩
    have k3 := (k1.trans k2).trans (Kz.same k2.tb (same_new (o := HO.lst [V.ref f0, V.ref f1]) np1))
    have l0 := (l0.kz k2).same (same_new (o := HO.lst [V.ref f0, V.ref f1]) np1)
    have l1 := l1.same (same_new (o := HO.lst [V.ref f0, V.ref f1]) np1)
    have e1 : upd H2 p1 (HO.lst [V.ref f0, V.ref f1]) p1 = some (HO.lst [V.ref f0, V.ref f1]) := upd_same
    have np : H p1 = none := (k1.trans k2).nn _ np1
    generalize upd H2 p1 (HO.lst [V.ref f0, V.ref f1]) = H3 at k3 l0 l1 e1
    intro L hinj hlen cp fr
    have hL : ∀ b o, L.lookup b = some o → addF H3 L b = some (Fz o) := fun b o e => addF_in e
    have sa := same_add fr
    have ka := kz_add k3 fr
    have an3 := an.kz ka
    have th0 : ThOk P w K mg base thk (addF H3 L) f0 (thSp (kc T) (tws T) r) := by
      refine th_mk (l0.same sa) hL cp hinj hlen (thS_by (by decide +kernel)) (bd0 fun _ _ _ _ => rfl) fun A outer s H1 Q E c' hr st tb en => ?_
      exact ⟨_, (pe_callS (okx_shortest T ap TB TB2) (hr.mono (by decide)) (by rfl) T.d_shortest.g T.d_shortest.F.kp T.d_shortest.b (fun σ => passAt (takes_of rfl rfl rfl rfl) σ) (pa_cons (pv 0) (pa_cons (pv 1) (pa_cons (pv 2) pa_nil)))), .ref t, rfl, .str x, rfl, .int b, rfl, t, z, o, hm, x, b, r, rfl, an3.stz st, hx, v, tb, en⟩
    have th1 : ThOk P w K mg base thk (addF H3 L) f1 (thSp (kc T) (tws T) r) := by
      refine th_mk (l1.same sa) hL cp hinj hlen (thS_by (by decide +kernel)) (bd1 rfl fun _ _ _ _ _ => ⟨_, rfl, fun _ => rfl⟩) fun A outer s H1 Q E c' hr st tb en => ?_
      exact ⟨_, (pe_callS (okx_guarded T ap TB) (hr.mono (by decide)) (by rfl) T.d_guarded.g T.d_guarded.F.kp T.d_guarded.b (fun σ => passAt (takes_of rfl rfl rfl rfl) σ) (pa_cons (pv 0) (pa_cons (pv 1) (pa_cons (pv 2) (pa_cons (pv 3) pa_nil))))), .ref t, rfl, .str x, rfl, .int b, rfl, .int m, rfl, t, z, o, hm, x, b, m, r, rfl, an3.stz st, hx, VC.of v hm0 v.nc, tb, en⟩
    refine q p1 [f0, f1] _ ka np (sa _ _ e1) rfl fun f hf => ?_
    rcases List.mem_cons.mp hf with e | hf
    · rw [e]; exact th0
    · rw [List.mem_singleton.mp hf]; exact th1
set_option maxHeartbeats 8000000 in
theorem ok_l_of_tapes (T : Txt K mg) (ap : (tws T).Apart) (TB : GxR.TabB base mg T.c_are_signs T.t_are_signs) (TB_l_of_tapes : LamX.TabB base mg T.c_l_of_tapes T.t_l_of_tapes) :
    FnOk P w K mg base CX0 7 T.d_l_of_tapes.f T.d_l_of_tapes.fd ["_law_sheet_here", "_law_tape_here", "_law_begin", "_law_place"] (spOfTapes P w K mg base thk (kc T) (tws T)) := by
  refine Kt.coded_okR T.k_l_of_tapes sc_l_of_tapes (fun vs H Q E h => ?_) cap_l_of_tapes.cap (fun A outer s H vs Q E hr h => ?_)
  · obtain ⟨t, a, z, o, hm, cs, b, m, r, rfl, _⟩ := h
    rfl
  · obtain ⟨t, a, z, o, hm, cs, b, m, r, rfl, an, is, v, hm0, tw, q⟩ := h
    refine ⟨_, (Kt.psr_cons (ps_set (i := 4) sc_l_of_tapes.nd rfl (.inl rfl) (pe_lst (pa_cons (Kt.pe_lam0 TB_l_of_tapes rfl (mem_l_of_tapes T) (ap.hu (mem_l_of_tapes T)) (ap.hg (mem_l_of_tapes T)) (Kt.hfree_by rfl cap_l_of_tapes (by decide +kernel))) (pa_cons (Kt.pe_lam1 TB_l_of_tapes rfl (mem_l_of_tapes T) (ap.hu (mem_l_of_tapes T)) (ap.hg (mem_l_of_tapes T)) (Kt.hfree_by rfl cap_l_of_tapes (by decide +kernel))) pa_nil))))
  (Kt.psr_cons (ps_set (i := 4) sc_l_of_tapes.nd rfl (.inl rfl) (pe_op op_cat (pv 4) (pe_lst (pa_cons (Kt.pe_lam1 TB_l_of_tapes rfl (mem_l_of_tapes T) (ap.hu (mem_l_of_tapes T)) (ap.hg (mem_l_of_tapes T)) (Kt.hfree_by rfl cap_l_of_tapes (by decide +kernel))) (pa_cons (Kt.pe_lam1 TB_l_of_tapes rfl (mem_l_of_tapes T) (ap.hu (mem_l_of_tapes T)) (ap.hg (mem_l_of_tapes T)) (Kt.hfree_by rfl cap_l_of_tapes (by decide +kernel))) pa_nil)))))
  (Kt.psr_cons (ps_set (i := 4) sc_l_of_tapes.nd rfl (.inl rfl) (pe_op op_cat (pv 4) (pe_lst (pa_cons (Kt.pe_lam1 TB_l_of_tapes rfl (mem_l_of_tapes T) (ap.hu (mem_l_of_tapes T)) (ap.hg (mem_l_of_tapes T)) (Kt.hfree_by rfl cap_l_of_tapes (by decide +kernel))) (pa_cons (Kt.pe_lam1 TB_l_of_tapes rfl (mem_l_of_tapes T) (ap.hu (mem_l_of_tapes T)) (ap.hg (mem_l_of_tapes T)) (Kt.hfree_by rfl cap_l_of_tapes (by decide +kernel))) pa_nil)))))
  (Kt.psr_ret (pe_op op_cat (pv 4) (pe_lst (pa_cons (Kt.pe_lam1 TB_l_of_tapes rfl (mem_l_of_tapes T) (ap.hu (mem_l_of_tapes T)) (ap.hg (mem_l_of_tapes T)) (Kt.hfree_by rfl cap_l_of_tapes (by decide +kernel))) (pa_cons (Kt.pe_lam1 TB_l_of_tapes rfl (mem_l_of_tapes T) (ap.hu (mem_l_of_tapes T)) (ap.hg (mem_l_of_tapes T)) (Kt.hfree_by rfl cap_l_of_tapes (by decide +kernel))) pa_nil)))))))), ?_⟩
    refine ⟨tw, fun f0 H1 k1 n0 l0 => ⟨k1.tb, fun f1 H2 k2 n1 l1 => ⟨by show 2 ≤ sizeLine; decide, fun p1 np1 => ?_⟩⟩⟩
    have s3 := same_new (o := HO.lst [V.ref f0, V.ref f1]) np1
    have k3 := (k1.trans k2).trans (Kz.same k2.tb s3)
    have l0 := (l0.kz k2).same s3
    have l1 := l1.same s3
    have e1 : upd H2 p1 (HO.lst [V.ref f0, V.ref f1]) p1 = some (HO.lst [V.ref f0, V.ref f1]) := upd_same
    generalize upd H2 p1 (HO.lst [V.ref f0, V.ref f1]) = H3 at k3 l0 l1 e1
    refine ⟨.ref p1, rfl, k3.tb, fun f2 H4 k4 n2 l2 => ⟨k4.tb, fun f3 H5 k5 n3 l3 => ⟨by show 2 ≤ sizeLine; decide, fun p2 np2 => ?_⟩⟩⟩
    have s5 := same_new (o := HO.lst [V.ref f2, V.ref f3]) np2
    refine ⟨p1, p2, _, _, rfl, rfl, s5 _ _ (k5.lst (k4.lst e1)), upd_same, by show 2 + 2 ≤ sizeLine; decide, fun p3 np3 => ?_⟩
    have s6 := s5.trans (same_new (o := HO.lst ([V.ref f0, V.ref f1] ++ [V.ref f2, V.ref f3])) np3)
    have k6 := (k4.trans k5).trans (Kz.same k5.tb s6)
    have l0 := l0.kz k6
    have l1 := l1.kz k6
    have l2 := (l2.kz k5).same s6
    have l3 := l3.same s6
    have e3 : upd (upd H5 p2 (HO.lst [V.ref f2, V.ref f3])) p3 (HO.lst ([V.ref f0, V.ref f1] ++ [V.ref f2, V.ref f3])) p3 = some (HO.lst [V.ref f0, V.ref f1, V.ref f2, V.ref f3]) := upd_same
    have k6 := k3.trans k6
    generalize upd (upd H5 p2 (HO.lst [V.ref f2, V.ref f3])) p3 (HO.lst ([V.ref f0, V.ref f1] ++ [V.ref f2, V.ref f3])) = H6 at k6 l0 l1 l2 l3 e3
    refine ⟨.ref p3, rfl, k6.tb, fun f4 H7 k7 n4 l4 => ⟨k7.tb, fun f5 H8 k8 n5 l5 => ⟨by show 2 ≤ sizeLine; decide, fun p4 np4 => ?_⟩⟩⟩
    have s8 := same_new (o := HO.lst [V.ref f4, V.ref f5]) np4
    refine ⟨p3, p4, _, _, rfl, rfl, s8 _ _ (k8.lst (k7.lst e3)), upd_same, by show 4 + 2 ≤ sizeLine; decide, fun p5 np5 => ?_⟩
    have s9 := s8.trans (same_new (o := HO.lst ([V.ref f0, V.ref f1, V.ref f2, V.ref f3] ++ [V.ref f4, V.ref f5])) np5)
    have k9 := (k7.trans k8).trans (Kz.same k8.tb s9)
    have l0 := l0.kz k9
    have l1 := l1.kz k9
    have l2 := l2.kz k9
    have l3 := l3.kz k9
    have l4 := (l4.kz k8).same s9
    have l5 := l5.same s9
    have e5 : upd (upd H8 p4 (HO.lst [V.ref f4, V.ref f5])) p5 (HO.lst ([V.ref f0, V.ref f1, V.ref f2, V.ref f3] ++ [V.ref f4, V.ref f5])) p5 = some (HO.lst [V.ref f0, V.ref f1, V.ref f2, V.ref f3, V.ref f4, V.ref f5]) := upd_same
    have k9 := k6.trans k9
    generalize upd (upd H8 p4 (HO.lst [V.ref f4, V.ref f5])) p5 (HO.lst ([V.ref f0, V.ref f1, V.ref f2, V.ref f3] ++ [V.ref f4, V.ref f5])) = HA at k9 l0 l1 l2 l3 l4 l5 e5
    refine ⟨.ref p5, rfl, k9.tb, fun f6 HB kB n6 l6 => ⟨kB.tb, fun f7 HC kC n7 l7 => ⟨by show 2 ≤ sizeLine; decide, fun p6 np6 => ?_⟩⟩⟩
    have sC := same_new (o := HO.lst [V.ref f6, V.ref f7]) np6
    refine ⟨p5, p6, _, _, rfl, rfl, sC _ _ (kC.lst (kB.lst e5)), upd_same, by show 6 + 2 ≤ sizeLine; decide, fun p7 np7 => ?_⟩
    have sD := sC.trans (same_new (o := HO.lst ([V.ref f0, V.ref f1, V.ref f2, V.ref f3, V.ref f4, V.ref f5] ++ [V.ref f6, V.ref f7])) np7)
    have kD := (kB.trans kC).trans (Kz.same kC.tb sD)
    have l0 := l0.kz kD
    have l1 := l1.kz kD
    have l2 := l2.kz kD
    have l3 := l3.kz kD
    have l4 := l4.kz kD
    have l5 := l5.kz kD
    have l6 := (l6.kz kC).same sD
    have l7 := l7.same sD
    have e7 : upd (upd HC p6 (HO.lst [V.ref f6, V.ref f7])) p7 (HO.lst ([V.ref f0, V.ref f1, V.ref f2, V.ref f3, V.ref f4, V.ref f5] ++ [V.ref f6, V.ref f7])) p7 = some (HO.lst ([f0, f1, f2, f3, f4, f5, f6, f7].map V.ref)) := upd_same
    have np : H p7 = none := k9.nn _ ((kB.trans kC).nn _ (sC.free np7))
    have k9 := k9.trans kD
    generalize upd (upd HC p6 (HO.lst [V.ref f6, V.ref f7])) p7 (HO.lst ([V.ref f0, V.ref f1, V.ref f2, V.ref f3, V.ref f4, V.ref f5] ++ [V.ref f6, V.ref f7])) = H9 at k9 l0 l1 l2 l3 l4 l5 l6 l7 e7
    intro L hinj hlen cp fr
    have hL : ∀ b o, L.lookup b = some o → addF H9 L b = some (Fz o) := fun b o e => addF_in e
    have sa := same_add fr
    have ka := kz_add k9 fr
    have an3 := an.kz ka
    have is3 := is.kz ka
    have th0 : ThOk P w K mg base thk (addF H9 L) f0 (thSp (kc T) (tws T) r) := by
      refine th_mk (l0.same sa) hL cp hinj hlen (thS_by (by decide +kernel)) (bd0 fun _ _ _ _ => rfl) fun A outer s H1 Q E c' hr st tb en => ?_
      exact ⟨_, (pe_callS (okx_read T ap TB) (hr.mono (by decide)) (by rfl) T.d_read.g T.d_read.F.kp T.d_read.b (fun σ => passAt (takes_of rfl rfl rfl rfl) σ) (pa_cons (pv 0) (pa_cons (pv 1) (pa_cons (pv 2) pa_nil)))), .ref t, rfl, .ref a, rfl, .int b, rfl, t, a, z, o, hm, cs, b, r, rfl, an3.stz st, is3.stz st, v, tb, en⟩
    have th1 : ThOk P w K mg base thk (addF H9 L) f1 (thSp (kc T) (tws T) r) := by
      refine th_mk (l1.same sa) hL cp hinj hlen (thS_by (by decide +kernel)) (bd1 rfl fun _ _ _ _ _ => ⟨_, rfl, fun _ => rfl⟩) fun A outer s H1 Q E c' hr st tb en => ?_
      exact ⟨_, (pe_callS (okx_last_set T ap TB) (hr.mono (by decide)) (by rfl) T.d_last_set.g T.d_last_set.F.kp T.d_last_set.b (fun σ => passAt (takes_of rfl rfl rfl rfl) σ) (pa_cons (pv 0) (pa_cons (pv 1) (pa_cons (pv 2) pa_nil)))), .ref t, rfl, .ref a, rfl, .int b, rfl, t, a, z, o, hm, cs, b, r, rfl, an3.stz st, is3.stz st, v, tb, en⟩
    have th2 : ThOk P w K mg base thk (addF H9 L) f2 (thSp (kc T) (tws T) r) := by
      refine th_mk (l2.same sa) hL cp hinj hlen (thS_by (by decide +kernel)) (bd1 rfl fun _ _ _ _ _ => ⟨_, rfl, fun _ => rfl⟩) fun A outer s H1 Q E c' hr st tb en => ?_
      exact ⟨_, (pe_callS (okx_spoilt T ap TB) (hr.mono (by decide)) (by rfl) T.d_spoilt.g T.d_spoilt.F.kp T.d_spoilt.b (fun σ => passAt (takes_of rfl rfl rfl rfl) σ) (pa_cons (pv 0) (pa_cons (pv 1) (pa_cons (pv 2) pa_nil)))), .ref t, rfl, .ref a, rfl, .int b, rfl, t, a, z, o, hm, cs, b, r, rfl, an3.stz st, is3.stz st, v, tb, en⟩
    have th3 : ThOk P w K mg base thk (addF H9 L) f3 (thSp (kc T) (tws T) r) := by
      refine th_mk (l3.same sa) hL cp hinj hlen (thS_by (by decide +kernel)) (bd1 rfl fun _ _ _ _ _ => ⟨_, rfl, fun _ => rfl⟩) fun A outer s H1 Q E c' hr st tb en => ?_
      exact ⟨_, (pe_callS (okx_lost_at T ap TB) (hr.mono (by decide)) (by rfl) T.d_lost_at.g T.d_lost_at.F.kp T.d_lost_at.b (fun σ => passAt (takes_of rfl rfl rfl rfl) σ) (pa_cons (pv 0) (pa_cons (pv 1) (pa_cons (pv 2) (pa_cons pe_str pa_nil))))), .ref t, rfl, .ref a, rfl, .int b, rfl, t, a, z, o, hm, cs, b, _, r, rfl, an3.stz st, is3.stz st, v, tb, en⟩
    have th4 : ThOk P w K mg base thk (addF H9 L) f4 (thSp (kc T) (tws T) r) := by
      refine th_mk (l4.same sa) hL cp hinj hlen (thS_by (by decide +kernel)) (bd1 rfl fun _ _ _ _ _ => ⟨_, rfl, fun _ => rfl⟩) fun A outer s H1 Q E c' hr st tb en => ?_
      exact ⟨_, (pe_callS (okx_is_guarded T ap TB) (hr.mono (by decide)) (by rfl) T.d_is_guarded.g T.d_is_guarded.F.kp T.d_is_guarded.b (fun σ => passAt (takes_of rfl rfl rfl rfl) σ) (pa_cons (pv 0) (pa_cons (pv 1) (pa_cons (pv 2) (pa_cons (pv 3) pa_nil))))), .ref t, rfl, .ref a, rfl, .int b, rfl, .int m, rfl, t, a, z, o, hm, cs, b, m, r, rfl, an3.stz st, is3.stz st, VC.of v (fun e => ⟨(hm0 e).1, (hm0 e).2.1⟩) v.nc, tb, en⟩
    have th5 : ThOk P w K mg base thk (addF H9 L) f5 (thSp (kc T) (tws T) r) := by
      refine th_mk (l5.same sa) hL cp hinj hlen (thS_by (by decide +kernel)) (bd1 rfl fun _ _ _ _ _ => ⟨_, rfl, fun _ => rfl⟩) fun A outer s H1 Q E c' hr st tb en => ?_
      exact ⟨_, (pe_callS (okx_cut T ap TB) (hr.mono (by decide)) (by rfl) T.d_cut.g T.d_cut.F.kp T.d_cut.b (fun σ => passAt (takes_of rfl rfl rfl rfl) σ) (pa_cons (pv 0) (pa_cons (pv 1) (pa_cons (pv 2) (pa_cons (pv 3) pa_nil))))), .ref t, rfl, .ref a, rfl, .int b, rfl, .int m, rfl, t, a, z, o, hm, cs, b, m, r, rfl, an3.stz st, is3.stz st, VC.of v (fun e => ⟨(hm0 e).1, (hm0 e).2.2⟩) v.nc, tb, en⟩
    have th6 : ThOk P w K mg base thk (addF H9 L) f6 (thSp (kc T) (tws T) r) := by
      refine th_mk (l6.same sa) hL cp hinj hlen (thS_by (by decide +kernel)) (bd1 rfl fun _ _ _ _ _ => ⟨_, rfl, fun _ => rfl⟩) fun A outer s H1 Q E c' hr st tb en => ?_
      have an4 := an3.stz st
      have is4 := is3.stz st
      refine ⟨_, (pe_callS (okx_joined T ap TB) (hr.mono (by decide)) (by rfl) T.d_joined.g T.d_joined.F.kp T.d_joined.b (fun σ => passAt (takes_of rfl rfl rfl rfl) σ) (pa_cons (pv 0) (pa_cons (pe_lst (pa_cons (pe_lst pa_nil) (pa_cons (pv 1) pa_nil))) (pa_cons (pv 2) pa_nil)))), .ref t, rfl, Nat.zero_le _, fun e ne => ⟨.ref a, rfl, by show 2 ≤ sizeLine; decide, fun l nl => ⟨.int b, rfl, ?_⟩⟩⟩
      have s1 := same_new (o := HO.lst []) ne
      have s2 := same_new (o := HO.lst [V.ref e, V.ref a]) nl
      have kx := Kz.same tb (s1.trans s2)
      exact ⟨t, l, z, o, hm, [e, a], [[], cs], b, r, rfl, an4.kz kx, upd_same, ⟨s2 _ _ upd_same, kx.lst is4.at', True.intro⟩, fun u hu => by
        rcases List.mem_cons.mp hu with e | hu
        · rw [e]; exact Nat.zero_le _
        · rw [List.mem_singleton.mp hu]; exact is4.le, by show 2 ≤ 300; decide, vjoin1 v, kx.tb, en.kz kx⟩
    have th7 : ThOk P w K mg base thk (addF H9 L) f7 (thSp (kc T) (tws T) r) := by
      refine th_mk (l7.same sa) hL cp hinj hlen (thS_by (by decide +kernel)) (bd1 rfl fun _ _ _ _ _ => ⟨_, rfl, fun _ => rfl⟩) fun A outer s H1 Q E c' hr st tb en => ?_
      have an4 := an3.stz st
      have is4 := is3.stz st
      refine ⟨_, (pe_callS (okx_joined T ap TB) (hr.mono (by decide)) (by rfl) T.d_joined.g T.d_joined.F.kp T.d_joined.b (fun σ => passAt (takes_of rfl rfl rfl rfl) σ) (pa_cons (pv 0) (pa_cons (pe_lst (pa_cons (pv 1) (pa_cons (pe_lst pa_nil) (pa_cons (pe_lst (pa_cons pe_int pa_nil)) pa_nil)))) (pa_cons (pv 2) pa_nil)))), .ref t, rfl, .ref a, rfl, Nat.zero_le _, fun e ne => ⟨by show 1 ≤ sizeLine; decide, fun g ng => ⟨by show 3 ≤ sizeLine; decide, fun l nl => ⟨.int b, rfl, ?_⟩⟩⟩⟩
      have s1 := same_new (o := HO.lst []) ne
      have s2 := same_new (o := HO.lst [V.int 0]) ng
      have s3 := same_new (o := HO.lst [V.ref a, V.ref e, V.ref g]) nl
      have kx := Kz.same tb (s1.trans (s2.trans s3))
      exact ⟨t, l, z, o, hm, [a, e, g], [cs, [], [0]], b, r, rfl, an4.kz kx, upd_same, ⟨kx.lst is4.at', s3 _ _ (s2 _ _ upd_same), s3 _ _ upd_same, True.intro⟩, fun u hu => by
        rcases List.mem_cons.mp hu with e | hu
        · rw [e]; exact is4.le
        · rcases List.mem_cons.mp hu with e | hu
          · rw [e]; exact Nat.zero_le _
          · rw [List.mem_singleton.mp hu]; show 1 ≤ 1000; decide, by show 3 ≤ 300; decide, vjoin2 v, kx.tb, en.kz kx⟩
    refine q p7 [f0, f1, f2, f3, f4, f5, f6, f7] _ ka np (sa _ _ e7) rfl fun f hf => ?_
    simp only [List.mem_cons, List.not_mem_nil, or_false] at hf
    rcases hf with e | e | e | e | e | e | e | e <;> rw [e]
    · exact th0
    · exact th1
    · exact th2
    · exact th3
    · exact th4
    · exact th5
    · exact th6
    · exact th7
end
end K01
namespace K01
open PySem PySem.Spec PyProof.Rows L2 Kt
section
variable {P : Program} {w : World} {K : PySem.W.Frag} {mg : Str → Option Value} {base : Heap}
theorem far_ok : (0 : Int) < 10 ^ (58 : Int).toNat ∧ ((10 : Int) ^ (58 : Int).toNat).natAbs < 2 ^ 250 := by decide +kernel
abbrev wide : Str := "abcdefghijklmnopqrstuvwxyz0"
set_option maxHeartbeats 4000000 in
theorem ok_l_bad (T : Txt K mg) : FnOk P w K mg base CX0 2 T.d_l_bad.f T.d_l_bad.fd ["_law_box", "_law_sheet_here"] spBad := by
  refine T.d_l_bad.F.ok sc_l_bad (fun vs H Q E h => ?_) (fun cdv A outer s H vs Q E hr h => ?_)
  · obtain ⟨b, l, t, z, o, hm, rfl, _⟩ := h
    rfl
  · obtain ⟨b, l, t, z, o, hm, rfl, bx, gd, sh, q⟩ := h
    refine ⟨_, (pss_cons (ps_asg (pv 1) (pg_tup rfl (pgs_cons (pg_name (i := 2) sc_l_bad.nd rfl (.inl rfl)) (pgs_cons (pg_name (i := 3) sc_l_bad.nd rfl (.inl rfl)) (pgs_cons (pg_name (i := 4) sc_l_bad.nd rfl (.inl rfl)) pgs_nil)))))
  (pss_cons (ps_set (i := 5) sc_l_bad.nd rfl (.inl rfl) (pe_op op_add (pe_callB call_len_str (by rfl) T.n_len PySem.boot_len (pa_cons (pv 2) pa_nil)) (pe_call (ok_l_take T) (hr.mono (by decide)) (by rfl) T.d_l_take.g T.d_l_take.F.kp T.d_l_take.b .nil pass0 (pa_cons (pv 0) (pa_cons (pe_op op_pow pe_int pe_int) pa_nil)))))
  (pss_cons (ps_set (i := 6) sc_l_bad.nd rfl (.inl rfl) pe_str)
  (pss_cons (ps_set (i := 7) sc_l_bad.nd rfl (.inl rfl) (pe_lst (pa_cons (pe_tup (pa_cons pe_str (pa_cons pe_str (pa_cons pe_non pa_nil)))) (pa_cons (pe_tup (pa_cons (pe_op op_add_str (pv 2) (pe_slice sl_str (pv 2) po_none (po_some pe_int))) (pa_cons (pe_op op_add_str (pv 3) (pe_slice sl_str (pv 3) po_none (po_some pe_int))) (pa_cons (pv 4) pa_nil)))) (pa_cons (pe_tup (pa_cons (pv 2) (pa_cons (pe_slice sl_str (pv 3) po_none (po_some (pe_un un_neg pe_int))) (pa_cons (pv 4) pa_nil)))) (pa_cons (pe_tup (pa_cons (pe_slice sl_str (pv 2) po_none (po_some (pe_un un_neg pe_int))) (pa_cons (pv 3) (pa_cons (pv 4) pa_nil)))) pa_nil))))))
  (pss_cons (ps_set (i := 7) sc_l_bad.nd rfl (.inl rfl) (pe_op op_cat (pv 7) (pe_lst (pa_cons (pe_tup (pa_cons (pv 2) (pa_cons (pv 3) (pa_cons (pv 5) pa_nil)))) (pa_cons (pe_tup (pa_cons (pv 2) (pa_cons (pv 3) (pa_cons (pe_un un_neg pe_int) pa_nil)))) (pa_cons (pe_tup (pa_cons (pv 2) (pa_cons (pv 3) (pa_cons (pe_callB call_len_str (by rfl) T.n_len PySem.boot_len (pa_cons (pv 2) pa_nil)) pa_nil)))) (pa_cons (pe_tup (pa_cons (pe_op op_add_str (pe_slice sl_str (pv 2) po_none (po_some (pe_un un_neg pe_int))) pe_str) (pa_cons (pv 3) (pa_cons (pv 4) pa_nil)))) pa_nil)))))))
  (pss_cons (ps_set (i := 7) sc_l_bad.nd rfl (.inl rfl) (pe_op op_cat (pv 7) (pe_lst (pa_cons (pe_tup (pa_cons (pv 2) (pa_cons (pe_op op_add_str (pe_slice sl_str (pv 3) po_none (po_some (pe_un un_neg pe_int))) pe_str) (pa_cons (pv 4) pa_nil)))) (pa_cons (pe_tup (pa_cons (pv 6) (pa_cons (pv 6) (pa_cons (pv 4) pa_nil)))) (pa_cons (pe_tup (pa_cons pe_str (pa_cons pe_str (pa_cons pe_non pa_nil)))) (pa_cons (pe_tup (pa_cons pe_str (pa_cons pe_str (pa_cons pe_non pa_nil)))) pa_nil)))))))
  (pss_one (ps_ret (pe_ix ix_list (pv 7) (pe_call (ok_l_take T) (hr.mono (by decide)) (by rfl) T.d_l_take.g T.d_l_take.F.kp T.d_l_take.b .nil pass0 (pa_cons (pv 0) (pa_cons pe_int pa_nil))) (fun _ _ => rfl)))))))))), ?_⟩
    have lz := gd.le
    have pz := gd.pos
    have lo : o.cps.size = z.cps.size := gd.len
    have sz : ∀ n, n ≤ 1000 → n ≤ sizeLine := fun n h => Nat.le_trans h (by decide)
    have hz : z.length = z.cps.size := rfl
    have ho : o.length = o.cps.size := rfl
    have big : z.length ≤ sizeLine := sz _ (by omega)
    have bigo : o.length ≤ sizeLine := sz _ (by omega)
    have hv : HomeV hm := gd.home.elim .inl fun ⟨h, e, _⟩ => .inr ⟨_, e⟩
    have c1 := cutS_len z none (some 1)
    have c2 := cutS_len o none (some 1)
    have c3 := cutS_len z none (some (-1))
    have c4 := cutS_len o none (some (-1))
    have n1 : (Str.ofString "\n").length = 1 := by decide +kernel
    have sap : ∀ x y : Str, (x ++ y).cps.size = x.length + y.length := fun x y => Str.length_append x y
    refine ⟨.ref t, rfl, t, _, rfl, SqT.of sh, rfl, _, _, rfl, _, _, rfl, _, _, rfl, rfl, ?_⟩
    refine ⟨.str z, rfl, z, rfl, big, .ref b, rfl, 10, 58, rfl, rfl, ⟨by decide, by decide, by decide⟩, b, l, _, rfl, bx, far_ok.1, far_ok.2, fun far H1 f0 f1 bd1 => ⟨_, _, rfl, rfl, ?_⟩⟩
    have B0 : Bads b l H H1 [] [] := ⟨bd1, fun a h => (nomatch h), fun a h => (nomatch h)⟩
    refine ⟨by show 3 ≤ sizeLine; decide, fun q1 m1 => ?_⟩
    have B1 := B0.add (z := "") (o := "") (hm := .non) m1 (by decide +kernel) (.inl rfl) (by decide) (by decide)
    refine ⟨.str z, rfl, .str z, rfl, 1, rfl, z, rfl, big, _, _, rfl, rfl, sz _ (by omega), .str o, rfl, .str o, rfl, 1, rfl, o, rfl, bigo, _, _, rfl, rfl, sz _ (by omega), hm, rfl, by show 3 ≤ sizeLine; decide, fun q2 m2 => ?_⟩
    have B2 := B1.add (z := z ++ cutS z none (some 1)) (o := o ++ cutS o none (some 1)) (hm := hm) m2 (bad_z (can_dup pz)) hv (by rw [sap]; omega) (by rw [sap]; omega)
    refine ⟨.str z, rfl, .str o, rfl, 1, rfl, _, rfl, o, rfl, bigo, hm, rfl, by show 3 ≤ sizeLine; decide, fun q3 m3 => ?_⟩
    have B3 := B2.add (z := z) (o := cutS o none (some (-1))) (hm := hm) m3 (bad_len (by rw [sz_cutm (by omega)]; omega)) hv (by omega) (Nat.le_trans c4 (by omega))
    refine ⟨.str z, rfl, 1, rfl, _, rfl, z, rfl, big, .str o, rfl, hm, rfl, by show 3 ≤ sizeLine; decide, fun q4 m4 => ?_⟩
    have B4 := B3.add (z := cutS z none (some (-1))) (o := o) (hm := hm) m4 (bad_len (by rw [sz_cutm pz]; omega)) hv (Nat.le_trans c3 (by omega)) (by omega)
    refine ⟨by show 4 ≤ sizeLine; decide, fun s1 k1 => ?_⟩
    have B5 := B4.wrap [.ref q1, .ref q2, .ref q3, .ref q4] k1
    refine ⟨.ref s1, rfl, .str z, rfl, .str o, rfl, .int ((z.length : Nat) + far), rfl, by show 3 ≤ sizeLine; decide, fun q5 m5 => ?_⟩
    have B6 := B5.add (z := z) (o := o) (hm := .int ((z.length : Nat) + far)) m5 (bad_h (decide_eq_false (by omega))) (.inr ⟨_, rfl⟩) (by omega) (by omega)
    refine ⟨.str z, rfl, .str o, rfl, 1, rfl, by show 3 ≤ sizeLine; decide, fun q6 m6 => ?_⟩
    have B7 := B6.add (z := z) (o := o) (hm := .int (-1)) m6 (bad_h (decide_eq_false (by omega))) (.inr ⟨_, rfl⟩) (by omega) (by omega)
    refine ⟨.str z, rfl, .str o, rfl, .str z, rfl, z, rfl, big, by show 3 ≤ sizeLine; decide, fun q7 m7 => ?_⟩
    have B8 := B7.add (z := z) (o := o) (hm := .int (z.length : Nat)) m7 (bad_h (decide_eq_false (by omega))) (.inr ⟨_, rfl⟩) (by omega) (by omega)
    refine ⟨.str z, rfl, 1, rfl, _, rfl, z, rfl, big, _, _, rfl, rfl, sz _ (by omega), .str o, rfl, hm, rfl, by show 3 ≤ sizeLine; decide, fun q8 m8 => ?_⟩
    have B9 := B8.add (z := cutS z none (some (-1)) ++ Str.ofString "\n") (o := o) (hm := hm) m8 (bad_z can_nl) hv (by rw [sap]; omega) (by omega)
    refine ⟨by show 4 ≤ sizeLine; decide, fun s2 k2 => ?_⟩
    have BA := B9.wrap [.ref q5, .ref q6, .ref q7, .ref q8] k2
    refine ⟨s1, s2, _, _, rfl, rfl, (BA.lst (s1, [.ref q1, .ref q2, .ref q3, .ref q4]) (by simp)).1, (BA.lst (s2, [.ref q5, .ref q6, .ref q7, .ref q8]) (by simp)).1, by show 4 + 4 ≤ sizeLine; decide, fun s3 k3 => ?_⟩
    have BB := BA.wrap ([.ref q1, .ref q2, .ref q3, .ref q4] ++ [.ref q5, .ref q6, .ref q7, .ref q8]) k3
    refine ⟨.ref s3, rfl, .str z, rfl, .str o, rfl, 1, rfl, _, rfl, o, rfl, bigo, _, _, rfl, rfl, sz _ (by omega), hm, rfl, by show 3 ≤ sizeLine; decide, fun q9 m9 => ?_⟩
    have BC := BB.add (z := z) (o := cutS o none (some (-1)) ++ Str.ofString "\n") (hm := hm) m9 (bad_o can_nl) hv (by omega) (by rw [sap]; omega)
    refine ⟨.str wide, rfl, .str wide, rfl, hm, rfl, by show 3 ≤ sizeLine; decide, fun qa ma => ?_⟩
    have BD := BC.add (z := wide) (o := wide) (hm := hm) ma (bad_size (by decide +kernel)) hv (by decide +kernel) (by decide +kernel)
    refine ⟨by show 3 ≤ sizeLine; decide, fun qb mb => ?_⟩
    have BE := BD.add (z := "aa") (o := "01") (hm := .non) mb (by decide +kernel) (.inl rfl) (by decide +kernel) (by decide +kernel)
    refine ⟨by show 3 ≤ sizeLine; decide, fun qc mc => ?_⟩
    have BF := BE.add (z := "01") (o := "aa") (hm := .non) mc (by decide +kernel) (.inl rfl) (by decide +kernel) (by decide +kernel)
    refine ⟨by show 4 ≤ sizeLine; decide, fun s4 k4 => ?_⟩
    have BG := BF.wrap [.ref q9, .ref qa, .ref qb, .ref qc] k4
    refine ⟨s3, s4, _, _, rfl, rfl, (BG.lst (s3, [.ref q1, .ref q2, .ref q3, .ref q4] ++ [.ref q5, .ref q6, .ref q7, .ref q8]) (by simp)).1, (BG.lst (s4, [.ref q9, .ref qa, .ref qb, .ref qc]) (by simp)).1, by show 8 + 4 ≤ sizeLine; decide, fun s5 k5 => ?_⟩
    have BH := BG.wrap ([.ref q1, .ref q2, .ref q3, .ref q4] ++ [.ref q5, .ref q6, .ref q7, .ref q8] ++ [.ref q9, .ref qa, .ref qb, .ref qc]) k5
    refine ⟨.ref s5, rfl, .ref b, rfl, b, l, 12, rfl, BH.bx.box, by decide, by decide, fun d H2 d0 d1 bd2 => ?_⟩
    have BI := BH.bxd bd2
    obtain ⟨d, rfl⟩ := Int.eq_ofNat_of_zero_le d0
    have es := (BI.lst (s5, [.ref q1, .ref q2, .ref q3, .ref q4] ++ [.ref q5, .ref q6, .ref q7, .ref q8] ++ [.ref q9, .ref qa, .ref qb, .ref qc]) (by simp)).1
    have bi := BI.bx
    have ba := BI.all
    clear B0 B1 B2 B3 B4 B5 B6 B7 B8 B9 BA BB BC BD BE BF BG BH BI
    obtain ⟨a, ha, hb⟩ : ∃ a : Addr, ([.ref q1, .ref q2, .ref q3, .ref q4] ++ [.ref q5, .ref q6, .ref q7, .ref q8] ++ [.ref q9, .ref qa, .ref qb, .ref qc] : List V)[d]? = some (.ref a) ∧ BadAt H2 a := by
      have hd : d < [q1, q2, q3, q4, q5, q6, q7, q8, q9, qa, qb, qc].length := by show d < 12; omega
      refine ⟨[q1, q2, q3, q4, q5, q6, q7, q8, q9, qa, qb, qc][d], ?_, ba _ ?_⟩
      · exact map_at (f := V.ref) (xs := [q1, q2, q3, q4, q5, q6, q7, q8, q9, qa, qb, qc]) (List.getElem?_eq_getElem hd)
      · exact List.getElem_mem hd
    obtain ⟨z', o', hm', an, g⟩ := hb
    exact ⟨s5, _, (d : Nat), .ref a, rfl, rfl, SqL.of es, atI_nat ha, q a z' o' hm' H2 an g bi⟩
end
end K01
namespace K01
open PySem PySem.Spec PyProof.Rows L2 Kt
section
variable {P : Program} {w : World} {K : PySem.W.Frag} {mg : Str → Option Value} {base : Heap}
theorem cap_l_sheets : CapS (defScope s_l_sheets) ["_law_bad_here"] := ⟨by decide +kernel⟩
set_option maxHeartbeats 8000000 in
theorem ok_l_sheets (T : Txt K mg) (ap : (tws T).Apart) (TB : GxR.TabB base mg T.c_are_signs T.t_are_signs) (TB2 : LamX.TabB base mg T.c_first_of T.t_first_of) (TB_l_of_tapes : LamX.TabB base mg T.c_l_of_tapes T.t_l_of_tapes) (TB_l_of_texts : LamX.TabB base mg T.c_l_of_texts T.t_l_of_texts) (TB_l_sheets : LamX.TabB base mg T.c_l_sheets T.t_l_sheets) :
    FnOk P w K mg base CX0 19 T.d_l_sheets.f T.d_l_sheets.fd ["_law_box", "_law_sheet_here"] (spSheetsL (tws T)) := by
  refine T.k_l_sheets.ok sc_l_sheets (fun vs H Q E h => ?_) (fun A outer s H vs Q E hr h => ?_)
  · obtain ⟨b, l, t, z, o, hm, rfl, _⟩ := h
    rfl
  · obtain ⟨b, l, t, z, o, hm, rfl, bx, gd, sh, tw, q⟩ := h
    refine ⟨_, (pss_cons (ps_set (i := 2) sc_l_sheets.nd rfl (.inr rfl) (pe_call (ok_l_bad T) (hr.mono (by decide)) (by rfl) T.d_l_bad.g T.d_l_bad.F.kp T.d_l_bad.b .nil pass0 (pa_cons (pv 0) (pa_cons (pv 1) pa_nil))))
  (pss_cons (ps_set (i := 3) sc_l_sheets.nd rfl (.inl rfl) (pe_op op_cat (pe_call (ok_l_of_tapes T ap TB TB_l_of_tapes) (hr.mono (by decide)) (by rfl) T.d_l_of_tapes.g T.d_l_of_tapes.F.kp T.d_l_of_tapes.b .nil pass0 (pa_cons (pv 2) (pa_cons (pe_lst (pa_cons (pe_un un_neg pe_int) pa_nil)) (pa_cons pe_int (pa_cons (pe_un un_neg pe_int) pa_nil))))) (pe_call (ok_l_of_texts T ap TB TB2 TB_l_of_texts) (hr.mono (by decide)) (by rfl) T.d_l_of_texts.g T.d_l_of_texts.F.kp T.d_l_of_texts.b .nil pass0 (pa_cons (pv 2) (pa_cons pe_str (pa_cons pe_int (pa_cons (pe_un un_neg pe_int) pa_nil)))))))
  (pss_one (ps_ret (Kt.pe_callW _ (ok_l_all T) (hr.mono (by decide)) (by rfl) T.d_l_all.g T.d_l_all.F.kp T.d_l_all.b (fun _ => rfl) (Kt.caps_by rfl cap_l_sheets) (pa_cons (pe_op op_cat (pv 3) (pe_lst (pa_cons (Kt.pe_lam0 TB_l_sheets rfl (mem_l_sheets T) (ap.hu (mem_l_sheets T)) (ap.hg (mem_l_sheets T)) (Kt.hfree_by rfl cap_l_sheets (by decide +kernel))) (pa_cons (Kt.pe_lam1 TB_l_sheets rfl (mem_l_sheets T) (ap.hu (mem_l_sheets T)) (ap.hg (mem_l_sheets T)) (Kt.hfree_by rfl cap_l_sheets (by decide +kernel))) pa_nil)))) (pa_cons (pe_tup (pa_cons pe_str (pa_cons pe_int pa_nil))) pa_nil))))))), ?_⟩
    refine ⟨.ref b, rfl, .ref t, rfl, b, l, t, z, o, hm, rfl, bx, gd, sh, fun t' z' o' hm' H1 an g bdx => ?_⟩
    have b1 := Bk.bxd bdx bx tw
    refine ⟨.ref t', rfl, 1, rfl, by show 1 ≤ sizeLine; decide, fun a na => ⟨1, rfl, ?_⟩⟩
    have k1 := Kz.same b1.tb (same_new (o := HO.lst [V.int (-1)]) na)
    refine ⟨t', a, z', o', hm', [-1], 5, -1, some .sheet, rfl, an.kz k1, ⟨upd_same, by decide⟩, g, fun e => (nomatch e), k1.tb, fun p1 fs1 H2 k2 np1 e1 hl1 th1 => ?_⟩
    have k2 := k1.trans k2
    refine ⟨.ref t', rfl, 1, rfl, t', z', o', hm', "\n", 5, -1, some .sheet, rfl, an.kz k2, by decide +kernel, g, fun e => (nomatch e), k2.tb, fun p2 fs2 H3 k3 np2 e2 hl2 th2 => ?_⟩
    have e1 := k3.lst e1
    have th1 := th1.mono k3.stays
    have k3 := k2.trans k3
    refine ⟨p1, p2, _, _, rfl, rfl, e1, e2, by rw [List.length_map, List.length_map, hl1, hl2]; decide, fun p3 np3 => ?_⟩
    have s4 := same_new (o := HO.lst (fs1.map V.ref ++ fs2.map V.ref)) np3
    have k4 := k3.trans (Kz.same k3.tb s4)
    have e4 : upd H3 p3 (HO.lst (fs1.map V.ref ++ fs2.map V.ref)) p3 = some (HO.lst (fs1.map V.ref ++ fs2.map V.ref)) := upd_same
    have th12 := (th1.app th2).mono (Kz.same k3.tb s4).stays
    generalize upd H3 p3 (HO.lst (fs1.map V.ref ++ fs2.map V.ref)) = H4 at k4 e4 th12
    refine ⟨.ref p3, rfl, k4.tb, fun f0 H5 k5 n0 l0 => ⟨k5.tb, fun f1 H6 k6 n1 l1 => ⟨by show 2 ≤ sizeLine; decide, fun p4 np4 => ?_⟩⟩⟩
    have s7 := same_new (o := HO.lst [V.ref f0, V.ref f1]) np4
    refine ⟨p3, p4, _, _, rfl, rfl, s7 _ _ (k6.lst (k5.lst e4)), upd_same, by rw [List.length_append, List.length_map, List.length_map, hl1, hl2]; show 8 + 2 + 2 ≤ sizeLine; decide, fun p5 np5 => ?_⟩
    refine ⟨by show 2 ≤ sizeLine; decide, fun p6 np6 => ?_⟩
    have s8 := same_new (o := HO.lst (fs1.map V.ref ++ fs2.map V.ref ++ [V.ref f0, V.ref f1])) np5
    have s9 := same_new (o := HO.tup [V.str "BadSheet", V.int 0]) np6
    have sA := s7.trans (s8.trans s9)
    have kB := (k5.trans k6).trans (Kz.same k6.tb sA)
    have l0 := (l0.kz k6).same sA
    have l1 := l1.same sA
    have th12 := th12.mono kB.stays
    have e5 := s9 _ _ (upd_same (H := upd H6 p4 (HO.lst [V.ref f0, V.ref f1])) (a := p5) (o := HO.lst (fs1.map V.ref ++ fs2.map V.ref ++ [V.ref f0, V.ref f1])))
    have e6 : upd (upd (upd H6 p4 (HO.lst [V.ref f0, V.ref f1])) p5 (HO.lst (fs1.map V.ref ++ fs2.map V.ref ++ [V.ref f0, V.ref f1]))) p6 (HO.tup [V.str "BadSheet", V.int 0]) p6 = some (HO.tup [V.str "BadSheet", V.int 0]) := upd_same
    have kB := k4.trans kB
    generalize upd (upd (upd H6 p4 (HO.lst [V.ref f0, V.ref f1])) p5 (HO.lst (fs1.map V.ref ++ fs2.map V.ref ++ [V.ref f0, V.ref f1]))) p6 (HO.tup [V.str "BadSheet", V.int 0]) = H7 at kB l0 l1 th12 e5 e6
    intro L hinj hlen cp fr
    have hL : ∀ b o, L.lookup b = some o → addF H7 L b = some (Fz o) := fun b o e => addF_in e
    have sa := same_add fr
    have ka := kz_add kB fr
    have an3 := an.kz ka
    have th3 : ThOk P w K mg base thk (addF H7 L) f0 (thSp (kc T) (tws T) (some .sheet)) := by
      refine th_mk (l0.same sa) hL cp hinj hlen (thS_by (N := ["_law_box", "_law_sheet_here", "_law_bad_here", "_law_works"]) (by decide +kernel)) (bd0 fun _ _ _ _ => rfl) fun A outer s H1 Q E c' hr st tb en => ?_
      exact ⟨_, (pe_callS (okx_either T ap TB TB2) (hr.mono (by decide)) (by rfl) T.d_either.g T.d_either.F.kp T.d_either.b (fun σ => passAt (takes_of rfl rfl rfl rfl) σ) (pa_cons (pv 2) (pa_cons pe_str pa_nil))), .ref t', rfl, t', z', o', hm', _, some .sheet, rfl, an3.stz st, by decide +kernel, g, tb, en⟩
    have th4 : ThOk P w K mg base thk (addF H7 L) f1 (thSp (kc T) (tws T) (some .sheet)) := by
      refine th_mk (l1.same sa) hL cp hinj hlen (thS_by (N := ["_law_box", "_law_sheet_here", "_law_bad_here", "_law_works"]) (by decide +kernel)) (bd1 rfl fun _ _ _ _ _ => ⟨_, rfl, fun _ => rfl⟩) fun A outer s H1 Q E c' hr st tb en => ?_
      exact ⟨_, (pe_callS (okx_written T ap TB) (hr.mono (by decide)) (by rfl) T.d_written.g T.d_written.F.kp T.d_written.b (fun σ => passAt (takes_of rfl rfl rfl rfl) σ) (pa_cons (pv 2) pa_nil)), .ref t', rfl, t', z', o', hm', some .sheet, rfl, an3.stz st, g, tb, en⟩
    refine ⟨p5, fs1 ++ fs2 ++ [f0, f1], .ref p6, some .sheet, rfl, ?_, ?_, (th12.mono (Kz.same kB.tb sa).stays).app fun f hf => ?_, ⟨p6, rfl, sa _ _ e6⟩, ka.tb, fun H' k' => q _ (b1.trans (Bk.kz b1.box (kB.trans (kz_del k' fr))))⟩
    · rw [sa _ _ e5, List.map_append, List.map_append]; rfl
    · rw [List.length_append, List.length_append, hl1, hl2]; show 8 + 2 + 2 ≤ 1000; decide
    · rcases List.mem_cons.mp hf with e | hf
      · rw [e]; exact th3
      · rw [List.mem_singleton.mp hf]; exact th4
set_option maxHeartbeats 8000000 in
theorem ok_l_tapes (T : Txt K mg) (ap : (tws T).Apart) (TB : GxR.TabB base mg T.c_are_signs T.t_are_signs) (TB_l_of_tapes : LamX.TabB base mg T.c_l_of_tapes T.t_l_of_tapes) :
    FnOk P w K mg base CX0 19 T.d_l_tapes.f T.d_l_tapes.fd ["_law_box", "_law_sheet_here", "_law_tape_here"] (spTapesL (tws T)) := by
  refine T.d_l_tapes.F.ok sc_l_tapes (fun vs H Q E h => ?_) (fun cdv A outer s H vs Q E hr h => ?_)
  · obtain ⟨b, l, t, a, z, o, hm, cs, rfl, _⟩ := h
    rfl
  · obtain ⟨b, l, t, a, z, o, hm, cs, rfl, bx, gd, sh, is, nab, nal, hc, hcl, tw, q⟩ := h
    refine ⟨_, (pss_cons (ps_set (i := 3) sc_l_tapes.nd rfl (.inl rfl) (pe_callB call_len_str (by rfl) T.n_len PySem.boot_len (pa_cons (pe_ix ix_tup (pv 1) pe_int (fun _ _ => rfl)) pa_nil)))
  (pss_cons (ps_set (i := 4) sc_l_tapes.nd rfl (.inl rfl) (pe_call (ok_l_take T) (hr.mono (by decide)) (by rfl) T.d_l_take.g T.d_l_take.F.kp T.d_l_take.b .nil pass0 (pa_cons (pv 0) (pa_cons (pe_op op_add (pe_callB call_len_seq (by rfl) T.n_len PySem.boot_len (pa_cons (pv 2) pa_nil)) pe_int) pa_nil))))
  (pss_cons (ps_set (i := 5) sc_l_tapes.nd rfl (.inl rfl) (pe_ix ix_list (pe_lst (pa_cons (pe_un un_neg pe_int) (pa_cons (pe_op op_add (pv 3) pe_int) (pa_cons (pe_op op_add (pe_op op_add (pv 3) pe_int) (pe_call (ok_l_take T) (hr.mono (by decide)) (by rfl) T.d_l_take.g T.d_l_take.F.kp T.d_l_take.b .nil pass0 (pa_cons (pv 0) (pa_cons (pe_op op_pow pe_int pe_int) pa_nil)))) (pa_cons (pe_op op_sub (pe_un un_neg pe_int) (pe_call (ok_l_take T) (hr.mono (by decide)) (by rfl) T.d_l_take.g T.d_l_take.F.kp T.d_l_take.b .nil pass0 (pa_cons (pv 0) (pa_cons (pe_op op_pow pe_int pe_int) pa_nil)))) pa_nil))))) (pe_call (ok_l_take T) (hr.mono (by decide)) (by rfl) T.d_l_take.g T.d_l_take.F.kp T.d_l_take.b .nil pass0 (pa_cons (pv 0) (pa_cons pe_int pa_nil))) (fun _ _ => rfl)))
  (pss_cons (ps_if (pt_not (pt_val (pe_call (ok_l_all T) (hr.mono (by decide)) (by rfl) T.d_l_all.g T.d_l_all.F.kp T.d_l_all.b .nil pass0 (pa_cons (pe_call (ok_l_of_tapes T ap TB TB_l_of_tapes) (hr.mono (by decide)) (by rfl) T.d_l_of_tapes.g T.d_l_of_tapes.F.kp T.d_l_of_tapes.b .nil pass0 (pa_cons (pv 1) (pa_cons (pe_op op_cat (pe_op op_cat (pe_slice sl_list (pv 2) po_none (po_some (pv 4))) (pe_lst (pa_cons (pv 5) pa_nil))) (pe_slice sl_list (pv 2) (po_some (pv 4)) po_none)) (pa_cons pe_int (pa_cons (pe_un un_neg pe_int) pa_nil))))) (pa_cons (pe_tup (pa_cons pe_str (pa_cons (pv 4) pa_nil))) pa_nil)))))
  (pss_one (ps_ret pe_bl))
  pss_nil)
  (pss_cons (ps_set (i := 6) sc_l_tapes.nd rfl (.inl rfl) (pe_op op_cat (pv 2) (pe_op op_rep (pe_lst (pa_cons pe_int pa_nil)) (pe_op op_sub pe_int (pe_callB call_len_seq (by rfl) T.n_len PySem.boot_len (pa_cons (pv 2) pa_nil))))))
  (pss_one (ps_ret (pe_call (ok_l_all T) (hr.mono (by decide)) (by rfl) T.d_l_all.g T.d_l_all.F.kp T.d_l_all.b .nil pass0 (pa_cons (pe_call (ok_l_of_tapes T ap TB TB_l_of_tapes) (hr.mono (by decide)) (by rfl) T.d_l_of_tapes.g T.d_l_of_tapes.F.kp T.d_l_of_tapes.b .nil pass0 (pa_cons (pv 1) (pa_cons (pv 6) (pa_cons pe_int (pa_cons (pe_un un_neg pe_int) pa_nil))))) (pa_cons (pe_tup (pa_cons pe_str (pa_cons pe_int pa_nil))) pa_nil)))))))))), ?_⟩
    have lz := gd.le
    have hz : z.length = z.cps.size := rfl
    have big : z.length ≤ sizeLine := Nat.le_trans lz (by decide)
    have szc : ∀ k, k ≤ 5000 → k ≤ sizeLine := fun k h => Nat.le_trans h (by decide)
    refine ⟨.ref t, rfl, t, _, 0, _, rfl, rfl, SqT.of sh, atI_nat (j := 0) rfl, z, rfl, big, ?_⟩
    refine ⟨.ref b, rfl, .ref a, rfl, a, _, rfl, .inl (SqL.of is.at'), _, _, rfl, rfl, b, l, _, rfl, bx, ?_, ?_, fun v H1 v0 v1 bd1 => ?_⟩
    · rw [List.length_map]; omega
    · rw [List.length_map, show ((cs.length : Nat) : Int) + 1 = ((cs.length + 1 : Nat) : Int) from rfl, Int.natAbs_natCast]
      exact Nat.lt_of_le_of_lt (show cs.length + 1 ≤ 1000 by omega) (by decide)
    rw [List.length_map] at v1
    obtain ⟨i, rfl⟩ := Int.eq_ofNat_of_zero_le v0
    have hi : i ≤ cs.length := by omega
    have b1 := Bk.bxd bd1 bx tw
    refine ⟨1, rfl, .int (z.length : Nat), rfl, _, _, rfl, rfl, .int (z.length : Nat), rfl, _, _, rfl, rfl, .ref b, rfl, 10, 58, rfl, rfl, ⟨by decide, by decide, by decide⟩, b, l, _, rfl, bd1.box, far_ok.1, far_ok.2, fun u H2 u0 u1 bd2 => ⟨_, _, rfl, rfl, 1, rfl, .ref b, rfl, 10, 58, rfl, rfl, ⟨by decide, by decide, by decide⟩, b, l, _, rfl, bd2.box, far_ok.1, far_ok.2, fun u' H3 u0' u1' bd3 => ⟨_, _, rfl, rfl, by show 4 ≤ sizeLine; decide, fun p np => ?_⟩⟩⟩
    have b3 := (b1.trans (Bk.bxd bd2 b1.box b1.tb)).trans (Bk.bxd bd3 bd2.box ((Bk.bxd bd2 b1.box b1.tb).tb))
    have pne := b3.box.new_ne np
    have k3 := Kz.same b3.tb (same_new (o := HO.lst [V.int (-1), V.int ((z.length : Nat) + 2), V.int ((z.length : Nat) + 2 + u), V.int (-1 - u')]) np)
    have b4 := b3.trans (Bk.kz b3.box k3)
    refine ⟨.ref b, rfl, b, l, 4, rfl, b4.box, by decide, by decide, fun d H4 d0 d1 bd4 => ?_⟩
    have b5 := b4.trans (Bk.bxd bd4 b4.box b4.tb)
    have e4 := bd4.at' p _ pne.1 pne.2 upd_same
    obtain ⟨d, rfl⟩ := Int.eq_ofNat_of_zero_le d0
    obtain ⟨odd, hd, hodd⟩ : ∃ odd : Int, ([V.int (-1), V.int ((z.length : Nat) + 2), V.int ((z.length : Nat) + 2 + u), V.int (-1 - u')] : List V)[d]? = some (.int odd) ∧ ¬ (0 ≤ odd ∧ odd < (z.cps.size : Int) + 2) := by
      match d, d1 with
      | 0, _ => exact ⟨_, rfl, by omega⟩
      | 1, _ => exact ⟨_, rfl, by omega⟩
      | 2, _ => exact ⟨_, rfl, by omega⟩
      | 3, _ => exact ⟨_, rfl, by omega⟩
      | d + 4, h => omega
    refine ⟨p, _, (d : Nat), .int odd, rfl, rfl, SqL.of e4, atI_nat hd, ?_⟩
    have sh5 : Sh H4 t z o hm := b5.sh bx sh
    have is5 : Ints H4 a cs := b5.ints nab nal is
    clear e4 pne k3 b4 b3 bd4 hd
    refine ⟨.ref t, rfl, .ref a, rfl, .int (i : Nat), rfl, (i : Nat), rfl, a, _, rfl, SqL.of is5.at', fun p1 m1 => ⟨.int odd, rfl, by show 1 ≤ sizeLine; decide, fun p2 m2 => ?_⟩⟩
    rw [cut_lo cs i hi] at m2 ⊢
    have s1 := same_new (o := HO.lst ((cs.take i).map V.int)) m1
    have s2 := s1.trans (same_new (o := HO.lst [V.int odd]) m2)
    have lt : (cs.take i).length ≤ 100 := by rw [List.length_take]; omega
    have ld : (cs.drop i).length ≤ 100 := by rw [List.length_drop]; omega
    refine ⟨p1, p2, _, _, rfl, rfl, same_new m2 _ _ upd_same, upd_same, szc _ (by rw [List.length_map]; show _ + 1 ≤ 5000; omega), fun p3 m3 => ?_⟩
    have s3 := s2.trans (same_new (o := HO.lst ((cs.take i).map V.int ++ [V.int odd])) m3)
    refine ⟨.ref a, rfl, .int (i : Nat), rfl, (i : Nat), rfl, a, _, rfl, SqL.of (s3 _ _ is5.at'), fun p4 m4 => ?_⟩
    rw [cut_hi cs i hi]
    have s4 := s3.trans (same_new (o := HO.lst ((cs.drop i).map V.int)) m4)
    refine ⟨p3, p4, _, _, rfl, rfl, same_new m4 _ _ upd_same, upd_same, szc _ (by rw [List.length_append, List.length_map, List.length_map]; show _ + 1 + _ ≤ 5000; omega), fun p5 m5 => ⟨1, rfl, ?_⟩⟩
    have s5 := s4.trans (same_new (o := HO.lst ((cs.take i).map V.int ++ [V.int odd] ++ (cs.drop i).map V.int)) m5)
    have k5 := Kz.same b5.tb s5
    have ee : (cs.take i).map V.int ++ [V.int odd] ++ (cs.drop i).map V.int = (cs.take i ++ odd :: cs.drop i).map V.int := by
      rw [List.map_append, List.map_cons, List.append_assoc]; rfl
    have e5 := upd_same (H := upd (upd (upd (upd H4 p1 (HO.lst ((cs.take i).map V.int))) p2 (HO.lst [V.int odd])) p3 (HO.lst ((cs.take i).map V.int ++ [V.int odd]))) p4 (HO.lst ((cs.drop i).map V.int))) (a := p5) (o := HO.lst ((cs.take i).map V.int ++ [V.int odd] ++ (cs.drop i).map V.int))
    have e5 := e5.trans (congrArg (fun x => some (HO.lst x)) ee)
    have gv : VTape z o hm (cs.take i ++ odd :: cs.drop i) 5 (some (.tape i)) := ⟨gd, tapeV_odd hc hcl hi hodd⟩
    refine ⟨t, p5, z, o, hm, cs.take i ++ odd :: cs.drop i, 5, -1, some (.tape i), rfl, gd.any (s5 _ _ sh5), ⟨e5, by rw [List.length_append, List.length_cons]; omega⟩, gv, fun e => (nomatch e), k5.tb, fun p6 fs H6 k6 np6 e6 hl6 th6 => ?_⟩
    refine ⟨.int (i : Nat), rfl, by show 2 ≤ sizeLine; decide, fun p7 np7 => ?_⟩
    have s7 := same_new (o := HO.tup [V.str "BadTape", V.int (i : Nat)]) np7
    have k7 := (k5.trans k6).trans (Kz.same k6.tb s7)
    refine ⟨p6, fs, .ref p7, some (.tape i), rfl, s7 _ _ e6, by omega, th6.mono (Kz.same k6.tb s7).stays, ⟨p7, rfl, upd_same⟩, k7.tb, fun H8 k8 => ⟨true, rfl, iteF ?_⟩⟩
    have k8 := k7.trans k8
    have b8 := b5.trans (Bk.kz b5.box k8)
    have is8 := is5.kz k8
    have sh8 := k8.sh sh5
    clear s1 s2 s3 s4 s5 s7 e5 k7 th6 e6
    refine ⟨.ref a, rfl, by show 1 ≤ sizeLine; decide, fun q1 m1 => ⟨.ref a, rfl, a, _, rfl, .inl (SqL.of (same_new m1 _ _ is8.at')), _, _, rfl, rfl, q1, _, [V.int 0], rfl, rfl, upd_same, ?_, ?_, ?_, fun q2 m2 => ?_⟩⟩
    · rw [List.length_map]; omega
    · rw [List.length_map]; omega
    · rw [List.length_map]; exact szc _ (by show 1 * _ ≤ _; omega)
    rw [List.length_map]
    have er : (List.replicate ((101 : Int) - (cs.length : Nat)).toNat [V.int 0]).flatten = (List.replicate (101 - cs.length) (0 : Int)).map V.int := by
      rw [show ((101 : Int) - (cs.length : Nat)).toNat = 101 - cs.length by omega, List.map_replicate]
      generalize 101 - cs.length = n
      induction n with
      | zero => rfl
      | succ n ih => rw [List.replicate_succ, List.flatten_cons, ih, List.replicate_succ]; rfl
    rw [er]
    have s1 := same_new (o := HO.lst [V.int 0]) m1
    have s2 := s1.trans (same_new (o := HO.lst ((List.replicate (101 - cs.length) (0 : Int)).map V.int)) m2)
    refine ⟨a, q2, _, _, rfl, rfl, s2 _ _ is8.at', upd_same, szc _ (by rw [List.length_map, List.length_map, List.length_replicate]; omega), fun q3 m3 => ?_⟩
    have s3 := s2.trans (same_new (o := HO.lst (cs.map V.int ++ (List.replicate (101 - cs.length) (0 : Int)).map V.int)) m3)
    have k3 := Kz.same k8.tb s3
    refine ⟨.ref t, rfl, .ref q3, rfl, 1, rfl, ?_⟩
    refine ⟨t, q3, z, o, hm, cs ++ List.replicate (101 - cs.length) 0, 5, -1, some (.tape 100), rfl, gd.any (s3 _ _ sh8), ⟨by rw [upd_same, List.map_append], by rw [List.length_append, List.length_replicate]; omega⟩, ⟨gd, tapeV_long hc hcl⟩, fun e => (nomatch e), k3.tb, fun p6 fs H6 k6 np6 e6 hl6 th6 => ?_⟩
    refine ⟨by show 2 ≤ sizeLine; decide, fun p7 np7 => ?_⟩
    have s7 := same_new (o := HO.tup [V.str "BadTape", V.int 100]) np7
    have k7 := (k3.trans k6).trans (Kz.same k6.tb s7)
    exact ⟨p6, fs, .ref p7, some (.tape 100), rfl, s7 _ _ e6, by omega, th6.mono (Kz.same k6.tb s7).stays, ⟨p7, rfl, upd_same⟩, k7.tb, fun H9 k9 => q H9 (b8.trans (Bk.kz b8.box (k7.trans k9)))⟩
end
end K01
namespace K01
open PySem PySem.Spec PyProof.Rows L2 Kt
section
variable {P : Program} {w : World} {K : PySem.W.Frag} {mg : Str → Option Value} {base : Heap}
def spLaw (K : PySem.W.Frag) (W : TWs) : Sp := fun vs H Q _ => ∃ (a : Addr) (ns : List Int), vs = [.ref a] ∧ SqL K H a (ns.map V.int) ∧ ns.length ≤ 63 ∧ Tb W H ∧ ∀ H', Q (.bl true) H'
theorem cap_law : CapS (defScope s_law) ["_law_sheet_here", "_law_tape_here", "_law_text_here", "_law_at", "_law_wide", "_law_far"] := ⟨by decide +kernel⟩
set_option maxHeartbeats 16000000 in
theorem ok_law (T : Txt K mg) (ap : (tws T).Apart) (TB : GxR.TabB base mg T.c_are_signs T.t_are_signs) (TB2 : LamX.TabB base mg T.c_first_of T.t_first_of) (TB_l_of_tapes : LamX.TabB base mg T.c_l_of_tapes T.t_l_of_tapes) (TB_l_of_texts : LamX.TabB base mg T.c_l_of_texts T.t_l_of_texts) (TB_l_sheets : LamX.TabB base mg T.c_l_sheets T.t_l_sheets) (TB_law : LamX.TabB base mg T.c_law T.t_law) :
    FnOk P w K mg base CX0 20 T.d_law.f T.d_law.fd ["_law_script"] (spLaw K (tws T)) := by
  refine T.k_law.ok sc_law (fun vs H Q E h => ?_) (fun A outer s H vs Q E hr h => ?_)
  · obtain ⟨a, ns, rfl, _⟩ := h
    rfl
  · obtain ⟨a, ns, rfl, hS, hlen, tw, q⟩ := h
    refine ⟨_, (pss_cons (ps_set (i := 1) sc_law.nd rfl (.inr rfl) (pe_call (ok_l_begun T) (hr.mono (by decide)) (by rfl) T.d_l_begun.g T.d_l_begun.F.kp T.d_l_begun.b .nil pass0 (pa_cons (pv 0) pa_nil)))
  (pss_cons (ps_set (i := 2) sc_law.nd rfl (.inr rfl) (pe_call (ok_l_sheet T) (hr.mono (by decide)) (by rfl) T.d_l_sheet.g T.d_l_sheet.F.kp T.d_l_sheet.b .nil pass0 (pa_cons (pv 1) (pa_cons pe_int pa_nil))))
  (pss_cons (ps_set (i := 3) sc_law.nd rfl (.inr rfl) (pe_callB call_len_str (by rfl) T.n_len PySem.boot_len (pa_cons (pe_ix ix_tup (pv 2) pe_int (fun _ _ => rfl)) pa_nil)))
  (pss_cons (ps_set (i := 4) sc_law.nd rfl (.inr rfl) (pe_slice sl_list (pe_lc (own := [("_law_turn", 12)]) (g := gName 12) (tt := tYes) (te := _) rfl sc_law.nd (pi_range1 (by rfl) T.n_range (pa_cons pe_int pa_nil)) (blkOk_by (own := [("_law_turn", 12)]) (N := ["_law_script", "_law_box", "_law_sheet_here", "_law_n", "_law_tape_here", "_law_text_here", "_law_at", "_law_texts", "_law_wide", "_law_begin", "_law_far", "_law_works", "_law_turn"]) (sc := defScope s_law) (by decide +kernel)) (by exact fun _ _ _ _ _ => pg_name (i := 12) sc_law.nd rfl (Or.inl rfl)) (by exact fun _ _ _ _ _ => pts_nil) (by exact fun _ _ _ _ _ => (pe_call (ok_l_take T) (hr.mono (by decide)) (by rfl) T.d_l_take.g T.d_l_take.F.kp T.d_l_take.b .nil pass0 (pa_cons (pv 1) (pa_cons (pe_op op_add (pv 3) pe_int) pa_nil))))) po_none (po_some (pe_ix ix_list (pe_lst (pa_cons pe_int (pa_cons (pe_call (ok_l_take T) (hr.mono (by decide)) (by rfl) T.d_l_take.g T.d_l_take.F.kp T.d_l_take.b .nil pass0 (pa_cons (pv 1) (pa_cons pe_int pa_nil))) pa_nil))) (pe_call (ok_l_take T) (hr.mono (by decide)) (by rfl) T.d_l_take.g T.d_l_take.F.kp T.d_l_take.b .nil pass0 (pa_cons (pv 1) (pa_cons pe_int pa_nil))) (fun _ _ => rfl)))))
  (pss_cons (ps_if (PW.pt (pw_or (pt_not (pt_val (pe_call (ok_l_sheets T ap TB TB2 TB_l_of_tapes TB_l_of_texts TB_l_sheets) (hr.mono (by decide)) (by rfl) T.d_l_sheets.g T.d_l_sheets.F.kp T.d_l_sheets.b .nil pass0 (pa_cons (pv 1) (pa_cons (pv 2) pa_nil))))) (pw_or1 (pt_not (pt_val (pe_call (ok_l_tapes T ap TB TB_l_of_tapes) (hr.mono (by decide)) (by rfl) T.d_l_tapes.g T.d_l_tapes.F.kp T.d_l_tapes.b .nil pass0 (pa_cons (pv 1) (pa_cons (pv 2) (pa_cons (pv 4) pa_nil)))))))))
  (pss_one (ps_ret pe_bl))
  pss_nil)
  (pss_cons (ps_set (i := 5) sc_law.nd rfl (.inr rfl) (pe_call (ok_l_text T) (hr.mono (by decide)) (by rfl) T.d_l_text.g T.d_l_text.F.kp T.d_l_text.b .nil pass0 (pa_cons (pv 1) (pa_cons (pv 2) (pa_cons pe_int pa_nil)))))
  (pss_cons (ps_set (i := 6) sc_law.nd rfl (.inr rfl) (pe_call (ok_l_take T) (hr.mono (by decide)) (by rfl) T.d_l_take.g T.d_l_take.F.kp T.d_l_take.b .nil pass0 (pa_cons (pv 1) (pa_cons (pe_op op_add (pe_callB call_len_str (by rfl) T.n_len PySem.boot_len (pa_cons (pv 5) pa_nil)) pe_int) pa_nil))))
  (pss_cons (ps_set (i := 7) sc_law.nd rfl (.inl rfl) (pe_call (ok_l_of_texts T ap TB TB2 TB_l_of_texts) (hr.mono (by decide)) (by rfl) T.d_l_of_texts.g T.d_l_of_texts.F.kp T.d_l_of_texts.b .nil pass0 (pa_cons (pv 2) (pa_cons (pe_op op_add_str (pe_op op_add_str (pe_slice sl_str (pv 5) po_none (po_some (pv 6))) pe_str) (pe_slice sl_str (pv 5) (po_some (pv 6)) po_none)) (pa_cons pe_int (pa_cons (pe_un un_neg pe_int) pa_nil))))))
  (pss_cons (ps_if (pt_not (pt_val (Kt.pe_callW _ (ok_l_all T) (hr.mono (by decide)) (by rfl) T.d_l_all.g T.d_l_all.F.kp T.d_l_all.b (fun _ => rfl) (Kt.caps_by rfl cap_law) (pa_cons (pe_op op_cat (pv 7) (pe_lst (pa_cons (Kt.pe_lam0 TB_law rfl (mem_law T) (ap.hu (mem_law T)) (ap.hg (mem_law T)) (Kt.hfree_by rfl cap_law (by decide +kernel))) pa_nil))) (pa_cons (pe_tup (pa_cons pe_str (pa_cons (pv 6) pa_nil))) pa_nil)))))
  (pss_one (ps_ret pe_bl))
  pss_nil)
  (pss_cons (ps_set (i := 8) sc_law.nd rfl (.inr rfl) (pe_op op_add_str (pv 5) (pe_op op_mul_str (pe_slice sl_str (pe_ix ix_tup (pv 2) pe_int (fun _ _ => rfl)) po_none (po_some pe_int)) (pe_op op_sub pe_int (pe_callB call_len_str (by rfl) T.n_len PySem.boot_len (pa_cons (pv 5) pa_nil))))))
  (pss_cons (ps_if (pt_not (pt_val (Kt.pe_callW _ (ok_l_all T) (hr.mono (by decide)) (by rfl) T.d_l_all.g T.d_l_all.F.kp T.d_l_all.b (fun _ => rfl) (Kt.caps_by rfl cap_law) (pa_cons (pe_op op_cat (pe_call (ok_l_of_texts T ap TB TB2 TB_l_of_texts) (hr.mono (by decide)) (by rfl) T.d_l_of_texts.g T.d_l_of_texts.F.kp T.d_l_of_texts.b .nil pass0 (pa_cons (pv 2) (pa_cons (pv 8) (pa_cons pe_int (pa_cons (pe_un un_neg pe_int) pa_nil))))) (pe_lst (pa_cons (Kt.pe_lam0 TB_law rfl (mem_law T) (ap.hu (mem_law T)) (ap.hg (mem_law T)) (Kt.hfree_by rfl cap_law (by decide +kernel))) pa_nil))) (pa_cons (pe_tup (pa_cons pe_str (pa_cons pe_int pa_nil))) pa_nil)))))
  (pss_one (ps_ret pe_bl))
  pss_nil)
  (pss_cons (ps_set (i := 9) sc_law.nd rfl (.inl rfl) (pe_ix ix_list (pe_lst (pa_cons pe_int (pa_cons (pe_un un_neg pe_int) (pa_cons (pe_op op_add pe_int (pe_call (ok_l_take T) (hr.mono (by decide)) (by rfl) T.d_l_take.g T.d_l_take.F.kp T.d_l_take.b .nil pass0 (pa_cons (pv 1) (pa_cons (pe_op op_pow pe_int pe_int) pa_nil)))) pa_nil)))) (pe_call (ok_l_take T) (hr.mono (by decide)) (by rfl) T.d_l_take.g T.d_l_take.F.kp T.d_l_take.b .nil pass0 (pa_cons (pv 1) (pa_cons pe_int pa_nil))) (fun _ _ => rfl)))
  (pss_cons (ps_if (pt_not (pt_val (pe_call (ok_l_all T) (hr.mono (by decide)) (by rfl) T.d_l_all.g T.d_l_all.F.kp T.d_l_all.b .nil pass0 (pa_cons (pe_op op_cat (pe_call (ok_l_of_tapes T ap TB TB_l_of_tapes) (hr.mono (by decide)) (by rfl) T.d_l_of_tapes.g T.d_l_of_tapes.F.kp T.d_l_of_tapes.b .nil pass0 (pa_cons (pv 2) (pa_cons (pv 4) (pa_cons (pv 9) (pa_cons (pe_un un_neg pe_int) pa_nil))))) (pe_call (ok_l_of_texts T ap TB TB2 TB_l_of_texts) (hr.mono (by decide)) (by rfl) T.d_l_of_texts.g T.d_l_of_texts.F.kp T.d_l_of_texts.b .nil pass0 (pa_cons (pv 2) (pa_cons (pv 5) (pa_cons (pv 9) (pa_cons (pe_un un_neg pe_int) pa_nil)))))) (pa_cons (pe_tup (pa_cons pe_str (pa_cons pe_int pa_nil))) pa_nil)))))
  (pss_one (ps_ret pe_bl))
  pss_nil)
  (pss_cons (ps_set (i := 10) sc_law.nd rfl (.inr rfl) (pe_ix ix_list (pe_lst (pa_cons (pe_un un_neg pe_int) (pa_cons (pe_op op_add pe_int (pe_call (ok_l_take T) (hr.mono (by decide)) (by rfl) T.d_l_take.g T.d_l_take.F.kp T.d_l_take.b .nil pass0 (pa_cons (pv 1) (pa_cons (pe_op op_pow pe_int pe_int) pa_nil)))) (pa_cons (pe_op op_add (pe_callB call_len_seq (by rfl) T.n_len PySem.boot_len (pa_cons (pv 4) pa_nil)) pe_int) pa_nil)))) (pe_call (ok_l_take T) (hr.mono (by decide)) (by rfl) T.d_l_take.g T.d_l_take.F.kp T.d_l_take.b .nil pass0 (pa_cons (pv 1) (pa_cons pe_int pa_nil))) (fun _ _ => rfl)))
  (pss_cons (ps_set (i := 11) sc_law.nd rfl (.inl rfl) (pe_lst (pa_cons (Kt.pe_lam0 TB_law rfl (mem_law T) (ap.hu (mem_law T)) (ap.hg (mem_law T)) (Kt.hfree_by rfl cap_law (by decide +kernel))) (pa_cons (Kt.pe_lam1 TB_law rfl (mem_law T) (ap.hu (mem_law T)) (ap.hg (mem_law T)) (Kt.hfree_by rfl cap_law (by decide +kernel))) pa_nil))))
  (pss_cons (ps_if (pt_not (pt_val (Kt.pe_callW _ (ok_l_all T) (hr.mono (by decide)) (by rfl) T.d_l_all.g T.d_l_all.F.kp T.d_l_all.b (fun _ => rfl) (Kt.caps_by rfl cap_law) (pa_cons (pe_op op_cat (pv 11) (pe_lst (pa_cons (Kt.pe_lam1 TB_law rfl (mem_law T) (ap.hu (mem_law T)) (ap.hg (mem_law T)) (Kt.hfree_by rfl cap_law (by decide +kernel))) pa_nil))) (pa_cons (pe_tup (pa_cons pe_str (pa_cons pe_int pa_nil))) pa_nil)))))
  (pss_one (ps_ret pe_bl))
  pss_nil)
  (pss_one (ps_ret (pe_call (ok_l_all T) (hr.mono (by decide)) (by rfl) T.d_l_all.g T.d_l_all.F.kp T.d_l_all.b .nil pass0 (pa_cons (pe_op op_cat (pe_call (ok_l_of_tapes T ap TB TB_l_of_tapes) (hr.mono (by decide)) (by rfl) T.d_l_of_tapes.g T.d_l_of_tapes.F.kp T.d_l_of_tapes.b .nil pass0 (pa_cons (pv 2) (pa_cons (pv 4) (pa_cons pe_int (pa_cons pe_int pa_nil))))) (pe_call (ok_l_of_texts T ap TB TB2 TB_l_of_texts) (hr.mono (by decide)) (by rfl) T.d_l_of_texts.g T.d_l_of_texts.F.kp T.d_l_of_texts.b .nil pass0 (pa_cons (pv 2) (pa_cons (pe_slice sl_str (pv 5) po_none (po_some pe_int)) (pa_cons pe_int (pa_cons pe_int pa_nil)))))) (pa_cons pe_non pa_nil))))))))))))))))))))), ?_⟩
    have szc : ∀ k, k ≤ 5000 → k ≤ sizeLine := fun k h => Nat.le_trans h (by decide)
    refine ⟨.ref a, rfl, a, ns, rfl, hS, hlen, fun b l H1 s1 bx1 nb nl' => ?_⟩
    have tw1 := tw.same s1
    refine ⟨.ref b, rfl, b, l, 26, rfl, bx1, by decide, by decide, fun t z o hm H2 gd hz bd2 nt sh2 => ?_⟩
    have tw2 := bd2.tb bx1 tw1
    have bx2 := bd2.box
    have lz := gd.le
    have pz := gd.pos
    have hzl : z.length = z.cps.size := rfl
    have big : z.length ≤ sizeLine := Nat.le_trans lz (by decide)
    refine ⟨.ref t, rfl, t, _, 0, _, rfl, rfl, SqT.of sh2, atI_nat (j := 0) rfl, z, rfl, big, ?_⟩
    -- the tape
    refine ⟨_, rfl, by decide, by decide, fun D nD => ?_⟩
    have Dn := bx2.new_ne nD
    refine lc_range (lo := 0) (n := (100 : Int).toNat) (fun j H' => Bxd b l H2 H' ∧ j ≤ 100 ∧ ∃ cs : List Int, cs.length = j ∧ Codes z.cps.size cs ∧ H' D = some (.lst (cs.map V.int)))
      ⟨(Bxd.refl bx2).nw nD, Nat.zero_le _, [], rfl, fun c h => (nomatch h), upd_same⟩ (fun j H' hj p => ?_) (fun H' p => ?_)
    · obtain ⟨bd, _, cs, hcl, hc, eD⟩ := p
      have hj : j < 100 := hj
      refine ⟨rfl, lc_yes ?_⟩
      refine ⟨.ref b, rfl, .int (z.length : Nat), rfl, _, _, rfl, rfl, b, l, _, rfl, bd.box, by omega, ?_, fun v H5 v0 v1 bd' => ?_⟩
      · rw [show ((z.length : Nat) : Int) + 2 = ((z.length + 2 : Nat) : Int) from rfl, Int.natAbs_natCast]
        exact Nat.lt_of_le_of_lt (show z.length + 2 ≤ 1000 by omega) (by decide)
      refine ⟨cs.map V.int, bd'.at' D _ Dn.1 Dn.2 eD, by rw [List.length_map, hcl]; exact small1000 (by omega), (bd.trans bd').put nD Dn.1 Dn.2, hj, cs ++ [v], by rw [List.length_append, hcl]; rfl, fun c hc' => ?_, by rw [upd_same, List.map_append]; rfl⟩
      rcases List.mem_append.mp hc' with m | m
      · exact hc c m
      · rw [List.mem_singleton.mp m]; omega
    obtain ⟨bd, _, cs, hcl, hc, eD⟩ := p
    have hcl : cs.length = 100 := hcl
    refine ⟨.ref b, rfl, b, l, 30, rfl, bd.box, by decide, by decide, fun v H4 v0 v1 bd4 => ⟨by show 2 ≤ sizeLine; decide, fun p np => ?_⟩⟩
    have pn := bd4.box.new_ne np
    have bd5 := (bd.trans bd4).nw (o := HO.lst [V.int 100, V.int v]) np
    have eD5 := same_new (o := HO.lst [V.int 100, V.int v]) np _ _ (bd4.at' D _ Dn.1 Dn.2 eD)
    refine ⟨.ref b, rfl, b, l, 2, rfl, bd5.box, by decide, by decide, fun d H6 d0 d1 bd6 => ?_⟩
    have e6 := bd6.at' p _ pn.1 pn.2 upd_same
    have eD6 := bd6.at' D _ Dn.1 Dn.2 eD5
    have bd6 := bd5.trans bd6
    obtain ⟨d, rfl⟩ := Int.eq_ofNat_of_zero_le d0
    obtain ⟨n, hn, hd⟩ : ∃ n : Nat, n ≤ 100 ∧ ([V.int 100, V.int v] : List V)[d]? = some (.int (n : Nat)) := by
      obtain ⟨v, rfl⟩ := Int.eq_ofNat_of_zero_le v0
      match d, d1 with
      | 0, _ => exact ⟨100, by omega, rfl⟩
      | 1, _ => exact ⟨v, by omega, rfl⟩
      | d + 2, h => omega
    refine ⟨p, _, (d : Nat), .int (n : Nat), rfl, rfl, SqL.of e6, atI_nat hd, _, rfl, D, _, rfl, SqL.of eD6, fun ta nta => ?_⟩
    rw [cut_lo cs n (by omega)]
    have tn := bd6.box.new_ne nta
    have b7 : Bk (tws T) b l H2 (upd H6 ta (HO.lst ((cs.take n).map V.int))) := Bk.bxd (bd6.nw nta) bx2 tw2
    have is7 : Ints (upd H6 ta (HO.lst ((cs.take n).map V.int))) ta (cs.take n) := ⟨upd_same, by rw [List.length_take]; omega⟩
    have hc7 : Codes z.cps.size (cs.take n) := fun c h => hc c (List.mem_of_mem_take h)
    have hl7 : (cs.take n).length ≤ 100 := by rw [List.length_take]; omega
    generalize upd H6 ta (HO.lst ((cs.take n).map V.int)) = H7 at b7 is7
    generalize cs.take n = us at is7 hc7 hl7
    clear eD eD5 eD6 e6 bd bd4 bd5 bd6 hc hcl hd hn pn Dn nta np nD
    have sh7 : Sh H7 t z o hm := b7.sh bx2 sh2
    -- sheets, tapes
    refine ⟨.ref b, rfl, .ref t, rfl, b, l, t, z, o, hm, rfl, b7.box, gd, sh7, b7.tb, fun H8 b8 => ⟨true, rfl, iteF ?_⟩⟩
    have sh8 := b8.sh b7.box sh7
    have is8 := b8.ints tn.1 tn.2 is7
    refine ⟨.ref b, rfl, .ref t, rfl, .ref ta, rfl, b, l, t, ta, z, o, hm, us, rfl, b8.box, gd, sh8, is8, tn.1, tn.2, hc7, hl7, b8.tb, fun H9 b9 => ⟨true, rfl, iteF ?_⟩⟩
    have sh9 := b9.sh b8.box sh8
    have is9 := b9.ints tn.1 tn.2 is8
    have bx9 := b9.box
    have tw9 := b9.tb
    clear sh2 sh7 sh8 is7 is8 b7 b8 b9 bx2 bd2 bx1 tw1 tw2 s1 nb nl' nt hS tw
    -- the text
    refine ⟨.ref b, rfl, .ref t, rfl, b, l, t, z, o, hm, 32, rfl, bx9, gd, sh9, by decide, fun x HA hx hin bdA => ?_⟩
    have bA := Bk.bxd bdA bx9 tw9
    have shA := bA.sh bx9 sh9
    have isA := bA.ints tn.1 tn.2 is9
    have hxl : x.length = x.cps.size := rfl
    have bigx : x.length ≤ sizeLine := Nat.le_trans hx (by decide)
    refine ⟨.ref b, rfl, .str x, rfl, x, rfl, bigx, _, _, rfl, rfl, b, l, _, rfl, bA.box, by omega, ?_, fun v HB v0 v1 bdB => ?_⟩
    · rw [show ((x.length : Nat) : Int) + 1 = ((x.length + 1 : Nat) : Int) from rfl, Int.natAbs_natCast]
      exact Nat.lt_of_le_of_lt (show x.length + 1 ≤ 1000 by omega) (by decide)
    obtain ⟨i, rfl⟩ := Int.eq_ofNat_of_zero_le v0
    have hi : i ≤ x.cps.size := by omega
    have bB := Bk.bxd bdB bA.box bA.tb
    have shB := bB.sh bA.box shA
    have isB := bB.ints tn.1 tn.2 isA
    have bxB := bB.box
    have twB := bB.tb
    clear bA bB shA isA bdA bdB sh9 is9 bx9 tw9
    have c1 := cutS_len x none (some ((i : Nat) : Int))
    have c2 := cutS_len x (some ((i : Nat) : Int)) none
    have n1 : (Str.ofString "\n").length = 1 := by decide +kernel
    have sap : ∀ x y : Str, (x ++ y).length = x.length + y.length := fun x y => Str.length_append x y
    have hnl := nlAt_size x i hi
    have gv := textV_nl gd hx hin hi
    refine ⟨.ref t, rfl, .str x, rfl, .int (i : Nat), rfl, _, rfl, x, rfl, bigx, _, _, rfl, rfl, szc _ (by omega), .str x, rfl, .int (i : Nat), rfl, _, rfl, x, rfl, bigx, _, _, rfl, rfl, szc _ (by rw [sap]; omega), 1, rfl, ?_⟩
    refine ⟨t, z, o, hm, nlAt x i, 5, -1, some (.sign i), rfl, gd.any shB, by omega, ⟨gd, gv⟩, fun e => (nomatch e), twB, fun p1 fs1 HC kC np1 e1 hl1 th1 => ?_⟩
    -- no sign
    refine ⟨.ref p1, rfl, kC.tb, fun f0 HD kD n0 l0 => ⟨by show 1 ≤ sizeLine; decide, fun p2 np2 => ?_⟩⟩
    have e1 := kD.lst e1
    have th1 := th1.mono kD.stays
    have kD := kC.trans kD
    have s2 := same_new (o := HO.lst [V.ref f0]) np2
    refine ⟨p1, p2, _, _, rfl, rfl, s2 _ _ e1, upd_same, by rw [List.length_map, hl1]; show 2 + 1 ≤ sizeLine; decide, fun p3 np3 => ⟨.int (i : Nat), rfl, by show 2 ≤ sizeLine; decide, fun p4 np4 => ?_⟩⟩
    have s3 := same_new (o := HO.lst (fs1.map V.ref ++ [V.ref f0])) np3
    have s4 := same_new (o := HO.tup [V.str "NoSign", V.int (i : Nat)]) np4
    have sE := s2.trans (s3.trans s4)
    have l0 := l0.same sE
    have th1 := th1.mono (Kz.same kD.tb sE).stays
    have kE := kD.trans (Kz.same kD.tb sE)
    have e3 := s4 _ _ (upd_same (H := upd HD p2 (HO.lst [V.ref f0])) (a := p3) (o := HO.lst (fs1.map V.ref ++ [V.ref f0])))
    have e4 := upd_same (H := upd (upd HD p2 (HO.lst [V.ref f0])) p3 (HO.lst (fs1.map V.ref ++ [V.ref f0]))) (a := p4) (o := HO.tup [V.str "NoSign", V.int (i : Nat)])
    generalize upd (upd (upd HD p2 (HO.lst [V.ref f0])) p3 (HO.lst (fs1.map V.ref ++ [V.ref f0]))) p4 (HO.tup [V.str "NoSign", V.int (i : Nat)]) = HE at kE l0 th1 e3 e4
    intro L hinj hlen' cp fr
    have hL : ∀ b o, L.lookup b = some o → addF HE L b = some (Fz o) := fun b o e => addF_in e
    have sa := same_add fr
    have ka := kz_add kE fr
    have an3 := (gd.any shB).kz ka
    have th2 : ThOk P w K mg base thk (addF HE L) f0 (thSp (kc T) (tws T) (some (.sign i))) := by
      refine th_mk (l0.same sa) hL cp hinj hlen' (thS_by (N := ["_law_script", "_law_box", "_law_sheet_here", "_law_n", "_law_tape_here", "_law_text_here", "_law_at", "_law_texts", "_law_wide", "_law_begin", "_law_far", "_law_works", "_law_turn"]) (by decide +kernel)) (bd0 fun _ _ _ _ => rfl) fun A outer s H1 Q E c' hr st tb en => ?_
      exact ⟨_, (pe_callS (okx_either T ap TB TB2) (hr.mono (by decide)) (by rfl) T.d_either.g T.d_either.F.kp T.d_either.b (fun σ => passAt (takes_of rfl rfl rfl rfl) σ) (pa_cons (pv 2) (pa_cons (pe_op op_add_str (pe_op op_add_str (pe_slice sl_str (pv 5) po_none (po_some (pv 6))) pe_str) (pe_slice sl_str (pv 5) (po_some (pv 6)) po_none)) pa_nil))), .ref t, rfl, .str x, rfl, .int (i : Nat), rfl, _, rfl, x, rfl, bigx, _, _, rfl, rfl, szc _ (by omega), .str x, rfl, .int (i : Nat), rfl, _, rfl, x, rfl, bigx, _, _, rfl, rfl, szc _ (by rw [sap]; omega), t, z, o, hm, nlAt x i, some (.sign i), rfl, an3.stz st, by omega, ⟨gd, gv⟩, tb, en⟩
    refine ⟨p3, fs1 ++ [f0], .ref p4, some (.sign i), rfl, ?_, ?_, (th1.mono (Kz.same kE.tb sa).stays).app fun f hf => ?_, ⟨p4, rfl, sa _ _ e4⟩, ka.tb, fun HF' kF' => ⟨true, rfl, iteF ?_⟩⟩
    · rw [sa _ _ e3, List.map_append]; rfl
    · rw [List.length_append, hl1]; show 2 + 1 ≤ 1000; decide
    · rw [List.mem_singleton.mp hf]; exact th2
    have kF := kE.trans (kz_del kF' fr)
    generalize delF HF' L = HF at kF
    have shF := kF.sh shB
    have isF := isB.kz kF
    have bxF := bxB.kz kF
    have twF := kF.tb
    clear cp hL sa ka an3 th1 th2 e3 e4 l0 kE kD kC e1 s2 s3 s4 sE fr hinj hlen' kF' shB isB bxB twB kF L HF'
    -- too long
    have hwl := wideT_size (z := z) pz hx
    have gw := textV_wide (o := o) pz hx hin
    have cl := cut1_len pz
    have ek : ((33 : Int) - (x.length : Nat)).toNat = 33 - x.cps.size := by omega
    refine ⟨.str x, rfl, .ref t, rfl, t, _, 0, _, rfl, rfl, SqT.of shF, atI_nat (j := 0) rfl, 1, rfl, z, rfl, big, .str x, rfl, x, rfl, bigx, _, _, rfl, rfl, _, _, rfl, rfl, by omega, by omega, by rw [cl]; decide, by rw [cl]; decide, ?_⟩
    rw [ek]
    refine ⟨_, _, rfl, rfl, szc _ (by rw [repS_len, cl]; omega), ?_⟩
    refine ⟨.ref t, rfl, .str (wideT z x), rfl, 1, rfl, ?_⟩
    refine ⟨t, z, o, hm, wideT z x, 5, -1, some (.sign 32), rfl, gd.any shF, by omega, ⟨gd, gw⟩, fun e => (nomatch e), twF, fun p1 fs1 HC kC np1 e1 hl1 th1 => ?_⟩
    refine ⟨kC.tb, fun f0 HD kD n0 l0 => ⟨by show 1 ≤ sizeLine; decide, fun p2 np2 => ?_⟩⟩
    have e1 := kD.lst e1
    have th1 := th1.mono kD.stays
    have kD := kC.trans kD
    have s2 := same_new (o := HO.lst [V.ref f0]) np2
    refine ⟨p1, p2, _, _, rfl, rfl, s2 _ _ e1, upd_same, by rw [List.length_map, hl1]; show 2 + 1 ≤ sizeLine; decide, fun p3 np3 => ⟨by show 2 ≤ sizeLine; decide, fun p4 np4 => ?_⟩⟩
    have s3 := same_new (o := HO.lst (fs1.map V.ref ++ [V.ref f0])) np3
    have s4 := same_new (o := HO.tup [V.str "NoSign", V.int 32]) np4
    have sE := s2.trans (s3.trans s4)
    have l0 := l0.same sE
    have th1 := th1.mono (Kz.same kD.tb sE).stays
    have kE := kD.trans (Kz.same kD.tb sE)
    have e3 := s4 _ _ (upd_same (H := upd HD p2 (HO.lst [V.ref f0])) (a := p3) (o := HO.lst (fs1.map V.ref ++ [V.ref f0])))
    have e4 := upd_same (H := upd (upd HD p2 (HO.lst [V.ref f0])) p3 (HO.lst (fs1.map V.ref ++ [V.ref f0]))) (a := p4) (o := HO.tup [V.str "NoSign", V.int 32])
    generalize upd (upd (upd HD p2 (HO.lst [V.ref f0])) p3 (HO.lst (fs1.map V.ref ++ [V.ref f0]))) p4 (HO.tup [V.str "NoSign", V.int 32]) = HE at kE l0 th1 e3 e4
    intro L hinj hlen' cp fr
    have hL : ∀ b o, L.lookup b = some o → addF HE L b = some (Fz o) := fun b o e => addF_in e
    have sa := same_add fr
    have ka := kz_add kE fr
    have an3 := (gd.any shF).kz ka
    have th2 : ThOk P w K mg base thk (addF HE L) f0 (thSp (kc T) (tws T) (some (.sign 32))) := by
      refine th_mk (l0.same sa) hL cp hinj hlen' (thS_by (N := ["_law_script", "_law_box", "_law_sheet_here", "_law_n", "_law_tape_here", "_law_text_here", "_law_at", "_law_texts", "_law_wide", "_law_begin", "_law_far", "_law_works", "_law_turn"]) (by decide +kernel)) (bd0 fun _ _ _ _ => rfl) fun A outer s H1 Q E c' hr st tb en => ?_
      exact ⟨_, (pe_callS (okx_either T ap TB TB2) (hr.mono (by decide)) (by rfl) T.d_either.g T.d_either.F.kp T.d_either.b (fun σ => passAt (takes_of rfl rfl rfl rfl) σ) (pa_cons (pv 2) (pa_cons (pv 8) pa_nil))), .ref t, rfl, .str (wideT z x), rfl, t, z, o, hm, wideT z x, some (.sign 32), rfl, an3.stz st, by omega, ⟨gd, gw⟩, tb, en⟩
    refine ⟨p3, fs1 ++ [f0], .ref p4, some (.sign 32), rfl, ?_, ?_, (th1.mono (Kz.same kE.tb sa).stays).app fun f hf => ?_, ⟨p4, rfl, sa _ _ e4⟩, ka.tb, fun HF' kF' => ⟨true, rfl, iteF ?_⟩⟩
    · rw [sa _ _ e3, List.map_append]; rfl
    · rw [List.length_append, hl1]; show 2 + 1 ≤ 1000; decide
    · rw [List.mem_singleton.mp hf]; exact th2
    have kG := kE.trans (kz_del kF' fr)
    generalize delF HF' L = HG at kG
    have shG := kG.sh shF
    have isG := isF.kz kG
    have bxG := bxF.kz kG
    have twG := kG.tb
    clear cp hL sa ka an3 th1 th2 e3 e4 l0 kE kD kC e1 s2 s3 s4 sE fr hinj hlen' kF' shF isF bxF twF kG L HF'
    -- sets
    refine ⟨1, rfl, .ref b, rfl, 10, 58, rfl, rfl, ⟨by decide, by decide, by decide⟩, b, l, _, rfl, bxG, far_ok.1, far_ok.2, fun u HH u0 u1 bdH => ⟨_, _, rfl, rfl, by show 3 ≤ sizeLine; decide, fun p np => ?_⟩⟩
    have bH := Bk.bxd bdH bxG twG
    have pne := bH.box.new_ne np
    have kI := Kz.same bH.tb (same_new (o := HO.lst [V.int 2, V.int (-1), V.int (2 + u)]) np)
    have bI := bH.trans (Bk.kz bH.box kI)
    refine ⟨.ref b, rfl, b, l, 3, rfl, bI.box, by decide, by decide, fun d HJ d0 d1 bdJ => ?_⟩
    have bJ := bI.trans (Bk.bxd bdJ bI.box bI.tb)
    have eJ := bdJ.at' p _ pne.1 pne.2 upd_same
    obtain ⟨d, rfl⟩ := Int.eq_ofNat_of_zero_le d0
    obtain ⟨bg, hd, hbg⟩ : ∃ bg : Int, ([V.int 2, V.int (-1), V.int (2 + u)] : List V)[d]? = some (.int bg) ∧ ¬ Is01 bg := by
      match d, d1 with
      | 0, _ => exact ⟨_, rfl, fun k => k.elim (fun e => by omega) fun e => by omega⟩
      | 1, _ => exact ⟨_, rfl, fun k => k.elim (fun e => by omega) fun e => by omega⟩
      | 2, _ => exact ⟨_, rfl, fun k => k.elim (fun e => by omega) fun e => by omega⟩
      | d + 3, h => omega
    refine ⟨p, _, (d : Nat), .int bg, rfl, rfl, SqL.of eJ, atI_nat hd, ?_⟩
    have shJ := bJ.sh bxG shG
    have isJ := bJ.ints tn.1 tn.2 isG
    have bxJ := bJ.box
    have twJ := bJ.tb
    clear bH pne kI bI bdJ bJ eJ hd shG isG bxG twG
    have gt : TapeV z.cps.size us none := ⟨hc7, hl7⟩
    have gx : TextV z o x none := ⟨hx, hin⟩
    refine ⟨.ref t, rfl, .ref ta, rfl, .int bg, rfl, 1, rfl, t, ta, z, o, hm, us, bg, -1, some .set, rfl, gd.any shJ, isJ, ⟨gd, gt, hbg⟩, fun e => (nomatch e), twJ, fun p1 fs1 HK kK np1 e1 hl1 th1 => ?_⟩
    refine ⟨.ref t, rfl, .str x, rfl, .int bg, rfl, 1, rfl, t, z, o, hm, x, bg, -1, some .set, rfl, gd.any (kK.sh shJ), by omega, ⟨gd, gx, hbg⟩, fun e => (nomatch e), kK.tb, fun p2 fs2 HL kL np2 e2 hl2 th2 => ?_⟩
    refine ⟨p1, p2, _, _, rfl, rfl, kL.lst e1, e2, by rw [List.length_map, List.length_map, hl1, hl2]; decide, fun p3 np3 => ⟨by show 2 ≤ sizeLine; decide, fun p4 np4 => ?_⟩⟩
    have s3 := same_new (o := HO.lst (fs1.map V.ref ++ fs2.map V.ref)) np3
    have s4 := same_new (o := HO.tup [V.str "BadSet", V.int 0]) np4
    have kM := (kK.trans kL).trans (Kz.same kL.tb (s3.trans s4))
    refine ⟨p3, fs1 ++ fs2, .ref p4, some .set, rfl, s4 _ _ (by rw [upd_same, List.map_append]), by rw [List.length_append, hl1, hl2]; decide, (((th1.mono kL.stays).app th2).mono (Kz.same kL.tb (s3.trans s4)).stays), ⟨p4, rfl, upd_same⟩, kM.tb, fun HN kN => ⟨true, rfl, iteF ?_⟩⟩
    have kN := kM.trans kN
    have shN := kN.sh shJ
    have isN := isJ.kz kN
    have bxN := bxJ.kz kN
    have twN := kN.tb
    clear kN kM s3 s4 th1 th2 e1 e2 kK kL shJ isJ bxJ twJ
    -- counts
    refine ⟨1, rfl, .ref b, rfl, 10, 58, rfl, rfl, ⟨by decide, by decide, by decide⟩, b, l, _, rfl, bxN, far_ok.1, far_ok.2, fun u HH u0 u1 bdH => ⟨_, _, rfl, rfl, ?_⟩⟩
    have bH := Bk.bxd bdH bxN twN
    have isH := bH.ints tn.1 tn.2 isN
    refine ⟨.ref ta, rfl, ta, _, rfl, .inl (SqL.of isH.at'), _, _, rfl, rfl, by show 3 ≤ sizeLine; decide, fun p np => ?_⟩
    rw [List.length_map]
    have pne := bH.box.new_ne np
    have kI := Kz.same bH.tb (same_new (o := HO.lst [V.int (-1), V.int (101 + u), V.int ((us.length : Nat) + 33)]) np)
    have bI := bH.trans (Bk.kz bH.box kI)
    refine ⟨.ref b, rfl, b, l, 3, rfl, bI.box, by decide, by decide, fun d HJ d0 d1 bdJ => ?_⟩
    have bJ := bI.trans (Bk.bxd bdJ bI.box bI.tb)
    have eJ := bdJ.at' p _ pne.1 pne.2 upd_same
    obtain ⟨d, rfl⟩ := Int.eq_ofNat_of_zero_le d0
    obtain ⟨fr0, hd, hf1, hf2⟩ : ∃ f : Int, ([V.int (-1), V.int (101 + u), V.int ((us.length : Nat) + 33)] : List V)[d]? = some (.int f) ∧ ¬ (0 ≤ f ∧ f ≤ (us.length : Int)) ∧ ¬ (0 ≤ f ∧ f ≤ 32) := by
      match d, d1 with
      | 0, _ => exact ⟨_, rfl, by omega, by omega⟩
      | 1, _ => exact ⟨_, rfl, by omega, by omega⟩
      | 2, _ => exact ⟨_, rfl, by omega, by omega⟩
      | d + 3, h => omega
    refine ⟨p, _, (d : Nat), .int fr0, rfl, rfl, SqL.of eJ, atI_nat hd, ?_⟩
    have shJ := bJ.sh bxN shN
    have isJ := bJ.ints tn.1 tn.2 isN
    have bxJ := bJ.box
    have twJ := bJ.tb
    clear bH isH pne kI bI bdJ bJ eJ hd shN isN bxN twN
    refine ⟨twJ, fun f0 HC kC n0 l0 => ⟨kC.tb, fun f1 HD kD n1 l1 => ⟨by show 2 ≤ sizeLine; decide, fun p1 np1 => ?_⟩⟩⟩
    have s1 := same_new (o := HO.lst [V.ref f0, V.ref f1]) np1
    have e1 : upd HD p1 (HO.lst [V.ref f0, V.ref f1]) p1 = some (HO.lst [V.ref f0, V.ref f1]) := upd_same
    have l0 := (l0.kz kD).same s1
    have l1 := l1.same s1
    have kD := (kC.trans kD).trans (Kz.same kD.tb s1)
    generalize upd HD p1 (HO.lst [V.ref f0, V.ref f1]) = HP at kD l0 l1 e1
    refine ⟨.ref p1, rfl, kD.tb, fun f2 HE kE n2 l2 => ⟨by show 1 ≤ sizeLine; decide, fun p2 np2 => ?_⟩⟩
    have s2 := same_new (o := HO.lst [V.ref f2]) np2
    refine ⟨p1, p2, _, _, rfl, rfl, s2 _ _ (kE.lst e1), upd_same, by show 2 + 1 ≤ sizeLine; decide, fun p3 np3 => ⟨by show 2 ≤ sizeLine; decide, fun p4 np4 => ?_⟩⟩
    have s3 := same_new (o := HO.lst ([V.ref f0, V.ref f1] ++ [V.ref f2])) np3
    have s4 := same_new (o := HO.tup [V.str "BadCount", V.int 0]) np4
    have sE := s2.trans (s3.trans s4)
    have l0 := (l0.kz kE).same sE
    have l1 := (l1.kz kE).same sE
    have l2 := l2.same sE
    have kQ := (kD.trans kE).trans (Kz.same kE.tb sE)
    have e3 := s4 _ _ (upd_same (H := upd HE p2 (HO.lst [V.ref f2])) (a := p3) (o := HO.lst ([V.ref f0, V.ref f1] ++ [V.ref f2])))
    have e4 := upd_same (H := upd (upd HE p2 (HO.lst [V.ref f2])) p3 (HO.lst ([V.ref f0, V.ref f1] ++ [V.ref f2]))) (a := p4) (o := HO.tup [V.str "BadCount", V.int 0])
    generalize upd (upd (upd HE p2 (HO.lst [V.ref f2])) p3 (HO.lst ([V.ref f0, V.ref f1] ++ [V.ref f2]))) p4 (HO.tup [V.str "BadCount", V.int 0]) = HR at kQ l0 l1 l2 e3 e4
    intro L hinj hlen' cp fr
    have hL : ∀ b o, L.lookup b = some o → addF HR L b = some (Fz o) := fun b o e => addF_in e
    have sa := same_add fr
    have ka := kz_add kQ fr
    have an3 := (gd.any shJ).kz ka
    have is3 := isJ.kz ka
    have th0 : ThOk P w K mg base thk (addF HR L) f0 (thSp (kc T) (tws T) (some .count)) := by
      refine th_mk (l0.same sa) hL cp hinj hlen' (thS_by (N := ["_law_script", "_law_box", "_law_sheet_here", "_law_n", "_law_tape_here", "_law_text_here", "_law_at", "_law_texts", "_law_wide", "_law_begin", "_law_far", "_law_works", "_law_turn"]) (by decide +kernel)) (bd0 fun _ _ _ _ => rfl) fun A outer s H1 Q E c' hr st tb en => ?_
      exact ⟨_, (pe_callS (okx_cut T ap TB) (hr.mono (by decide)) (by rfl) T.d_cut.g T.d_cut.F.kp T.d_cut.b (fun σ => passAt (takes_of rfl rfl rfl rfl) σ) (pa_cons (pv 2) (pa_cons (pv 4) (pa_cons pe_int (pa_cons (pv 10) pa_nil))))), .ref t, rfl, .ref ta, rfl, .int fr0, rfl, t, ta, z, o, hm, us, 0, fr0, some .count, rfl, an3.stz st, is3.stz st, ⟨⟨gd, gt, .inl rfl⟩, hf1⟩, tb, en⟩
    have th1 : ThOk P w K mg base thk (addF HR L) f1 (thSp (kc T) (tws T) (some .count)) := by
      refine th_mk (l1.same sa) hL cp hinj hlen' (thS_by (N := ["_law_script", "_law_box", "_law_sheet_here", "_law_n", "_law_tape_here", "_law_text_here", "_law_at", "_law_texts", "_law_wide", "_law_begin", "_law_far", "_law_works", "_law_turn"]) (by decide +kernel)) (bd1 rfl fun _ _ _ _ _ => ⟨_, rfl, fun _ => rfl⟩) fun A outer s H1 Q E c' hr st tb en => ?_
      exact ⟨_, (pe_callS (okx_is_guarded T ap TB) (hr.mono (by decide)) (by rfl) T.d_is_guarded.g T.d_is_guarded.F.kp T.d_is_guarded.b (fun σ => passAt (takes_of rfl rfl rfl rfl) σ) (pa_cons (pv 2) (pa_cons (pv 4) (pa_cons pe_int (pa_cons (pv 10) pa_nil))))), .ref t, rfl, .ref ta, rfl, .int fr0, rfl, t, ta, z, o, hm, us, 1, fr0, some .count, rfl, an3.stz st, is3.stz st, ⟨⟨gd, gt, .inr rfl⟩, hf2⟩, tb, en⟩
    have th2 : ThOk P w K mg base thk (addF HR L) f2 (thSp (kc T) (tws T) (some .count)) := by
      refine th_mk (l2.same sa) hL cp hinj hlen' (thS_by (N := ["_law_script", "_law_box", "_law_sheet_here", "_law_n", "_law_tape_here", "_law_text_here", "_law_at", "_law_texts", "_law_wide", "_law_begin", "_law_far", "_law_works", "_law_turn"]) (by decide +kernel)) (bd1 rfl fun _ _ _ _ _ => ⟨_, rfl, fun _ => rfl⟩) fun A outer s H1 Q E c' hr st tb en => ?_
      exact ⟨_, (pe_callS (okx_guarded T ap TB) (hr.mono (by decide)) (by rfl) T.d_guarded.g T.d_guarded.F.kp T.d_guarded.b (fun σ => passAt (takes_of rfl rfl rfl rfl) σ) (pa_cons (pv 2) (pa_cons (pv 5) (pa_cons pe_int (pa_cons (pv 10) pa_nil))))), .ref t, rfl, .str x, rfl, .int fr0, rfl, t, z, o, hm, x, 0, fr0, some .count, rfl, an3.stz st, by omega, ⟨⟨gd, gx, .inl rfl⟩, hf2⟩, tb, en⟩
    refine ⟨p3, [f0, f1, f2], .ref p4, some .count, rfl, sa _ _ e3, by show 3 ≤ 1000; decide, fun f hf => ?_, ⟨p4, rfl, sa _ _ e4⟩, ka.tb, fun HF' kF' => ⟨true, rfl, iteF ?_⟩⟩
    · rcases List.mem_cons.mp hf with e | hf
      · rw [e]; exact th0
      · rcases List.mem_cons.mp hf with e | hf
        · rw [e]; exact th1
        · rw [List.mem_singleton.mp hf]; exact th2
    have kS := kQ.trans (kz_del kF' fr)
    generalize delF HF' L = HS at kS
    have shS := kS.sh shJ
    have isS := isJ.kz kS
    have twS := kS.tb
    clear cp hL sa ka an3 is3 th0 th1 th2 e3 e4 l0 l1 l2 kQ kE kD kC e1 s1 s2 s3 s4 sE fr hinj hlen' kF' shJ isJ bxJ twJ kS L HF'
    -- none is refused
    refine ⟨.ref t, rfl, .ref ta, rfl, t, ta, z, o, hm, us, 1, 0, none, rfl, gd.any shS, isS, ⟨gd, gt, .inr rfl⟩, fun _ => ⟨by omega, by omega, by omega⟩, twS, fun p1 fs1 HK kK np1 e1 hl1 th1 => ?_⟩
    refine ⟨.ref t, rfl, .str x, rfl, 20, rfl, x, rfl, bigx, t, z, o, hm, cutS x none (some 20), 0, 32, none, rfl, gd.any (kK.sh shS), Nat.le_trans (cutS_len x none (some 20)) (by omega), ⟨gd, textV_cut hx hin _ _, .inl rfl⟩, fun _ => ⟨by omega, by omega⟩, kK.tb, fun p2 fs2 HL kL np2 e2 hl2 th2 => ?_⟩
    refine ⟨p1, p2, _, _, rfl, rfl, kL.lst e1, e2, by rw [List.length_map, List.length_map, hl1, hl2]; decide, fun p3 np3 => ?_⟩
    have s3 := same_new (o := HO.lst (fs1.map V.ref ++ fs2.map V.ref)) np3
    have kM := (kK.trans kL).trans (Kz.same kL.tb s3)
    exact ⟨p3, fs1 ++ fs2, .non, none, rfl, by rw [upd_same, List.map_append], by rw [List.length_append, hl1, hl2]; decide, (((th1.mono kL.stays).app th2).mono (Kz.same kL.tb s3).stays), rfl, kM.tb, fun HN kN => q HN⟩
theorem all_ok {h : Heap} {fa : Addr} (hmg : mg "law" = some (.ref fa)) (T : Txt K mg)
    (h0 : PySem.W.CodeHd h T.c_are_signs T.t_are_signs ∧ h.get? T.t_are_signs = some (PySem.W.tabObj #[])) (n0 : K.lookup T.t_are_signs = none)
    (h1 : PySem.W.CodeHd h T.c_first_of T.t_first_of ∧ h.get? T.t_first_of = some (PySem.W.tabObj #[])) (n1 : K.lookup T.t_first_of = none)
    (h2 : PySem.W.CodeHd h T.c_l_of_tapes T.t_l_of_tapes ∧ h.get? T.t_l_of_tapes = some (PySem.W.tabObj #[])) (n2 : K.lookup T.t_l_of_tapes = none)
    (h3 : PySem.W.CodeHd h T.c_l_of_texts T.t_l_of_texts ∧ h.get? T.t_l_of_texts = some (PySem.W.tabObj #[])) (n3 : K.lookup T.t_l_of_texts = none)
    (h4 : PySem.W.CodeHd h T.c_l_sheets T.t_l_sheets ∧ h.get? T.t_l_sheets = some (PySem.W.tabObj #[])) (n4 : K.lookup T.t_l_sheets = none)
    (h5 : PySem.W.CodeHd h T.c_law T.t_law ∧ h.get? T.t_law = some (PySem.W.tabObj #[])) (n5 : K.lookup T.t_law = none)
    (e01 : T.t_are_signs ≠ T.t_first_of)
    (e02 : T.t_are_signs ≠ T.t_l_of_tapes)
    (e03 : T.t_are_signs ≠ T.t_l_of_texts)
    (e04 : T.t_are_signs ≠ T.t_l_sheets)
    (e05 : T.t_are_signs ≠ T.t_law)
    (e12 : T.t_first_of ≠ T.t_l_of_tapes)
    (e13 : T.t_first_of ≠ T.t_l_of_texts)
    (e14 : T.t_first_of ≠ T.t_l_sheets)
    (e15 : T.t_first_of ≠ T.t_law)
    (e23 : T.t_l_of_tapes ≠ T.t_l_of_texts)
    (e24 : T.t_l_of_tapes ≠ T.t_l_sheets)
    (e25 : T.t_l_of_tapes ≠ T.t_law)
    (e34 : T.t_l_of_texts ≠ T.t_l_sheets)
    (e35 : T.t_l_of_texts ≠ T.t_law)
    (e45 : T.t_l_sheets ≠ T.t_law)
    (hb : ∀ (s : Shared) (u : Value), BindsTo s T.d_law.fd ⟨[u], []⟩ [("_law_script", u)]) :
    LamX.LawAtS PySem.Challenge.rw_shifttape_k01_refused w K CX0 20 63 "_law_script" mg fa h := by
  have e := hmg.symm.trans T.d_law.g
  cases e
  have ap : (tws T).Apart := by
    show [T.t_are_signs, T.t_first_of, T.t_l_of_tapes, T.t_l_of_texts, T.t_l_sheets, T.t_law].Nodup
    simp only [List.nodup_cons, List.mem_cons, List.not_mem_nil, or_false, not_or, List.nodup_nil, and_true, not_false_eq_true]
    exact ⟨⟨e01, e02, e03, e04, e05⟩, ⟨e12, e13, e14, e15⟩, ⟨e23, e24, e25⟩, ⟨e34, e35⟩, e45⟩
  have six : ∀ {R : Addr × Addr → Prop}, R (T.c_are_signs, T.t_are_signs) → R (T.c_first_of, T.t_first_of) → R (T.c_l_of_tapes, T.t_l_of_tapes) → R (T.c_l_of_texts, T.t_l_of_texts) → R (T.c_l_sheets, T.t_l_sheets) → R (T.c_law, T.t_law) → ∀ p ∈ [(T.c_are_signs, T.t_are_signs), (T.c_first_of, T.t_first_of), (T.c_l_of_tapes, T.t_l_of_tapes), (T.c_l_of_texts, T.t_l_of_texts), (T.c_l_sheets, T.t_l_sheets), (T.c_law, T.t_law)], R p := fun r0 r1 r2 r3 r4 r5 p hp => by
    simp only [List.mem_cons, List.not_mem_nil, or_false] at hp
    rcases hp with e | e | e | e | e | e <;> rw [e]
    · exact r0
    · exact r1
    · exact r2
    · exact r3
    · exact r4
    · exact r5
  refine ⟨T.d_law.fd, [(T.c_are_signs, T.t_are_signs), (T.c_first_of, T.t_first_of), (T.c_l_of_tapes, T.t_l_of_tapes), (T.c_l_of_texts, T.t_l_of_texts), (T.c_l_sheets, T.t_l_sheets), (T.c_law, T.t_law)], spLaw K (tws T), six h0.2 h1.2 h2.2 h3.2 h4.2 h5.2, six n0 n1 n2 n3 n4 n5, six h0.1 h1.1 h2.1 h3.1 h4.1 h5.1, hb, fun H a ns hl _ hH hS => ?_,
    fun base k1 k2 tb => ok_law T ap (gx_of (tb _ List.mem_cons_self)) (tb _ (List.mem_cons_of_mem _ List.mem_cons_self)) (tb _ (List.mem_cons_of_mem _ (List.mem_cons_of_mem _ List.mem_cons_self))) (tb _ (List.mem_cons_of_mem _ (List.mem_cons_of_mem _ (List.mem_cons_of_mem _ List.mem_cons_self)))) (tb _ (List.mem_cons_of_mem _ (List.mem_cons_of_mem _ (List.mem_cons_of_mem _ (List.mem_cons_of_mem _ List.mem_cons_self))))) (tb _ (List.mem_cons_of_mem _ (List.mem_cons_of_mem _ (List.mem_cons_of_mem _ (List.mem_cons_of_mem _ (List.mem_cons_of_mem _ List.mem_cons_self))))))⟩
  refine ⟨a, ns, rfl, hS, hl, ⟨fun P hP => ?_, fun p hp => ?_⟩, fun _ => rfl⟩
  · rw [List.mem_singleton.mp hP]; exact ⟨#[], hH _ List.mem_cons_self, trivial⟩
  · have hp : p ∈ [(T.t_first_of, q2), (T.t_l_of_tapes, qt), (T.t_l_of_texts, qx), (T.t_l_sheets, qs), (T.t_law, ql)] := hp
    simp only [List.mem_cons, List.not_mem_nil, or_false] at hp
    rcases hp with e | e | e | e | e <;> rw [e]
    · exact LamX.TabS.nil (hH _ (List.mem_cons_of_mem _ List.mem_cons_self))
    · exact LamX.TabS.nil (hH _ (List.mem_cons_of_mem _ (List.mem_cons_of_mem _ List.mem_cons_self)))
    · exact LamX.TabS.nil (hH _ (List.mem_cons_of_mem _ (List.mem_cons_of_mem _ (List.mem_cons_of_mem _ List.mem_cons_self))))
    · exact LamX.TabS.nil (hH _ (List.mem_cons_of_mem _ (List.mem_cons_of_mem _ (List.mem_cons_of_mem _ (List.mem_cons_of_mem _ List.mem_cons_self)))))
    · exact LamX.TabS.nil (hH _ (List.mem_cons_of_mem _ (List.mem_cons_of_mem _ (List.mem_cons_of_mem _ (List.mem_cons_of_mem _ (List.mem_cons_of_mem _ List.mem_cons_self))))))
end
set_option maxHeartbeats 0 in
def txt_mk {K : PySem.W.Frag} {h : Heap} {mg : Str → Option Value} {f0 tb0 f1 f2 f3 f4 f5 f6 f7 f8 f9 f10 f11 f12 f13 f14 f15 f16 f17 f18 f19 f20 f21 f22 f23 f24 f25 f26 f27 tb27 f28 f29 f30 f31 f32 f33 f34 f35 f36 f37 f38 f39 f40 f41 f42 f43 tb43 f44 tb44 f45 tb45 f46 f47 tb47 C_BadSheet C_BadSet C_BadTape C_NoSign C_BadCount C_BadText C_TapeError F_BadTape F_NoSign F_BadText : Addr} (X : K.In h) (G : h.Ns mainGlobals mg)
    {oc0 : Value} {od0 an0 : Option Addr} {sl0 : Array (Option Value)} {kV0 dc0 pm0 ct0 : Value} {cd0 : Addr}
    (a0 : PySem.W.nsIn K mainGlobals "are_signs" = some (some (.ref f0))) (l0 : K.lookup f0 = some ⟨oc0, od0, .func (PySem.W.fnOf "are_signs" "are_signs" (defArgs s_are_signs) (defBody s_are_signs) (defScope s_are_signs) .none kV0 dc0 pm0 an0 (.ref cd0) ct0), sl0⟩) (c0 : PySem.W.codeIn K (.ref cd0) "are_signs" = true) (k0 : PySem.W.keepIn K (.ref f0) = true)
    {oc1 : Value} {od1 an1 : Option Addr} {sl1 : Array (Option Value)} {kV1 dc1 pm1 ct1 : Value} {cd1 : Value}
    (a1 : PySem.W.nsIn K mainGlobals "_can_be_a_set" = some (some (.ref f1))) (l1 : K.lookup f1 = some ⟨oc1, od1, .func (PySem.W.fnOf "_can_be_a_set" "_can_be_a_set" (defArgs s_can_be_a_set) (defBody s_can_be_a_set) (defScope s_can_be_a_set) .none kV1 dc1 pm1 an1 cd1 ct1), sl1⟩) (c1 : PySem.W.codeIn K cd1 "_can_be_a_set" = true) (k1 : PySem.W.keepIn K (.ref f1) = true)
    {oc2 : Value} {od2 an2 : Option Addr} {sl2 : Array (Option Value)} {kV2 dc2 pm2 ct2 : Value} {cd2 : Value}
    (a2 : PySem.W.nsIn K mainGlobals "check_sheet" = some (some (.ref f2))) (l2 : K.lookup f2 = some ⟨oc2, od2, .func (PySem.W.fnOf "check_sheet" "check_sheet" (defArgs s_check_sheet) (defBody s_check_sheet) (defScope s_check_sheet) .none kV2 dc2 pm2 an2 cd2 ct2), sl2⟩) (c2 : PySem.W.codeIn K cd2 "check_sheet" = true) (k2 : PySem.W.keepIn K (.ref f2) = true)
    {oc3 : Value} {od3 an3 : Option Addr} {sl3 : Array (Option Value)} {kV3 dc3 pm3 ct3 : Value} {cd3 : Value}
    (a3 : PySem.W.nsIn K mainGlobals "check_tape" = some (some (.ref f3))) (l3 : K.lookup f3 = some ⟨oc3, od3, .func (PySem.W.fnOf "check_tape" "check_tape" (defArgs s_check_tape) (defBody s_check_tape) (defScope s_check_tape) .none kV3 dc3 pm3 an3 cd3 ct3), sl3⟩) (c3 : PySem.W.codeIn K cd3 "check_tape" = true) (k3 : PySem.W.keepIn K (.ref f3) = true)
    {oc4 : Value} {od4 an4 : Option Addr} {sl4 : Array (Option Value)} {kV4 dc4 pm4 ct4 : Value} {cd4 : Value}
    (a4 : PySem.W.nsIn K mainGlobals "check_set" = some (some (.ref f4))) (l4 : K.lookup f4 = some ⟨oc4, od4, .func (PySem.W.fnOf "check_set" "check_set" (defArgs s_check_set) (defBody s_check_set) (defScope s_check_set) .none kV4 dc4 pm4 an4 cd4 ct4), sl4⟩) (c4 : PySem.W.codeIn K cd4 "check_set" = true) (k4 : PySem.W.keepIn K (.ref f4) = true)
    {oc5 : Value} {od5 an5 : Option Addr} {sl5 : Array (Option Value)} {kV5 dc5 pm5 ct5 : Value} {cd5 : Value}
    (a5 : PySem.W.nsIn K mainGlobals "check_text" = some (some (.ref f5))) (l5 : K.lookup f5 = some ⟨oc5, od5, .func (PySem.W.fnOf "check_text" "check_text" (defArgs s_check_text) (defBody s_check_text) (defScope s_check_text) .none kV5 dc5 pm5 an5 cd5 ct5), sl5⟩) (c5 : PySem.W.codeIn K cd5 "check_text" = true) (k5 : PySem.W.keepIn K (.ref f5) = true)
    {oc6 : Value} {od6 an6 : Option Addr} {sl6 : Array (Option Value)} {kV6 dc6 pm6 ct6 : Value} {cd6 : Value}
    (a6 : PySem.W.nsIn K mainGlobals "check_count" = some (some (.ref f6))) (l6 : K.lookup f6 = some ⟨oc6, od6, .func (PySem.W.fnOf "check_count" "check_count" (defArgs s_check_count) (defBody s_check_count) (defScope s_check_count) .none kV6 dc6 pm6 an6 cd6 ct6), sl6⟩) (c6 : PySem.W.codeIn K cd6 "check_count" = true) (k6 : PySem.W.keepIn K (.ref f6) = true)
    {oc7 : Value} {od7 an7 : Option Addr} {sl7 : Array (Option Value)} {kV7 dc7 pm7 ct7 : Value} {cd7 : Value}
    (a7 : PySem.W.nsIn K mainGlobals "check_begun" = some (some (.ref f7))) (l7 : K.lookup f7 = some ⟨oc7, od7, .func (PySem.W.fnOf "check_begun" "check_begun" (defArgs s_check_begun) (defBody s_check_begun) (defScope s_check_begun) .none kV7 dc7 pm7 an7 cd7 ct7), sl7⟩) (c7 : PySem.W.codeIn K cd7 "check_begun" = true) (k7 : PySem.W.keepIn K (.ref f7) = true)
    {oc8 : Value} {od8 an8 : Option Addr} {sl8 : Array (Option Value)} {kV8 dc8 pm8 ct8 : Value} {cd8 : Value}
    (a8 : PySem.W.nsIn K mainGlobals "set_behind" = some (some (.ref f8))) (l8 : K.lookup f8 = some ⟨oc8, od8, .func (PySem.W.fnOf "set_behind" "set_behind" (defArgs s_set_behind) (defBody s_set_behind) (defScope s_set_behind) .none kV8 dc8 pm8 an8 cd8 ct8), sl8⟩) (c8 : PySem.W.codeIn K cd8 "set_behind" = true) (k8 : PySem.W.keepIn K (.ref f8) = true)
    {oc9 : Value} {od9 an9 : Option Addr} {sl9 : Array (Option Value)} {kV9 dc9 pm9 ct9 : Value} {cd9 : Value}
    (a9 : PySem.W.nsIn K mainGlobals "walked" = some (some (.ref f9))) (l9 : K.lookup f9 = some ⟨oc9, od9, .func (PySem.W.fnOf "walked" "walked" (defArgs s_walked) (defBody s_walked) (defScope s_walked) .none kV9 dc9 pm9 an9 cd9 ct9), sl9⟩) (c9 : PySem.W.codeIn K cd9 "walked" = true) (k9 : PySem.W.keepIn K (.ref f9) = true)
    {oc10 : Value} {od10 an10 : Option Addr} {sl10 : Array (Option Value)} {kV10 dc10 pm10 ct10 : Value} {cd10 : Value}
    (a10 : PySem.W.nsIn K mainGlobals "read" = some (some (.ref f10))) (l10 : K.lookup f10 = some ⟨oc10, od10, .func (PySem.W.fnOf "read" "read" (defArgs s_read) (defBody s_read) (defScope s_read) .none kV10 dc10 pm10 an10 cd10 ct10), sl10⟩) (c10 : PySem.W.codeIn K cd10 "read" = true) (k10 : PySem.W.keepIn K (.ref f10) = true)
    {oc11 : Value} {od11 an11 : Option Addr} {sl11 : Array (Option Value)} {kV11 dc11 pm11 ct11 : Value} {cd11 : Value}
    (a11 : PySem.W.nsIn K mainGlobals "last_set" = some (some (.ref f11))) (l11 : K.lookup f11 = some ⟨oc11, od11, .func (PySem.W.fnOf "last_set" "last_set" (defArgs s_last_set) (defBody s_last_set) (defScope s_last_set) .none kV11 dc11 pm11 an11 cd11 ct11), sl11⟩) (c11 : PySem.W.codeIn K cd11 "last_set" = true) (k11 : PySem.W.keepIn K (.ref f11) = true)
    {oc12 : Value} {od12 an12 : Option Addr} {sl12 : Array (Option Value)} {kV12 dc12 pm12 ct12 : Value} {cd12 : Value}
    (a12 : PySem.W.nsIn K mainGlobals "_shift_places" = some (some (.ref f12))) (l12 : K.lookup f12 = some ⟨oc12, od12, .func (PySem.W.fnOf "_shift_places" "_shift_places" (defArgs s_shift_places) (defBody s_shift_places) (defScope s_shift_places) .none kV12 dc12 pm12 an12 cd12 ct12), sl12⟩) (c12 : PySem.W.codeIn K cd12 "_shift_places" = true) (k12 : PySem.W.keepIn K (.ref f12) = true)
    {oc13 : Value} {od13 an13 : Option Addr} {sl13 : Array (Option Value)} {kV13 dc13 pm13 ct13 : Value} {cd13 : Value}
    (a13 : PySem.W.nsIn K mainGlobals "_text_without" = some (some (.ref f13))) (l13 : K.lookup f13 = some ⟨oc13, od13, .func (PySem.W.fnOf "_text_without" "_text_without" (defArgs s_text_without) (defBody s_text_without) (defScope s_text_without) .none kV13 dc13 pm13 an13 cd13 ct13), sl13⟩) (c13 : PySem.W.codeIn K cd13 "_text_without" = true) (k13 : PySem.W.keepIn K (.ref f13) = true)
    {oc14 : Value} {od14 an14 : Option Addr} {sl14 : Array (Option Value)} {kV14 dc14 pm14 ct14 : Value} {cd14 : Value}
    (a14 : PySem.W.nsIn K mainGlobals "_count_unlike" = some (some (.ref f14))) (l14 : K.lookup f14 = some ⟨oc14, od14, .func (PySem.W.fnOf "_count_unlike" "_count_unlike" (defArgs s_count_unlike) (defBody s_count_unlike) (defScope s_count_unlike) .none kV14 dc14 pm14 an14 cd14 ct14), sl14⟩) (c14 : PySem.W.codeIn K cd14 "_count_unlike" = true) (k14 : PySem.W.keepIn K (.ref f14) = true)
    {oc15 : Value} {od15 an15 : Option Addr} {sl15 : Array (Option Value)} {kV15 dc15 pm15 ct15 : Value} {cd15 : Value}
    (a15 : PySem.W.nsIn K mainGlobals "spoilt" = some (some (.ref f15))) (l15 : K.lookup f15 = some ⟨oc15, od15, .func (PySem.W.fnOf "spoilt" "spoilt" (defArgs s_spoilt) (defBody s_spoilt) (defScope s_spoilt) .none kV15 dc15 pm15 an15 cd15 ct15), sl15⟩) (c15 : PySem.W.codeIn K cd15 "spoilt" = true) (k15 : PySem.W.keepIn K (.ref f15) = true)
    {oc16 : Value} {od16 an16 : Option Addr} {sl16 : Array (Option Value)} {kV16 dc16 pm16 ct16 : Value} {cd16 : Value}
    (a16 : PySem.W.nsIn K mainGlobals "lost_at" = some (some (.ref f16))) (l16 : K.lookup f16 = some ⟨oc16, od16, .func (PySem.W.fnOf "lost_at" "lost_at" (defArgs s_lost_at) (defBody s_lost_at) (defScope s_lost_at) .none kV16 dc16 pm16 an16 cd16 ct16), sl16⟩) (c16 : PySem.W.codeIn K cd16 "lost_at" = true) (k16 : PySem.W.keepIn K (.ref f16) = true)
    {oc17 : Value} {od17 an17 : Option Addr} {sl17 : Array (Option Value)} {kV17 dc17 pm17 ct17 : Value} {cd17 : Value}
    (a17 : PySem.W.nsIn K mainGlobals "_with_code" = some (some (.ref f17))) (l17 : K.lookup f17 = some ⟨oc17, od17, .func (PySem.W.fnOf "_with_code" "_with_code" (defArgs s_with_code) (defBody s_with_code) (defScope s_with_code) .none kV17 dc17 pm17 an17 cd17 ct17), sl17⟩) (c17 : PySem.W.codeIn K cd17 "_with_code" = true) (k17 : PySem.W.keepIn K (.ref f17) = true)
    {oc18 : Value} {od18 an18 : Option Addr} {sl18 : Array (Option Value)} {kV18 dc18 pm18 ct18 : Value} {cd18 : Value}
    (a18 : PySem.W.nsIn K mainGlobals "_with_shifts" = some (some (.ref f18))) (l18 : K.lookup f18 = some ⟨oc18, od18, .func (PySem.W.fnOf "_with_shifts" "_with_shifts" (defArgs s_with_shifts) (defBody s_with_shifts) (defScope s_with_shifts) .none kV18 dc18 pm18 an18 cd18 ct18), sl18⟩) (c18 : PySem.W.codeIn K cd18 "_with_shifts" = true) (k18 : PySem.W.keepIn K (.ref f18) = true)
    {oc19 : Value} {od19 an19 : Option Addr} {sl19 : Array (Option Value)} {kV19 dc19 pm19 ct19 : Value} {cd19 : Value}
    (a19 : PySem.W.nsIn K mainGlobals "with_sign_guarding" = some (some (.ref f19))) (l19 : K.lookup f19 = some ⟨oc19, od19, .func (PySem.W.fnOf "_with_sign" "_with_sign" (defArgs s_with_sign_guarding) (defBody s_with_sign_guarding) (defScope s_with_sign_guarding) .none kV19 dc19 pm19 an19 cd19 ct19), sl19⟩) (c19 : PySem.W.codeIn K cd19 "_with_sign" = true) (k19 : PySem.W.keepIn K (.ref f19) = true)
    {oc20 : Value} {od20 an20 : Option Addr} {sl20 : Array (Option Value)} {kV20 dc20 pm20 ct20 : Value} {cd20 : Value}
    (a20 : PySem.W.nsIn K mainGlobals "guarded" = some (some (.ref f20))) (l20 : K.lookup f20 = some ⟨oc20, od20, .func (PySem.W.fnOf "guarded" "guarded" (defArgs s_guarded) (defBody s_guarded) (defScope s_guarded) .none kV20 dc20 pm20 an20 cd20 ct20), sl20⟩) (c20 : PySem.W.codeIn K cd20 "guarded" = true) (k20 : PySem.W.keepIn K (.ref f20) = true)
    {oc21 : Value} {od21 an21 : Option Addr} {sl21 : Array (Option Value)} {kV21 dc21 pm21 ct21 : Value} {cd21 : Value}
    (a21 : PySem.W.nsIn K mainGlobals "is_guarded" = some (some (.ref f21))) (l21 : K.lookup f21 = some ⟨oc21, od21, .func (PySem.W.fnOf "is_guarded" "is_guarded" (defArgs s_is_guarded) (defBody s_is_guarded) (defScope s_is_guarded) .none kV21 dc21 pm21 an21 cd21 ct21), sl21⟩) (c21 : PySem.W.codeIn K cd21 "is_guarded" = true) (k21 : PySem.W.keepIn K (.ref f21) = true)
    {oc22 : Value} {od22 an22 : Option Addr} {sl22 : Array (Option Value)} {kV22 dc22 pm22 ct22 : Value} {cd22 : Value}
    (a22 : PySem.W.nsIn K mainGlobals "_shift_ahead" = some (some (.ref f22))) (l22 : K.lookup f22 = some ⟨oc22, od22, .func (PySem.W.fnOf "_shift_ahead" "_shift_ahead" (defArgs s_shift_ahead) (defBody s_shift_ahead) (defScope s_shift_ahead) .none kV22 dc22 pm22 an22 cd22 ct22), sl22⟩) (c22 : PySem.W.codeIn K cd22 "_shift_ahead" = true) (k22 : PySem.W.keepIn K (.ref f22) = true)
    {oc23 : Value} {od23 an23 : Option Addr} {sl23 : Array (Option Value)} {kV23 dc23 pm23 ct23 : Value} {cd23 : Value}
    (a23 : PySem.W.nsIn K mainGlobals "joined" = some (some (.ref f23))) (l23 : K.lookup f23 = some ⟨oc23, od23, .func (PySem.W.fnOf "joined" "joined" (defArgs s_joined) (defBody s_joined) (defScope s_joined) .none kV23 dc23 pm23 an23 cd23 ct23), sl23⟩) (c23 : PySem.W.codeIn K cd23 "joined" = true) (k23 : PySem.W.keepIn K (.ref f23) = true)
    {oc24 : Value} {od24 an24 : Option Addr} {sl24 : Array (Option Value)} {kV24 dc24 pm24 ct24 : Value} {cd24 : Value}
    (a24 : PySem.W.nsIn K mainGlobals "cut" = some (some (.ref f24))) (l24 : K.lookup f24 = some ⟨oc24, od24, .func (PySem.W.fnOf "cut" "cut" (defArgs s_cut) (defBody s_cut) (defScope s_cut) .none kV24 dc24 pm24 an24 cd24 ct24), sl24⟩) (c24 : PySem.W.codeIn K cd24 "cut" = true) (k24 : PySem.W.keepIn K (.ref f24) = true)
    {oc25 : Value} {od25 an25 : Option Addr} {sl25 : Array (Option Value)} {kV25 dc25 pm25 ct25 : Value} {cd25 : Value}
    (a25 : PySem.W.nsIn K mainGlobals "_code_of" = some (some (.ref f25))) (l25 : K.lookup f25 = some ⟨oc25, od25, .func (PySem.W.fnOf "_code_of" "_code_of" (defArgs s_code_of) (defBody s_code_of) (defScope s_code_of) .none kV25 dc25 pm25 an25 cd25 ct25), sl25⟩) (c25 : PySem.W.codeIn K cd25 "_code_of" = true) (k25 : PySem.W.keepIn K (.ref f25) = true)
    {oc26 : Value} {od26 an26 : Option Addr} {sl26 : Array (Option Value)} {kV26 dc26 pm26 ct26 : Value} {cd26 : Value}
    (a26 : PySem.W.nsIn K mainGlobals "_without_shift" = some (some (.ref f26))) (l26 : K.lookup f26 = some ⟨oc26, od26, .func (PySem.W.fnOf "_without_shift" "_without_shift" (defArgs s_without_shift) (defBody s_without_shift) (defScope s_without_shift) .none kV26 dc26 pm26 an26 cd26 ct26), sl26⟩) (c26 : PySem.W.codeIn K cd26 "_without_shift" = true) (k26 : PySem.W.keepIn K (.ref f26) = true)
    {oc27 : Value} {od27 an27 : Option Addr} {sl27 : Array (Option Value)} {kV27 dc27 pm27 ct27 : Value} {cd27 : Addr}
    (a27 : PySem.W.nsIn K mainGlobals "_first_of" = some (some (.ref f27))) (l27 : K.lookup f27 = some ⟨oc27, od27, .func (PySem.W.fnOf "_first_of" "_first_of" (defArgs s_first_of) (defBody s_first_of) (defScope s_first_of) .none kV27 dc27 pm27 an27 (.ref cd27) ct27), sl27⟩) (c27 : PySem.W.codeIn K (.ref cd27) "_first_of" = true) (k27 : PySem.W.keepIn K (.ref f27) = true)
    {oc28 : Value} {od28 an28 : Option Addr} {sl28 : Array (Option Value)} {kV28 dc28 pm28 ct28 : Value} {cd28 : Value}
    (a28 : PySem.W.nsIn K mainGlobals "with_sign_shortest" = some (some (.ref f28))) (l28 : K.lookup f28 = some ⟨oc28, od28, .func (PySem.W.fnOf "_with_sign" "_with_sign" (defArgs s_with_sign_shortest) (defBody s_with_sign_shortest) (defScope s_with_sign_shortest) .none kV28 dc28 pm28 an28 cd28 ct28), sl28⟩) (c28 : PySem.W.codeIn K cd28 "_with_sign" = true) (k28 : PySem.W.keepIn K (.ref f28) = true)
    {oc29 : Value} {od29 an29 : Option Addr} {sl29 : Array (Option Value)} {kV29 dc29 pm29 ct29 : Value} {cd29 : Value}
    (a29 : PySem.W.nsIn K mainGlobals "_best_tapes" = some (some (.ref f29))) (l29 : K.lookup f29 = some ⟨oc29, od29, .func (PySem.W.fnOf "_best_tapes" "_best_tapes" (defArgs s_best_tapes) (defBody s_best_tapes) (defScope s_best_tapes) .none kV29 dc29 pm29 an29 cd29 ct29), sl29⟩) (c29 : PySem.W.codeIn K cd29 "_best_tapes" = true) (k29 : PySem.W.keepIn K (.ref f29) = true)
    {oc30 : Value} {od30 an30 : Option Addr} {sl30 : Array (Option Value)} {kV30 dc30 pm30 ct30 : Value} {cd30 : Value}
    (a30 : PySem.W.nsIn K mainGlobals "shortest" = some (some (.ref f30))) (l30 : K.lookup f30 = some ⟨oc30, od30, .func (PySem.W.fnOf "shortest" "shortest" (defArgs s_shortest) (defBody s_shortest) (defScope s_shortest) .none kV30 dc30 pm30 an30 cd30 ct30), sl30⟩) (c30 : PySem.W.codeIn K cd30 "shortest" = true) (k30 : PySem.W.keepIn K (.ref f30) = true)
    {oc31 : Value} {od31 an31 : Option Addr} {sl31 : Array (Option Value)} {kV31 dc31 pm31 ct31 : Value} {cd31 : Value}
    (a31 : PySem.W.nsIn K mainGlobals "either" = some (some (.ref f31))) (l31 : K.lookup f31 = some ⟨oc31, od31, .func (PySem.W.fnOf "either" "either" (defArgs s_either) (defBody s_either) (defScope s_either) .none kV31 dc31 pm31 an31 cd31 ct31), sl31⟩) (c31 : PySem.W.codeIn K cd31 "either" = true) (k31 : PySem.W.keepIn K (.ref f31) = true)
    {oc32 : Value} {od32 an32 : Option Addr} {sl32 : Array (Option Value)} {kV32 dc32 pm32 ct32 : Value} {cd32 : Value}
    (a32 : PySem.W.nsIn K mainGlobals "written" = some (some (.ref f32))) (l32 : K.lookup f32 = some ⟨oc32, od32, .func (PySem.W.fnOf "written" "written" (defArgs s_written) (defBody s_written) (defScope s_written) .none kV32 dc32 pm32 an32 cd32 ct32), sl32⟩) (c32 : PySem.W.codeIn K cd32 "written" = true) (k32 : PySem.W.keepIn K (.ref f32) = true)
    {oc33 : Value} {od33 an33 : Option Addr} {sl33 : Array (Option Value)} {kV33 dc33 pm33 ct33 : Value} {cd33 : Value}
    (a33 : PySem.W.nsIn K mainGlobals "_law_begun" = some (some (.ref f33))) (l33 : K.lookup f33 = some ⟨oc33, od33, .func (PySem.W.fnOf "_law_begun" "_law_begun" (defArgs s_l_begun) (defBody s_l_begun) (defScope s_l_begun) .none kV33 dc33 pm33 an33 cd33 ct33), sl33⟩) (c33 : PySem.W.codeIn K cd33 "_law_begun" = true) (k33 : PySem.W.keepIn K (.ref f33) = true)
    {oc34 : Value} {od34 an34 : Option Addr} {sl34 : Array (Option Value)} {kV34 dc34 pm34 ct34 : Value} {cd34 : Value}
    (a34 : PySem.W.nsIn K mainGlobals "_law_take" = some (some (.ref f34))) (l34 : K.lookup f34 = some ⟨oc34, od34, .func (PySem.W.fnOf "_law_take" "_law_take" (defArgs s_l_take) (defBody s_l_take) (defScope s_l_take) .none kV34 dc34 pm34 an34 cd34 ct34), sl34⟩) (c34 : PySem.W.codeIn K cd34 "_law_take" = true) (k34 : PySem.W.keepIn K (.ref f34) = true)
    {oc35 : Value} {od35 an35 : Option Addr} {sl35 : Array (Option Value)} {kV35 dc35 pm35 ct35 : Value} {cd35 : Value}
    (a35 : PySem.W.nsIn K mainGlobals "_law_alike" = some (some (.ref f35))) (l35 : K.lookup f35 = some ⟨oc35, od35, .func (PySem.W.fnOf "_law_alike" "_law_alike" (defArgs s_l_alike) (defBody s_l_alike) (defScope s_l_alike) .none kV35 dc35 pm35 an35 cd35 ct35), sl35⟩) (c35 : PySem.W.codeIn K cd35 "_law_alike" = true) (k35 : PySem.W.keepIn K (.ref f35) = true)
    {oc36 : Value} {od36 an36 : Option Addr} {sl36 : Array (Option Value)} {kV36 dc36 pm36 ct36 : Value} {cd36 : Value}
    (a36 : PySem.W.nsIn K mainGlobals "_law_class" = some (some (.ref f36))) (l36 : K.lookup f36 = some ⟨oc36, od36, .func (PySem.W.fnOf "_law_class" "_law_class" (defArgs s_l_class) (defBody s_l_class) (defScope s_l_class) .none kV36 dc36 pm36 an36 cd36 ct36), sl36⟩) (c36 : PySem.W.codeIn K cd36 "_law_class" = true) (k36 : PySem.W.keepIn K (.ref f36) = true)
    {oc37 : Value} {od37 an37 : Option Addr} {sl37 : Array (Option Value)} {kV37 dc37 pm37 ct37 : Value} {cd37 : Value}
    (a37 : PySem.W.nsIn K mainGlobals "_law_picked" = some (some (.ref f37))) (l37 : K.lookup f37 = some ⟨oc37, od37, .func (PySem.W.fnOf "_law_picked" "_law_picked" (defArgs s_l_picked) (defBody s_l_picked) (defScope s_l_picked) .none kV37 dc37 pm37 an37 cd37 ct37), sl37⟩) (c37 : PySem.W.codeIn K cd37 "_law_picked" = true) (k37 : PySem.W.keepIn K (.ref f37) = true)
    {oc38 : Value} {od38 an38 : Option Addr} {sl38 : Array (Option Value)} {kV38 dc38 pm38 ct38 : Value} {cd38 : Value}
    (a38 : PySem.W.nsIn K mainGlobals "_law_sheet" = some (some (.ref f38))) (l38 : K.lookup f38 = some ⟨oc38, od38, .func (PySem.W.fnOf "_law_sheet" "_law_sheet" (defArgs s_l_sheet) (defBody s_l_sheet) (defScope s_l_sheet) .none kV38 dc38 pm38 an38 cd38 ct38), sl38⟩) (c38 : PySem.W.codeIn K cd38 "_law_sheet" = true) (k38 : PySem.W.keepIn K (.ref f38) = true)
    {oc39 : Value} {od39 an39 : Option Addr} {sl39 : Array (Option Value)} {kV39 dc39 pm39 ct39 : Value} {cd39 : Value}
    (a39 : PySem.W.nsIn K mainGlobals "_law_text" = some (some (.ref f39))) (l39 : K.lookup f39 = some ⟨oc39, od39, .func (PySem.W.fnOf "_law_text" "_law_text" (defArgs s_l_text) (defBody s_l_text) (defScope s_l_text) .none kV39 dc39 pm39 an39 cd39 ct39), sl39⟩) (c39 : PySem.W.codeIn K cd39 "_law_text" = true) (k39 : PySem.W.keepIn K (.ref f39) = true)
    {oc40 : Value} {od40 an40 : Option Addr} {sl40 : Array (Option Value)} {kV40 dc40 pm40 ct40 : Value} {cd40 : Value}
    (a40 : PySem.W.nsIn K mainGlobals "_law_refused" = some (some (.ref f40))) (l40 : K.lookup f40 = some ⟨oc40, od40, .func (PySem.W.fnOf "_law_refused" "_law_refused" (defArgs s_l_refused) (defBody s_l_refused) (defScope s_l_refused) .none kV40 dc40 pm40 an40 cd40 ct40), sl40⟩) (c40 : PySem.W.codeIn K cd40 "_law_refused" = true) (k40 : PySem.W.keepIn K (.ref f40) = true)
    {oc41 : Value} {od41 an41 : Option Addr} {sl41 : Array (Option Value)} {kV41 dc41 pm41 ct41 : Value} {cd41 : Value}
    (a41 : PySem.W.nsIn K mainGlobals "_law_all" = some (some (.ref f41))) (l41 : K.lookup f41 = some ⟨oc41, od41, .func (PySem.W.fnOf "_law_all" "_law_all" (defArgs s_l_all) (defBody s_l_all) (defScope s_l_all) .none kV41 dc41 pm41 an41 cd41 ct41), sl41⟩) (c41 : PySem.W.codeIn K cd41 "_law_all" = true) (k41 : PySem.W.keepIn K (.ref f41) = true)
    {oc42 : Value} {od42 an42 : Option Addr} {sl42 : Array (Option Value)} {kV42 dc42 pm42 ct42 : Value} {cd42 : Value}
    (a42 : PySem.W.nsIn K mainGlobals "_law_bad" = some (some (.ref f42))) (l42 : K.lookup f42 = some ⟨oc42, od42, .func (PySem.W.fnOf "_law_bad" "_law_bad" (defArgs s_l_bad) (defBody s_l_bad) (defScope s_l_bad) .none kV42 dc42 pm42 an42 cd42 ct42), sl42⟩) (c42 : PySem.W.codeIn K cd42 "_law_bad" = true) (k42 : PySem.W.keepIn K (.ref f42) = true)
    {oc43 : Value} {od43 an43 : Option Addr} {sl43 : Array (Option Value)} {kV43 dc43 pm43 ct43 : Value} {cd43 : Addr}
    (a43 : PySem.W.nsIn K mainGlobals "_law_of_tapes" = some (some (.ref f43))) (l43 : K.lookup f43 = some ⟨oc43, od43, .func (PySem.W.fnOf "_law_of_tapes" "_law_of_tapes" (defArgs s_l_of_tapes) (defBody s_l_of_tapes) (defScope s_l_of_tapes) .none kV43 dc43 pm43 an43 (.ref cd43) ct43), sl43⟩) (c43 : PySem.W.codeIn K (.ref cd43) "_law_of_tapes" = true) (k43 : PySem.W.keepIn K (.ref f43) = true)
    {oc44 : Value} {od44 an44 : Option Addr} {sl44 : Array (Option Value)} {kV44 dc44 pm44 ct44 : Value} {cd44 : Addr}
    (a44 : PySem.W.nsIn K mainGlobals "_law_of_texts" = some (some (.ref f44))) (l44 : K.lookup f44 = some ⟨oc44, od44, .func (PySem.W.fnOf "_law_of_texts" "_law_of_texts" (defArgs s_l_of_texts) (defBody s_l_of_texts) (defScope s_l_of_texts) .none kV44 dc44 pm44 an44 (.ref cd44) ct44), sl44⟩) (c44 : PySem.W.codeIn K (.ref cd44) "_law_of_texts" = true) (k44 : PySem.W.keepIn K (.ref f44) = true)
    {oc45 : Value} {od45 an45 : Option Addr} {sl45 : Array (Option Value)} {kV45 dc45 pm45 ct45 : Value} {cd45 : Addr}
    (a45 : PySem.W.nsIn K mainGlobals "_law_sheets" = some (some (.ref f45))) (l45 : K.lookup f45 = some ⟨oc45, od45, .func (PySem.W.fnOf "_law_sheets" "_law_sheets" (defArgs s_l_sheets) (defBody s_l_sheets) (defScope s_l_sheets) .none kV45 dc45 pm45 an45 (.ref cd45) ct45), sl45⟩) (c45 : PySem.W.codeIn K (.ref cd45) "_law_sheets" = true) (k45 : PySem.W.keepIn K (.ref f45) = true)
    {oc46 : Value} {od46 an46 : Option Addr} {sl46 : Array (Option Value)} {kV46 dc46 pm46 ct46 : Value} {cd46 : Value}
    (a46 : PySem.W.nsIn K mainGlobals "_law_tapes" = some (some (.ref f46))) (l46 : K.lookup f46 = some ⟨oc46, od46, .func (PySem.W.fnOf "_law_tapes" "_law_tapes" (defArgs s_l_tapes) (defBody s_l_tapes) (defScope s_l_tapes) .none kV46 dc46 pm46 an46 cd46 ct46), sl46⟩) (c46 : PySem.W.codeIn K cd46 "_law_tapes" = true) (k46 : PySem.W.keepIn K (.ref f46) = true)
    {oc47 : Value} {od47 an47 : Option Addr} {sl47 : Array (Option Value)} {kV47 dc47 pm47 ct47 : Value} {cd47 : Addr}
    (a47 : PySem.W.nsIn K mainGlobals "law" = some (some (.ref f47))) (l47 : K.lookup f47 = some ⟨oc47, od47, .func (PySem.W.fnOf "law" "law" (defArgs s_law) (defBody s_law) (defScope s_law) .none kV47 dc47 pm47 an47 (.ref cd47) ct47), sl47⟩) (c47 : PySem.W.codeIn K (.ref cd47) "law" = true) (k47 : PySem.W.keepIn K (.ref f47) = true)
    (z_ValueError : PySem.W.nsIn K mainGlobals "ValueError" = some none)
    (z_all : PySem.W.nsIn K mainGlobals "all" = some none)
    (z_bool : PySem.W.nsIn K mainGlobals "bool" = some none)
    (z_enumerate : PySem.W.nsIn K mainGlobals "enumerate" = some none)
    (z_int : PySem.W.nsIn K mainGlobals "int" = some none)
    (z_isinstance : PySem.W.nsIn K mainGlobals "isinstance" = some none)
    (z_len : PySem.W.nsIn K mainGlobals "len" = some none)
    (z_list : PySem.W.nsIn K mainGlobals "list" = some none)
    (z_min : PySem.W.nsIn K mainGlobals "min" = some none)
    (z_range : PySem.W.nsIn K mainGlobals "range" = some none)
    (z_reversed : PySem.W.nsIn K mainGlobals "reversed" = some none)
    (z_set : PySem.W.nsIn K mainGlobals "set" = some none)
    (z_str : PySem.W.nsIn K mainGlobals "str" = some none)
    (z_sum : PySem.W.nsIn K mainGlobals "sum" = some none)
    (z_tuple : PySem.W.nsIn K mainGlobals "tuple" = some none)
    (z_zip : PySem.W.nsIn K mainGlobals "zip" = some none)
    {t_EITHER : Tok} (y_EITHER : PySem.W.nsIn K mainGlobals "EITHER" = some (some (.int 2 t_EITHER)))
    {t_MOST_CODES : Tok} (y_MOST_CODES : PySem.W.nsIn K mainGlobals "MOST_CODES" = some (some (.int 100 t_MOST_CODES)))
    {t_MOST_PLACES : Tok} (y_MOST_PLACES : PySem.W.nsIn K mainGlobals "MOST_PLACES" = some (some (.int 26 t_MOST_PLACES)))
    {t_MOST_SIGNS : Tok} (y_MOST_SIGNS : PySem.W.nsIn K mainGlobals "MOST_SIGNS" = some (some (.int 32 t_MOST_SIGNS)))
    {t_NO_HOME : Tok} (y_NO_HOME : PySem.W.nsIn K mainGlobals "NO_HOME" = some (some (.str "-" t_NO_HOME)))
    {t_SAFE : Tok} (y_SAFE : PySem.W.nsIn K mainGlobals "SAFE" = some (some (.int 32 t_SAFE)))
    (g_BadSheet : PySem.W.nsIn K mainGlobals "BadSheet" = some (some (.ref C_BadSheet)))
    (g_BadSet : PySem.W.nsIn K mainGlobals "BadSet" = some (some (.ref C_BadSet)))
    (g_BadTape : PySem.W.nsIn K mainGlobals "BadTape" = some (some (.ref C_BadTape)))
    (g_NoSign : PySem.W.nsIn K mainGlobals "NoSign" = some (some (.ref C_NoSign)))
    (g_BadCount : PySem.W.nsIn K mainGlobals "BadCount" = some (some (.ref C_BadCount)))
    (g_BadText : PySem.W.nsIn K mainGlobals "BadText" = some (some (.ref C_BadText)))
    (g_TapeError : PySem.W.nsIn K mainGlobals "TapeError" = some (some (.ref C_TapeError)))
    (t_sb : PySem.W.subIn K (.ref C_TapeError) (.type "BaseException") = some true)
    (t_ty : PySem.W.typeIn K (.ref C_TapeError) = some (.type "type"))
    (t_hd : PySem.W.hasDictIn K C_TapeError = true)
    (hn : PySem.W.specialIn K (.builtin "object.__class__") "__get__" = some (some (.builtin "getset_descriptor.__get__")))
    (ht : PySem.W.takesIn K (.builtin "object.__class__") = some true)
    (t_rd : PySem.W.readsIn K C_TapeError (.type "type") = true)
    (t_sg : PySem.W.specialIn K (.ref C_TapeError) "__getattribute__" = some (some (.builtin "type.__getattribute__")))
    (t_fc : PySem.W.findCls K (.ref C_TapeError) (.type "type") "__init__" = some (.val (.builtin "ValueError.__init__")))
    (kp_BadSheet : PySem.W.keepIn K (.ref C_BadSheet) = true)
    (sb_BadSheet : PySem.W.subIn K (.ref C_BadSheet) (.type "BaseException") = some true)
    (ty_BadSheet : PySem.W.typeIn K (.ref C_BadSheet) = some (.type "type"))
    (ci_BadSheet : PySem.W.isClsIn K C_BadSheet = true)
    (ga_BadSheet : PySem.W.findIn K (.ref C_BadSheet) "__getattribute__" = some (some (.builtin "BaseException.__getattribute__")))
    (gg_BadSheet : PySem.W.findIn K (.ref C_BadSheet) "__getattr__" = some none)
    (hd_BadSheet : PySem.W.hasDictIn K C_BadSheet = true)
    (cl_BadSheet : PySem.W.findIn K (.ref C_BadSheet) "__class__" = some (some (.builtin "object.__class__")))
    (mr_BadSheet : PySem.W.mroIn K C_BadSheet (.type "object") = some true)
    (kv_BadSheet : PySem.W.subIn K (.ref C_BadSheet) (.type "ValueError") = some true)
    (em_BadSheet : PySem.W.subIn K (.ref C_BadSheet) (.ref C_TapeError) = some true)
    (su_BadSheet_BadSheet : PySem.W.subIn K (.ref C_BadSheet) (.ref C_BadSheet) = some true)
    (su_BadSheet_BadSet : PySem.W.subIn K (.ref C_BadSheet) (.ref C_BadSet) = some false)
    (su_BadSheet_BadTape : PySem.W.subIn K (.ref C_BadSheet) (.ref C_BadTape) = some false)
    (su_BadSheet_NoSign : PySem.W.subIn K (.ref C_BadSheet) (.ref C_NoSign) = some false)
    (su_BadSheet_BadCount : PySem.W.subIn K (.ref C_BadSheet) (.ref C_BadCount) = some false)
    (su_BadSheet_BadText : PySem.W.subIn K (.ref C_BadSheet) (.ref C_BadText) = some false)
    (kp_BadSet : PySem.W.keepIn K (.ref C_BadSet) = true)
    (sb_BadSet : PySem.W.subIn K (.ref C_BadSet) (.type "BaseException") = some true)
    (ty_BadSet : PySem.W.typeIn K (.ref C_BadSet) = some (.type "type"))
    (ci_BadSet : PySem.W.isClsIn K C_BadSet = true)
    (ga_BadSet : PySem.W.findIn K (.ref C_BadSet) "__getattribute__" = some (some (.builtin "BaseException.__getattribute__")))
    (gg_BadSet : PySem.W.findIn K (.ref C_BadSet) "__getattr__" = some none)
    (hd_BadSet : PySem.W.hasDictIn K C_BadSet = true)
    (cl_BadSet : PySem.W.findIn K (.ref C_BadSet) "__class__" = some (some (.builtin "object.__class__")))
    (mr_BadSet : PySem.W.mroIn K C_BadSet (.type "object") = some true)
    (kv_BadSet : PySem.W.subIn K (.ref C_BadSet) (.type "ValueError") = some true)
    (em_BadSet : PySem.W.subIn K (.ref C_BadSet) (.ref C_TapeError) = some true)
    (su_BadSet_BadSheet : PySem.W.subIn K (.ref C_BadSet) (.ref C_BadSheet) = some false)
    (su_BadSet_BadSet : PySem.W.subIn K (.ref C_BadSet) (.ref C_BadSet) = some true)
    (su_BadSet_BadTape : PySem.W.subIn K (.ref C_BadSet) (.ref C_BadTape) = some false)
    (su_BadSet_NoSign : PySem.W.subIn K (.ref C_BadSet) (.ref C_NoSign) = some false)
    (su_BadSet_BadCount : PySem.W.subIn K (.ref C_BadSet) (.ref C_BadCount) = some false)
    (su_BadSet_BadText : PySem.W.subIn K (.ref C_BadSet) (.ref C_BadText) = some false)
    (kp_BadTape : PySem.W.keepIn K (.ref C_BadTape) = true)
    (sb_BadTape : PySem.W.subIn K (.ref C_BadTape) (.type "BaseException") = some true)
    (ty_BadTape : PySem.W.typeIn K (.ref C_BadTape) = some (.type "type"))
    (ci_BadTape : PySem.W.isClsIn K C_BadTape = true)
    (ga_BadTape : PySem.W.findIn K (.ref C_BadTape) "__getattribute__" = some (some (.builtin "BaseException.__getattribute__")))
    (gg_BadTape : PySem.W.findIn K (.ref C_BadTape) "__getattr__" = some none)
    (hd_BadTape : PySem.W.hasDictIn K C_BadTape = true)
    (cl_BadTape : PySem.W.findIn K (.ref C_BadTape) "__class__" = some (some (.builtin "object.__class__")))
    (mr_BadTape : PySem.W.mroIn K C_BadTape (.type "object") = some true)
    (kv_BadTape : PySem.W.subIn K (.ref C_BadTape) (.type "ValueError") = some true)
    (em_BadTape : PySem.W.subIn K (.ref C_BadTape) (.ref C_TapeError) = some true)
    (su_BadTape_BadSheet : PySem.W.subIn K (.ref C_BadTape) (.ref C_BadSheet) = some false)
    (su_BadTape_BadSet : PySem.W.subIn K (.ref C_BadTape) (.ref C_BadSet) = some false)
    (su_BadTape_BadTape : PySem.W.subIn K (.ref C_BadTape) (.ref C_BadTape) = some true)
    (su_BadTape_NoSign : PySem.W.subIn K (.ref C_BadTape) (.ref C_NoSign) = some false)
    (su_BadTape_BadCount : PySem.W.subIn K (.ref C_BadTape) (.ref C_BadCount) = some false)
    (su_BadTape_BadText : PySem.W.subIn K (.ref C_BadTape) (.ref C_BadText) = some false)
    (kp_NoSign : PySem.W.keepIn K (.ref C_NoSign) = true)
    (sb_NoSign : PySem.W.subIn K (.ref C_NoSign) (.type "BaseException") = some true)
    (ty_NoSign : PySem.W.typeIn K (.ref C_NoSign) = some (.type "type"))
    (ci_NoSign : PySem.W.isClsIn K C_NoSign = true)
    (ga_NoSign : PySem.W.findIn K (.ref C_NoSign) "__getattribute__" = some (some (.builtin "BaseException.__getattribute__")))
    (gg_NoSign : PySem.W.findIn K (.ref C_NoSign) "__getattr__" = some none)
    (hd_NoSign : PySem.W.hasDictIn K C_NoSign = true)
    (cl_NoSign : PySem.W.findIn K (.ref C_NoSign) "__class__" = some (some (.builtin "object.__class__")))
    (mr_NoSign : PySem.W.mroIn K C_NoSign (.type "object") = some true)
    (kv_NoSign : PySem.W.subIn K (.ref C_NoSign) (.type "ValueError") = some true)
    (em_NoSign : PySem.W.subIn K (.ref C_NoSign) (.ref C_TapeError) = some true)
    (su_NoSign_BadSheet : PySem.W.subIn K (.ref C_NoSign) (.ref C_BadSheet) = some false)
    (su_NoSign_BadSet : PySem.W.subIn K (.ref C_NoSign) (.ref C_BadSet) = some false)
    (su_NoSign_BadTape : PySem.W.subIn K (.ref C_NoSign) (.ref C_BadTape) = some false)
    (su_NoSign_NoSign : PySem.W.subIn K (.ref C_NoSign) (.ref C_NoSign) = some true)
    (su_NoSign_BadCount : PySem.W.subIn K (.ref C_NoSign) (.ref C_BadCount) = some false)
    (su_NoSign_BadText : PySem.W.subIn K (.ref C_NoSign) (.ref C_BadText) = some false)
    (kp_BadCount : PySem.W.keepIn K (.ref C_BadCount) = true)
    (sb_BadCount : PySem.W.subIn K (.ref C_BadCount) (.type "BaseException") = some true)
    (ty_BadCount : PySem.W.typeIn K (.ref C_BadCount) = some (.type "type"))
    (ci_BadCount : PySem.W.isClsIn K C_BadCount = true)
    (ga_BadCount : PySem.W.findIn K (.ref C_BadCount) "__getattribute__" = some (some (.builtin "BaseException.__getattribute__")))
    (gg_BadCount : PySem.W.findIn K (.ref C_BadCount) "__getattr__" = some none)
    (hd_BadCount : PySem.W.hasDictIn K C_BadCount = true)
    (cl_BadCount : PySem.W.findIn K (.ref C_BadCount) "__class__" = some (some (.builtin "object.__class__")))
    (mr_BadCount : PySem.W.mroIn K C_BadCount (.type "object") = some true)
    (kv_BadCount : PySem.W.subIn K (.ref C_BadCount) (.type "ValueError") = some true)
    (em_BadCount : PySem.W.subIn K (.ref C_BadCount) (.ref C_TapeError) = some true)
    (su_BadCount_BadSheet : PySem.W.subIn K (.ref C_BadCount) (.ref C_BadSheet) = some false)
    (su_BadCount_BadSet : PySem.W.subIn K (.ref C_BadCount) (.ref C_BadSet) = some false)
    (su_BadCount_BadTape : PySem.W.subIn K (.ref C_BadCount) (.ref C_BadTape) = some false)
    (su_BadCount_NoSign : PySem.W.subIn K (.ref C_BadCount) (.ref C_NoSign) = some false)
    (su_BadCount_BadCount : PySem.W.subIn K (.ref C_BadCount) (.ref C_BadCount) = some true)
    (su_BadCount_BadText : PySem.W.subIn K (.ref C_BadCount) (.ref C_BadText) = some false)
    (kp_BadText : PySem.W.keepIn K (.ref C_BadText) = true)
    (sb_BadText : PySem.W.subIn K (.ref C_BadText) (.type "BaseException") = some true)
    (ty_BadText : PySem.W.typeIn K (.ref C_BadText) = some (.type "type"))
    (ci_BadText : PySem.W.isClsIn K C_BadText = true)
    (ga_BadText : PySem.W.findIn K (.ref C_BadText) "__getattribute__" = some (some (.builtin "BaseException.__getattribute__")))
    (gg_BadText : PySem.W.findIn K (.ref C_BadText) "__getattr__" = some none)
    (hd_BadText : PySem.W.hasDictIn K C_BadText = true)
    (cl_BadText : PySem.W.findIn K (.ref C_BadText) "__class__" = some (some (.builtin "object.__class__")))
    (mr_BadText : PySem.W.mroIn K C_BadText (.type "object") = some true)
    (kv_BadText : PySem.W.subIn K (.ref C_BadText) (.type "ValueError") = some true)
    (em_BadText : PySem.W.subIn K (.ref C_BadText) (.ref C_TapeError) = some true)
    (su_BadText_BadSheet : PySem.W.subIn K (.ref C_BadText) (.ref C_BadSheet) = some false)
    (su_BadText_BadSet : PySem.W.subIn K (.ref C_BadText) (.ref C_BadSet) = some false)
    (su_BadText_BadTape : PySem.W.subIn K (.ref C_BadText) (.ref C_BadTape) = some false)
    (su_BadText_NoSign : PySem.W.subIn K (.ref C_BadText) (.ref C_NoSign) = some false)
    (su_BadText_BadCount : PySem.W.subIn K (.ref C_BadText) (.ref C_BadCount) = some false)
    (su_BadText_BadText : PySem.W.subIn K (.ref C_BadText) (.ref C_BadText) = some true)
    (q_BadSheet : PySem.W.excIn K C_BadSheet [.type "ValueError", .type "Exception", .type "BaseException", .type "object"] "ValueError.__new__" = true)
    (q_BadSet : PySem.W.excIn K C_BadSet [.type "ValueError", .type "Exception", .type "BaseException", .type "object"] "ValueError.__new__" = true)
    {nm_BadTape qq_BadTape : Str} {N_BadTape : Addr} {bs_BadTape bm_BadTape sub_BadTape : List Value} {sn_BadTape : List Str} {ab_BadTape : Bool} {col_BadTape : Option Bool} {dd_BadTape : Option Addr} {m0_BadTape m1_BadTape m2_BadTape m3_BadTape m5_BadTape : Option Value}
    (l_BadTape : K.lookup C_BadTape = some (excClassObj nm_BadTape qq_BadTape C_BadTape N_BadTape bs_BadTape bm_BadTape true sn_BadTape sub_BadTape ab_BadTape col_BadTape dd_BadTape m0_BadTape m1_BadTape m2_BadTape m3_BadTape m5_BadTape "ValueError.__new__"))
    (rv_BadTape : PySem.HandSPX.refsVE bm_BadTape = true)
    (sa_BadTape : PySem.W.findIn K (.ref C_BadTape) "__setattr__" = some (some (.builtin "object.__setattr__")))
    (ii_BadTape : PySem.W.findIn K (.ref C_BadTape) "__init__" = some (some (.ref F_BadTape)))
    (ti_BadTape : PySem.W.typeIn K (.ref F_BadTape) = some (.type "function"))
    (no_BadTape : PySem.W.findIn K (.ref C_BadTape) "place" = some none)
    {oc_BadTape : Value} {od_BadTape an_BadTape : Option Addr} {sl_BadTape : Array (Option Value)} {kV_BadTape dc_BadTape pm_BadTape ct_BadTape cd_BadTape : Value}
    (fl_BadTape : K.lookup F_BadTape = some ⟨oc_BadTape, od_BadTape, .func (PySem.W.fnOf "__init__" "BadTape.__init__" (defArgs s_init_BadTape) (defBody s_init_BadTape) (defScope s_init_BadTape) .none kV_BadTape dc_BadTape pm_BadTape an_BadTape cd_BadTape ct_BadTape), sl_BadTape⟩)
    (fc_BadTape : PySem.W.codeIn K cd_BadTape "BadTape.__init__" = true)
    (fk_BadTape : PySem.W.keepIn K (.ref F_BadTape) = true)
    {nm_NoSign qq_NoSign : Str} {N_NoSign : Addr} {bs_NoSign bm_NoSign sub_NoSign : List Value} {sn_NoSign : List Str} {ab_NoSign : Bool} {col_NoSign : Option Bool} {dd_NoSign : Option Addr} {m0_NoSign m1_NoSign m2_NoSign m3_NoSign m5_NoSign : Option Value}
    (l_NoSign : K.lookup C_NoSign = some (excClassObj nm_NoSign qq_NoSign C_NoSign N_NoSign bs_NoSign bm_NoSign true sn_NoSign sub_NoSign ab_NoSign col_NoSign dd_NoSign m0_NoSign m1_NoSign m2_NoSign m3_NoSign m5_NoSign "ValueError.__new__"))
    (rv_NoSign : PySem.HandSPX.refsVE bm_NoSign = true)
    (sa_NoSign : PySem.W.findIn K (.ref C_NoSign) "__setattr__" = some (some (.builtin "object.__setattr__")))
    (ii_NoSign : PySem.W.findIn K (.ref C_NoSign) "__init__" = some (some (.ref F_NoSign)))
    (ti_NoSign : PySem.W.typeIn K (.ref F_NoSign) = some (.type "function"))
    (no_NoSign : PySem.W.findIn K (.ref C_NoSign) "place" = some none)
    {oc_NoSign : Value} {od_NoSign an_NoSign : Option Addr} {sl_NoSign : Array (Option Value)} {kV_NoSign dc_NoSign pm_NoSign ct_NoSign cd_NoSign : Value}
    (fl_NoSign : K.lookup F_NoSign = some ⟨oc_NoSign, od_NoSign, .func (PySem.W.fnOf "__init__" "NoSign.__init__" (defArgs s_init_NoSign) (defBody s_init_NoSign) (defScope s_init_NoSign) .none kV_NoSign dc_NoSign pm_NoSign an_NoSign cd_NoSign ct_NoSign), sl_NoSign⟩)
    (fc_NoSign : PySem.W.codeIn K cd_NoSign "NoSign.__init__" = true)
    (fk_NoSign : PySem.W.keepIn K (.ref F_NoSign) = true)
    (q_BadCount : PySem.W.excIn K C_BadCount [.type "ValueError", .type "Exception", .type "BaseException", .type "object"] "ValueError.__new__" = true)
    {nm_BadText qq_BadText : Str} {N_BadText : Addr} {bs_BadText bm_BadText sub_BadText : List Value} {sn_BadText : List Str} {ab_BadText : Bool} {col_BadText : Option Bool} {dd_BadText : Option Addr} {m0_BadText m1_BadText m2_BadText m3_BadText m5_BadText : Option Value}
    (l_BadText : K.lookup C_BadText = some (excClassObj nm_BadText qq_BadText C_BadText N_BadText bs_BadText bm_BadText true sn_BadText sub_BadText ab_BadText col_BadText dd_BadText m0_BadText m1_BadText m2_BadText m3_BadText m5_BadText "ValueError.__new__"))
    (rv_BadText : PySem.HandSPX.refsVE bm_BadText = true)
    (sa_BadText : PySem.W.findIn K (.ref C_BadText) "__setattr__" = some (some (.builtin "object.__setattr__")))
    (ii_BadText : PySem.W.findIn K (.ref C_BadText) "__init__" = some (some (.ref F_BadText)))
    (ti_BadText : PySem.W.typeIn K (.ref F_BadText) = some (.type "function"))
    (no_BadText : PySem.W.findIn K (.ref C_BadText) "row" = some none)
    {oc_BadText : Value} {od_BadText an_BadText : Option Addr} {sl_BadText : Array (Option Value)} {kV_BadText dc_BadText pm_BadText ct_BadText cd_BadText : Value}
    (fl_BadText : K.lookup F_BadText = some ⟨oc_BadText, od_BadText, .func (PySem.W.fnOf "__init__" "BadText.__init__" (defArgs s_init_BadText) (defBody s_init_BadText) (defScope s_init_BadText) .none kV_BadText dc_BadText pm_BadText an_BadText cd_BadText ct_BadText), sl_BadText⟩)
    (fc_BadText : PySem.W.codeIn K cd_BadText "BadText.__init__" = true)
    (fk_BadText : PySem.W.keepIn K (.ref F_BadText) = true) : Txt K mg where
  d_are_signs := ⟨f0, _, fun_mk (st := s_are_signs) l0 c0 k0, (fun_mk (st := s_are_signs) l0 c0 k0).binds fun _ _ _ _ _ _ us hl => match us, hl with | [_], _ => rfl, PySem.W.mg_of X G a0⟩
  c_are_signs := cd0
  t_are_signs := tb0
  k_are_signs := ⟨⟨oc0, od0, kV0, dc0, pm0, an0, ct0, sl0, rfl, l0, c0⟩⟩
  d_can_be_a_set := ⟨f1, _, fun_mk (st := s_can_be_a_set) l1 c1 k1, (fun_mk (st := s_can_be_a_set) l1 c1 k1).binds fun _ _ _ _ _ _ us hl => match us, hl with | [_], _ => rfl, PySem.W.mg_of X G a1⟩
  d_check_sheet := ⟨f2, _, fun_mk (st := s_check_sheet) l2 c2 k2, (fun_mk (st := s_check_sheet) l2 c2 k2).binds fun _ _ _ _ _ _ us hl => match us, hl with | [_], _ => rfl, PySem.W.mg_of X G a2⟩
  d_check_tape := ⟨f3, _, fun_mk (st := s_check_tape) l3 c3 k3, (fun_mk (st := s_check_tape) l3 c3 k3).binds fun _ _ _ _ _ _ us hl => match us, hl with | [_, _], _ => rfl, PySem.W.mg_of X G a3⟩
  d_check_set := ⟨f4, _, fun_mk (st := s_check_set) l4 c4 k4, (fun_mk (st := s_check_set) l4 c4 k4).binds fun _ _ _ _ _ _ us hl => match us, hl with | [_], _ => rfl, PySem.W.mg_of X G a4⟩
  d_check_text := ⟨f5, _, fun_mk (st := s_check_text) l5 c5 k5, (fun_mk (st := s_check_text) l5 c5 k5).binds fun _ _ _ _ _ _ us hl => match us, hl with | [_, _], _ => rfl, PySem.W.mg_of X G a5⟩
  d_check_count := ⟨f6, _, fun_mk (st := s_check_count) l6 c6 k6, (fun_mk (st := s_check_count) l6 c6 k6).binds fun _ _ _ _ _ _ us hl => match us, hl with | [_, _], _ => rfl, PySem.W.mg_of X G a6⟩
  d_check_begun := ⟨f7, _, fun_mk (st := s_check_begun) l7 c7 k7, (fun_mk (st := s_check_begun) l7 c7 k7).binds fun _ _ _ _ _ _ us hl => match us, hl with | [_, _, _], _ => rfl, PySem.W.mg_of X G a7⟩
  d_set_behind := ⟨f8, _, fun_mk (st := s_set_behind) l8 c8 k8, (fun_mk (st := s_set_behind) l8 c8 k8).binds fun _ _ _ _ _ _ us hl => match us, hl with | [_, _, _], _ => rfl, PySem.W.mg_of X G a8⟩
  d_walked := ⟨f9, _, fun_mk (st := s_walked) l9 c9 k9, (fun_mk (st := s_walked) l9 c9 k9).binds fun _ _ _ _ _ _ us hl => match us, hl with | [_, _, _], _ => rfl, PySem.W.mg_of X G a9⟩
  d_read := ⟨f10, _, fun_mk (st := s_read) l10 c10 k10, (fun_mk (st := s_read) l10 c10 k10).binds fun _ _ _ _ _ _ us hl => match us, hl with | [_, _, _], _ => rfl, PySem.W.mg_of X G a10⟩
  d_last_set := ⟨f11, _, fun_mk (st := s_last_set) l11 c11 k11, (fun_mk (st := s_last_set) l11 c11 k11).binds fun _ _ _ _ _ _ us hl => match us, hl with | [_, _, _], _ => rfl, PySem.W.mg_of X G a11⟩
  d_shift_places := ⟨f12, _, fun_mk (st := s_shift_places) l12 c12 k12, (fun_mk (st := s_shift_places) l12 c12 k12).binds fun _ _ _ _ _ _ us hl => match us, hl with | [_, _], _ => rfl, PySem.W.mg_of X G a12⟩
  d_text_without := ⟨f13, _, fun_mk (st := s_text_without) l13 c13 k13, (fun_mk (st := s_text_without) l13 c13 k13).binds fun _ _ _ _ _ _ us hl => match us, hl with | [_, _, _, _], _ => rfl, PySem.W.mg_of X G a13⟩
  d_count_unlike := ⟨f14, _, fun_mk (st := s_count_unlike) l14 c14 k14, (fun_mk (st := s_count_unlike) l14 c14 k14).binds fun _ _ _ _ _ _ us hl => match us, hl with | [_, _], _ => rfl, PySem.W.mg_of X G a14⟩
  d_spoilt := ⟨f15, _, fun_mk (st := s_spoilt) l15 c15 k15, (fun_mk (st := s_spoilt) l15 c15 k15).binds fun _ _ _ _ _ _ us hl => match us, hl with | [_, _, _], _ => rfl, PySem.W.mg_of X G a15⟩
  d_lost_at := ⟨f16, _, fun_mk (st := s_lost_at) l16 c16 k16, (fun_mk (st := s_lost_at) l16 c16 k16).binds fun _ _ _ _ _ _ us hl => match us, hl with | [_, _, _, _], _ => rfl, PySem.W.mg_of X G a16⟩
  d_with_code := ⟨f17, _, fun_mk (st := s_with_code) l17 c17 k17, (fun_mk (st := s_with_code) l17 c17 k17).binds fun _ _ _ _ _ _ us hl => match us, hl with | [_, _, _, _, _], _ => rfl, PySem.W.mg_of X G a17⟩
  d_with_shifts := ⟨f18, _, fun_mk (st := s_with_shifts) l18 c18 k18, (fun_mk (st := s_with_shifts) l18 c18 k18).binds fun _ _ _ _ _ _ us hl => match us, hl with | [_, _, _, _, _], _ => rfl, PySem.W.mg_of X G a18⟩
  d_with_sign_guarding := ⟨f19, _, fun_mk (st := s_with_sign_guarding) l19 c19 k19, (fun_mk (st := s_with_sign_guarding) l19 c19 k19).binds fun _ _ _ _ _ _ us hl => match us, hl with | [_, _, _, _], _ => rfl, PySem.W.mg_of X G a19⟩
  d_guarded := ⟨f20, _, fun_mk (st := s_guarded) l20 c20 k20, (fun_mk (st := s_guarded) l20 c20 k20).binds fun _ _ _ _ _ _ us hl => match us, hl with | [_, _, _, _], _ => rfl, PySem.W.mg_of X G a20⟩
  d_is_guarded := ⟨f21, _, fun_mk (st := s_is_guarded) l21 c21 k21, (fun_mk (st := s_is_guarded) l21 c21 k21).binds fun _ _ _ _ _ _ us hl => match us, hl with | [_, _, _, _], _ => rfl, PySem.W.mg_of X G a21⟩
  d_shift_ahead := ⟨f22, _, fun_mk (st := s_shift_ahead) l22 c22 k22, (fun_mk (st := s_shift_ahead) l22 c22 k22).binds fun _ _ _ _ _ _ us hl => match us, hl with | [_, _, _, _], _ => rfl, PySem.W.mg_of X G a22⟩
  d_joined := ⟨f23, _, fun_mk (st := s_joined) l23 c23 k23, (fun_mk (st := s_joined) l23 c23 k23).binds fun _ _ _ _ _ _ us hl => match us, hl with | [_, _, _], _ => rfl, PySem.W.mg_of X G a23⟩
  d_cut := ⟨f24, _, fun_mk (st := s_cut) l24 c24 k24, (fun_mk (st := s_cut) l24 c24 k24).binds fun _ _ _ _ _ _ us hl => match us, hl with | [_, _, _, _], _ => rfl, PySem.W.mg_of X G a24⟩
  d_code_of := ⟨f25, _, fun_mk (st := s_code_of) l25 c25 k25, (fun_mk (st := s_code_of) l25 c25 k25).binds fun _ _ _ _ _ _ us hl => match us, hl with | [_, _, _], _ => rfl, PySem.W.mg_of X G a25⟩
  d_without_shift := ⟨f26, _, fun_mk (st := s_without_shift) l26 c26 k26, (fun_mk (st := s_without_shift) l26 c26 k26).binds fun _ _ _ _ _ _ us hl => match us, hl with | [_, _, _, _], _ => rfl, PySem.W.mg_of X G a26⟩
  d_first_of := ⟨f27, _, fun_mk (st := s_first_of) l27 c27 k27, (fun_mk (st := s_first_of) l27 c27 k27).binds fun _ _ _ _ _ _ us hl => match us, hl with | [_], _ => rfl, PySem.W.mg_of X G a27⟩
  c_first_of := cd27
  t_first_of := tb27
  k_first_of := ⟨⟨oc27, od27, kV27, dc27, pm27, an27, ct27, sl27, rfl, l27, c27⟩⟩
  d_with_sign_shortest := ⟨f28, _, fun_mk (st := s_with_sign_shortest) l28 c28 k28, (fun_mk (st := s_with_sign_shortest) l28 c28 k28).binds fun _ _ _ _ _ _ us hl => match us, hl with | [_, _, _], _ => rfl, PySem.W.mg_of X G a28⟩
  d_best_tapes := ⟨f29, _, fun_mk (st := s_best_tapes) l29 c29 k29, (fun_mk (st := s_best_tapes) l29 c29 k29).binds fun _ _ _ _ _ _ us hl => match us, hl with | [_, _], _ => rfl, PySem.W.mg_of X G a29⟩
  d_shortest := ⟨f30, _, fun_mk (st := s_shortest) l30 c30 k30, (fun_mk (st := s_shortest) l30 c30 k30).binds fun _ _ _ _ _ _ us hl => match us, hl with | [_, _, _], _ => rfl, PySem.W.mg_of X G a30⟩
  d_either := ⟨f31, _, fun_mk (st := s_either) l31 c31 k31, (fun_mk (st := s_either) l31 c31 k31).binds fun _ _ _ _ _ _ us hl => match us, hl with | [_, _], _ => rfl, PySem.W.mg_of X G a31⟩
  d_written := ⟨f32, _, fun_mk (st := s_written) l32 c32 k32, (fun_mk (st := s_written) l32 c32 k32).binds fun _ _ _ _ _ _ us hl => match us, hl with | [_], _ => rfl, PySem.W.mg_of X G a32⟩
  d_l_begun := ⟨f33, _, fun_mk (st := s_l_begun) l33 c33 k33, (fun_mk (st := s_l_begun) l33 c33 k33).binds fun _ _ _ _ _ _ us hl => match us, hl with | [_], _ => rfl, PySem.W.mg_of X G a33⟩
  d_l_take := ⟨f34, _, fun_mk (st := s_l_take) l34 c34 k34, (fun_mk (st := s_l_take) l34 c34 k34).binds fun _ _ _ _ _ _ us hl => match us, hl with | [_, _], _ => rfl, PySem.W.mg_of X G a34⟩
  d_l_alike := ⟨f35, _, fun_mk (st := s_l_alike) l35 c35 k35, (fun_mk (st := s_l_alike) l35 c35 k35).binds fun _ _ _ _ _ _ us hl => match us, hl with | [_, _], _ => rfl, PySem.W.mg_of X G a35⟩
  d_l_class := ⟨f36, _, fun_mk (st := s_l_class) l36 c36 k36, (fun_mk (st := s_l_class) l36 c36 k36).binds fun _ _ _ _ _ _ us hl => match us, hl with | [_], _ => rfl, PySem.W.mg_of X G a36⟩
  d_l_picked := ⟨f37, _, fun_mk (st := s_l_picked) l37 c37 k37, (fun_mk (st := s_l_picked) l37 c37 k37).binds fun _ _ _ _ _ _ us hl => match us, hl with | [_, _, _], _ => rfl, PySem.W.mg_of X G a37⟩
  d_l_sheet := ⟨f38, _, fun_mk (st := s_l_sheet) l38 c38 k38, (fun_mk (st := s_l_sheet) l38 c38 k38).binds fun _ _ _ _ _ _ us hl => match us, hl with | [_, _], _ => rfl, PySem.W.mg_of X G a38⟩
  d_l_text := ⟨f39, _, fun_mk (st := s_l_text) l39 c39 k39, (fun_mk (st := s_l_text) l39 c39 k39).binds fun _ _ _ _ _ _ us hl => match us, hl with | [_, _, _], _ => rfl, PySem.W.mg_of X G a39⟩
  d_l_refused := ⟨f40, _, fun_mk (st := s_l_refused) l40 c40 k40, (fun_mk (st := s_l_refused) l40 c40 k40).binds fun _ _ _ _ _ _ us hl => match us, hl with | [_], _ => rfl, PySem.W.mg_of X G a40⟩
  d_l_all := ⟨f41, _, fun_mk (st := s_l_all) l41 c41 k41, (fun_mk (st := s_l_all) l41 c41 k41).binds fun _ _ _ _ _ _ us hl => match us, hl with | [_, _], _ => rfl, PySem.W.mg_of X G a41⟩
  d_l_bad := ⟨f42, _, fun_mk (st := s_l_bad) l42 c42 k42, (fun_mk (st := s_l_bad) l42 c42 k42).binds fun _ _ _ _ _ _ us hl => match us, hl with | [_, _], _ => rfl, PySem.W.mg_of X G a42⟩
  d_l_of_tapes := ⟨f43, _, fun_mk (st := s_l_of_tapes) l43 c43 k43, (fun_mk (st := s_l_of_tapes) l43 c43 k43).binds fun _ _ _ _ _ _ us hl => match us, hl with | [_, _, _, _], _ => rfl, PySem.W.mg_of X G a43⟩
  c_l_of_tapes := cd43
  t_l_of_tapes := tb43
  k_l_of_tapes := ⟨⟨oc43, od43, kV43, dc43, pm43, an43, ct43, sl43, rfl, l43, c43⟩⟩
  d_l_of_texts := ⟨f44, _, fun_mk (st := s_l_of_texts) l44 c44 k44, (fun_mk (st := s_l_of_texts) l44 c44 k44).binds fun _ _ _ _ _ _ us hl => match us, hl with | [_, _, _, _], _ => rfl, PySem.W.mg_of X G a44⟩
  c_l_of_texts := cd44
  t_l_of_texts := tb44
  k_l_of_texts := ⟨⟨oc44, od44, kV44, dc44, pm44, an44, ct44, sl44, rfl, l44, c44⟩⟩
  d_l_sheets := ⟨f45, _, fun_mk (st := s_l_sheets) l45 c45 k45, (fun_mk (st := s_l_sheets) l45 c45 k45).binds fun _ _ _ _ _ _ us hl => match us, hl with | [_, _], _ => rfl, PySem.W.mg_of X G a45⟩
  c_l_sheets := cd45
  t_l_sheets := tb45
  k_l_sheets := ⟨⟨oc45, od45, kV45, dc45, pm45, an45, ct45, sl45, rfl, l45, c45⟩⟩
  d_l_tapes := ⟨f46, _, fun_mk (st := s_l_tapes) l46 c46 k46, (fun_mk (st := s_l_tapes) l46 c46 k46).binds fun _ _ _ _ _ _ us hl => match us, hl with | [_, _, _], _ => rfl, PySem.W.mg_of X G a46⟩
  d_law := ⟨f47, _, fun_mk (st := s_law) l47 c47 k47, (fun_mk (st := s_law) l47 c47 k47).binds fun _ _ _ _ _ _ us hl => match us, hl with | [_], _ => rfl, PySem.W.mg_of X G a47⟩
  c_law := cd47
  t_law := tb47
  k_law := ⟨⟨oc47, od47, kV47, dc47, pm47, an47, ct47, sl47, rfl, l47, c47⟩⟩
  n_ValueError := PySem.W.mg_none_of X G z_ValueError
  n_all := PySem.W.mg_none_of X G z_all
  n_bool := PySem.W.mg_none_of X G z_bool
  n_enumerate := PySem.W.mg_none_of X G z_enumerate
  n_int := PySem.W.mg_none_of X G z_int
  n_isinstance := PySem.W.mg_none_of X G z_isinstance
  n_len := PySem.W.mg_none_of X G z_len
  n_list := PySem.W.mg_none_of X G z_list
  n_min := PySem.W.mg_none_of X G z_min
  n_range := PySem.W.mg_none_of X G z_range
  n_reversed := PySem.W.mg_none_of X G z_reversed
  n_set := PySem.W.mg_none_of X G z_set
  n_str := PySem.W.mg_none_of X G z_str
  n_sum := PySem.W.mg_none_of X G z_sum
  n_tuple := PySem.W.mg_none_of X G z_tuple
  n_zip := PySem.W.mg_none_of X G z_zip
  c_EITHER := ⟨_, PySem.W.mg_of X G y_EITHER⟩
  c_MOST_CODES := ⟨_, PySem.W.mg_of X G y_MOST_CODES⟩
  c_MOST_PLACES := ⟨_, PySem.W.mg_of X G y_MOST_PLACES⟩
  c_MOST_SIGNS := ⟨_, PySem.W.mg_of X G y_MOST_SIGNS⟩
  c_NO_HOME := ⟨_, PySem.W.mg_of X G y_NO_HOME⟩
  c_SAFE := ⟨_, PySem.W.mg_of X G y_SAFE⟩
  C_TapeError := C_TapeError
  bc := ⟨PySem.W.mg_of X G g_TapeError, t_rd, t_sg, t_fc⟩
  ob := ⟨hn, ht⟩
  C_BadSheet := C_BadSheet
  x_BadSheet := ⟨PySem.W.mg_of X G g_BadSheet, kp_BadSheet, sb_BadSheet, ty_BadSheet, ci_BadSheet, ga_BadSheet, gg_BadSheet, hd_BadSheet, cl_BadSheet, mr_BadSheet⟩
  kd_BadSheet := Kt.kind_mk (x := "BadSheet") ⟨PySem.W.mg_of X G g_BadSheet, kp_BadSheet, sb_BadSheet, ty_BadSheet, ci_BadSheet, ga_BadSheet, gg_BadSheet, hd_BadSheet, cl_BadSheet, mr_BadSheet⟩ rfl (Kt.kit_ref ci_BadSheet ty_BadSheet su_BadSheet_BadSheet su_BadSheet_BadSheet) (Kt.kit_ref ci_BadSet ty_BadSet su_BadSheet_BadSheet su_BadSheet_BadSet) (Kt.kit_ref ci_BadTape ty_BadTape su_BadSheet_BadSheet su_BadSheet_BadTape) (Kt.kit_ref ci_NoSign ty_NoSign su_BadSheet_BadSheet su_BadSheet_NoSign) (Kt.kit_ref ci_BadCount ty_BadCount su_BadSheet_BadSheet su_BadSheet_BadCount) (Kt.kit_ref ci_BadText ty_BadText su_BadSheet_BadSheet su_BadSheet_BadText) (Kt.kit_ve kv_BadSheet) (PySem.W.exm_ref t_sb t_hd t_ty em_BadSheet)
  q_BadSheet := q_BadSheet
  C_BadSet := C_BadSet
  x_BadSet := ⟨PySem.W.mg_of X G g_BadSet, kp_BadSet, sb_BadSet, ty_BadSet, ci_BadSet, ga_BadSet, gg_BadSet, hd_BadSet, cl_BadSet, mr_BadSet⟩
  kd_BadSet := Kt.kind_mk (x := "BadSet") ⟨PySem.W.mg_of X G g_BadSet, kp_BadSet, sb_BadSet, ty_BadSet, ci_BadSet, ga_BadSet, gg_BadSet, hd_BadSet, cl_BadSet, mr_BadSet⟩ rfl (Kt.kit_ref ci_BadSheet ty_BadSheet su_BadSet_BadSet su_BadSet_BadSheet) (Kt.kit_ref ci_BadSet ty_BadSet su_BadSet_BadSet su_BadSet_BadSet) (Kt.kit_ref ci_BadTape ty_BadTape su_BadSet_BadSet su_BadSet_BadTape) (Kt.kit_ref ci_NoSign ty_NoSign su_BadSet_BadSet su_BadSet_NoSign) (Kt.kit_ref ci_BadCount ty_BadCount su_BadSet_BadSet su_BadSet_BadCount) (Kt.kit_ref ci_BadText ty_BadText su_BadSet_BadSet su_BadSet_BadText) (Kt.kit_ve kv_BadSet) (PySem.W.exm_ref t_sb t_hd t_ty em_BadSet)
  q_BadSet := q_BadSet
  C_BadTape := C_BadTape
  x_BadTape := ⟨PySem.W.mg_of X G g_BadTape, kp_BadTape, sb_BadTape, ty_BadTape, ci_BadTape, ga_BadTape, gg_BadTape, hd_BadTape, cl_BadTape, mr_BadTape⟩
  kd_BadTape := Kt.kind_mk (x := "BadTape") ⟨PySem.W.mg_of X G g_BadTape, kp_BadTape, sb_BadTape, ty_BadTape, ci_BadTape, ga_BadTape, gg_BadTape, hd_BadTape, cl_BadTape, mr_BadTape⟩ rfl (Kt.kit_ref ci_BadSheet ty_BadSheet su_BadTape_BadTape su_BadTape_BadSheet) (Kt.kit_ref ci_BadSet ty_BadSet su_BadTape_BadTape su_BadTape_BadSet) (Kt.kit_ref ci_BadTape ty_BadTape su_BadTape_BadTape su_BadTape_BadTape) (Kt.kit_ref ci_NoSign ty_NoSign su_BadTape_BadTape su_BadTape_NoSign) (Kt.kit_ref ci_BadCount ty_BadCount su_BadTape_BadTape su_BadTape_BadCount) (Kt.kit_ref ci_BadText ty_BadText su_BadTape_BadTape su_BadTape_BadText) (Kt.kit_ve kv_BadTape) (PySem.W.exm_ref t_sb t_hd t_ty em_BadTape)
  in_BadTape := ⟨F_BadTape, _, ⟨⟨_, _, _, _, _, _, _, _, _, _, _, _, _, _, _, l_BadTape, rv_BadTape⟩, sa_BadTape, sb_BadTape, ty_BadTape, kp_BadTape⟩, ii_BadTape, ti_BadTape, fun_mk (st := s_init_BadTape) fl_BadTape fc_BadTape fk_BadTape, (fun_mk (st := s_init_BadTape) fl_BadTape fc_BadTape fk_BadTape).binds fun _ _ _ _ _ _ us hl => match us, hl with | [_, _], _ => rfl, no_BadTape⟩
  C_NoSign := C_NoSign
  x_NoSign := ⟨PySem.W.mg_of X G g_NoSign, kp_NoSign, sb_NoSign, ty_NoSign, ci_NoSign, ga_NoSign, gg_NoSign, hd_NoSign, cl_NoSign, mr_NoSign⟩
  kd_NoSign := Kt.kind_mk (x := "NoSign") ⟨PySem.W.mg_of X G g_NoSign, kp_NoSign, sb_NoSign, ty_NoSign, ci_NoSign, ga_NoSign, gg_NoSign, hd_NoSign, cl_NoSign, mr_NoSign⟩ rfl (Kt.kit_ref ci_BadSheet ty_BadSheet su_NoSign_NoSign su_NoSign_BadSheet) (Kt.kit_ref ci_BadSet ty_BadSet su_NoSign_NoSign su_NoSign_BadSet) (Kt.kit_ref ci_BadTape ty_BadTape su_NoSign_NoSign su_NoSign_BadTape) (Kt.kit_ref ci_NoSign ty_NoSign su_NoSign_NoSign su_NoSign_NoSign) (Kt.kit_ref ci_BadCount ty_BadCount su_NoSign_NoSign su_NoSign_BadCount) (Kt.kit_ref ci_BadText ty_BadText su_NoSign_NoSign su_NoSign_BadText) (Kt.kit_ve kv_NoSign) (PySem.W.exm_ref t_sb t_hd t_ty em_NoSign)
  in_NoSign := ⟨F_NoSign, _, ⟨⟨_, _, _, _, _, _, _, _, _, _, _, _, _, _, _, l_NoSign, rv_NoSign⟩, sa_NoSign, sb_NoSign, ty_NoSign, kp_NoSign⟩, ii_NoSign, ti_NoSign, fun_mk (st := s_init_NoSign) fl_NoSign fc_NoSign fk_NoSign, (fun_mk (st := s_init_NoSign) fl_NoSign fc_NoSign fk_NoSign).binds fun _ _ _ _ _ _ us hl => match us, hl with | [_, _], _ => rfl, no_NoSign⟩
  C_BadCount := C_BadCount
  x_BadCount := ⟨PySem.W.mg_of X G g_BadCount, kp_BadCount, sb_BadCount, ty_BadCount, ci_BadCount, ga_BadCount, gg_BadCount, hd_BadCount, cl_BadCount, mr_BadCount⟩
  kd_BadCount := Kt.kind_mk (x := "BadCount") ⟨PySem.W.mg_of X G g_BadCount, kp_BadCount, sb_BadCount, ty_BadCount, ci_BadCount, ga_BadCount, gg_BadCount, hd_BadCount, cl_BadCount, mr_BadCount⟩ rfl (Kt.kit_ref ci_BadSheet ty_BadSheet su_BadCount_BadCount su_BadCount_BadSheet) (Kt.kit_ref ci_BadSet ty_BadSet su_BadCount_BadCount su_BadCount_BadSet) (Kt.kit_ref ci_BadTape ty_BadTape su_BadCount_BadCount su_BadCount_BadTape) (Kt.kit_ref ci_NoSign ty_NoSign su_BadCount_BadCount su_BadCount_NoSign) (Kt.kit_ref ci_BadCount ty_BadCount su_BadCount_BadCount su_BadCount_BadCount) (Kt.kit_ref ci_BadText ty_BadText su_BadCount_BadCount su_BadCount_BadText) (Kt.kit_ve kv_BadCount) (PySem.W.exm_ref t_sb t_hd t_ty em_BadCount)
  q_BadCount := q_BadCount
  C_BadText := C_BadText
  x_BadText := ⟨PySem.W.mg_of X G g_BadText, kp_BadText, sb_BadText, ty_BadText, ci_BadText, ga_BadText, gg_BadText, hd_BadText, cl_BadText, mr_BadText⟩
  kd_BadText := Kt.kind_mk (x := "BadText") ⟨PySem.W.mg_of X G g_BadText, kp_BadText, sb_BadText, ty_BadText, ci_BadText, ga_BadText, gg_BadText, hd_BadText, cl_BadText, mr_BadText⟩ rfl (Kt.kit_ref ci_BadSheet ty_BadSheet su_BadText_BadText su_BadText_BadSheet) (Kt.kit_ref ci_BadSet ty_BadSet su_BadText_BadText su_BadText_BadSet) (Kt.kit_ref ci_BadTape ty_BadTape su_BadText_BadText su_BadText_BadTape) (Kt.kit_ref ci_NoSign ty_NoSign su_BadText_BadText su_BadText_NoSign) (Kt.kit_ref ci_BadCount ty_BadCount su_BadText_BadText su_BadText_BadCount) (Kt.kit_ref ci_BadText ty_BadText su_BadText_BadText su_BadText_BadText) (Kt.kit_ve kv_BadText) (PySem.W.exm_ref t_sb t_hd t_ty em_BadText)
  in_BadText := ⟨F_BadText, _, ⟨⟨_, _, _, _, _, _, _, _, _, _, _, _, _, _, _, l_BadText, rv_BadText⟩, sa_BadText, sb_BadText, ty_BadText, kp_BadText⟩, ii_BadText, ti_BadText, fun_mk (st := s_init_BadText) fl_BadText fc_BadText fk_BadText, (fun_mk (st := s_init_BadText) fl_BadText fc_BadText fk_BadText).binds fun _ _ _ _ _ _ us hl => match us, hl with | [_, _], _ => rfl, no_BadText⟩
set_option maxHeartbeats 0 in
theorem law_at {w : World} {K : PySem.W.Frag} {h : Heap} {mg : Str → Option Value} {q : Program} {fa f0 tb0 f1 f2 f3 f4 f5 f6 f7 f8 f9 f10 f11 f12 f13 f14 f15 f16 f17 f18 f19 f20 f21 f22 f23 f24 f25 f26 f27 tb27 f28 f29 f30 f31 f32 f33 f34 f35 f36 f37 f38 f39 f40 f41 f42 f43 tb43 f44 tb44 f45 tb45 f46 f47 tb47 C_BadSheet C_BadSet C_BadTape C_NoSign C_BadCount C_BadText C_TapeError F_BadTape F_NoSign F_BadText : Addr} (X : K.In h) (G : h.Ns mainGlobals mg) (hmg : mg "law" = some (.ref fa))
    (tabs : ∀ (y : Str) (c P : Addr), ((recsOf q).any fun r => r.name == y) = true → PySem.W.tabIn K y = some (c, P) → PySem.W.CodeHd h c P ∧ h.get? P = some (PySem.W.tabObj #[]))
    {oc0 : Value} {od0 an0 : Option Addr} {sl0 : Array (Option Value)} {kV0 dc0 pm0 ct0 : Value} {cd0 : Addr}
    (a0 : PySem.W.nsIn K mainGlobals "are_signs" = some (some (.ref f0))) (l0 : K.lookup f0 = some ⟨oc0, od0, .func (PySem.W.fnOf "are_signs" "are_signs" (defArgs s_are_signs) (defBody s_are_signs) (defScope s_are_signs) .none kV0 dc0 pm0 an0 (.ref cd0) ct0), sl0⟩) (c0 : PySem.W.codeIn K (.ref cd0) "are_signs" = true) (k0 : PySem.W.keepIn K (.ref f0) = true)
    {oc1 : Value} {od1 an1 : Option Addr} {sl1 : Array (Option Value)} {kV1 dc1 pm1 ct1 : Value} {cd1 : Value}
    (a1 : PySem.W.nsIn K mainGlobals "_can_be_a_set" = some (some (.ref f1))) (l1 : K.lookup f1 = some ⟨oc1, od1, .func (PySem.W.fnOf "_can_be_a_set" "_can_be_a_set" (defArgs s_can_be_a_set) (defBody s_can_be_a_set) (defScope s_can_be_a_set) .none kV1 dc1 pm1 an1 cd1 ct1), sl1⟩) (c1 : PySem.W.codeIn K cd1 "_can_be_a_set" = true) (k1 : PySem.W.keepIn K (.ref f1) = true)
    {oc2 : Value} {od2 an2 : Option Addr} {sl2 : Array (Option Value)} {kV2 dc2 pm2 ct2 : Value} {cd2 : Value}
    (a2 : PySem.W.nsIn K mainGlobals "check_sheet" = some (some (.ref f2))) (l2 : K.lookup f2 = some ⟨oc2, od2, .func (PySem.W.fnOf "check_sheet" "check_sheet" (defArgs s_check_sheet) (defBody s_check_sheet) (defScope s_check_sheet) .none kV2 dc2 pm2 an2 cd2 ct2), sl2⟩) (c2 : PySem.W.codeIn K cd2 "check_sheet" = true) (k2 : PySem.W.keepIn K (.ref f2) = true)
    {oc3 : Value} {od3 an3 : Option Addr} {sl3 : Array (Option Value)} {kV3 dc3 pm3 ct3 : Value} {cd3 : Value}
    (a3 : PySem.W.nsIn K mainGlobals "check_tape" = some (some (.ref f3))) (l3 : K.lookup f3 = some ⟨oc3, od3, .func (PySem.W.fnOf "check_tape" "check_tape" (defArgs s_check_tape) (defBody s_check_tape) (defScope s_check_tape) .none kV3 dc3 pm3 an3 cd3 ct3), sl3⟩) (c3 : PySem.W.codeIn K cd3 "check_tape" = true) (k3 : PySem.W.keepIn K (.ref f3) = true)
    {oc4 : Value} {od4 an4 : Option Addr} {sl4 : Array (Option Value)} {kV4 dc4 pm4 ct4 : Value} {cd4 : Value}
    (a4 : PySem.W.nsIn K mainGlobals "check_set" = some (some (.ref f4))) (l4 : K.lookup f4 = some ⟨oc4, od4, .func (PySem.W.fnOf "check_set" "check_set" (defArgs s_check_set) (defBody s_check_set) (defScope s_check_set) .none kV4 dc4 pm4 an4 cd4 ct4), sl4⟩) (c4 : PySem.W.codeIn K cd4 "check_set" = true) (k4 : PySem.W.keepIn K (.ref f4) = true)
    {oc5 : Value} {od5 an5 : Option Addr} {sl5 : Array (Option Value)} {kV5 dc5 pm5 ct5 : Value} {cd5 : Value}
    (a5 : PySem.W.nsIn K mainGlobals "check_text" = some (some (.ref f5))) (l5 : K.lookup f5 = some ⟨oc5, od5, .func (PySem.W.fnOf "check_text" "check_text" (defArgs s_check_text) (defBody s_check_text) (defScope s_check_text) .none kV5 dc5 pm5 an5 cd5 ct5), sl5⟩) (c5 : PySem.W.codeIn K cd5 "check_text" = true) (k5 : PySem.W.keepIn K (.ref f5) = true)
    {oc6 : Value} {od6 an6 : Option Addr} {sl6 : Array (Option Value)} {kV6 dc6 pm6 ct6 : Value} {cd6 : Value}
    (a6 : PySem.W.nsIn K mainGlobals "check_count" = some (some (.ref f6))) (l6 : K.lookup f6 = some ⟨oc6, od6, .func (PySem.W.fnOf "check_count" "check_count" (defArgs s_check_count) (defBody s_check_count) (defScope s_check_count) .none kV6 dc6 pm6 an6 cd6 ct6), sl6⟩) (c6 : PySem.W.codeIn K cd6 "check_count" = true) (k6 : PySem.W.keepIn K (.ref f6) = true)
    {oc7 : Value} {od7 an7 : Option Addr} {sl7 : Array (Option Value)} {kV7 dc7 pm7 ct7 : Value} {cd7 : Value}
    (a7 : PySem.W.nsIn K mainGlobals "check_begun" = some (some (.ref f7))) (l7 : K.lookup f7 = some ⟨oc7, od7, .func (PySem.W.fnOf "check_begun" "check_begun" (defArgs s_check_begun) (defBody s_check_begun) (defScope s_check_begun) .none kV7 dc7 pm7 an7 cd7 ct7), sl7⟩) (c7 : PySem.W.codeIn K cd7 "check_begun" = true) (k7 : PySem.W.keepIn K (.ref f7) = true)
    {oc8 : Value} {od8 an8 : Option Addr} {sl8 : Array (Option Value)} {kV8 dc8 pm8 ct8 : Value} {cd8 : Value}
    (a8 : PySem.W.nsIn K mainGlobals "set_behind" = some (some (.ref f8))) (l8 : K.lookup f8 = some ⟨oc8, od8, .func (PySem.W.fnOf "set_behind" "set_behind" (defArgs s_set_behind) (defBody s_set_behind) (defScope s_set_behind) .none kV8 dc8 pm8 an8 cd8 ct8), sl8⟩) (c8 : PySem.W.codeIn K cd8 "set_behind" = true) (k8 : PySem.W.keepIn K (.ref f8) = true)
    {oc9 : Value} {od9 an9 : Option Addr} {sl9 : Array (Option Value)} {kV9 dc9 pm9 ct9 : Value} {cd9 : Value}
    (a9 : PySem.W.nsIn K mainGlobals "walked" = some (some (.ref f9))) (l9 : K.lookup f9 = some ⟨oc9, od9, .func (PySem.W.fnOf "walked" "walked" (defArgs s_walked) (defBody s_walked) (defScope s_walked) .none kV9 dc9 pm9 an9 cd9 ct9), sl9⟩) (c9 : PySem.W.codeIn K cd9 "walked" = true) (k9 : PySem.W.keepIn K (.ref f9) = true)
    {oc10 : Value} {od10 an10 : Option Addr} {sl10 : Array (Option Value)} {kV10 dc10 pm10 ct10 : Value} {cd10 : Value}
    (a10 : PySem.W.nsIn K mainGlobals "read" = some (some (.ref f10))) (l10 : K.lookup f10 = some ⟨oc10, od10, .func (PySem.W.fnOf "read" "read" (defArgs s_read) (defBody s_read) (defScope s_read) .none kV10 dc10 pm10 an10 cd10 ct10), sl10⟩) (c10 : PySem.W.codeIn K cd10 "read" = true) (k10 : PySem.W.keepIn K (.ref f10) = true)
    {oc11 : Value} {od11 an11 : Option Addr} {sl11 : Array (Option Value)} {kV11 dc11 pm11 ct11 : Value} {cd11 : Value}
    (a11 : PySem.W.nsIn K mainGlobals "last_set" = some (some (.ref f11))) (l11 : K.lookup f11 = some ⟨oc11, od11, .func (PySem.W.fnOf "last_set" "last_set" (defArgs s_last_set) (defBody s_last_set) (defScope s_last_set) .none kV11 dc11 pm11 an11 cd11 ct11), sl11⟩) (c11 : PySem.W.codeIn K cd11 "last_set" = true) (k11 : PySem.W.keepIn K (.ref f11) = true)
    {oc12 : Value} {od12 an12 : Option Addr} {sl12 : Array (Option Value)} {kV12 dc12 pm12 ct12 : Value} {cd12 : Value}
    (a12 : PySem.W.nsIn K mainGlobals "_shift_places" = some (some (.ref f12))) (l12 : K.lookup f12 = some ⟨oc12, od12, .func (PySem.W.fnOf "_shift_places" "_shift_places" (defArgs s_shift_places) (defBody s_shift_places) (defScope s_shift_places) .none kV12 dc12 pm12 an12 cd12 ct12), sl12⟩) (c12 : PySem.W.codeIn K cd12 "_shift_places" = true) (k12 : PySem.W.keepIn K (.ref f12) = true)
    {oc13 : Value} {od13 an13 : Option Addr} {sl13 : Array (Option Value)} {kV13 dc13 pm13 ct13 : Value} {cd13 : Value}
    (a13 : PySem.W.nsIn K mainGlobals "_text_without" = some (some (.ref f13))) (l13 : K.lookup f13 = some ⟨oc13, od13, .func (PySem.W.fnOf "_text_without" "_text_without" (defArgs s_text_without) (defBody s_text_without) (defScope s_text_without) .none kV13 dc13 pm13 an13 cd13 ct13), sl13⟩) (c13 : PySem.W.codeIn K cd13 "_text_without" = true) (k13 : PySem.W.keepIn K (.ref f13) = true)
    {oc14 : Value} {od14 an14 : Option Addr} {sl14 : Array (Option Value)} {kV14 dc14 pm14 ct14 : Value} {cd14 : Value}
    (a14 : PySem.W.nsIn K mainGlobals "_count_unlike" = some (some (.ref f14))) (l14 : K.lookup f14 = some ⟨oc14, od14, .func (PySem.W.fnOf "_count_unlike" "_count_unlike" (defArgs s_count_unlike) (defBody s_count_unlike) (defScope s_count_unlike) .none kV14 dc14 pm14 an14 cd14 ct14), sl14⟩) (c14 : PySem.W.codeIn K cd14 "_count_unlike" = true) (k14 : PySem.W.keepIn K (.ref f14) = true)
    {oc15 : Value} {od15 an15 : Option Addr} {sl15 : Array (Option Value)} {kV15 dc15 pm15 ct15 : Value} {cd15 : Value}
    (a15 : PySem.W.nsIn K mainGlobals "spoilt" = some (some (.ref f15))) (l15 : K.lookup f15 = some ⟨oc15, od15, .func (PySem.W.fnOf "spoilt" "spoilt" (defArgs s_spoilt) (defBody s_spoilt) (defScope s_spoilt) .none kV15 dc15 pm15 an15 cd15 ct15), sl15⟩) (c15 : PySem.W.codeIn K cd15 "spoilt" = true) (k15 : PySem.W.keepIn K (.ref f15) = true)
    {oc16 : Value} {od16 an16 : Option Addr} {sl16 : Array (Option Value)} {kV16 dc16 pm16 ct16 : Value} {cd16 : Value}
    (a16 : PySem.W.nsIn K mainGlobals "lost_at" = some (some (.ref f16))) (l16 : K.lookup f16 = some ⟨oc16, od16, .func (PySem.W.fnOf "lost_at" "lost_at" (defArgs s_lost_at) (defBody s_lost_at) (defScope s_lost_at) .none kV16 dc16 pm16 an16 cd16 ct16), sl16⟩) (c16 : PySem.W.codeIn K cd16 "lost_at" = true) (k16 : PySem.W.keepIn K (.ref f16) = true)
    {oc17 : Value} {od17 an17 : Option Addr} {sl17 : Array (Option Value)} {kV17 dc17 pm17 ct17 : Value} {cd17 : Value}
    (a17 : PySem.W.nsIn K mainGlobals "_with_code" = some (some (.ref f17))) (l17 : K.lookup f17 = some ⟨oc17, od17, .func (PySem.W.fnOf "_with_code" "_with_code" (defArgs s_with_code) (defBody s_with_code) (defScope s_with_code) .none kV17 dc17 pm17 an17 cd17 ct17), sl17⟩) (c17 : PySem.W.codeIn K cd17 "_with_code" = true) (k17 : PySem.W.keepIn K (.ref f17) = true)
    {oc18 : Value} {od18 an18 : Option Addr} {sl18 : Array (Option Value)} {kV18 dc18 pm18 ct18 : Value} {cd18 : Value}
    (a18 : PySem.W.nsIn K mainGlobals "_with_shifts" = some (some (.ref f18))) (l18 : K.lookup f18 = some ⟨oc18, od18, .func (PySem.W.fnOf "_with_shifts" "_with_shifts" (defArgs s_with_shifts) (defBody s_with_shifts) (defScope s_with_shifts) .none kV18 dc18 pm18 an18 cd18 ct18), sl18⟩) (c18 : PySem.W.codeIn K cd18 "_with_shifts" = true) (k18 : PySem.W.keepIn K (.ref f18) = true)
    {oc19 : Value} {od19 an19 : Option Addr} {sl19 : Array (Option Value)} {kV19 dc19 pm19 ct19 : Value} {cd19 : Value}
    (a19 : PySem.W.nsIn K mainGlobals "with_sign_guarding" = some (some (.ref f19))) (l19 : K.lookup f19 = some ⟨oc19, od19, .func (PySem.W.fnOf "_with_sign" "_with_sign" (defArgs s_with_sign_guarding) (defBody s_with_sign_guarding) (defScope s_with_sign_guarding) .none kV19 dc19 pm19 an19 cd19 ct19), sl19⟩) (c19 : PySem.W.codeIn K cd19 "_with_sign" = true) (k19 : PySem.W.keepIn K (.ref f19) = true)
    {oc20 : Value} {od20 an20 : Option Addr} {sl20 : Array (Option Value)} {kV20 dc20 pm20 ct20 : Value} {cd20 : Value}
    (a20 : PySem.W.nsIn K mainGlobals "guarded" = some (some (.ref f20))) (l20 : K.lookup f20 = some ⟨oc20, od20, .func (PySem.W.fnOf "guarded" "guarded" (defArgs s_guarded) (defBody s_guarded) (defScope s_guarded) .none kV20 dc20 pm20 an20 cd20 ct20), sl20⟩) (c20 : PySem.W.codeIn K cd20 "guarded" = true) (k20 : PySem.W.keepIn K (.ref f20) = true)
    {oc21 : Value} {od21 an21 : Option Addr} {sl21 : Array (Option Value)} {kV21 dc21 pm21 ct21 : Value} {cd21 : Value}
    (a21 : PySem.W.nsIn K mainGlobals "is_guarded" = some (some (.ref f21))) (l21 : K.lookup f21 = some ⟨oc21, od21, .func (PySem.W.fnOf "is_guarded" "is_guarded" (defArgs s_is_guarded) (defBody s_is_guarded) (defScope s_is_guarded) .none kV21 dc21 pm21 an21 cd21 ct21), sl21⟩) (c21 : PySem.W.codeIn K cd21 "is_guarded" = true) (k21 : PySem.W.keepIn K (.ref f21) = true)
    {oc22 : Value} {od22 an22 : Option Addr} {sl22 : Array (Option Value)} {kV22 dc22 pm22 ct22 : Value} {cd22 : Value}
    (a22 : PySem.W.nsIn K mainGlobals "_shift_ahead" = some (some (.ref f22))) (l22 : K.lookup f22 = some ⟨oc22, od22, .func (PySem.W.fnOf "_shift_ahead" "_shift_ahead" (defArgs s_shift_ahead) (defBody s_shift_ahead) (defScope s_shift_ahead) .none kV22 dc22 pm22 an22 cd22 ct22), sl22⟩) (c22 : PySem.W.codeIn K cd22 "_shift_ahead" = true) (k22 : PySem.W.keepIn K (.ref f22) = true)
    {oc23 : Value} {od23 an23 : Option Addr} {sl23 : Array (Option Value)} {kV23 dc23 pm23 ct23 : Value} {cd23 : Value}
    (a23 : PySem.W.nsIn K mainGlobals "joined" = some (some (.ref f23))) (l23 : K.lookup f23 = some ⟨oc23, od23, .func (PySem.W.fnOf "joined" "joined" (defArgs s_joined) (defBody s_joined) (defScope s_joined) .none kV23 dc23 pm23 an23 cd23 ct23), sl23⟩) (c23 : PySem.W.codeIn K cd23 "joined" = true) (k23 : PySem.W.keepIn K (.ref f23) = true)
    {oc24 : Value} {od24 an24 : Option Addr} {sl24 : Array (Option Value)} {kV24 dc24 pm24 ct24 : Value} {cd24 : Value}
    (a24 : PySem.W.nsIn K mainGlobals "cut" = some (some (.ref f24))) (l24 : K.lookup f24 = some ⟨oc24, od24, .func (PySem.W.fnOf "cut" "cut" (defArgs s_cut) (defBody s_cut) (defScope s_cut) .none kV24 dc24 pm24 an24 cd24 ct24), sl24⟩) (c24 : PySem.W.codeIn K cd24 "cut" = true) (k24 : PySem.W.keepIn K (.ref f24) = true)
    {oc25 : Value} {od25 an25 : Option Addr} {sl25 : Array (Option Value)} {kV25 dc25 pm25 ct25 : Value} {cd25 : Value}
    (a25 : PySem.W.nsIn K mainGlobals "_code_of" = some (some (.ref f25))) (l25 : K.lookup f25 = some ⟨oc25, od25, .func (PySem.W.fnOf "_code_of" "_code_of" (defArgs s_code_of) (defBody s_code_of) (defScope s_code_of) .none kV25 dc25 pm25 an25 cd25 ct25), sl25⟩) (c25 : PySem.W.codeIn K cd25 "_code_of" = true) (k25 : PySem.W.keepIn K (.ref f25) = true)
    {oc26 : Value} {od26 an26 : Option Addr} {sl26 : Array (Option Value)} {kV26 dc26 pm26 ct26 : Value} {cd26 : Value}
    (a26 : PySem.W.nsIn K mainGlobals "_without_shift" = some (some (.ref f26))) (l26 : K.lookup f26 = some ⟨oc26, od26, .func (PySem.W.fnOf "_without_shift" "_without_shift" (defArgs s_without_shift) (defBody s_without_shift) (defScope s_without_shift) .none kV26 dc26 pm26 an26 cd26 ct26), sl26⟩) (c26 : PySem.W.codeIn K cd26 "_without_shift" = true) (k26 : PySem.W.keepIn K (.ref f26) = true)
    {oc27 : Value} {od27 an27 : Option Addr} {sl27 : Array (Option Value)} {kV27 dc27 pm27 ct27 : Value} {cd27 : Addr}
    (a27 : PySem.W.nsIn K mainGlobals "_first_of" = some (some (.ref f27))) (l27 : K.lookup f27 = some ⟨oc27, od27, .func (PySem.W.fnOf "_first_of" "_first_of" (defArgs s_first_of) (defBody s_first_of) (defScope s_first_of) .none kV27 dc27 pm27 an27 (.ref cd27) ct27), sl27⟩) (c27 : PySem.W.codeIn K (.ref cd27) "_first_of" = true) (k27 : PySem.W.keepIn K (.ref f27) = true)
    {oc28 : Value} {od28 an28 : Option Addr} {sl28 : Array (Option Value)} {kV28 dc28 pm28 ct28 : Value} {cd28 : Value}
    (a28 : PySem.W.nsIn K mainGlobals "with_sign_shortest" = some (some (.ref f28))) (l28 : K.lookup f28 = some ⟨oc28, od28, .func (PySem.W.fnOf "_with_sign" "_with_sign" (defArgs s_with_sign_shortest) (defBody s_with_sign_shortest) (defScope s_with_sign_shortest) .none kV28 dc28 pm28 an28 cd28 ct28), sl28⟩) (c28 : PySem.W.codeIn K cd28 "_with_sign" = true) (k28 : PySem.W.keepIn K (.ref f28) = true)
    {oc29 : Value} {od29 an29 : Option Addr} {sl29 : Array (Option Value)} {kV29 dc29 pm29 ct29 : Value} {cd29 : Value}
    (a29 : PySem.W.nsIn K mainGlobals "_best_tapes" = some (some (.ref f29))) (l29 : K.lookup f29 = some ⟨oc29, od29, .func (PySem.W.fnOf "_best_tapes" "_best_tapes" (defArgs s_best_tapes) (defBody s_best_tapes) (defScope s_best_tapes) .none kV29 dc29 pm29 an29 cd29 ct29), sl29⟩) (c29 : PySem.W.codeIn K cd29 "_best_tapes" = true) (k29 : PySem.W.keepIn K (.ref f29) = true)
    {oc30 : Value} {od30 an30 : Option Addr} {sl30 : Array (Option Value)} {kV30 dc30 pm30 ct30 : Value} {cd30 : Value}
    (a30 : PySem.W.nsIn K mainGlobals "shortest" = some (some (.ref f30))) (l30 : K.lookup f30 = some ⟨oc30, od30, .func (PySem.W.fnOf "shortest" "shortest" (defArgs s_shortest) (defBody s_shortest) (defScope s_shortest) .none kV30 dc30 pm30 an30 cd30 ct30), sl30⟩) (c30 : PySem.W.codeIn K cd30 "shortest" = true) (k30 : PySem.W.keepIn K (.ref f30) = true)
    {oc31 : Value} {od31 an31 : Option Addr} {sl31 : Array (Option Value)} {kV31 dc31 pm31 ct31 : Value} {cd31 : Value}
    (a31 : PySem.W.nsIn K mainGlobals "either" = some (some (.ref f31))) (l31 : K.lookup f31 = some ⟨oc31, od31, .func (PySem.W.fnOf "either" "either" (defArgs s_either) (defBody s_either) (defScope s_either) .none kV31 dc31 pm31 an31 cd31 ct31), sl31⟩) (c31 : PySem.W.codeIn K cd31 "either" = true) (k31 : PySem.W.keepIn K (.ref f31) = true)
    {oc32 : Value} {od32 an32 : Option Addr} {sl32 : Array (Option Value)} {kV32 dc32 pm32 ct32 : Value} {cd32 : Value}
    (a32 : PySem.W.nsIn K mainGlobals "written" = some (some (.ref f32))) (l32 : K.lookup f32 = some ⟨oc32, od32, .func (PySem.W.fnOf "written" "written" (defArgs s_written) (defBody s_written) (defScope s_written) .none kV32 dc32 pm32 an32 cd32 ct32), sl32⟩) (c32 : PySem.W.codeIn K cd32 "written" = true) (k32 : PySem.W.keepIn K (.ref f32) = true)
    {oc33 : Value} {od33 an33 : Option Addr} {sl33 : Array (Option Value)} {kV33 dc33 pm33 ct33 : Value} {cd33 : Value}
    (a33 : PySem.W.nsIn K mainGlobals "_law_begun" = some (some (.ref f33))) (l33 : K.lookup f33 = some ⟨oc33, od33, .func (PySem.W.fnOf "_law_begun" "_law_begun" (defArgs s_l_begun) (defBody s_l_begun) (defScope s_l_begun) .none kV33 dc33 pm33 an33 cd33 ct33), sl33⟩) (c33 : PySem.W.codeIn K cd33 "_law_begun" = true) (k33 : PySem.W.keepIn K (.ref f33) = true)
    {oc34 : Value} {od34 an34 : Option Addr} {sl34 : Array (Option Value)} {kV34 dc34 pm34 ct34 : Value} {cd34 : Value}
    (a34 : PySem.W.nsIn K mainGlobals "_law_take" = some (some (.ref f34))) (l34 : K.lookup f34 = some ⟨oc34, od34, .func (PySem.W.fnOf "_law_take" "_law_take" (defArgs s_l_take) (defBody s_l_take) (defScope s_l_take) .none kV34 dc34 pm34 an34 cd34 ct34), sl34⟩) (c34 : PySem.W.codeIn K cd34 "_law_take" = true) (k34 : PySem.W.keepIn K (.ref f34) = true)
    {oc35 : Value} {od35 an35 : Option Addr} {sl35 : Array (Option Value)} {kV35 dc35 pm35 ct35 : Value} {cd35 : Value}
    (a35 : PySem.W.nsIn K mainGlobals "_law_alike" = some (some (.ref f35))) (l35 : K.lookup f35 = some ⟨oc35, od35, .func (PySem.W.fnOf "_law_alike" "_law_alike" (defArgs s_l_alike) (defBody s_l_alike) (defScope s_l_alike) .none kV35 dc35 pm35 an35 cd35 ct35), sl35⟩) (c35 : PySem.W.codeIn K cd35 "_law_alike" = true) (k35 : PySem.W.keepIn K (.ref f35) = true)
    {oc36 : Value} {od36 an36 : Option Addr} {sl36 : Array (Option Value)} {kV36 dc36 pm36 ct36 : Value} {cd36 : Value}
    (a36 : PySem.W.nsIn K mainGlobals "_law_class" = some (some (.ref f36))) (l36 : K.lookup f36 = some ⟨oc36, od36, .func (PySem.W.fnOf "_law_class" "_law_class" (defArgs s_l_class) (defBody s_l_class) (defScope s_l_class) .none kV36 dc36 pm36 an36 cd36 ct36), sl36⟩) (c36 : PySem.W.codeIn K cd36 "_law_class" = true) (k36 : PySem.W.keepIn K (.ref f36) = true)
    {oc37 : Value} {od37 an37 : Option Addr} {sl37 : Array (Option Value)} {kV37 dc37 pm37 ct37 : Value} {cd37 : Value}
    (a37 : PySem.W.nsIn K mainGlobals "_law_picked" = some (some (.ref f37))) (l37 : K.lookup f37 = some ⟨oc37, od37, .func (PySem.W.fnOf "_law_picked" "_law_picked" (defArgs s_l_picked) (defBody s_l_picked) (defScope s_l_picked) .none kV37 dc37 pm37 an37 cd37 ct37), sl37⟩) (c37 : PySem.W.codeIn K cd37 "_law_picked" = true) (k37 : PySem.W.keepIn K (.ref f37) = true)
    {oc38 : Value} {od38 an38 : Option Addr} {sl38 : Array (Option Value)} {kV38 dc38 pm38 ct38 : Value} {cd38 : Value}
    (a38 : PySem.W.nsIn K mainGlobals "_law_sheet" = some (some (.ref f38))) (l38 : K.lookup f38 = some ⟨oc38, od38, .func (PySem.W.fnOf "_law_sheet" "_law_sheet" (defArgs s_l_sheet) (defBody s_l_sheet) (defScope s_l_sheet) .none kV38 dc38 pm38 an38 cd38 ct38), sl38⟩) (c38 : PySem.W.codeIn K cd38 "_law_sheet" = true) (k38 : PySem.W.keepIn K (.ref f38) = true)
    {oc39 : Value} {od39 an39 : Option Addr} {sl39 : Array (Option Value)} {kV39 dc39 pm39 ct39 : Value} {cd39 : Value}
    (a39 : PySem.W.nsIn K mainGlobals "_law_text" = some (some (.ref f39))) (l39 : K.lookup f39 = some ⟨oc39, od39, .func (PySem.W.fnOf "_law_text" "_law_text" (defArgs s_l_text) (defBody s_l_text) (defScope s_l_text) .none kV39 dc39 pm39 an39 cd39 ct39), sl39⟩) (c39 : PySem.W.codeIn K cd39 "_law_text" = true) (k39 : PySem.W.keepIn K (.ref f39) = true)
    {oc40 : Value} {od40 an40 : Option Addr} {sl40 : Array (Option Value)} {kV40 dc40 pm40 ct40 : Value} {cd40 : Value}
    (a40 : PySem.W.nsIn K mainGlobals "_law_refused" = some (some (.ref f40))) (l40 : K.lookup f40 = some ⟨oc40, od40, .func (PySem.W.fnOf "_law_refused" "_law_refused" (defArgs s_l_refused) (defBody s_l_refused) (defScope s_l_refused) .none kV40 dc40 pm40 an40 cd40 ct40), sl40⟩) (c40 : PySem.W.codeIn K cd40 "_law_refused" = true) (k40 : PySem.W.keepIn K (.ref f40) = true)
    {oc41 : Value} {od41 an41 : Option Addr} {sl41 : Array (Option Value)} {kV41 dc41 pm41 ct41 : Value} {cd41 : Value}
    (a41 : PySem.W.nsIn K mainGlobals "_law_all" = some (some (.ref f41))) (l41 : K.lookup f41 = some ⟨oc41, od41, .func (PySem.W.fnOf "_law_all" "_law_all" (defArgs s_l_all) (defBody s_l_all) (defScope s_l_all) .none kV41 dc41 pm41 an41 cd41 ct41), sl41⟩) (c41 : PySem.W.codeIn K cd41 "_law_all" = true) (k41 : PySem.W.keepIn K (.ref f41) = true)
    {oc42 : Value} {od42 an42 : Option Addr} {sl42 : Array (Option Value)} {kV42 dc42 pm42 ct42 : Value} {cd42 : Value}
    (a42 : PySem.W.nsIn K mainGlobals "_law_bad" = some (some (.ref f42))) (l42 : K.lookup f42 = some ⟨oc42, od42, .func (PySem.W.fnOf "_law_bad" "_law_bad" (defArgs s_l_bad) (defBody s_l_bad) (defScope s_l_bad) .none kV42 dc42 pm42 an42 cd42 ct42), sl42⟩) (c42 : PySem.W.codeIn K cd42 "_law_bad" = true) (k42 : PySem.W.keepIn K (.ref f42) = true)
    {oc43 : Value} {od43 an43 : Option Addr} {sl43 : Array (Option Value)} {kV43 dc43 pm43 ct43 : Value} {cd43 : Addr}
    (a43 : PySem.W.nsIn K mainGlobals "_law_of_tapes" = some (some (.ref f43))) (l43 : K.lookup f43 = some ⟨oc43, od43, .func (PySem.W.fnOf "_law_of_tapes" "_law_of_tapes" (defArgs s_l_of_tapes) (defBody s_l_of_tapes) (defScope s_l_of_tapes) .none kV43 dc43 pm43 an43 (.ref cd43) ct43), sl43⟩) (c43 : PySem.W.codeIn K (.ref cd43) "_law_of_tapes" = true) (k43 : PySem.W.keepIn K (.ref f43) = true)
    {oc44 : Value} {od44 an44 : Option Addr} {sl44 : Array (Option Value)} {kV44 dc44 pm44 ct44 : Value} {cd44 : Addr}
    (a44 : PySem.W.nsIn K mainGlobals "_law_of_texts" = some (some (.ref f44))) (l44 : K.lookup f44 = some ⟨oc44, od44, .func (PySem.W.fnOf "_law_of_texts" "_law_of_texts" (defArgs s_l_of_texts) (defBody s_l_of_texts) (defScope s_l_of_texts) .none kV44 dc44 pm44 an44 (.ref cd44) ct44), sl44⟩) (c44 : PySem.W.codeIn K (.ref cd44) "_law_of_texts" = true) (k44 : PySem.W.keepIn K (.ref f44) = true)
    {oc45 : Value} {od45 an45 : Option Addr} {sl45 : Array (Option Value)} {kV45 dc45 pm45 ct45 : Value} {cd45 : Addr}
    (a45 : PySem.W.nsIn K mainGlobals "_law_sheets" = some (some (.ref f45))) (l45 : K.lookup f45 = some ⟨oc45, od45, .func (PySem.W.fnOf "_law_sheets" "_law_sheets" (defArgs s_l_sheets) (defBody s_l_sheets) (defScope s_l_sheets) .none kV45 dc45 pm45 an45 (.ref cd45) ct45), sl45⟩) (c45 : PySem.W.codeIn K (.ref cd45) "_law_sheets" = true) (k45 : PySem.W.keepIn K (.ref f45) = true)
    {oc46 : Value} {od46 an46 : Option Addr} {sl46 : Array (Option Value)} {kV46 dc46 pm46 ct46 : Value} {cd46 : Value}
    (a46 : PySem.W.nsIn K mainGlobals "_law_tapes" = some (some (.ref f46))) (l46 : K.lookup f46 = some ⟨oc46, od46, .func (PySem.W.fnOf "_law_tapes" "_law_tapes" (defArgs s_l_tapes) (defBody s_l_tapes) (defScope s_l_tapes) .none kV46 dc46 pm46 an46 cd46 ct46), sl46⟩) (c46 : PySem.W.codeIn K cd46 "_law_tapes" = true) (k46 : PySem.W.keepIn K (.ref f46) = true)
    {oc47 : Value} {od47 an47 : Option Addr} {sl47 : Array (Option Value)} {kV47 dc47 pm47 ct47 : Value} {cd47 : Addr}
    (a47 : PySem.W.nsIn K mainGlobals "law" = some (some (.ref f47))) (l47 : K.lookup f47 = some ⟨oc47, od47, .func (PySem.W.fnOf "law" "law" (defArgs s_law) (defBody s_law) (defScope s_law) .none kV47 dc47 pm47 an47 (.ref cd47) ct47), sl47⟩) (c47 : PySem.W.codeIn K (.ref cd47) "law" = true) (k47 : PySem.W.keepIn K (.ref f47) = true)
    (z_ValueError : PySem.W.nsIn K mainGlobals "ValueError" = some none)
    (z_all : PySem.W.nsIn K mainGlobals "all" = some none)
    (z_bool : PySem.W.nsIn K mainGlobals "bool" = some none)
    (z_enumerate : PySem.W.nsIn K mainGlobals "enumerate" = some none)
    (z_int : PySem.W.nsIn K mainGlobals "int" = some none)
    (z_isinstance : PySem.W.nsIn K mainGlobals "isinstance" = some none)
    (z_len : PySem.W.nsIn K mainGlobals "len" = some none)
    (z_list : PySem.W.nsIn K mainGlobals "list" = some none)
    (z_min : PySem.W.nsIn K mainGlobals "min" = some none)
    (z_range : PySem.W.nsIn K mainGlobals "range" = some none)
    (z_reversed : PySem.W.nsIn K mainGlobals "reversed" = some none)
    (z_set : PySem.W.nsIn K mainGlobals "set" = some none)
    (z_str : PySem.W.nsIn K mainGlobals "str" = some none)
    (z_sum : PySem.W.nsIn K mainGlobals "sum" = some none)
    (z_tuple : PySem.W.nsIn K mainGlobals "tuple" = some none)
    (z_zip : PySem.W.nsIn K mainGlobals "zip" = some none)
    {t_EITHER : Tok} (y_EITHER : PySem.W.nsIn K mainGlobals "EITHER" = some (some (.int 2 t_EITHER)))
    {t_MOST_CODES : Tok} (y_MOST_CODES : PySem.W.nsIn K mainGlobals "MOST_CODES" = some (some (.int 100 t_MOST_CODES)))
    {t_MOST_PLACES : Tok} (y_MOST_PLACES : PySem.W.nsIn K mainGlobals "MOST_PLACES" = some (some (.int 26 t_MOST_PLACES)))
    {t_MOST_SIGNS : Tok} (y_MOST_SIGNS : PySem.W.nsIn K mainGlobals "MOST_SIGNS" = some (some (.int 32 t_MOST_SIGNS)))
    {t_NO_HOME : Tok} (y_NO_HOME : PySem.W.nsIn K mainGlobals "NO_HOME" = some (some (.str "-" t_NO_HOME)))
    {t_SAFE : Tok} (y_SAFE : PySem.W.nsIn K mainGlobals "SAFE" = some (some (.int 32 t_SAFE)))
    (g_BadSheet : PySem.W.nsIn K mainGlobals "BadSheet" = some (some (.ref C_BadSheet)))
    (g_BadSet : PySem.W.nsIn K mainGlobals "BadSet" = some (some (.ref C_BadSet)))
    (g_BadTape : PySem.W.nsIn K mainGlobals "BadTape" = some (some (.ref C_BadTape)))
    (g_NoSign : PySem.W.nsIn K mainGlobals "NoSign" = some (some (.ref C_NoSign)))
    (g_BadCount : PySem.W.nsIn K mainGlobals "BadCount" = some (some (.ref C_BadCount)))
    (g_BadText : PySem.W.nsIn K mainGlobals "BadText" = some (some (.ref C_BadText)))
    (g_TapeError : PySem.W.nsIn K mainGlobals "TapeError" = some (some (.ref C_TapeError)))
    (t_sb : PySem.W.subIn K (.ref C_TapeError) (.type "BaseException") = some true)
    (t_ty : PySem.W.typeIn K (.ref C_TapeError) = some (.type "type"))
    (t_hd : PySem.W.hasDictIn K C_TapeError = true)
    (hn : PySem.W.specialIn K (.builtin "object.__class__") "__get__" = some (some (.builtin "getset_descriptor.__get__")))
    (ht : PySem.W.takesIn K (.builtin "object.__class__") = some true)
    (t_rd : PySem.W.readsIn K C_TapeError (.type "type") = true)
    (t_sg : PySem.W.specialIn K (.ref C_TapeError) "__getattribute__" = some (some (.builtin "type.__getattribute__")))
    (t_fc : PySem.W.findCls K (.ref C_TapeError) (.type "type") "__init__" = some (.val (.builtin "ValueError.__init__")))
    (kp_BadSheet : PySem.W.keepIn K (.ref C_BadSheet) = true)
    (sb_BadSheet : PySem.W.subIn K (.ref C_BadSheet) (.type "BaseException") = some true)
    (ty_BadSheet : PySem.W.typeIn K (.ref C_BadSheet) = some (.type "type"))
    (ci_BadSheet : PySem.W.isClsIn K C_BadSheet = true)
    (ga_BadSheet : PySem.W.findIn K (.ref C_BadSheet) "__getattribute__" = some (some (.builtin "BaseException.__getattribute__")))
    (gg_BadSheet : PySem.W.findIn K (.ref C_BadSheet) "__getattr__" = some none)
    (hd_BadSheet : PySem.W.hasDictIn K C_BadSheet = true)
    (cl_BadSheet : PySem.W.findIn K (.ref C_BadSheet) "__class__" = some (some (.builtin "object.__class__")))
    (mr_BadSheet : PySem.W.mroIn K C_BadSheet (.type "object") = some true)
    (kv_BadSheet : PySem.W.subIn K (.ref C_BadSheet) (.type "ValueError") = some true)
    (em_BadSheet : PySem.W.subIn K (.ref C_BadSheet) (.ref C_TapeError) = some true)
    (su_BadSheet_BadSheet : PySem.W.subIn K (.ref C_BadSheet) (.ref C_BadSheet) = some true)
    (su_BadSheet_BadSet : PySem.W.subIn K (.ref C_BadSheet) (.ref C_BadSet) = some false)
    (su_BadSheet_BadTape : PySem.W.subIn K (.ref C_BadSheet) (.ref C_BadTape) = some false)
    (su_BadSheet_NoSign : PySem.W.subIn K (.ref C_BadSheet) (.ref C_NoSign) = some false)
    (su_BadSheet_BadCount : PySem.W.subIn K (.ref C_BadSheet) (.ref C_BadCount) = some false)
    (su_BadSheet_BadText : PySem.W.subIn K (.ref C_BadSheet) (.ref C_BadText) = some false)
    (kp_BadSet : PySem.W.keepIn K (.ref C_BadSet) = true)
    (sb_BadSet : PySem.W.subIn K (.ref C_BadSet) (.type "BaseException") = some true)
    (ty_BadSet : PySem.W.typeIn K (.ref C_BadSet) = some (.type "type"))
    (ci_BadSet : PySem.W.isClsIn K C_BadSet = true)
    (ga_BadSet : PySem.W.findIn K (.ref C_BadSet) "__getattribute__" = some (some (.builtin "BaseException.__getattribute__")))
    (gg_BadSet : PySem.W.findIn K (.ref C_BadSet) "__getattr__" = some none)
    (hd_BadSet : PySem.W.hasDictIn K C_BadSet = true)
    (cl_BadSet : PySem.W.findIn K (.ref C_BadSet) "__class__" = some (some (.builtin "object.__class__")))
    (mr_BadSet : PySem.W.mroIn K C_BadSet (.type "object") = some true)
    (kv_BadSet : PySem.W.subIn K (.ref C_BadSet) (.type "ValueError") = some true)
    (em_BadSet : PySem.W.subIn K (.ref C_BadSet) (.ref C_TapeError) = some true)
    (su_BadSet_BadSheet : PySem.W.subIn K (.ref C_BadSet) (.ref C_BadSheet) = some false)
    (su_BadSet_BadSet : PySem.W.subIn K (.ref C_BadSet) (.ref C_BadSet) = some true)
    (su_BadSet_BadTape : PySem.W.subIn K (.ref C_BadSet) (.ref C_BadTape) = some false)
    (su_BadSet_NoSign : PySem.W.subIn K (.ref C_BadSet) (.ref C_NoSign) = some false)
    (su_BadSet_BadCount : PySem.W.subIn K (.ref C_BadSet) (.ref C_BadCount) = some false)
    (su_BadSet_BadText : PySem.W.subIn K (.ref C_BadSet) (.ref C_BadText) = some false)
    (kp_BadTape : PySem.W.keepIn K (.ref C_BadTape) = true)
    (sb_BadTape : PySem.W.subIn K (.ref C_BadTape) (.type "BaseException") = some true)
    (ty_BadTape : PySem.W.typeIn K (.ref C_BadTape) = some (.type "type"))
    (ci_BadTape : PySem.W.isClsIn K C_BadTape = true)
    (ga_BadTape : PySem.W.findIn K (.ref C_BadTape) "__getattribute__" = some (some (.builtin "BaseException.__getattribute__")))
    (gg_BadTape : PySem.W.findIn K (.ref C_BadTape) "__getattr__" = some none)
    (hd_BadTape : PySem.W.hasDictIn K C_BadTape = true)
    (cl_BadTape : PySem.W.findIn K (.ref C_BadTape) "__class__" = some (some (.builtin "object.__class__")))
    (mr_BadTape : PySem.W.mroIn K C_BadTape (.type "object") = some true)
    (kv_BadTape : PySem.W.subIn K (.ref C_BadTape) (.type "ValueError") = some true)
    (em_BadTape : PySem.W.subIn K (.ref C_BadTape) (.ref C_TapeError) = some true)
    (su_BadTape_BadSheet : PySem.W.subIn K (.ref C_BadTape) (.ref C_BadSheet) = some false)
    (su_BadTape_BadSet : PySem.W.subIn K (.ref C_BadTape) (.ref C_BadSet) = some false)
    (su_BadTape_BadTape : PySem.W.subIn K (.ref C_BadTape) (.ref C_BadTape) = some true)
    (su_BadTape_NoSign : PySem.W.subIn K (.ref C_BadTape) (.ref C_NoSign) = some false)
    (su_BadTape_BadCount : PySem.W.subIn K (.ref C_BadTape) (.ref C_BadCount) = some false)
    (su_BadTape_BadText : PySem.W.subIn K (.ref C_BadTape) (.ref C_BadText) = some false)
    (kp_NoSign : PySem.W.keepIn K (.ref C_NoSign) = true)
    (sb_NoSign : PySem.W.subIn K (.ref C_NoSign) (.type "BaseException") = some true)
    (ty_NoSign : PySem.W.typeIn K (.ref C_NoSign) = some (.type "type"))
    (ci_NoSign : PySem.W.isClsIn K C_NoSign = true)
    (ga_NoSign : PySem.W.findIn K (.ref C_NoSign) "__getattribute__" = some (some (.builtin "BaseException.__getattribute__")))
    (gg_NoSign : PySem.W.findIn K (.ref C_NoSign) "__getattr__" = some none)
    (hd_NoSign : PySem.W.hasDictIn K C_NoSign = true)
    (cl_NoSign : PySem.W.findIn K (.ref C_NoSign) "__class__" = some (some (.builtin "object.__class__")))
    (mr_NoSign : PySem.W.mroIn K C_NoSign (.type "object") = some true)
    (kv_NoSign : PySem.W.subIn K (.ref C_NoSign) (.type "ValueError") = some true)
    (em_NoSign : PySem.W.subIn K (.ref C_NoSign) (.ref C_TapeError) = some true)
    (su_NoSign_BadSheet : PySem.W.subIn K (.ref C_NoSign) (.ref C_BadSheet) = some false)
    (su_NoSign_BadSet : PySem.W.subIn K (.ref C_NoSign) (.ref C_BadSet) = some false)
    (su_NoSign_BadTape : PySem.W.subIn K (.ref C_NoSign) (.ref C_BadTape) = some false)
    (su_NoSign_NoSign : PySem.W.subIn K (.ref C_NoSign) (.ref C_NoSign) = some true)
    (su_NoSign_BadCount : PySem.W.subIn K (.ref C_NoSign) (.ref C_BadCount) = some false)
    (su_NoSign_BadText : PySem.W.subIn K (.ref C_NoSign) (.ref C_BadText) = some false)
    (kp_BadCount : PySem.W.keepIn K (.ref C_BadCount) = true)
    (sb_BadCount : PySem.W.subIn K (.ref C_BadCount) (.type "BaseException") = some true)
    (ty_BadCount : PySem.W.typeIn K (.ref C_BadCount) = some (.type "type"))
    (ci_BadCount : PySem.W.isClsIn K C_BadCount = true)
    (ga_BadCount : PySem.W.findIn K (.ref C_BadCount) "__getattribute__" = some (some (.builtin "BaseException.__getattribute__")))
    (gg_BadCount : PySem.W.findIn K (.ref C_BadCount) "__getattr__" = some none)
    (hd_BadCount : PySem.W.hasDictIn K C_BadCount = true)
    (cl_BadCount : PySem.W.findIn K (.ref C_BadCount) "__class__" = some (some (.builtin "object.__class__")))
    (mr_BadCount : PySem.W.mroIn K C_BadCount (.type "object") = some true)
    (kv_BadCount : PySem.W.subIn K (.ref C_BadCount) (.type "ValueError") = some true)
    (em_BadCount : PySem.W.subIn K (.ref C_BadCount) (.ref C_TapeError) = some true)
    (su_BadCount_BadSheet : PySem.W.subIn K (.ref C_BadCount) (.ref C_BadSheet) = some false)
    (su_BadCount_BadSet : PySem.W.subIn K (.ref C_BadCount) (.ref C_BadSet) = some false)
    (su_BadCount_BadTape : PySem.W.subIn K (.ref C_BadCount) (.ref C_BadTape) = some false)
    (su_BadCount_NoSign : PySem.W.subIn K (.ref C_BadCount) (.ref C_NoSign) = some false)
    (su_BadCount_BadCount : PySem.W.subIn K (.ref C_BadCount) (.ref C_BadCount) = some true)
    (su_BadCount_BadText : PySem.W.subIn K (.ref C_BadCount) (.ref C_BadText) = some false)
    (kp_BadText : PySem.W.keepIn K (.ref C_BadText) = true)
    (sb_BadText : PySem.W.subIn K (.ref C_BadText) (.type "BaseException") = some true)
    (ty_BadText : PySem.W.typeIn K (.ref C_BadText) = some (.type "type"))
    (ci_BadText : PySem.W.isClsIn K C_BadText = true)
    (ga_BadText : PySem.W.findIn K (.ref C_BadText) "__getattribute__" = some (some (.builtin "BaseException.__getattribute__")))
    (gg_BadText : PySem.W.findIn K (.ref C_BadText) "__getattr__" = some none)
    (hd_BadText : PySem.W.hasDictIn K C_BadText = true)
    (cl_BadText : PySem.W.findIn K (.ref C_BadText) "__class__" = some (some (.builtin "object.__class__")))
    (mr_BadText : PySem.W.mroIn K C_BadText (.type "object") = some true)
    (kv_BadText : PySem.W.subIn K (.ref C_BadText) (.type "ValueError") = some true)
    (em_BadText : PySem.W.subIn K (.ref C_BadText) (.ref C_TapeError) = some true)
    (su_BadText_BadSheet : PySem.W.subIn K (.ref C_BadText) (.ref C_BadSheet) = some false)
    (su_BadText_BadSet : PySem.W.subIn K (.ref C_BadText) (.ref C_BadSet) = some false)
    (su_BadText_BadTape : PySem.W.subIn K (.ref C_BadText) (.ref C_BadTape) = some false)
    (su_BadText_NoSign : PySem.W.subIn K (.ref C_BadText) (.ref C_NoSign) = some false)
    (su_BadText_BadCount : PySem.W.subIn K (.ref C_BadText) (.ref C_BadCount) = some false)
    (su_BadText_BadText : PySem.W.subIn K (.ref C_BadText) (.ref C_BadText) = some true)
    (q_BadSheet : PySem.W.excIn K C_BadSheet [.type "ValueError", .type "Exception", .type "BaseException", .type "object"] "ValueError.__new__" = true)
    (q_BadSet : PySem.W.excIn K C_BadSet [.type "ValueError", .type "Exception", .type "BaseException", .type "object"] "ValueError.__new__" = true)
    {nm_BadTape qq_BadTape : Str} {N_BadTape : Addr} {bs_BadTape bm_BadTape sub_BadTape : List Value} {sn_BadTape : List Str} {ab_BadTape : Bool} {col_BadTape : Option Bool} {dd_BadTape : Option Addr} {m0_BadTape m1_BadTape m2_BadTape m3_BadTape m5_BadTape : Option Value}
    (l_BadTape : K.lookup C_BadTape = some (excClassObj nm_BadTape qq_BadTape C_BadTape N_BadTape bs_BadTape bm_BadTape true sn_BadTape sub_BadTape ab_BadTape col_BadTape dd_BadTape m0_BadTape m1_BadTape m2_BadTape m3_BadTape m5_BadTape "ValueError.__new__"))
    (rv_BadTape : PySem.HandSPX.refsVE bm_BadTape = true)
    (sa_BadTape : PySem.W.findIn K (.ref C_BadTape) "__setattr__" = some (some (.builtin "object.__setattr__")))
    (ii_BadTape : PySem.W.findIn K (.ref C_BadTape) "__init__" = some (some (.ref F_BadTape)))
    (ti_BadTape : PySem.W.typeIn K (.ref F_BadTape) = some (.type "function"))
    (no_BadTape : PySem.W.findIn K (.ref C_BadTape) "place" = some none)
    {oc_BadTape : Value} {od_BadTape an_BadTape : Option Addr} {sl_BadTape : Array (Option Value)} {kV_BadTape dc_BadTape pm_BadTape ct_BadTape cd_BadTape : Value}
    (fl_BadTape : K.lookup F_BadTape = some ⟨oc_BadTape, od_BadTape, .func (PySem.W.fnOf "__init__" "BadTape.__init__" (defArgs s_init_BadTape) (defBody s_init_BadTape) (defScope s_init_BadTape) .none kV_BadTape dc_BadTape pm_BadTape an_BadTape cd_BadTape ct_BadTape), sl_BadTape⟩)
    (fc_BadTape : PySem.W.codeIn K cd_BadTape "BadTape.__init__" = true)
    (fk_BadTape : PySem.W.keepIn K (.ref F_BadTape) = true)
    {nm_NoSign qq_NoSign : Str} {N_NoSign : Addr} {bs_NoSign bm_NoSign sub_NoSign : List Value} {sn_NoSign : List Str} {ab_NoSign : Bool} {col_NoSign : Option Bool} {dd_NoSign : Option Addr} {m0_NoSign m1_NoSign m2_NoSign m3_NoSign m5_NoSign : Option Value}
    (l_NoSign : K.lookup C_NoSign = some (excClassObj nm_NoSign qq_NoSign C_NoSign N_NoSign bs_NoSign bm_NoSign true sn_NoSign sub_NoSign ab_NoSign col_NoSign dd_NoSign m0_NoSign m1_NoSign m2_NoSign m3_NoSign m5_NoSign "ValueError.__new__"))
    (rv_NoSign : PySem.HandSPX.refsVE bm_NoSign = true)
    (sa_NoSign : PySem.W.findIn K (.ref C_NoSign) "__setattr__" = some (some (.builtin "object.__setattr__")))
    (ii_NoSign : PySem.W.findIn K (.ref C_NoSign) "__init__" = some (some (.ref F_NoSign)))
    (ti_NoSign : PySem.W.typeIn K (.ref F_NoSign) = some (.type "function"))
    (no_NoSign : PySem.W.findIn K (.ref C_NoSign) "place" = some none)
    {oc_NoSign : Value} {od_NoSign an_NoSign : Option Addr} {sl_NoSign : Array (Option Value)} {kV_NoSign dc_NoSign pm_NoSign ct_NoSign cd_NoSign : Value}
    (fl_NoSign : K.lookup F_NoSign = some ⟨oc_NoSign, od_NoSign, .func (PySem.W.fnOf "__init__" "NoSign.__init__" (defArgs s_init_NoSign) (defBody s_init_NoSign) (defScope s_init_NoSign) .none kV_NoSign dc_NoSign pm_NoSign an_NoSign cd_NoSign ct_NoSign), sl_NoSign⟩)
    (fc_NoSign : PySem.W.codeIn K cd_NoSign "NoSign.__init__" = true)
    (fk_NoSign : PySem.W.keepIn K (.ref F_NoSign) = true)
    (q_BadCount : PySem.W.excIn K C_BadCount [.type "ValueError", .type "Exception", .type "BaseException", .type "object"] "ValueError.__new__" = true)
    {nm_BadText qq_BadText : Str} {N_BadText : Addr} {bs_BadText bm_BadText sub_BadText : List Value} {sn_BadText : List Str} {ab_BadText : Bool} {col_BadText : Option Bool} {dd_BadText : Option Addr} {m0_BadText m1_BadText m2_BadText m3_BadText m5_BadText : Option Value}
    (l_BadText : K.lookup C_BadText = some (excClassObj nm_BadText qq_BadText C_BadText N_BadText bs_BadText bm_BadText true sn_BadText sub_BadText ab_BadText col_BadText dd_BadText m0_BadText m1_BadText m2_BadText m3_BadText m5_BadText "ValueError.__new__"))
    (rv_BadText : PySem.HandSPX.refsVE bm_BadText = true)
    (sa_BadText : PySem.W.findIn K (.ref C_BadText) "__setattr__" = some (some (.builtin "object.__setattr__")))
    (ii_BadText : PySem.W.findIn K (.ref C_BadText) "__init__" = some (some (.ref F_BadText)))
    (ti_BadText : PySem.W.typeIn K (.ref F_BadText) = some (.type "function"))
    (no_BadText : PySem.W.findIn K (.ref C_BadText) "row" = some none)
    {oc_BadText : Value} {od_BadText an_BadText : Option Addr} {sl_BadText : Array (Option Value)} {kV_BadText dc_BadText pm_BadText ct_BadText cd_BadText : Value}
    (fl_BadText : K.lookup F_BadText = some ⟨oc_BadText, od_BadText, .func (PySem.W.fnOf "__init__" "BadText.__init__" (defArgs s_init_BadText) (defBody s_init_BadText) (defScope s_init_BadText) .none kV_BadText dc_BadText pm_BadText an_BadText cd_BadText ct_BadText), sl_BadText⟩)
    (fc_BadText : PySem.W.codeIn K cd_BadText "BadText.__init__" = true)
    (fk_BadText : PySem.W.keepIn K (.ref F_BadText) = true)
    {xc0 : Value} {xd0 : Option Addr} {vs0 : Array Value} {xs0 : Array (Option Value)} (lc0 : K.lookup cd0 = some ⟨xc0, xd0, .fields vs0, xs0⟩) (hv0 : (vs0[11]? : Option Value) = some (.ref tb0)) (nt0 : K.lookup tb0 = none)
    (rc0 : ((recsOf q).any fun r => r.name == "are_signs") = true)
    {xc27 : Value} {xd27 : Option Addr} {vs27 : Array Value} {xs27 : Array (Option Value)} (lc27 : K.lookup cd27 = some ⟨xc27, xd27, .fields vs27, xs27⟩) (hv27 : (vs27[11]? : Option Value) = some (.ref tb27)) (nt27 : K.lookup tb27 = none)
    (rc27 : ((recsOf q).any fun r => r.name == "_first_of") = true)
    {xc43 : Value} {xd43 : Option Addr} {vs43 : Array Value} {xs43 : Array (Option Value)} (lc43 : K.lookup cd43 = some ⟨xc43, xd43, .fields vs43, xs43⟩) (hv43 : (vs43[11]? : Option Value) = some (.ref tb43)) (nt43 : K.lookup tb43 = none)
    (rc43 : ((recsOf q).any fun r => r.name == "_law_of_tapes") = true)
    {xc44 : Value} {xd44 : Option Addr} {vs44 : Array Value} {xs44 : Array (Option Value)} (lc44 : K.lookup cd44 = some ⟨xc44, xd44, .fields vs44, xs44⟩) (hv44 : (vs44[11]? : Option Value) = some (.ref tb44)) (nt44 : K.lookup tb44 = none)
    (rc44 : ((recsOf q).any fun r => r.name == "_law_of_texts") = true)
    {xc45 : Value} {xd45 : Option Addr} {vs45 : Array Value} {xs45 : Array (Option Value)} (lc45 : K.lookup cd45 = some ⟨xc45, xd45, .fields vs45, xs45⟩) (hv45 : (vs45[11]? : Option Value) = some (.ref tb45)) (nt45 : K.lookup tb45 = none)
    (rc45 : ((recsOf q).any fun r => r.name == "_law_sheets") = true)
    {xc47 : Value} {xd47 : Option Addr} {vs47 : Array Value} {xs47 : Array (Option Value)} (lc47 : K.lookup cd47 = some ⟨xc47, xd47, .fields vs47, xs47⟩) (hv47 : (vs47[11]? : Option Value) = some (.ref tb47)) (nt47 : K.lookup tb47 = none)
    (rc47 : ((recsOf q).any fun r => r.name == "law") = true)
    (ne01 : tb0 ≠ tb27)
    (ne02 : tb0 ≠ tb43)
    (ne03 : tb0 ≠ tb44)
    (ne04 : tb0 ≠ tb45)
    (ne05 : tb0 ≠ tb47)
    (ne12 : tb27 ≠ tb43)
    (ne13 : tb27 ≠ tb44)
    (ne14 : tb27 ≠ tb45)
    (ne15 : tb27 ≠ tb47)
    (ne23 : tb43 ≠ tb44)
    (ne24 : tb43 ≠ tb45)
    (ne25 : tb43 ≠ tb47)
    (ne34 : tb44 ≠ tb45)
    (ne35 : tb44 ≠ tb47)
    (ne45 : tb45 ≠ tb47) : LamX.LawAtS PySem.Challenge.rw_shifttape_k01_refused w K CX0 20 63 "_law_script" mg fa h :=
  all_ok hmg (txt_mk X G (tb0 := tb0) (tb27 := tb27) (tb43 := tb43) (tb44 := tb44) (tb45 := tb45) (tb47 := tb47) a0 l0 c0 k0 a1 l1 c1 k1 a2 l2 c2 k2 a3 l3 c3 k3 a4 l4 c4 k4 a5 l5 c5 k5 a6 l6 c6 k6 a7 l7 c7 k7 a8 l8 c8 k8 a9 l9 c9 k9 a10 l10 c10 k10 a11 l11 c11 k11 a12 l12 c12 k12 a13 l13 c13 k13 a14 l14 c14 k14 a15 l15 c15 k15 a16 l16 c16 k16 a17 l17 c17 k17 a18 l18 c18 k18 a19 l19 c19 k19 a20 l20 c20 k20 a21 l21 c21 k21 a22 l22 c22 k22 a23 l23 c23 k23 a24 l24 c24 k24 a25 l25 c25 k25 a26 l26 c26 k26 a27 l27 c27 k27 a28 l28 c28 k28 a29 l29 c29 k29 a30 l30 c30 k30 a31 l31 c31 k31 a32 l32 c32 k32 a33 l33 c33 k33 a34 l34 c34 k34 a35 l35 c35 k35 a36 l36 c36 k36 a37 l37 c37 k37 a38 l38 c38 k38 a39 l39 c39 k39 a40 l40 c40 k40 a41 l41 c41 k41 a42 l42 c42 k42 a43 l43 c43 k43 a44 l44 c44 k44 a45 l45 c45 k45 a46 l46 c46 k46 a47 l47 c47 k47 z_ValueError z_all z_bool z_enumerate z_int z_isinstance z_len z_list z_min z_range z_reversed z_set z_str z_sum z_tuple z_zip y_EITHER y_MOST_CODES y_MOST_PLACES y_MOST_SIGNS y_NO_HOME y_SAFE g_BadSheet g_BadSet g_BadTape g_NoSign g_BadCount g_BadText g_TapeError t_sb t_ty t_hd hn ht t_rd t_sg t_fc kp_BadSheet sb_BadSheet ty_BadSheet ci_BadSheet ga_BadSheet gg_BadSheet hd_BadSheet cl_BadSheet mr_BadSheet kv_BadSheet em_BadSheet su_BadSheet_BadSheet su_BadSheet_BadSet su_BadSheet_BadTape su_BadSheet_NoSign su_BadSheet_BadCount su_BadSheet_BadText kp_BadSet sb_BadSet ty_BadSet ci_BadSet ga_BadSet gg_BadSet hd_BadSet cl_BadSet mr_BadSet kv_BadSet em_BadSet su_BadSet_BadSheet su_BadSet_BadSet su_BadSet_BadTape su_BadSet_NoSign su_BadSet_BadCount su_BadSet_BadText kp_BadTape sb_BadTape ty_BadTape ci_BadTape ga_BadTape gg_BadTape hd_BadTape cl_BadTape mr_BadTape kv_BadTape em_BadTape su_BadTape_BadSheet su_BadTape_BadSet su_BadTape_BadTape su_BadTape_NoSign su_BadTape_BadCount su_BadTape_BadText kp_NoSign sb_NoSign ty_NoSign ci_NoSign ga_NoSign gg_NoSign hd_NoSign cl_NoSign mr_NoSign kv_NoSign em_NoSign su_NoSign_BadSheet su_NoSign_BadSet su_NoSign_BadTape su_NoSign_NoSign su_NoSign_BadCount su_NoSign_BadText kp_BadCount sb_BadCount ty_BadCount ci_BadCount ga_BadCount gg_BadCount hd_BadCount cl_BadCount mr_BadCount kv_BadCount em_BadCount su_BadCount_BadSheet su_BadCount_BadSet su_BadCount_BadTape su_BadCount_NoSign su_BadCount_BadCount su_BadCount_BadText kp_BadText sb_BadText ty_BadText ci_BadText ga_BadText gg_BadText hd_BadText cl_BadText mr_BadText kv_BadText em_BadText su_BadText_BadSheet su_BadText_BadSet su_BadText_BadTape su_BadText_NoSign su_BadText_BadCount su_BadText_BadText q_BadSheet q_BadSet l_BadTape rv_BadTape sa_BadTape ii_BadTape ti_BadTape no_BadTape fl_BadTape fc_BadTape fk_BadTape l_NoSign rv_NoSign sa_NoSign ii_NoSign ti_NoSign no_NoSign fl_NoSign fc_NoSign fk_NoSign q_BadCount l_BadText rv_BadText sa_BadText ii_BadText ti_BadText no_BadText fl_BadText fc_BadText fk_BadText) (tabs "are_signs" _ _ rc0 (Kt.tabIn_of a0 l0 rfl lc0 hv0)) nt0 (tabs "_first_of" _ _ rc27 (Kt.tabIn_of a27 l27 rfl lc27 hv27)) nt27 (tabs "_law_of_tapes" _ _ rc43 (Kt.tabIn_of a43 l43 rfl lc43 hv43)) nt43 (tabs "_law_of_texts" _ _ rc44 (Kt.tabIn_of a44 l44 rfl lc44 hv44)) nt44 (tabs "_law_sheets" _ _ rc45 (Kt.tabIn_of a45 l45 rfl lc45 hv45)) nt45 (tabs "law" _ _ rc47 (Kt.tabIn_of a47 l47 rfl lc47 hv47)) nt47 ne01 ne02 ne03 ne04 ne05 ne12 ne13 ne14 ne15 ne23 ne24 ne25 ne34 ne35 ne45 fun s u => .of_eq rfl
end K01
open PySem PySem.W PyProof.Rows
set_option pp.maxSteps 400 in
set_option maxHeartbeats 0 in
theorem PySem.Challenge.cw_shifttape_k01_refused_holds : PySem.Challenge.rw_shifttape_k01_refused.Holds := by
  w_on; o_law; k_head; (case hw => w_witness2)
  k_fill
  refine Kt.end_tab (l := PySem.Challenge.rw_shifttape_k01_refused) (n := 63) (k := 20) (x := "_law_script") (CX := fun _ => L2.CX0) rfl (by decide) rfl ⟨rfl, by decide, by decide⟩ (by first | exact fun w h Y => PySem.W.kIn_of Y | exact fun w h Y => PySem.W.km_in_of Y) ?F (fun _ _ _ _ _ h => h)
  case F =>
    intro w mg fa h Y KX G hmg0 tabs
    have hmg : mg ("law" : PySem.Str) = some (.ref fa) := hmg0
    clear hmg0
    refine' K01.law_at KX G hmg tabs ?a0 ?l0 ?c0 ?k0 ?a1 ?l1 ?c1 ?k1 ?a2 ?l2 ?c2 ?k2 ?a3 ?l3 ?c3 ?k3 ?a4 ?l4 ?c4 ?k4 ?a5 ?l5 ?c5 ?k5 ?a6 ?l6 ?c6 ?k6 ?a7 ?l7 ?c7 ?k7 ?a8 ?l8 ?c8 ?k8 ?a9 ?l9 ?c9 ?k9 ?a10 ?l10 ?c10 ?k10 ?a11 ?l11 ?c11 ?k11 ?a12 ?l12 ?c12 ?k12 ?a13 ?l13 ?c13 ?k13 ?a14 ?l14 ?c14 ?k14 ?a15 ?l15 ?c15 ?k15 ?a16 ?l16 ?c16 ?k16 ?a17 ?l17 ?c17 ?k17 ?a18 ?l18 ?c18 ?k18 ?a19 ?l19 ?c19 ?k19 ?a20 ?l20 ?c20 ?k20 ?a21 ?l21 ?c21 ?k21 ?a22 ?l22 ?c22 ?k22 ?a23 ?l23 ?c23 ?k23 ?a24 ?l24 ?c24 ?k24 ?a25 ?l25 ?c25 ?k25 ?a26 ?l26 ?c26 ?k26 ?a27 ?l27 ?c27 ?k27 ?a28 ?l28 ?c28 ?k28 ?a29 ?l29 ?c29 ?k29 ?a30 ?l30 ?c30 ?k30 ?a31 ?l31 ?c31 ?k31 ?a32 ?l32 ?c32 ?k32 ?a33 ?l33 ?c33 ?k33 ?a34 ?l34 ?c34 ?k34 ?a35 ?l35 ?c35 ?k35 ?a36 ?l36 ?c36 ?k36 ?a37 ?l37 ?c37 ?k37 ?a38 ?l38 ?c38 ?k38 ?a39 ?l39 ?c39 ?k39 ?a40 ?l40 ?c40 ?k40 ?a41 ?l41 ?c41 ?k41 ?a42 ?l42 ?c42 ?k42 ?a43 ?l43 ?c43 ?k43 ?a44 ?l44 ?c44 ?k44 ?a45 ?l45 ?c45 ?k45 ?a46 ?l46 ?c46 ?k46 ?a47 ?l47 ?c47 ?k47 ?z_ValueError ?z_all ?z_bool ?z_enumerate ?z_int ?z_isinstance ?z_len ?z_list ?z_min ?z_range ?z_reversed ?z_set ?z_str ?z_sum ?z_tuple ?z_zip ?y_EITHER ?y_MOST_CODES ?y_MOST_PLACES ?y_MOST_SIGNS ?y_NO_HOME ?y_SAFE ?g_BadSheet ?g_BadSet ?g_BadTape ?g_NoSign ?g_BadCount ?g_BadText ?g_TapeError ?t_sb ?t_ty ?t_hd ?hn ?ht ?t_rd ?t_sg ?t_fc ?kp_BadSheet ?sb_BadSheet ?ty_BadSheet ?ci_BadSheet ?ga_BadSheet ?gg_BadSheet ?hd_BadSheet ?cl_BadSheet ?mr_BadSheet ?kv_BadSheet ?em_BadSheet ?su_BadSheet_BadSheet ?su_BadSheet_BadSet ?su_BadSheet_BadTape ?su_BadSheet_NoSign ?su_BadSheet_BadCount ?su_BadSheet_BadText ?kp_BadSet ?sb_BadSet ?ty_BadSet ?ci_BadSet ?ga_BadSet ?gg_BadSet ?hd_BadSet ?cl_BadSet ?mr_BadSet ?kv_BadSet ?em_BadSet ?su_BadSet_BadSheet ?su_BadSet_BadSet ?su_BadSet_BadTape ?su_BadSet_NoSign ?su_BadSet_BadCount ?su_BadSet_BadText ?kp_BadTape ?sb_BadTape ?ty_BadTape ?ci_BadTape ?ga_BadTape ?gg_BadTape ?hd_BadTape ?cl_BadTape ?mr_BadTape ?kv_BadTape ?em_BadTape ?su_BadTape_BadSheet ?su_BadTape_BadSet ?su_BadTape_BadTape ?su_BadTape_NoSign ?su_BadTape_BadCount ?su_BadTape_BadText ?kp_NoSign ?sb_NoSign ?ty_NoSign ?ci_NoSign ?ga_NoSign ?gg_NoSign ?hd_NoSign ?cl_NoSign ?mr_NoSign ?kv_NoSign ?em_NoSign ?su_NoSign_BadSheet ?su_NoSign_BadSet ?su_NoSign_BadTape ?su_NoSign_NoSign ?su_NoSign_BadCount ?su_NoSign_BadText ?kp_BadCount ?sb_BadCount ?ty_BadCount ?ci_BadCount ?ga_BadCount ?gg_BadCount ?hd_BadCount ?cl_BadCount ?mr_BadCount ?kv_BadCount ?em_BadCount ?su_BadCount_BadSheet ?su_BadCount_BadSet ?su_BadCount_BadTape ?su_BadCount_NoSign ?su_BadCount_BadCount ?su_BadCount_BadText ?kp_BadText ?sb_BadText ?ty_BadText ?ci_BadText ?ga_BadText ?gg_BadText ?hd_BadText ?cl_BadText ?mr_BadText ?kv_BadText ?em_BadText ?su_BadText_BadSheet ?su_BadText_BadSet ?su_BadText_BadTape ?su_BadText_NoSign ?su_BadText_BadCount ?su_BadText_BadText ?q_BadSheet ?q_BadSet ?l_BadTape ?rv_BadTape ?sa_BadTape ?ii_BadTape ?ti_BadTape ?no_BadTape ?fl_BadTape ?fc_BadTape ?fk_BadTape ?l_NoSign ?rv_NoSign ?sa_NoSign ?ii_NoSign ?ti_NoSign ?no_NoSign ?fl_NoSign ?fc_NoSign ?fk_NoSign ?q_BadCount ?l_BadText ?rv_BadText ?sa_BadText ?ii_BadText ?ti_BadText ?no_BadText ?fl_BadText ?fc_BadText ?fk_BadText ?lc0 ?hv0 ?nt0 ?rc0 ?lc27 ?hv27 ?nt27 ?rc27 ?lc43 ?hv43 ?nt43 ?rc43 ?lc44 ?hv44 ?nt44 ?rc44 ?lc45 ?hv45 ?nt45 ?rc45 ?lc47 ?hv47 ?nt47 ?rc47 ?ne01 ?ne02 ?ne03 ?ne04 ?ne05 ?ne12 ?ne13 ?ne14 ?ne15 ?ne23 ?ne24 ?ne25 ?ne34 ?ne35 ?ne45
    (case a0 => k_is); (case l0 => k_is); (case c0 => k_is); (case k0 => k_is); (case a1 => k_is); (case l1 => k_is); (case c1 => k_is); (case k1 => k_is); (case a2 => k_is); (case l2 => k_is); (case c2 => k_is); (case k2 => k_is); (case a3 => k_is); (case l3 => k_is); (case c3 => k_is); (case k3 => k_is); (case a4 => k_is); (case l4 => k_is); (case c4 => k_is); (case k4 => k_is); (case a5 => k_is); (case l5 => k_is); (case c5 => k_is); (case k5 => k_is); (case a6 => k_is); (case l6 => k_is); (case c6 => k_is); (case k6 => k_is); (case a7 => k_is); (case l7 => k_is); (case c7 => k_is); (case k7 => k_is); (case a8 => k_is); (case l8 => k_is); (case c8 => k_is); (case k8 => k_is); (case a9 => k_is); (case l9 => k_is); (case c9 => k_is); (case k9 => k_is); (case a10 => k_is); (case l10 => k_is); (case c10 => k_is); (case k10 => k_is); (case a11 => k_is); (case l11 => k_is); (case c11 => k_is); (case k11 => k_is); (case a12 => k_is); (case l12 => k_is); (case c12 => k_is); (case k12 => k_is); (case a13 => k_is); (case l13 => k_is); (case c13 => k_is); (case k13 => k_is); (case a14 => k_is); (case l14 => k_is); (case c14 => k_is); (case k14 => k_is); (case a15 => k_is); (case l15 => k_is); (case c15 => k_is); (case k15 => k_is); (case a16 => k_is); (case l16 => k_is); (case c16 => k_is); (case k16 => k_is); (case a17 => k_is); (case l17 => k_is); (case c17 => k_is); (case k17 => k_is); (case a18 => k_is); (case l18 => k_is); (case c18 => k_is); (case k18 => k_is); (case a19 => k_is); (case l19 => k_is); (case c19 => k_is); (case k19 => k_is); (case a20 => k_is); (case l20 => k_is); (case c20 => k_is); (case k20 => k_is); (case a21 => k_is); (case l21 => k_is); (case c21 => k_is); (case k21 => k_is); (case a22 => k_is); (case l22 => k_is); (case c22 => k_is); (case k22 => k_is); (case a23 => k_is); (case l23 => k_is); (case c23 => k_is); (case k23 => k_is); (case a24 => k_is); (case l24 => k_is); (case c24 => k_is); (case k24 => k_is); (case a25 => k_is); (case l25 => k_is); (case c25 => k_is); (case k25 => k_is); (case a26 => k_is); (case l26 => k_is); (case c26 => k_is); (case k26 => k_is); (case a27 => k_is); (case l27 => k_is); (case c27 => k_is); (case k27 => k_is); (case a28 => k_is); (case l28 => k_is); (case c28 => k_is); (case k28 => k_is); (case a29 => k_is); (case l29 => k_is); (case c29 => k_is); (case k29 => k_is); (case a30 => k_is); (case l30 => k_is); (case c30 => k_is); (case k30 => k_is); (case a31 => k_is); (case l31 => k_is); (case c31 => k_is); (case k31 => k_is); (case a32 => k_is); (case l32 => k_is); (case c32 => k_is); (case k32 => k_is); (case a33 => k_is); (case l33 => k_is); (case c33 => k_is); (case k33 => k_is); (case a34 => k_is); (case l34 => k_is); (case c34 => k_is); (case k34 => k_is); (case a35 => k_is); (case l35 => k_is); (case c35 => k_is); (case k35 => k_is); (case a36 => k_is); (case l36 => k_is); (case c36 => k_is); (case k36 => k_is); (case a37 => k_is); (case l37 => k_is); (case c37 => k_is); (case k37 => k_is); (case a38 => k_is); (case l38 => k_is); (case c38 => k_is); (case k38 => k_is); (case a39 => k_is); (case l39 => k_is); (case c39 => k_is); (case k39 => k_is); (case a40 => k_is); (case l40 => k_is); (case c40 => k_is); (case k40 => k_is); (case a41 => k_is); (case l41 => k_is); (case c41 => k_is); (case k41 => k_is); (case a42 => k_is); (case l42 => k_is); (case c42 => k_is); (case k42 => k_is); (case a43 => k_is); (case l43 => k_is); (case c43 => k_is); (case k43 => k_is); (case a44 => k_is); (case l44 => k_is); (case c44 => k_is); (case k44 => k_is); (case a45 => k_is); (case l45 => k_is); (case c45 => k_is); (case k45 => k_is); (case a46 => k_is); (case l46 => k_is); (case c46 => k_is); (case k46 => k_is); (case a47 => k_is); (case l47 => k_is); (case c47 => k_is); (case k47 => k_is); (case z_ValueError => k_is); (case z_all => k_is); (case z_bool => k_is); (case z_enumerate => k_is); (case z_int => k_is); (case z_isinstance => k_is); (case z_len => k_is); (case z_list => k_is); (case z_min => k_is); (case z_range => k_is); (case z_reversed => k_is); (case z_set => k_is); (case z_str => k_is); (case z_sum => k_is); (case z_tuple => k_is); (case z_zip => k_is); (case y_EITHER => k_is); (case y_MOST_CODES => k_is); (case y_MOST_PLACES => k_is); (case y_MOST_SIGNS => k_is); (case y_NO_HOME => k_is); (case y_SAFE => k_is); (case g_BadSheet => k_is); (case g_BadSet => k_is); (case g_BadTape => k_is); (case g_NoSign => k_is); (case g_BadCount => k_is); (case g_BadText => k_is); (case g_TapeError => k_is); (case t_sb => k_is); (case t_ty => k_is); (case t_hd => k_is); (case hn => k_is); (case ht => k_is); (case t_rd => k_is); (case t_sg => k_is); (case t_fc => k_is); (case kp_BadSheet => k_is); (case sb_BadSheet => k_is); (case ty_BadSheet => k_is); (case ci_BadSheet => k_is); (case ga_BadSheet => k_is); (case gg_BadSheet => k_is); (case hd_BadSheet => k_is); (case cl_BadSheet => k_is); (case mr_BadSheet => k_is); (case kv_BadSheet => k_is); (case em_BadSheet => first | rfl | k_is); (case su_BadSheet_BadSheet => first | rfl | k_is); (case su_BadSheet_BadSet => first | rfl | k_is); (case su_BadSheet_BadTape => first | rfl | k_is); (case su_BadSheet_NoSign => first | rfl | k_is); (case su_BadSheet_BadCount => first | rfl | k_is); (case su_BadSheet_BadText => first | rfl | k_is); (case kp_BadSet => k_is); (case sb_BadSet => k_is); (case ty_BadSet => k_is); (case ci_BadSet => k_is); (case ga_BadSet => k_is); (case gg_BadSet => k_is); (case hd_BadSet => k_is); (case cl_BadSet => k_is); (case mr_BadSet => k_is); (case kv_BadSet => k_is); (case em_BadSet => first | rfl | k_is); (case su_BadSet_BadSheet => first | rfl | k_is); (case su_BadSet_BadSet => first | rfl | k_is); (case su_BadSet_BadTape => first | rfl | k_is); (case su_BadSet_NoSign => first | rfl | k_is); (case su_BadSet_BadCount => first | rfl | k_is); (case su_BadSet_BadText => first | rfl | k_is); (case kp_BadTape => k_is); (case sb_BadTape => k_is); (case ty_BadTape => k_is); (case ci_BadTape => k_is); (case ga_BadTape => k_is); (case gg_BadTape => k_is); (case hd_BadTape => k_is); (case cl_BadTape => k_is); (case mr_BadTape => k_is); (case kv_BadTape => k_is); (case em_BadTape => first | rfl | k_is); (case su_BadTape_BadSheet => first | rfl | k_is); (case su_BadTape_BadSet => first | rfl | k_is); (case su_BadTape_BadTape => first | rfl | k_is); (case su_BadTape_NoSign => first | rfl | k_is); (case su_BadTape_BadCount => first | rfl | k_is); (case su_BadTape_BadText => first | rfl | k_is); (case kp_NoSign => k_is); (case sb_NoSign => k_is); (case ty_NoSign => k_is); (case ci_NoSign => k_is); (case ga_NoSign => k_is); (case gg_NoSign => k_is); (case hd_NoSign => k_is); (case cl_NoSign => k_is); (case mr_NoSign => k_is); (case kv_NoSign => k_is); (case em_NoSign => first | rfl | k_is); (case su_NoSign_BadSheet => first | rfl | k_is); (case su_NoSign_BadSet => first | rfl | k_is); (case su_NoSign_BadTape => first | rfl | k_is); (case su_NoSign_NoSign => first | rfl | k_is); (case su_NoSign_BadCount => first | rfl | k_is); (case su_NoSign_BadText => first | rfl | k_is); (case kp_BadCount => k_is); (case sb_BadCount => k_is); (case ty_BadCount => k_is); (case ci_BadCount => k_is); (case ga_BadCount => k_is); (case gg_BadCount => k_is); (case hd_BadCount => k_is); (case cl_BadCount => k_is); (case mr_BadCount => k_is); (case kv_BadCount => k_is); (case em_BadCount => first | rfl | k_is); (case su_BadCount_BadSheet => first | rfl | k_is); (case su_BadCount_BadSet => first | rfl | k_is); (case su_BadCount_BadTape => first | rfl | k_is); (case su_BadCount_NoSign => first | rfl | k_is); (case su_BadCount_BadCount => first | rfl | k_is); (case su_BadCount_BadText => first | rfl | k_is); (case kp_BadText => k_is); (case sb_BadText => k_is); (case ty_BadText => k_is); (case ci_BadText => k_is); (case ga_BadText => k_is); (case gg_BadText => k_is); (case hd_BadText => k_is); (case cl_BadText => k_is); (case mr_BadText => k_is); (case kv_BadText => k_is); (case em_BadText => first | rfl | k_is); (case su_BadText_BadSheet => first | rfl | k_is); (case su_BadText_BadSet => first | rfl | k_is); (case su_BadText_BadTape => first | rfl | k_is); (case su_BadText_NoSign => first | rfl | k_is); (case su_BadText_BadCount => first | rfl | k_is); (case su_BadText_BadText => first | rfl | k_is); (case q_BadSheet => k_exc); (case q_BadSet => k_exc); (case l_BadTape => k_is); (case rv_BadTape => rfl); (case sa_BadTape => k_is); (case ii_BadTape => k_is); (case ti_BadTape => k_is); (case no_BadTape => k_is); (case fl_BadTape => k_is); (case fc_BadTape => k_is); (case fk_BadTape => k_is); (case l_NoSign => k_is); (case rv_NoSign => rfl); (case sa_NoSign => k_is); (case ii_NoSign => k_is); (case ti_NoSign => k_is); (case no_NoSign => k_is); (case fl_NoSign => k_is); (case fc_NoSign => k_is); (case fk_NoSign => k_is); (case q_BadCount => k_exc); (case l_BadText => k_is); (case rv_BadText => rfl); (case sa_BadText => k_is); (case ii_BadText => k_is); (case ti_BadText => k_is); (case no_BadText => k_is); (case fl_BadText => k_is); (case fc_BadText => k_is); (case fk_BadText => k_is)
    (case lc0 => k_is); (case hv0 => rfl); (case nt0 => kernel_rfl); (case rc0 => decide +kernel); (case lc27 => k_is); (case hv27 => rfl); (case nt27 => kernel_rfl); (case rc27 => decide +kernel); (case lc43 => k_is); (case hv43 => rfl); (case nt43 => kernel_rfl); (case rc43 => decide +kernel); (case lc44 => k_is); (case hv44 => rfl); (case nt44 => kernel_rfl); (case rc44 => decide +kernel); (case lc45 => k_is); (case hv45 => rfl); (case nt45 => kernel_rfl); (case rc45 => decide +kernel); (case lc47 => k_is); (case hv47 => rfl); (case nt47 => kernel_rfl); (case rc47 => decide +kernel); (case ne01 => decide); (case ne02 => decide); (case ne03 => decide); (case ne04 => decide); (case ne05 => decide); (case ne12 => decide); (case ne13 => decide); (case ne14 => decide); (case ne15 => decide); (case ne23 => decide); (case ne24 => decide); (case ne25 => decide); (case ne34 => decide); (case ne35 => decide); (case ne45 => decide)
