import PyProof.Rows.All
import Wide.All
import OpenK.AllK
import Wide.FinOn
import HandS.ForMost
import HandS.IsInst
import HandS.AnyAll
import HandS.EndTab
import HandS.EndBits
import HandS.Wide
import HandS.Conv
import HandS.Strs
import PyProof.ListStr
import PyProof.Rows.SetFrom
import HandS.Zip
import KE.GoesMore
import KE.GoesZip
import KE.GoesEnum
import PySem.Challenge.RW_shifttape_k06_what_is_spoilt
set_option Elab.async false
set_option linter.all false
set_option maxRecDepth 100000
namespace Kt
open PySem PySem.Spec PyProof.Rows L2
/-- one sign as a text -/
def sg (c : Nat) : Str := ⟨#[c]⟩
theorem sg_inj {a b : Nat} (h : sg a = sg b) : a = b := by
  have h1 : (#[a] : Array Nat) = #[b] := congrArg Str.cps h
  simpa using h1
def signs (z : Str) : List Str := z.cps.toList.map sg
/-- the distinct ones, as they come -/
def uqs (l : List Nat) (c : Nat) : List Nat := if c ∈ l then l else l ++ [c]
def uq (l : List Nat) : List Nat := l.foldl uqs []
theorem uq_snoc (l : List Nat) (c : Nat) : uq (l ++ [c]) = uqs (uq l) c := by
  unfold uq; rw [List.foldl_append]; rfl
theorem uq_le (l : List Nat) : (uq l).length ≤ l.length := by
  suffices h : ∀ (r : List Nat) (a : List Nat), (r.foldl uqs a).length ≤ a.length + r.length by
    have := h l []; simpa [uq] using this
  intro r
  induction r with
  | nil => intro a; simp
  | cons x r ih =>
    intro a
    have h1 := ih (uqs a x)
    have h2 : (uqs a x).length ≤ a.length + 1 := by unfold uqs; split <;> simp
    simp only [List.foldl_cons, List.length_cons]; omega
theorem uq_nodup {l : List Nat} (h : l.Nodup) : uq l = l := by
  suffices g : ∀ (r a : List Nat), (a ++ r).Nodup → r.foldl uqs a = a ++ r by
    simpa [uq] using g l [] (by simpa using h)
  intro r
  induction r with
  | nil => intro a _; simp
  | cons x r ih =>
    intro a hn
    have hx : x ∉ a := fun hm => by
      have := List.nodup_append.mp hn
      exact this.2.2 x hm x (by simp) rfl
    have e : uqs a x = a ++ [x] := by unfold uqs; rw [if_neg hx]
    rw [List.foldl_cons, e, ih (a ++ [x]) (by simpa using hn)]; simp

section
variable {X : Cx}
/-- list(s), s a text -/
theorem call_listS (hc : X.calm = true) : CallR X (.type "list") (fun xs H Q => ∃ z : Str, xs = [.str z] ∧ z.length ≤ 1000 ∧ ∀ p, H p = none → Q (.ref p) (upd H p (.lst ((signs z).map V.str)))) := by
  intro pins s σ H xs us Q I r h
  obtain ⟨z, rfl, hz, q⟩ := h
  obtain ⟨u, rfl, ru⟩ := r.one
  obtain ⟨t, rfl⟩ := ru
  have hz2 : z.cps.size ≤ 1000 := hz
  have hln : ((signs z).map V.str).length = z.cps.size := by simp [signs]
  have hbig : (1000 : Nat) ≤ sizeLine := by decide
  refine PySem.call_list_str (hn := Nat.le_trans hz2 hbig) (I.ok.hd hc) z t fun h' tk acc c' hk hS hacc => ?_
  refine ⟨.ref s.heap.objs.size, _, I.laid hk (Nat.le_refl _) (show ObjOk X.prog X.w _ _ _ (.lst ((signs z).map V.str)) from ⟨?_, acc.toList, c', ?_, ?_⟩), rfl, q _ (I.hok.fresh (Nat.le_refl _))⟩
  · rw [hln]; exact Nat.le_trans hz2 hbig
  · refine vals_of_at (by rw [hln, Array.length_toList, hacc.1]) fun j x v h1 h2 => ?_
    obtain ⟨c, k, e1, rfl⟩ := hacc.2 j v (by rw [← Array.getElem?_toList]; exact h2)
    have e2 : ((signs z).map V.str)[j]? = some (.str (sg c)) := by
      simp [signs, e1]
    rw [e2] at h1
    cases h1
    exact ⟨k, rfl⟩
  · rw [Array.toArray_toList]; exact hS
/-- x += y of texts -/
theorem ip_addS : PIp X .Add (fun x y H Q => ∃ i j : Str, x = .str i ∧ y = .str j ∧ i.length + j.length ≤ sizeLine ∧ Q (.str (i ++ j)) H) :=
  fun pins s σ H x y v u Q I r1 r2 h => iop_add_str pins s σ H x y v u Q I r1 r2 h
end

/-! ### len(set(s)), s a text -/
section
variable {prog : Program} {w : World} {A : Around} {R : Result → Shared → Prop} {J : Addr} {fp wr : List Addr} {G : Array GenState → Array GenState → Prop} {St : Nat → Shared → Prop}
/-- what stands in the set behind i signs -/
def InU (prog : Program) (w : World) (h : Heap) (D : Addr) (z : Str) (i : Nat) : Prop :=
  h.SetOf (PySem.strKind prog w) D (fun k => decide (k ∈ (uq (z.cps.toList.take i)).map sg)) (uq (z.cps.toList.take i)).length
theorem InU.at' {h h' : Heap} {D : Addr} {z : Str} {i : Nat} (u : InU prog w h D z i) (k : ∀ o, h.get? D = some o → h'.get? D = some o) : InU prog w h' D z i := by
  obtain ⟨o, es, ep, t, ho, rest⟩ := u
  exact ⟨o, es, ep, t, k o ho, rest⟩
theorem loopSigns {z : Str} (W : WalksS prog w A.in1 J fp wr G z.cps.size (SignAt z) St) (D : Addr) (hD : D ∉ fp) (hz : z.cps.size ≤ 1000) :
    ∀ (k i : Nat) (s : Shared), z.cps.size - i = k → i ≤ z.cps.size → St i s → InU prog w s.heap D z i →
      (∀ s', Moved (D :: wr) G s s' → InU prog w s'.heap D z z.cps.size → R (.ok (.ret .none)) s') →
      codeAny (model prog w) A (.builtin "set.update.loop" ⟨[.ref D, .ref J], []⟩) R s := by
  have out : D ∉ wr := fun q => hD (W.sub _ q)
  have sub : ∀ b ∈ wr, b ∈ D :: wr := fun b hb => List.mem_cons_of_mem _ hb
  intro k
  induction k with
  | zero =>
    intro i s hk hi st u fin
    obtain rfl : i = z.cps.size := by omega
    refine codeAny_builtin PyProof.Rows.F.entry_set_update_loop ?_
    rw [Around.under_plainId PyProof.Rows.F.plain_set_update_loop _]
    refine wpAny_bind (m := pyNext (.ref J)) (W.done s _ _ st fun s' mv => ?_)
    exact wpAny_pure (fin s' (mv.mono sub) (u.at' fun o e => mv.heap D o out e))
  | succ k ih =>
    intro i s hk hi st u fin
    have lt : i < z.cps.size := by omega
    refine codeAny_builtin PyProof.Rows.F.entry_set_update_loop ?_
    rw [Around.under_plainId PyProof.Rows.F.plain_set_update_loop _]
    refine wpAny_bind (m := pyNext (.ref J)) (W.item i s _ _ lt st fun v s' hv st' mv => ?_)
    obtain ⟨c, t, hc, rfl⟩ := hv
    have u1 := u.at' fun o e => mv.heap D o out e
    refine wpAny_bind (m := holding [Value.str (sg c) t] (setAdd D (.str (sg c) t))) (wpAny_holding ?_)
    unfold setAdd
    refine wpAny_holding (wpAny_bind ((PySem.strKind prog w).pyHash (k := sg c) (strKind_is _ _ _ _) ?_))
    have room : (uq (z.cps.toList.take i)).length + 1 < scanBound := by
      have h1 := uq_le (z.cps.toList.take i)
      have h2 : (z.cps.toList.take i).length ≤ i := by rw [List.length_take]; exact Nat.min_le_left _ _
      unfold scanBound; omega
    refine wpAny_setAddHashed_of (knd := PySem.strKind prog w) (s := { s' with toks := s'.toks + 1 }) (strKind_is _ _ _ _) rfl u1 room fun h' sb u2 => ?_
    have u3 : InU prog w h' D z (i + 1) := by
      have e0 : z.cps.toList.take (i + 1) = z.cps.toList.take i ++ [c] := by
        rw [List.take_add_one, Array.getElem?_toList, hc]; rfl
      unfold InU
      rw [e0, uq_snoc]
      refine SetOf_congr u2 (fun q => ?_) ?_
      · unfold uqs
        by_cases hm : c ∈ uq (z.cps.toList.take i)
        · rw [if_pos hm]
          by_cases e : q = sg c
          · subst e
            have : sg c ∈ (uq (z.cps.toList.take i)).map sg := List.mem_map.mpr ⟨c, hm, rfl⟩
            simp [this]
          · simp [e]
        · rw [if_neg hm, List.map_append]
          simp [List.mem_append, Bool.decide_or]
      · unfold uqs
        by_cases hm : c ∈ uq (z.cps.toList.take i)
        · have : sg c ∈ (uq (z.cps.toList.take i)).map sg := List.mem_map.mpr ⟨c, hm, rfl⟩
          rw [if_pos hm, if_pos (decide_eq_true this)]
        · have : ¬ sg c ∈ (uq (z.cps.toList.take i)).map sg := fun h => by
            obtain ⟨d, h1, h2⟩ := List.mem_map.mp h
            rw [sg_inj h2] at h1
            exact hm h1
          rw [if_neg hm, if_neg (by simpa using this), List.length_append]; rfl
    refine wpAny_pure ⟨plainId_quiet PyProof.Rows.F.plain_set_update_loop _, ih (i + 1) _ (by omega) lt (W.frame _ s' _ _ st' (Nat.le_succ _) fun b hb o e => ?_) u3 fun s2 mv2 u4 => ?_⟩
    · exact (sb.2 b (fun q => hD (q ▸ hb))).trans e
    · refine fin s2 (Moved.trans W.gtrans ((mv.mono sub).then_heap (Nat.le_succ _) fun b o hb e => ?_) mv2) u4
      exact (sb.2 b (fun q => hb (q ▸ List.mem_cons_self))).trans e
end
section
variable {prog : Program} {w : World} {A : Around} {E : Value → Shared → Prop} {s : Shared}
set_option maxHeartbeats 3200000 in
theorem call_setS {z : Str} {t : Tok} {Q : Value → Shared → Prop} (hh : A.handled = none) (hz : z.cps.size ≤ 1000)
    (h : ∀ (h' : Heap) (tk : Nat), InU prog w h' s.heap.objs.size z z.cps.size → (∀ b o, b < s.heap.objs.size → s.heap.get? b = some o → h'.get? b = some o) →
      Q (.ref s.heap.objs.size) { s with heap := h', toks := tk }) : wpAny (model prog w) A (call (.type "set") [.str z t]) Q E s := by
  obtain ⟨c, tl, hmro⟩ := PySem.F.called_set.mro
  have q1 := PySem.F.called_set.made
  have q2 := PySem.F.called_set.sub
  refine wpAny_call (codeAny_of_tree ?_)
  show wpAny _ _ (callAny (.type "set") _) _ _ _
  refine wpAny_pure ⟨Code.quiet_builtin _ (by decide +kernel), codeAny_builtin PySem.F.entry_type_call ?_⟩
  rw [Around.under_plain (weight_type_call_type "set" [.str z t] []) rfl]
  have q3 := PySem.F.called_set.notType
  have q4 := PySem.F.called_set.canCreate
  have q5 := PySem.F.typeCall_set_1 (.str z t)
  repeat (any_goals (first | assumption | wp_step))
  refine codeAny_mono (code_set_new_1 (.str z t) (E := E) (Q₁ := fun ob s₁ => ∃ led : Bool, ob = .ref s.heap.objs.size ∧ s₁ = { s with heap := s.heap.push { cls := .type "set", dict := none, data := .set #[] 0 (.fresh 0 0 led) } }) fun led => ⟨led, rfl, rfl⟩) fun r s₁ hr => ?_
  cases r with
  | error e => exact hr
  | ok fl =>
    cases fl with
    | ret ob =>
      obtain ⟨led, rfl, rfl⟩ := hr
      have gS : (s.heap.push { cls := .type "set", dict := none, data := .set #[] 0 (.fresh 0 0 led) }).get? s.heap.objs.size =
          some { cls := .type "set", dict := none, data := .set #[] 0 (.fresh 0 0 led) } := Heap.get?_push_size _ rfl
      have gT : Shared.TypeIs { s with heap := s.heap.push { cls := .type "set", dict := none, data := .set #[] 0 (.fresh 0 0 led) } }
          (.ref s.heap.objs.size) "set" := ⟨_, gS, rfl⟩
      have q6 := PySem.F.called_set.init.lookup
      have q7 := PySem.F.called_set.init.bind (.ref s.heap.objs.size)
      repeat (any_goals (first | assumption | wp_step))
      refine codeAny_mono (codeAny_call_builtin (R := wants (fun r s₂ => r = .none ∧ ∃ h' tk, s₂ = { s with heap := h', toks := tk } ∧ InU prog w h' s.heap.objs.size z z.cps.size ∧
          (∀ b o, b < s.heap.objs.size → s.heap.get? b = some o → h'.get? b = some o)) E) PySem.F.called_set.init.plain PySem.F.entry_set_init (check_set_init_1 gT ?_)) fun r₂ s₂ hr₂ => ?_
      · have q8 := PySem.F.sub_str_set
        have q9 := PySem.F.sub_str_frozenset
        have qa : (Value.type "str" == Value.type "dict") = false := by decide
        unfold Builtin.«set.__init__» noKeywords Builtin.Frozenset.updateFrom
        generalize hPI : pyIter = PI
        wp_walk
        subst hPI
        generalize hso : ({ cls := .type "set", dict := none, data := .set #[] 0 (.fresh 0 0 led) } : Obj) = so at gS ⊢
        refine wpAny_pyIter_str fun o St W hst => ?_
        refine wpAny_bind (wpAny_runValue ?_)
        have sz : (s.heap.push so).objs.size = s.heap.objs.size + 1 := Heap.size_push ..
        have nI : s.heap.objs.size ∉ [(s.heap.push so).objs.size] := by
          rw [sz]; simp only [List.mem_singleton]; exact Nat.ne_of_lt (Nat.lt_succ_self _)
        refine loopSigns (W A.in1.in1.in1 (by simp [hh])).toS s.heap.objs.size nI hz (z.cps.size - 0) 0 _ (by omega) (Nat.zero_le _) hst ?hU ?hR
        case hU =>
          have g2 : ((s.heap.push so).push o).get? s.heap.objs.size = some so := Heap.get?_push_of_some _ gS
          unfold InU
          subst hso
          exact SetOf_congr ((setObjOf_fresh (knd := PySem.strKind prog w) led).setOf g2 (by unfold scanBound; omega)) (fun _ => by simp [uq]) (by simp [uq])
        case hR =>
          intro s' mv u
          obtain ⟨h', g', d', tk', os'⟩ := s'
          obtain rfl : g' = s.gens := mv.gens
          obtain rfl : d' = s.drawn := mv.drawn
          obtain rfl : os' = s.os := mv.os
          show wpAny _ _ _ _ _ _
          refine wpAny_pure ?_
          show wpAny _ _ (ret Value.none) _ _ _
          refine wpAny_pure ⟨rfl, h', tk', rfl, u, fun b o hb e => mv.heap b o (fun hm => ?_) (Heap.get?_push_of_some _ (Heap.get?_push_of_some _ e))⟩
          rcases List.mem_cons.mp hm with e1 | e1
          · exact Nat.ne_of_lt hb e1
          · rw [List.mem_singleton.mp e1, sz] at hb
            omega
      · cases r₂ with
        | error e => exact hr₂
        | ok fl₂ =>
          cases fl₂ with
          | ret r =>
            obtain ⟨rfl, h', tk, rfl, u, hk⟩ := hr₂
            repeat (any_goals (first | assumption | wp_step))
            exact h _ _ u hk
          | _ => exact hr₂.elim
    | _ => exact hr.elim
end
section
variable {X : Cx}
def tLenSetS (ta : TE) : TE := fun σ H Q => ta σ H fun x H1 => ∃ z : Str, x = .str z ∧ z.cps.size ≤ 1000 ∧ Q (.int ((uq z.cps.toList).length : Nat)) H1
theorem pe_lenSetS {a : Expr} {ta : TE} {p p2 q pos : Pos} (hc : X.calm = true) (hg : Gl X "len") (hm : X.mg "len" = none) (hg2 : Gl X "set") (hm2 : X.mg "set" = none) (ha : PE X a ta)
    (na : starEach [a] X.env = (false, eval a X.env) :: starEach [] X.env := by rfl) : PE X (.Call (.Name "len" p) [.Call (.Name "set" p2) [a] [] q] [] pos) (tLenSetS ta) := by
  refine ⟨fun pins s σ H Q I h => ?_⟩
  refine Call_ (ld_blt I hg hm PySem.boot_len ?_)
  refine callWith_builtin1 (args_cons ?_ rfl) rfl rfl
  refine Call_ (ld_blt I hg2 hm2 PyProof.Rows.boot_set ?_)
  refine callWith_type1 (args_cons (thn (ha.run pins s σ H _ I h) fun v s1 k => args_nil ?_) na) na rfl
  obtain ⟨x, H1, I1, r1, z, rfl, hz, q1⟩ := k
  obtain ⟨t, rfl⟩ := r1
  refine call_setS (I1.ok.hd hc) hz fun h' tk u hk => args_nil ?_
  unfold InU at u
  have ef : z.cps.toList.take z.cps.size = z.cps.toList := List.take_of_length_le (by rw [Array.length_toList]; exact Nat.le_refl _)
  rw [ef] at u
  have hl := uq_le z.cps.toList
  rw [Array.length_toList] at hl
  obtain ⟨o, es, ep, tb, ho, hex, hd, _, _, _, hf, hn⟩ := u
  have I2 : Inv X pins σ H1 { s1 with heap := h', toks := tk } := I1.kept fun b o e => hk b o (Heap.lt_size e) e
  exact call_len_set ho hex hd hf (by rw [hn]; exact Int.lt_of_le_of_lt (Int.ofNat_le.mpr (Nat.le_trans hl hz)) (by decide)) ⟨.int ((uq z.cps.toList).length : Nat), H1, I2.tok _, ⟨_, by rw [hn]⟩, q1⟩
end
end Kt
namespace Kt
open PySem PySem.Spec PyProof.Rows L2

/-! ### the test of a sign between two bounds -/
def pbIn (k1 k2 : Str) (c : Nat) : Bool := !decide ([c] < k1.cps.toList) && !decide (k2.cps.toList < [c])
theorem elt_in {prog : Program} {w : World} {scope : Scope} {x k1 k2 : Str} {j1 j2 : Nat} {p0 p1 p2 p3 : Pos} (hk : scope.kind = .function) (hl : scope.names.lookup x = some .local) (hd : (x == ("__debug__" : Str)) = false := by decide) :
    GxR.EltP prog w scope x (.Compare (.Constant (.str k1) j1 p0) [.LtE, .LtE] [.Name x p1, .Constant (.str k2) j2 p2] p3) (pbIn k1 k2) := by
  intro cenv A' E' c t s₂ m₂ hs hn hm
  refine Compare_chain (Calls.Constant_str (chain_link (wpAny_Name (wpAny_loadName_local (by rw [hs]; exact hk) (show cenv.scope.names.lookup x = some .local by rw [hs]; exact hl) ?_ hm ?_) hd))) (by rfl)
  · exact hn
  refine PySem.P.le_str (wpAny_truthy_bool ?_)
  show (if _ then _ else _)
  unfold pbIn
  cases h : decide ([c] < k1.cps.toList) with
  | true =>
    simp only [Bool.not_true, Bool.false_and]
    rw [if_neg Bool.false_ne_true]
    exact ⟨trivial, GxR.keeps_tok _ _⟩
  | false =>
    simp only [Bool.not_false, Bool.true_and]
    rw [if_pos trivial]
    refine chain_last (Calls.Constant_str (PySem.P.le_str ?_))
    exact ⟨rfl, ⟨_, _, rfl, fun _ _ e => e⟩⟩
theorem pbIn_32_126 (c : Nat) : pbIn " " "~" c = decide (32 ≤ c ∧ c ≤ 126) := by
  have e1 : (" " : Str).cps.toList = [32] := by decide
  have e2 : ("~" : Str).cps.toList = [126] := by decide
  unfold pbIn
  rw [e1, e2]
  by_cases h1 : c < 32
  · simp [List.cons_lt_cons_iff, h1]; omega
  · by_cases h2 : 126 < c
    · simp [List.cons_lt_cons_iff, h1, h2]
      try omega
    · simp [List.cons_lt_cons_iff, h1, h2]
      omega

/-! ### what stays, but for a table -/
/-- H' has all of H, the table at P may have grown -/
structure Kp (P : Addr) (H H' : Hp) : Prop where
  tab : GxR.TabG H' P
  at' : ∀ b o, b ≠ P → H b = some o → H' b = some o
theorem Kp.refl {P : Addr} {H : Hp} (t : GxR.TabG H P) : Kp P H H := ⟨t, fun _ _ _ h => h⟩
theorem Kp.trans {P : Addr} {H H1 H2 : Hp} (a : Kp P H H1) (b : Kp P H1 H2) : Kp P H H2 := ⟨b.tab, fun c o n h => b.at' c o n (a.at' c o n h)⟩
theorem Kp.of_tabbed {P : Addr} {H H' : Hp} (t : GxR.Tabbed P H H') : Kp P H H' := ⟨t.1, fun b o n h => by rw [t.2 b n]; exact h⟩
theorem tab_same {P : Addr} {H H' : Hp} (t : GxR.TabG H P) (k : ∀ o, H P = some o → H' P = some o) : GxR.TabG H' P := by
  obtain ⟨ps, h1, h2⟩ := t
  exact ⟨ps, k _ h1, h2⟩
theorem Kp.same {P : Addr} {H H' : Hp} (t : GxR.TabG H P) (s : Same H H') : Kp P H H' := ⟨tab_same t fun o e => s P o e, fun b o _ h => s b o h⟩
theorem tab_ne {P b : Addr} {H : Hp} {o : HO} (t : GxR.TabG H P) (h : H b = some o) (n : ∀ ps, o ≠ .tbl ps) : b ≠ P := fun e => by
  obtain ⟨ps, h1, _⟩ := t
  rw [e, h1] at h
  exact n ps (Option.some.inj h).symm
theorem tab_new {P b : Addr} {H : Hp} (t : GxR.TabG H P) (h : H b = none) : b ≠ P := fun e => by
  obtain ⟨ps, h1, _⟩ := t
  rw [e, h1] at h
  cases h
/-- what is no table stays -/
theorem Kp.get {P b : Addr} {H H' : Hp} {o : HO} (k : Kp P H H') (t : GxR.TabG H P) (h : H b = some o) (n : ∀ ps, o ≠ .tbl ps) : H' b = some o := k.at' b o (tab_ne t h n) h
theorem Kp.new {P b : Addr} {H H' : Hp} (k : Kp P H H') (t : GxR.TabG H P) (h : H' b = none) : H b = none := by
  cases q : H b with
  | none => rfl
  | some o =>
    by_cases e : b = P
    · exact absurd e (tab_new k.tab h)
    · rw [k.at' b o e q] at h
      cases h
theorem Kp.upd {P p : Addr} {H : Hp} {o : HO} (t : GxR.TabG H P) (n : H p = none) : Kp P H (upd H p o) :=
  Kp.same t fun b u e => by rw [upd_ne (ne_of_none e n)]; exact e
theorem same_new {H : Hp} {p : Addr} {o : HO} (h : H p = none) : Same H (upd H p o) := fun b x e => by
  rw [upd_ne (ne_of_none e h)]; exact e
/-- a list, a tuple that is read -/
theorem Kp.seqL {P a : Addr} {K : PySem.W.Frag} {H H' : Hp} {xs : List V} (k : Kp P H H') (t : GxR.TabG H P) (h : SqL K H a xs) : SqL K H' a xs := by
  rcases h with (h | ⟨o, h⟩) | h
  · exact .inl (.inl (k.get t h fun ps e => nomatch e))
  · exact .inl (.inr ⟨o, k.get t h fun ps e => nomatch e⟩)
  · exact .inr h
theorem Kp.seqT {P a : Addr} {K : PySem.W.Frag} {H H' : Hp} {xs : List V} (k : Kp P H H') (t : GxR.TabG H P) (h : SqT K H a xs) : SqT K H' a xs := by
  rcases h with (h | ⟨o, h⟩) | h
  · exact .inl (.inl (k.get t h fun ps e => nomatch e))
  · exact .inl (.inr ⟨o, k.get t h fun ps e => nomatch e⟩)
  · exact .inr h

/-! ### the end: the tables of the text's defs are empty where the law begins -/
theorem end_tab {l : PySem.W.OpenLaw} {n k : Nat} {q : Program} {loose : List Str} {XP : (Str → Option Value) → Heap → Prop} {YP : World → Heap → Prop} {d : DefRec} {K : Params → PySem.W.Frag} {CX : World → CXT} {x : Str}
    (hn : l.most = some n) (hn2 : n ≤ sizeLine) (hdf : d.params.defaults = []) (hr : Room k callerA) (hY : ∀ (w : World) (h : Heap), YP w h → (K w.params).In h)
    (F : ∀ (w : World) (mg : Str → Option Value) (fa : Addr) (h : Heap), YP w h → (K w.params).In h → h.Ns mainGlobals mg → mg d.name = some (.ref fa) →
      (∀ (y : Str) (c P : Addr), ((recsOf q).any fun r => r.name == y) = true → PySem.W.tabIn (K w.params) y = some (c, P) → PySem.W.CodeHd h c P ∧ h.get? P = some (PySem.W.tabObj #[])) →
      LamX.LawAtS l w (K w.params) (CX w) k n x mg fa h)
    (hC : ∀ (w : World) (H : Hp) (s : Shared) (e : Value) (s' : Shared), CX w [] H s (fun _ _ _ => False) e s' → False) :
    PySem.W.WalkO q loose XP YP l.row.toRowW d [] (fun f vs => PySem.call f vs) := by
  refine Att.attach_callB hn hdf fun w s0 s1 mg mb fa ob p1 p2 p3 a vs ns G Y h1 h2 h3 hmg hl hi hlen hbit hgen => ?_
  have KX := hY w _ Y
  have tabs : ∀ (y : Str) (c P : Addr), ((recsOf q).any fun r => r.name == y) = true → PySem.W.tabIn (K w.params) y = some (c, P) → PySem.W.CodeHd s1.heap c P ∧ s1.heap.get? P = some (PySem.W.tabObj #[]) := fun y c P u1 u2 => by
    have u3 : ((recsOf q).find? fun r => r.name == y).isSome = true := by
      rw [List.find?_isSome]
      obtain ⟨r, h1, h2⟩ := List.any_eq_true.mp u1
      exact ⟨r, h1, h2⟩
    obtain ⟨e, he⟩ := Option.isSome_iff_exists.mp u3
    exact PySem.W.tab_of G.T KX he u2
  obtain ⟨fd, cs, sp, t1, t2, t3, t4, t5, t6⟩ := F w mg fa _ Y KX G.T.g hmg tabs
  refine LamX.law_callTs KX G.T.g G.T.b G.T.builtins G.T.nolimit hgen t1 t2 t3 G.T.bmain hl hi (Nat.le_trans hlen hn2) hr t6 t4 (fun H u1 u2 => t5 H a ns hlen hbit u1 u2) ?_
  exact fun H e s' => hC w H s1 e s'
theorem gx_of {base : Heap} {mg : Str → Option Value} {c P : Addr} (t : LamX.TabB base mg c P) : GxR.TabB base mg c P := ⟨t.code, t.bm, t.gP⟩
end Kt
namespace Kt
open PySem PySem.Spec PyProof.Rows L2

/-! ### a def of the text -/
structure Df (K : PySem.W.Frag) (mg : Str → Option Value) (x : Str) (st : Stmt) (ps : List Str) (y : Str := x) where
  f : Addr
  fd : FuncData
  F : Fun K x x st f fd
  b : Binds K fd ps []
  g : mg y = some (.ref f)
/-- its code object is known -/
structure Coded (K : PySem.W.Frag) (x : Str) (st : Stmt) (f : Addr) (fd : FuncData) (c : Addr) : Prop where
  ex : ∃ (oc : Value) (od : Option Addr) (kV doc pm : Value) (an : Option Addr) (ct : Value) (osl : Array (Option Value)),
    fd = PySem.W.fnOf x x (defArgs st) (defBody st) (defScope st) .none kV doc pm an (.ref c) ct ∧ K.lookup f = some ⟨oc, od, .func fd, osl⟩ ∧ PySem.W.codeIn K (.ref c) x = true
section
variable {P : Program} {w : World} {K : PySem.W.Frag} {mg : Str → Option Value} {base : Heap}
theorem Coded.ok {x : Str} {st : Stmt} {f c : Addr} {fd : FuncData} {N ps : List Str} {k : Nat} {sp : Sp} (C : Coded K x st f fd c) (S : FnScope N ps (defScope st)) (len : ∀ vs H Q E, sp vs H Q E → vs.length = ps.length)
    (hb : ∀ (A : Around) (outer : List Env) (s : Shared) (H : Hp) (vs : List V) (Q : VK) (E : XK), Room k (A.deeper (envOfC x (defScope st) s.heap.objs.size f (.ref c))) → sp vs H Q E →
      ∃ t, PSs (cxOf CX0 P w K mg base N x (defScope st) f (.ref c) A outer s H E).nox (defBody st) t ∧
        t { nx := fun _ H' => Q .non H', rt := Q } (start N vs) H) : FnOk P w K mg base CX0 (k + 1) f fd ps sp := by
  obtain ⟨oc, od, kV, doc, pm, an, ct, osl, e, lk, hcd⟩ := C.ex
  subst e
  refine fn_of lk hcd S len fun A outer s H vs Q E room h => ?_
  obtain ⟨t, h1, h2⟩ := hb A outer s H vs Q E room h
  exact ⟨t, h1.nox, h2⟩
end

/-! ### lists of ints compared -/
theorem dpInts (K : PySem.W.Frag) (H : Hp) : ∀ ns : List Int, DpAll K H (ns.map V.int) (ns.map PyData.int)
  | [] => .nil
  | n :: r => .cons (.int n) (dpInts K H r)
theorem eqv_ints (ns ms : List Int) : PyData.eqv (.list (ns.map PyData.int)) (.list (ms.map PyData.int)) = decide (ns = ms) := by
  rw [← PySem.SeqAt.same_eq_eqv _ _ (by simp only [PySem.SeqAt.noMix]; exact PySem.W.noMix_ints ns ms), PySem.Spec.same]
  exact PySem.W.same_ints ns ms
section
variable {X : Cx}
def rEqI (K : PySem.W.Frag) (g : Bool → Bool) : R2 := fun x y H Q => ∃ (a b : Addr) (ns ms : List Int), x = .ref a ∧ y = .ref b ∧ SqL K H a (ns.map V.int) ∧ SqL K H b (ms.map V.int) ∧ Q (.bl (g (decide (ns = ms)))) H
theorem op_eqI (hu : X.A.units + 64 < cLine) : OpR X (compareOp .Eq) (rEqI X.K id) := by
  intro pins s σ H x y v u Q I rx ry h
  obtain ⟨a, b, ns, ms, rfl, rfl, h1, h2, q⟩ := h
  exact op_eqD hu pins s σ H _ _ v u Q I rx ry ⟨_, _, .lst h1 (dpInts _ _ ns), .lst h2 (dpInts _ _ ms), PySem.W.shaped_ints ns, PySem.W.shaped_ints ms, by rw [eqv_ints]; exact q⟩
theorem op_neI (hu : X.A.units + 64 < cLine) : OpR X (compareOp .NotEq) (rEqI X.K not) := by
  intro pins s σ H x y v u Q I rx ry h
  obtain ⟨a, b, ns, ms, rfl, rfl, h1, h2, q⟩ := h
  exact op_neD hu pins s σ H _ _ v u Q I rx ry ⟨_, _, .lst h1 (dpInts _ _ ns), .lst h2 (dpInts _ _ ms), PySem.W.shaped_ints ns, PySem.W.shaped_ints ms, by rw [eqv_ints]; exact q⟩
end

theorem ix_ok {n j : Nat} {z : Int} (e : z = (j : Int)) (h : j < n) : ixN n z = some j := by
  subst e
  unfold ixN
  rw [if_pos (by omega), if_pos (by omega)]
  rfl

theorem at_map {α β : Type} {f : α → β} {xs : List α} {i : Nat} {y : β} (h : (xs.map f)[i]? = some y) : ∃ x, xs[i]? = some x ∧ y = f x := by
  rw [List.getElem?_map] at h
  obtain ⟨x, h1, h2⟩ := Option.map_eq_some_iff.mp h
  exact ⟨x, h1, h2.symm⟩
theorem map_at {α β : Type} {f : α → β} {xs : List α} {i : Nat} {x : α} (h : xs[i]? = some x) : (xs.map f)[i]? = some (f x) := by
  rw [List.getElem?_map, h]; rfl
theorem dec_f {p : Prop} [Decidable p] (h : ¬ p) : V.bl (decide p) = V.bl false := by rw [decide_eq_false h]
theorem dec_t {p : Prop} [Decidable p] (h : p) : V.bl (decide p) = V.bl true := by rw [decide_eq_true h]

/-- the readings of len, list, by the written part alone -/
def rLenQ (K : PySem.W.Frag) : List V → Hp → VK → Prop := fun xs H Q => ∃ p ys, xs = [.ref p] ∧ (SqL K H p ys ∨ SqT K H p ys) ∧ Q (.int ys.length) H

theorem lc_yes {σ : L2.St} {H : Hp} {A B : Hp → Prop} (h : A H) : tYes σ H (fun b H3 => if b = true then A H3 else B H3) := by
  show (if true = true then A H else B H)
  rw [if_pos rfl]
  exact h

theorem perm_erase {α : Type} {x : α} : ∀ {l : List α} {k : Nat}, l[k]? = some x → ([x] ++ l.eraseIdx k).Perm l
  | [], k, h => by simp at h
  | a :: r, 0, h => by
    simp at h; subst h; simp
  | a :: r, k + 1, h => by
    have ih := perm_erase (l := r) (k := k) (by simpa using h)
    rw [List.eraseIdx_cons_succ]
    exact (List.Perm.swap a x _).trans (ih.cons a)
theorem erase_map {α β : Type} (f : α → β) : ∀ (l : List α) (k : Nat), (l.map f).eraseIdx k = (l.eraseIdx k).map f
  | [], k => by simp
  | a :: r, 0 => by simp
  | a :: r, k + 1 => by simp [erase_map f r k]

/-! ### the law's box -/
def BoxAt (H : Hp) (b l : Addr) : Prop := ∃ (ns : List Int) (st : Int), H b = some (.lst [.ref l, .int st]) ∧ H l = some (.lst (ns.map V.int))
theorem BoxAt.ne {H : Hp} {b l : Addr} (x : BoxAt H b l) : b ≠ l := by
  obtain ⟨ns, st, h1, h2⟩ := x
  refine ne_of h1 h2 fun e => ?_
  injection e with e
  cases ns with
  | nil => cases e
  | cons n r => injection e with e _; cases e
/-- the box was drawn from; what else stood, stands -/
structure Bxd (b l : Addr) (H H' : Hp) : Prop where
  box : BoxAt H' b l
  at' : ∀ a o, a ≠ b → a ≠ l → H a = some o → H' a = some o
theorem Bxd.refl {b l : Addr} {H : Hp} (x : BoxAt H b l) : Bxd b l H H := ⟨x, fun _ _ _ _ h => h⟩
theorem Bxd.trans {b l : Addr} {H H1 H2 : Hp} (x : Bxd b l H H1) (y : Bxd b l H1 H2) : Bxd b l H H2 := ⟨y.box, fun a o h1 h2 h => y.at' a o h1 h2 (x.at' a o h1 h2 h)⟩
theorem BoxAt.kp {b l : Addr} {H H' : Hp} (x : BoxAt H b l) (k1 : ∀ o, H b = some o → H' b = some o) (k2 : ∀ o, H l = some o → H' l = some o) : BoxAt H' b l := by
  obtain ⟨ns, st, h1, h2⟩ := x
  exact ⟨ns, st, k1 _ h1, k2 _ h2⟩
theorem BoxAt.same {b l : Addr} {H H' : Hp} (x : BoxAt H b l) (s : Same H H') : BoxAt H' b l := x.kp (fun o => s b o) fun o => s l o
theorem Bxd.same {b l : Addr} {H H' : Hp} (x : BoxAt H b l) (s : Same H H') : Bxd b l H H' := ⟨x.same s, fun a o _ _ h => s a o h⟩
theorem Bxd.new {b l p : Addr} {H H' : Hp} (x : Bxd b l H H') (bx : BoxAt H b l) (h : H' p = none) : H p = none := by
  cases q : H p with
  | none => rfl
  | some o =>
    obtain ⟨ns, st, h1, h2⟩ := x.box
    by_cases e1 : p = b
    · rw [e1, h1] at h; cases h
    · by_cases e2 : p = l
      · rw [e2, h2] at h; cases h
      · rw [x.at' p o e1 e2 q] at h; cases h
/-- a tuple stays, a list of other things too -/
theorem BoxAt.tup {H : Hp} {b l t : Addr} {xs : List V} (x : BoxAt H b l) (h : H t = some (.tup xs)) : t ≠ b ∧ t ≠ l := by
  obtain ⟨ns, st, h1, h2⟩ := x
  exact ⟨ne_of h h1 (fun e => nomatch e), ne_of h h2 (fun e => nomatch e)⟩
theorem Bxd.tup {H H' : Hp} {b l t : Addr} {xs : List V} (x : Bxd b l H H') (bx : BoxAt H b l) (h : H t = some (.tup xs)) : H' t = some (.tup xs) := x.at' t _ (bx.tup h).1 (bx.tup h).2 h
theorem Bxd.tab {H H' : Hp} {b l P : Addr} (x : Bxd b l H H') (bx : BoxAt H b l) (t : GxR.TabG H P) : GxR.TabG H' P := by
  obtain ⟨ps, h1, h2⟩ := t
  obtain ⟨ns, st, q1, q2⟩ := bx
  exact ⟨ps, x.at' P _ (ne_of h1 q1 fun e => nomatch e) (ne_of h1 q2 fun e => nomatch e) h1, h2⟩
theorem BoxAt.kpP {b l P : Addr} {H H' : Hp} (x : BoxAt H b l) (t : GxR.TabG H P) (k : Kp P H H') : BoxAt H' b l := by
  obtain ⟨ns, st, h1, h2⟩ := x
  exact ⟨ns, st, k.get t h1 (fun _ e => nomatch e), k.get t h2 (fun _ e => nomatch e)⟩

/-! ### the promises of the law's own helpers -/
def spTake : Sp := fun vs H Q _ => ∃ (b l : Addr) (m : Int), vs = [.ref b, .int m] ∧ BoxAt H b l ∧ 0 < m ∧ m.natAbs < 2 ^ 250 ∧
  ∀ v H', 0 ≤ v → v < m → Bxd b l H H' → Q (.int v) H'
def spBegun (K : PySem.W.Frag) : Sp := fun vs H Q _ => ∃ (a : Addr) (ns : List Int), vs = [.ref a] ∧ SqL K H a (ns.map V.int) ∧ ns.length ≤ 63 ∧
  ∀ b l H', Same H H' → BoxAt H' b l → H b = none → H l = none → Q (.ref b) H'
def spAlike : Sp := fun vs H Q _ => ((∃ s : Str, vs = [.str s, .str s]) ∨ ∃ i : Int, vs = [.int i, .int i]) ∧ Q (.bl true) H
/-- the list of one-sign texts -/
def sgs (ps : List Nat) : List V := (ps.map sg).map V.str
def spPicked : Sp := fun vs H Q _ => ∃ (b l : Addr) (z : Str) (m : Nat), vs = [.ref b, .str z, .int m] ∧ BoxAt H b l ∧ z.cps.size ≤ 1000 ∧ m ≤ z.cps.size ∧
  ∀ (D : Addr) (ps rest : List Nat) H', (ps ++ rest).Perm z.cps.toList → ps.length = m → Bxd b l H H' → H D = none → H' D = some (.lst (sgs ps)) → Q (.ref D) H'
/-- a sheet that can be -/
structure Good (z o : Str) (hm : V) : Prop where
  len : o.cps.size = z.cps.size
  pos : 1 ≤ z.cps.size
  le : z.cps.size ≤ 26
  nz : z.cps.toList.Nodup
  no : o.cps.toList.Nodup
  pz : ∀ c ∈ z.cps.toList, 32 ≤ c ∧ c ≤ 126
  po : ∀ c ∈ o.cps.toList, 32 ≤ c ∧ c ≤ 126
  home : hm = .non ∨ ∃ h : Nat, hm = .int h ∧ h < z.cps.size
/-- the sheet stands at t -/
def Sh (H : Hp) (t : Addr) (z o : Str) (hm : V) : Prop := H t = some (.tup [.str z, .str o, hm])
def spSheet : Sp := fun vs H Q _ => ∃ (b l : Addr) (most : Nat), vs = [.ref b, .int most] ∧ BoxAt H b l ∧ 1 ≤ most ∧ most ≤ 26 ∧
  ∀ t z o hm H', Good z o hm → z.cps.size ≤ most → Bxd b l H H' → H t = none → Sh H' t z o hm → Q (.ref t) H'
/-- codes of a sheet of n -/
def Codes (n : Nat) (cs : List Int) : Prop := ∀ c ∈ cs, 0 ≤ c ∧ c < (n : Int) + 2
def spTape : Sp := fun vs H Q _ => ∃ (b l t : Addr) (z o : Str) (hm : V) (most : Nat), vs = [.ref b, .ref t, .int most] ∧ BoxAt H b l ∧ Good z o hm ∧ Sh H t z o hm ∧ most ≤ 100 ∧
  ∀ (D : Addr) (cs : List Int) H', cs.length ≤ most → Codes z.cps.size cs → Bxd b l H H' → H D = none → H' D = some (.lst (cs.map V.int)) → Q (.ref D) H'

/-! ### reading -/
def rdStep (z o : Str) (hm : V) (s : Str × Int) (c : Int) : Str × Int :=
  if (z.cps.size : Int) ≤ c then (s.1, c - z.cps.size)
  else (s.1 ++ sg ((if s.2 = 0 then z else o).cps.toList.getD c.toNat 0), if V.int c = hm then 0 else s.2)
def rd (z o : Str) (hm : V) (cs : List Int) (b : Int) : Str × Int := cs.foldl (rdStep z o hm) (Str.ofString "", b)
def Is01 (b : Int) : Prop := b = 0 ∨ b = 1
theorem rd_snoc (z o : Str) (hm : V) (cs : List Int) (b c : Int) : rd z o hm (cs ++ [c]) b = rdStep z o hm (rd z o hm cs b) c := by
  unfold rd; rw [List.foldl_append]; rfl
theorem rd_take {z o : Str} {hm : V} {cs : List Int} {b c : Int} {i : Nat} (h : cs[i]? = some c) : rd z o hm (cs.take (i + 1)) b = rdStep z o hm (rd z o hm (cs.take i) b) c := by
  rw [List.take_add_one, h]; exact rd_snoc ..
theorem sg_len (c : Nat) : (sg c).length = 1 := rfl
theorem rdStep_ok {z o : Str} {hm : V} (s : Str × Int) {c : Int} (h1 : Is01 s.2) (h2 : 0 ≤ c ∧ c < (z.cps.size : Int) + 2) :
    Is01 (rdStep z o hm s c).2 ∧ (rdStep z o hm s c).1.length ≤ s.1.length + 1 := by
  unfold rdStep
  by_cases h : (z.cps.size : Int) ≤ c
  · rw [if_pos h]
    refine ⟨?_, Nat.le_succ _⟩
    show c - z.cps.size = 0 ∨ c - z.cps.size = 1
    omega
  · rw [if_neg h]
    refine ⟨?_, ?_⟩
    · show Is01 (if V.int c = hm then 0 else s.2)
      split
      · exact .inl rfl
      · exact h1
    · show (s.1 ++ sg _).length ≤ _
      rw [Str.length_append, sg_len]; exact Nat.le_refl _
theorem rd_ok {z o : Str} {hm : V} {b : Int} (hb : Is01 b) : ∀ {cs : List Int}, Codes z.cps.size cs → ∀ i, Is01 (rd z o hm (cs.take i) b).2 ∧ (rd z o hm (cs.take i) b).1.length ≤ i := by
  intro cs hc i
  induction i with
  | zero => exact ⟨hb, by rw [List.take_zero]; exact Nat.le_refl _⟩
  | succ i ih =>
    cases h : cs[i]? with
    | none =>
      have e : cs.take (i + 1) = cs.take i := by
        rw [List.take_add_one, h]; simp
      rw [e]; exact ⟨ih.1, Nat.le_succ_of_le ih.2⟩
    | some c =>
      rw [rd_take h]
      have := rdStep_ok (hm := hm) (o := o) (rd z o hm (cs.take i) b) ih.1 (hc c (List.mem_of_getElem? h))
      exact ⟨this.1, Nat.le_trans this.2 (Nat.succ_le_succ ih.2)⟩
/-- the law's own read, and the program's before its checks -/
def spRd (K : PySem.W.Frag) : Sp := fun vs H Q _ => ∃ (t a : Addr) (z o : Str) (hm : V) (cs : List Int) (b : Int), vs = [.ref t, .ref a, .int b] ∧ Good z o hm ∧ Sh H t z o hm ∧ SqL K H a (cs.map V.int) ∧ Codes z.cps.size cs ∧ cs.length ≤ 1000 ∧ Is01 b ∧
  ∀ p H', Same H H' → H p = none → H' p = some (.tup [.str (rd z o hm cs b).1, .int (rd z o hm cs b).2]) → Q (.ref p) H'
end Kt
namespace Kt
open PySem PySem.Spec PyProof.Rows L2
theorem joinL_one : ∀ ps : List Nat, TL.joinL [] (ps.map fun c => [c]) = ps
  | [] => rfl
  | [c] => rfl
  | c :: d :: r => by
    have ih := joinL_one (d :: r)
    show [c] ++ ([] ++ TL.joinL [] ((d :: r).map fun c => [c])) = c :: d :: r
    rw [ih]; rfl
theorem join_sg (ps : List Nat) : Txt.join (Str.ofString "") (ps.map sg) = ⟨ps.toArray⟩ := by
  rw [TL.join_eq]
  have e := TL.tl_join (Str.ofString "") (ps.map sg)
  have e0 : TL.tl (Str.ofString "") = [] := by decide +kernel
  have e1 : (ps.map sg).map TL.tl = ps.map fun c => [c] := by
    rw [List.map_map]; rfl
  rw [e0, e1, joinL_one] at e
  generalize Str.join (Str.ofString "") (ps.map sg) = s at e
  obtain ⟨a⟩ := s
  have e2 : a.toList = ps := e
  rw [← e2]
/-- the signs that a sheet's set is picked from -/
def SOk (s : Str) : Bool := decide (s.cps.toList.Nodup) && s.cps.toList.all (fun c => decide (32 ≤ c) && decide (c ≤ 126)) && decide (26 ≤ s.cps.size) && decide (s.cps.size ≤ 1000)
theorem SOk.elim {s : Str} (h : SOk s = true) : s.cps.toList.Nodup ∧ (∀ c ∈ s.cps.toList, 32 ≤ c ∧ c ≤ 126) ∧ 26 ≤ s.cps.size ∧ s.cps.size ≤ 1000 := by
  unfold SOk at h
  simp only [Bool.and_eq_true, decide_eq_true_eq, List.all_eq_true] at h
  exact ⟨h.1.1.1, h.1.1.2, h.1.2, h.2⟩
theorem picked_ok {s : Str} {ps rest : List Nat} (h : SOk s = true) (p : (ps ++ rest).Perm s.cps.toList) : ps.Nodup ∧ ∀ c ∈ ps, 32 ≤ c ∧ c ≤ 126 := by
  obtain ⟨h1, h2, _⟩ := SOk.elim h
  refine ⟨(List.nodup_append.mp (p.nodup_iff.mpr h1)).1, fun c hc => h2 c (p.mem_iff.mp (List.mem_append_left _ hc))⟩
theorem sgs_len (ps : List Nat) : (sgs ps).length = ps.length := by simp [sgs]
theorem sgs_at {ps : List Nat} {i : Nat} {c : Nat} (h : ps[i]? = some c) : (sgs ps)[i]? = some (.str (sg c)) := map_at (map_at h)
theorem sgs_flat (ps : List Nat) : (sgs ps).all flatV = true := by
  unfold sgs
  rw [List.all_eq_true]
  intro v hv
  obtain ⟨s, _, rfl⟩ := List.mem_map.mp hv
  rfl
theorem sgs_in (c : Nat) (ps : List Nat) : inV (.str (sg c)) (sgs ps) = decide (c ∈ ps) := by
  unfold inV sgs
  rw [Bool.eq_iff_iff, List.any_eq_true, decide_eq_true_eq]
  constructor
  · rintro ⟨v, hv, e⟩
    obtain ⟨s, hs, rfl⟩ := List.mem_map.mp hv
    obtain ⟨d, hd, rfl⟩ := List.mem_map.mp hs
    have e1 : (sg d == sg c) = true := e
    rw [← sg_inj (eq_of_beq e1)]
    exact hd
  · intro h
    refine ⟨.str (sg c), List.mem_map.mpr ⟨_, List.mem_map.mpr ⟨c, h, rfl⟩, rfl⟩, ?_⟩
    show (sg c == sg c) = true
    exact beq_self_eq_true _
theorem sgs_set (ps : List Nat) (i c : Nat) : (sgs ps).set i (.str (sg c)) = sgs (ps.set i c) := by
  unfold sgs; rw [List.map_set, List.map_set]
theorem nodup_set : ∀ {ps : List Nat} {i c : Nat}, ps.Nodup → c ∉ ps → (ps.set i c).Nodup
  | [], _, _, h, _ => h
  | a :: r, 0, c, h, hc => by
    rw [List.set_cons_zero]
    exact List.nodup_cons.mpr ⟨fun m => hc (List.mem_cons_of_mem _ m), (List.nodup_cons.mp h).2⟩
  | a :: r, i + 1, c, h, hc => by
    rw [List.set_cons_succ]
    obtain ⟨h1, h2⟩ := List.nodup_cons.mp h
    refine List.nodup_cons.mpr ⟨fun m => ?_, nodup_set h2 fun m => hc (List.mem_cons_of_mem _ m)⟩
    rcases List.mem_or_eq_of_mem_set m with q | q
    · exact h1 q
    · exact hc (q ▸ List.mem_cons_self)
theorem mem_set_or {α : Type} {ps : List α} {i : Nat} {c d : α} (h : d ∈ ps.set i c) : d ∈ ps ∨ d = c := List.mem_or_eq_of_mem_set h
theorem ix_pick {K : PySem.W.Frag} {H : Hp} {p : Addr} {s0 s1 : Str} {x : Int} {Q : VK} (hx : x = 0 ∨ x = 1) (hs : SqL K H p [.str s0, .str s1]) (k0 : SOk s0 = true) (k1 : SOk s1 = true)
    (h : ∀ s, SOk s = true → Q (.str s) H) : rIxL K (.ref p) (.int x) H Q := by
  rcases hx with e | e <;> rw [e]
  · exact ⟨p, _, 0, _, rfl, rfl, hs, atI_nat (j := 0) rfl, h s0 k0⟩
  · exact ⟨p, _, 1, _, rfl, rfl, hs, atI_nat (j := 1) rfl, h s1 k1⟩
theorem atI_nd {l : List Nat} {c : Int} (h : 0 ≤ c ∧ c < (l.length : Int)) : atI l c = some (l.getD c.toNat 0) := by
  obtain ⟨j, rfl⟩ := Int.eq_ofNat_of_zero_le h.1
  refine atI_nat ?_
  have hj : j < l.length := by omega
  rw [Int.toNat_natCast, List.getD_eq_getElem?_getD, List.getElem?_eq_getElem hj]
  rfl
theorem iteTd {p A B : Prop} [Decidable p] (h : p) (a : A) : if decide p = true then A else B := by rw [if_pos (decide_eq_true h)]; exact a
theorem iteFd {p A B : Prop} [Decidable p] (h : ¬ p) (a : B) : if decide p = true then A else B := by rw [if_neg (by simpa using h)]; exact a
end Kt
namespace Kt
open PySem PySem.Spec PyProof.Rows L2
theorem genS_by {env : Env} {scope : Scope} {x : Str} (h1 : scope.kind = .function) (h2 : scope.isCoroutine = false) (h3 : (scope.names.all fun y => !decide (y.2 = .cell) && !decide (y.2 = .free)) = true)
    (h4 : scope.names.lookup (".0" : Str) = some NameKind.local) (h5 : scope.names.lookup x = some .local) : GxR.GenS env scope x := by
  rw [List.all_eq_true] at h3
  refine ⟨h1, h2, fun y hy e => ?_, h4, h5, fun y hy e => ?_⟩
  · have := h3 y hy; rw [e] at this; simp at this
  · have := h3 y hy; rw [e] at this; simp at this
theorem tabbed_refl {P : Addr} {H : Hp} (t : GxR.TabG H P) : GxR.Tabbed P H H := ⟨t, fun _ _ => rfl⟩
/-- whether all signs are between the blank and the tilde -/
def spSigns (P : Addr) : Sp := fun vs H Q _ => ∃ z : Str, vs = [.str z] ∧ GxR.TabG H P ∧ ∀ H', GxR.Tabbed P H H' → Q (.bl (z.cps.toList.all fun c => decide (32 ≤ c ∧ c ≤ 126))) H'
/-- a set of signs that can be -/
def spCan (P : Addr) : Sp := fun vs H Q _ => ∃ z : Str, vs = [.str z] ∧ z.cps.size ≤ 1000 ∧ z.cps.toList.Nodup ∧ (∀ c ∈ z.cps.toList, 32 ≤ c ∧ c ≤ 126) ∧ GxR.TabG H P ∧ ∀ H', GxR.Tabbed P H H' → Q (.bl true) H'
def spCheckSheet (P : Addr) : Sp := fun vs H Q _ => ∃ (t : Addr) (z o : Str) (hm : V), vs = [.ref t] ∧ Good z o hm ∧ Sh H t z o hm ∧ GxR.TabG H P ∧ ∀ H', Kp P H H' → Q .non H'
def spCheckTape (K : PySem.W.Frag) : Sp := fun vs H Q _ => ∃ (t a : Addr) (z o : Str) (hm : V) (cs : List Int), vs = [.ref t, .ref a] ∧ Good z o hm ∧ Sh H t z o hm ∧ SqL K H a (cs.map V.int) ∧ Codes z.cps.size cs ∧ cs.length ≤ 100 ∧ ∀ H', Same H H' → Q .non H'
def spCheckSet : Sp := fun vs H Q _ => ∃ b : Int, vs = [.int b] ∧ Is01 b ∧ Q .non H
def behind (z : Str) (hm : V) (c nw : Int) : Int := if (z.cps.size : Int) ≤ c then c - z.cps.size else if V.int c = hm then 0 else nw
def spBehind : Sp := fun vs H Q _ => ∃ (t : Addr) (z o : Str) (hm : V) (c nw : Int), vs = [.ref t, .int c, .int nw] ∧ Good z o hm ∧ Sh H t z o hm ∧ Q (.int (behind z hm c nw)) H
def spBegun3 (K : PySem.W.Frag) (P : Addr) : Sp := fun vs H Q _ => ∃ (t a : Addr) (z o : Str) (hm : V) (cs : List Int) (b : Int), vs = [.ref t, .ref a, .int b] ∧ Good z o hm ∧ Sh H t z o hm ∧ SqL K H a (cs.map V.int) ∧ Codes z.cps.size cs ∧ cs.length ≤ 100 ∧ Is01 b ∧ GxR.TabG H P ∧
  ∀ H', Kp P H H' → Q .non H'
def spRead (K : PySem.W.Frag) (P : Addr) (last : Bool) : Sp := fun vs H Q _ => ∃ (t a : Addr) (z o : Str) (hm : V) (cs : List Int) (b : Int), vs = [.ref t, .ref a, .int b] ∧ Good z o hm ∧ Sh H t z o hm ∧ SqL K H a (cs.map V.int) ∧ Codes z.cps.size cs ∧ cs.length ≤ 100 ∧ Is01 b ∧ GxR.TabG H P ∧
  ∀ H', Kp P H H' → Q (if last then .int (rd z o hm cs b).2 else .str (rd z o hm cs b).1) H'
theorem rdStep_snd (z o : Str) (hm : V) (s : Str × Int) (c : Int) : (rdStep z o hm s c).2 = behind z hm c s.2 := by
  unfold rdStep behind
  by_cases h : (z.cps.size : Int) ≤ c
  · rw [if_pos h, if_pos h]
  · rw [if_neg h, if_neg h]
theorem tabIn_of {K : PySem.W.Frag} {x : Str} {f c P : Addr} {oc oc' : Value} {od od' : Option Addr} {fd : FuncData} {sl sl' : Array (Option Value)} {vs : Array Value} (a : PySem.W.nsIn K mainGlobals x = some (some (.ref f)))
    (l : K.lookup f = some ⟨oc, od, .func fd, sl⟩) (hc : fd.code = .ref c) (lc : K.lookup c = some ⟨oc', od', .fields vs, sl'⟩) (hv : (vs[11]? : Option Value) = some (.ref P)) : PySem.W.tabIn K x = some (c, P) := by
  unfold PySem.W.tabIn
  rw [a]
  simp only [l, hc, lc, hv]
end Kt
namespace Kt
open PySem PySem.Spec PyProof.Rows L2
/-! ### alike, at any depth -/
/-- the same data stand at both, to a depth -/
inductive Al (H : Hp) : Nat → V → V → Prop
  | non (n : Nat) : Al H n .non .non
  | bl (n : Nat) (b : Bool) : Al H n (.bl b) (.bl b)
  | int (n : Nat) (i : Int) : Al H n (.int i) (.int i)
  | str (n : Nat) (s : Str) : Al H n (.str s) (.str s)
  | lst {n : Nat} {a b : Addr} {xs ys : List V} (ha : H a = some (.lst xs)) (hb : H b = some (.lst ys)) (hl : xs.length = ys.length) (hz : xs.length ≤ 1000) (h : ∀ (i : Nat) (x y : V), xs[i]? = some x → ys[i]? = some y → Al H n x y) : Al H (n + 1) (.ref a) (.ref b)
  | tup {n : Nat} {a b : Addr} {xs ys : List V} (ha : H a = some (.tup xs)) (hb : H b = some (.tup ys)) (hl : xs.length = ys.length) (hz : xs.length ≤ 1000) (h : ∀ (i : Nat) (x y : V), xs[i]? = some x → ys[i]? = some y → Al H n x y) : Al H (n + 1) (.ref a) (.ref b)
def spAl (n : Nat) : Sp := fun vs H Q _ => ∃ a b, vs = [a, b] ∧ Al H n a b ∧ Q (.bl true) H
theorem Al.ints {H : Hp} {n : Nat} {a b : Addr} {ns : List Int} (ha : H a = some (.lst (ns.map V.int))) (hb : H b = some (.lst (ns.map V.int))) (hz : ns.length ≤ 1000) : Al H (n + 1) (.ref a) (.ref b) :=
  .lst ha hb rfl (by rw [List.length_map]; exact hz) fun i x y h1 h2 => by
    obtain ⟨k, _, rfl⟩ := at_map h1
    rw [h1] at h2
    cases h2
    exact .int n k
/-! ### the tables of the text -/
structure TWs where
  gs : List Addr
  ls : List (Addr × Str)
structure Tb (W : TWs) (H : Hp) : Prop where
  g : ∀ P ∈ W.gs, GxR.TabG H P
  l : ∀ p ∈ W.ls, LamX.TabS H p.1 p.2
/-- all but the tables stays -/
structure Kz (W : TWs) (H H' : Hp) : Prop where
  tb : Tb W H'
  at' : ∀ b o, (∀ ps, o ≠ .tbl ps) → H b = some o → H' b = some o
  nn : ∀ b, H' b = none → H b = none
section
variable {W : TWs} {H H1 H' : Hp}
theorem Kz.refl (t : Tb W H) : Kz W H H := ⟨t, fun _ _ _ h => h, fun _ h => h⟩
theorem Kz.trans (a : Kz W H H1) (b : Kz W H1 H') : Kz W H H' := ⟨b.tb, fun c o n h => b.at' c o n (a.at' c o n h), fun c h => a.nn c (b.nn c h)⟩
theorem tabS_same {P : Addr} {q : Str} (t : LamX.TabS H P q) (s : Same H H') : LamX.TabS H' P q := t.ext s
theorem Tb.same (t : Tb W H) (s : Same H H') : Tb W H' := ⟨fun P h => tab_same (t.g P h) fun o e => s _ o e, fun p h => tabS_same (t.l p h) s⟩
theorem Kz.same (t : Tb W H) (s : Same H H') : Kz W H H' := ⟨t.same s, fun b o _ h => s b o h, fun b h => s.free h⟩
theorem Kz.lst {a : Addr} {xs : List V} (k : Kz W H H') (h : H a = some (.lst xs)) : H' a = some (.lst xs) := k.at' a _ (fun _ e => nomatch e) h
theorem Kz.tup {a : Addr} {xs : List V} (k : Kz W H H') (h : H a = some (.tup xs)) : H' a = some (.tup xs) := k.at' a _ (fun _ e => nomatch e) h
theorem Kz.sh {t : Addr} {z o : Str} {hm : V} (k : Kz W H H') (h : Sh H t z o hm) : Sh H' t z o hm := k.tup h
theorem sameD {H H' : Hp} {D : Addr} {o : HO} (s : Same H H') (n : H D = none) : Same H (upd H' D o) := fun b x e => by
  rw [upd_ne (ne_of_none e n)]; exact s b x e
/-- a list that was new is changed -/
theorem Kz.upd {D : Addr} {xs ys : List V} (k : Kz W H H') (n : H D = none) (e : H' D = some (.lst xs)) : Kz W H (L2.upd H' D (.lst ys)) := by
  have st : ∀ c (o : HO), (∀ us, o ≠ .lst us) → H' c = some o → L2.upd H' D (.lst ys) c = some o := fun c o m z => by
    rw [upd_ne (ne_of z e (m _))]; exact z
  refine ⟨⟨fun P h => ?_, fun p h => ?_⟩, fun b o m z => ?_, fun b z => ?_⟩
  · obtain ⟨ps, h1, h2⟩ := k.tb.g P h
    exact ⟨ps, st _ _ (fun _ e => nomatch e) h1, h2⟩
  · obtain ⟨ps, h1, h2, h3⟩ := k.tb.l p h
    refine ⟨ps, st _ _ (fun _ e => nomatch e) h1, h2, fun pos cv hc => ?_⟩
    obtain ⟨c, e1, e2⟩ := h3 pos cv hc
    exact ⟨c, e1, st _ _ (fun us e => by unfold LamX.CodeO at e; cases e) e2⟩
  · rw [upd_ne (ne_of_none z n)]; exact k.at' b o m z
  · by_cases q : b = D
    · rw [q, upd_same] at z; cases z
    · rw [upd_ne q] at z; exact k.nn b z
theorem Kz.seqL {a : Addr} {K : PySem.W.Frag} {xs : List V} (k : Kz W H H') (h : SqL K H a xs) : SqL K H' a xs := by
  rcases h with (h | ⟨o, h⟩) | h
  · exact .inl (.inl (k.at' _ _ (fun ps e => nomatch e) h))
  · exact .inl (.inr ⟨o, k.at' _ _ (fun ps e => nomatch e) h⟩)
  · exact .inr h
theorem Kz.seqT {a : Addr} {K : PySem.W.Frag} {xs : List V} (k : Kz W H H') (h : SqT K H a xs) : SqT K H' a xs := by
  rcases h with (h | ⟨o, h⟩) | h
  · exact .inl (.inl (k.at' _ _ (fun ps e => nomatch e) h))
  · exact .inl (.inr ⟨o, k.at' _ _ (fun ps e => nomatch e) h⟩)
  · exact .inr h
theorem BoxAt.kz {b l : Addr} (x : BoxAt H b l) (k : Kz W H H') : BoxAt H' b l := by
  obtain ⟨ns, st, h1, h2⟩ := x
  exact ⟨ns, st, k.lst h1, k.lst h2⟩
theorem tab_kept {P P' : Addr} (t : GxR.TabG H P) (t' : GxR.TabG H P') (k : Kp P' H H') : GxR.TabG H' P := by
  by_cases e : P = P'
  · rw [e]; exact k.tab
  · exact tab_same t fun o h => k.at' P o e h
theorem tabS_kept {P P' : Addr} {q : Str} (t : LamX.TabS H P q) (t' : GxR.TabG H P') (ne : P ≠ P') (k : Kp P' H H') : LamX.TabS H' P q := by
  obtain ⟨ps, h1, h2, h3⟩ := t
  refine ⟨ps, k.at' _ _ ne h1, h2, fun pos cv hc => ?_⟩
  obtain ⟨c, e1, e2⟩ := h3 pos cv hc
  exact ⟨c, e1, k.get t' e2 fun ps => LamX.codeO_ne ps⟩
/-- a call that may have grown one generator's table -/
theorem Kz.kp {P : Addr} (t : Tb W H) (hP : P ∈ W.gs) (ne : ∀ p ∈ W.ls, p.1 ≠ P) (k : Kp P H H') : Kz W H H' :=
  ⟨⟨fun P' h => tab_kept (t.g P' h) (t.g P hP) k, fun p h => tabS_kept (t.l p h) (t.g P hP) (ne p h) k⟩, fun b o n h => k.get (t.g P hP) h n, fun b h => k.new (t.g P hP) h⟩
theorem Bxd.tb {b l : Addr} (x : Bxd b l H H') (bx : BoxAt H b l) (t : Tb W H) : Tb W H' := by
  refine ⟨fun P h => x.tab bx (t.g P h), fun p h => ?_⟩
  obtain ⟨ps, h1, h2, h3⟩ := t.l p h
  obtain ⟨ns, st, q1, q2⟩ := bx
  have st : ∀ c (o : HO), (∀ us, o ≠ .lst us) → H c = some o → H' c = some o := fun c o n e => x.at' c o (ne_of e q1 (n _)) (ne_of e q2 (n _)) e
  refine ⟨ps, st _ _ (fun _ e => nomatch e) h1, h2, fun pos cv hc => ?_⟩
  obtain ⟨c, e1, e2⟩ := h3 pos cv hc
  exact ⟨c, e1, st _ _ (fun us e => by unfold LamX.CodeO at e; cases e) e2⟩
theorem Al.mono {n : Nat} {x y : V} (k : ∀ a o, (∀ ps, o ≠ .tbl ps) → H a = some o → H' a = some o) (h : Al H n x y) : Al H' n x y := by
  induction h with
  | non n => exact .non n
  | bl n b => exact .bl n b
  | int n i => exact .int n i
  | str n s => exact .str n s
  | lst ha hb hl hz _ ih => exact .lst (k _ _ (fun _ e => nomatch e) ha) (k _ _ (fun _ e => nomatch e) hb) hl hz ih
  | tup ha hb hl hz _ ih => exact .tup (k _ _ (fun _ e => nomatch e) ha) (k _ _ (fun _ e => nomatch e) hb) hl hz ih
end
end Kt
namespace Kt
open PySem PySem.Spec PyProof.Rows L2
/-! ### zip(s, t), two texts -/
def ItzS (x y : Str) : It :=
  ⟨fun i _ => i < x.cps.size ∧ i < y.cps.size, fun i H v H' => ∃ T c d, v = .ref T ∧ H T = none ∧ H' = upd H T (.tup [.str (sg c), .str (sg d)]) ∧ x.cps[i]? = some c ∧ y.cps[i]? = some d, fun i _ => x.cps.size ≤ i ∨ y.cps.size ≤ i⟩
theorem turn_zipS {P : Program} {w : World} {K : PySem.W.Frag} {elts : List Expr} {kk : Nat} {tpos : Pos} (x y : Str) (t u : Tok) {z TI TO i1 i2 : Addr} (S : ZipSep2 z TI TO i1 i2 [i1] [i2]) :
    Turn P w K (.Tuple elts kk tpos) (ItzS x y) [z, TI, TO, i1, i2] z (fun i h => IsZip h z TI TO .none ∧ IsTupOf2 h TI (.ref i1) (.ref i2) ∧ (∃ a b, IsTupOf2 h TO a b) ∧ h.IsStrIter i1 (strIterType x) x t i ∧ h.IsStrIter i2 (strIterType y) y u i ∧ i ≤ x.cps.size ∧ i ≤ y.cps.size) where
  mem := by simp
  obj := fun i h st c hc => by
    obtain ⟨hz, hTI, ⟨a, b, hTO⟩, ⟨o1, e1, _, d1⟩, ⟨o2, e2, _, d2⟩, _⟩ := st
    have e' : c = z ∨ c = TI ∨ c = TO ∨ c = i1 ∨ c = i2 := by simpa using hc
    rcases e' with q | q | q | q | q
    · rw [q]; exact ⟨_, hz, fun v q => nomatch q⟩
    · rw [q]; exact ⟨_, hTI, fun v q => nomatch q⟩
    · rw [q]; exact ⟨_, hTO, fun v q => nomatch q⟩
    · rw [q]; exact ⟨o1, e1, fun v q => by rw [d1] at q; cases q⟩
    · rw [q]; exact ⟨o2, e2, fun v q => by rw [d2] at q; cases q⟩
  keep := fun i h h' st k => by
    obtain ⟨hz, hTI, ⟨a, b, hTO⟩, ⟨o1, e1, r1⟩, ⟨o2, e2, r2⟩, hl⟩ := st
    exact ⟨k z (by simp) _ hz, k TI (by simp) _ hTI, ⟨a, b, k TO (by simp) _ hTO⟩, ⟨o1, k i1 (by simp) _ e1, r1⟩, ⟨o2, k i2 (by simp) _ e2, r2⟩, hl⟩
  item := by
    intro X hP hw hK hc i pins s σ H E I hf st hg
    subst hP hw hK
    obtain ⟨hz, hTI, ⟨a, b, hTO⟩, h1, h2, _, _⟩ := st
    obtain ⟨g1, g2⟩ := hg
    have hzl : z < s.heap.objs.size := Heap.lt_size hz
    refine wpAny_pyNext_zipD2_item S (Draws.text (A := X.A.in1) (I.ok.hd hc) i1 x t) (Draws.text (A := X.A.in1) (I.ok.hd hc) i2 y u) hz hTI hTO h1 h2 g1 g2 fun x1 x2 h' tk p1 p2 z' TO' h1' h2' hT hsz hk => ?_
    obtain ⟨c, k1, hc1, rfl⟩ := p1
    obtain ⟨d, k2, hd1, rfl⟩ := p2
    refine ⟨_, rfl, wpAny_letOwnedTupleGo_zip (s := { s with heap := h', toks := tk }) z' fun h'' z'' sb => ?_⟩
    have hT2 : h''.get? s.heap.objs.size = some { cls := .type "tuple", data := .seq #[.str ⟨#[c]⟩ k1, .str ⟨#[d]⟩ k2] } := (sb.2 _ (Nat.ne_of_gt hzl)).trans hT
    have new : ObjOk X.prog X.w (upd H s.heap.objs.size (.tup [.str (sg c), .str (sg d)])) h'' s.heap.objs.size (.tup [.str (sg c), .str (sg d)]) :=
      ⟨by show 2 ≤ sizeLine; decide, [.str ⟨#[c]⟩ k1, .str ⟨#[d]⟩ k2], .cons ⟨_, rfl⟩ (.cons ⟨_, rfl⟩ .nil), ⟨_, hT2, rfl, _, rfl⟩⟩
    have I1 : Inv X pins σ (upd H s.heap.objs.size (.tup [.str (sg c), .str (sg d)])) { s with heap := h'', toks := tk } :=
      I.turnedNew (t' := tk) (ch := [z, TI, TO, i1, i2]) (fun c o hb q => (sb.2 c (fun q' => hb (by simp [q']))).trans (hk c o (fun q' => hb (by simp [q'])) (fun q' => hb (by simp [q'])) (fun q' => hb (by simp [q'])) (fun q' => hb (by simp [q'])) q)) hf (Nat.le_refl _) new
    refine ⟨.ref s.heap.objs.size, _, I1, rfl, ⟨_, c, d, rfl, I.hok.fresh (Nat.le_refl _), rfl, hc1, hd1⟩, ⟨z'', ?_, ⟨.str ⟨#[c]⟩ k1, .str ⟨#[d]⟩ k2, ?_⟩, ?_, ?_, g1, g2⟩, fun c hcm => ?_⟩
    · exact (sb.2 _ S.TIz).trans (hk _ _ S.TIz S.TITO S.TIi1 S.TIi2 hTI)
    · exact (sb.2 _ S.TOz).trans TO'
    · obtain ⟨o, q, r⟩ := h1'
      exact ⟨o, (sb.2 _ S.zi1.symm).trans q, r⟩
    · obtain ⟨o, q, r⟩ := h2'
      exact ⟨o, (sb.2 _ S.zi2.symm).trans q, r⟩
    · have hlt : c < s.heap.objs.size := by
        have e' : c = z ∨ c = TI ∨ c = TO ∨ c = i1 ∨ c = i2 := by simpa using hcm
        rcases e' with q | q | q | q | q
        · rw [q]; exact hzl
        · rw [q]; exact Heap.lt_size hTI
        · rw [q]; exact Heap.lt_size hTO
        · rw [q]; obtain ⟨_, e1, _⟩ := h1; exact Heap.lt_size e1
        · rw [q]; obtain ⟨_, e2, _⟩ := h2; exact Heap.lt_size e2
      rw [upd_ne (Nat.ne_of_lt hlt)]
      exact (hf c hcm).1
  done := by
    intro X hP hw hK hc i pins s σ H E I hf st hg
    subst hP hw hK
    obtain ⟨hz, hTI, ⟨a, b, hTO⟩, h1, h2, l1, l2⟩ := st
    have hend : i = x.cps.size ∨ i = y.cps.size := by
      rcases hg with q | q
      · exact .inl (Nat.le_antisymm l1 q)
      · exact .inr (Nat.le_antisymm l2 q)
    exact wpAny_pyNext_zipD2_end S (Draws.text (A := X.A.in1) (I.ok.hd hc) i1 x t) (Draws.text (A := X.A.in1) (I.ok.hd hc) i2 y u) hz hTI hTO h1 h2 l1 l2 hend fun h' tk hk => ⟨rfl, I.turnedL (t' := tk) (ch := [z, TI, TO, i1, i2]) (fun c o hb q =>
      hk c o (fun q' => hb (by simp [q'])) (fun q' => hb (by simp [q'])) (fun q' => hb (by simp [q'])) (fun q' => hb (by simp [q'])) q) hf⟩
  self := fun A i s Q E st h => wpAny_pyIter_zip st.1 h
def iZipS (ta : TA) : TI := fun σ H R => ta σ H fun vs H1 => ∃ x y : Str, vs = [.str x, .str y] ∧ R (ItzS x y) H1
theorem pi_zipS {X : Cx} {e e2 : Expr} {ta : TA} {p pos tpos : Pos} {elts : List Expr} {kk : Nat} (hg : Gl X "zip") (hm : X.mg "zip" = none) (ha : PA X [e, e2] ta)
    (hs : starEach [e, e2] X.env = (false, eval e X.env) :: starEach [e2] X.env := by rfl) (hpl : (backTo pos (starEach [e2] X.env)).any (·.1) = false := by rfl) :
    PI X (.Tuple elts kk tpos) (.Call (.Name "zip" p) [e, e2] [] pos) (iZipS ta) := by
  refine ⟨fun pins s σ H R I h => ?_⟩
  refine Call_ (ld_blt I hg hm PyProof.Rows.boot_zip (PyProof.Rows.callWith_type1 (thn (ha.run pos pins s σ H _ I h) fun us s1 ⟨vs, H1, I1, r1, q1⟩ => ?_) hs hpl))
  obtain ⟨x, y, ex, q⟩ := q1
  subst ex
  cases r1 with
  | cons r rr =>
    cases rr with
    | cons r' rr =>
      cases rr
      obtain ⟨t, rfl⟩ := r
      obtain ⟨u, rfl⟩ := r'
      refine zip_begins2 (begins_text x t) (begins_text y u) trivial trivial fun h' hz hTI hTO h1 h2 hsz hk => wpAny_pyIter_zip hz ?_
      have I2 : Inv X pins σ H1 { s1 with heap := h' } := I1.kept (t' := s1.toks) hk
      refine ⟨s1.heap.objs.size + 4, [s1.heap.objs.size + 4, s1.heap.objs.size + 2, s1.heap.objs.size + 3, s1.heap.objs.size, s1.heap.objs.size + 1], _, _, H1, rfl, I2, turn_zipS x y t u (zip_sep2 (N := s1.heap.objs.size) (fp1 := []) (fp2 := []) (fun b h => nomatch h) (fun b h => nomatch h)),
        ⟨hz, hTI, ⟨_, _, hTO⟩, ⟨_, h1, rfl, rfl⟩, ⟨_, h2, rfl, rfl⟩, Nat.zero_le _, Nat.zero_le _⟩, fun c hcm => ?_, q⟩
      have e' : c = s1.heap.objs.size + 4 ∨ c = s1.heap.objs.size + 2 ∨ c = s1.heap.objs.size + 3 ∨ c = s1.heap.objs.size ∨ c = s1.heap.objs.size + 1 := by simpa using hcm
      have hle : s1.heap.objs.size ≤ c := by
        rcases e' with z | z | z | z | z
        · rw [z]; exact Nat.le_add_right _ _
        · rw [z]; exact Nat.le_add_right _ _
        · rw [z]; exact Nat.le_add_right _ _
        · rw [z]; exact Nat.le_refl _
        · rw [z]; exact Nat.le_add_right _ _
      exact I1.fpOk hle (I1.hok.fresh hle)
end Kt
namespace Kt
open PySem PySem.Spec PyProof.Rows L2
/-! ### comprehensions over enumerate and zip -/
theorem lc_enum {K : PySem.W.Frag} {a : Addr} {xs : List V} {g : TG} {tt : TT} {te : TE} {vs : List Nat} {σ : L2.St} {H1 : Hp} {D : Addr} {Qd : Hp → Prop} (Pv : Nat → Hp → Prop) (h0 : Pv 0 (upd H1 D (.lst []))) (hl : ∀ i H, i ≤ xs.length → Pv i H → SqL K H a xs)
    (hs : ∀ (i : Nat) (x : V) (T : Addr) (H : Hp), xs[i]? = some x → Pv i H → H T = none → g (.ref T) (wipe σ vs) (upd H T (.tup [.int (i : Nat), x])) fun σ2 H2 => wipe σ2 vs = wipe σ vs ∧ tt σ2 H2 fun b H3 =>
      if b = true then te σ2 H3 fun y H4 => ∃ acc, H4 D = some (.lst acc) ∧ acc.length < sizeLine ∧ Pv (i + 1) (upd H4 D (.lst (acc ++ [y]))) else Pv (i + 1) H3) (hd : ∀ H, Pv xs.length H → Qd H) :
    ∃ W : Nat → Nat → Hp → Prop, (∃ m, W 0 m (upd H1 D (.lst []))) ∧ ∀ i m H, W i m H →
      ((Ite K a).stop i H ∧ Qd H) ∨ ((Ite K a).go i H ∧ ∃ Nx : Hp → Prop, (∀ H', Nx H' → ∃ m', m' < m ∧ W (i + 1) m' H') ∧ ∀ x H', (Ite K a).yld i H x H' → g x (wipe σ vs) H' fun σ2 H2 => wipe σ2 vs = wipe σ vs ∧ tt σ2 H2 fun b H3 =>
        if b = true then te σ2 H3 fun y H4 => ∃ acc, H4 D = some (.lst acc) ∧ acc.length < sizeLine ∧ Nx (upd H4 D (.lst (acc ++ [y]))) else Nx H3) := by
  refine ⟨fun i m H => m = xs.length - i ∧ i ≤ xs.length ∧ Pv i H, ⟨xs.length, by simp, Nat.zero_le _, h0⟩, ?_⟩
  rintro i m H ⟨rfl, hi, p⟩
  have hS := hl i H hi p
  by_cases hlt : i < xs.length
  · refine .inr ⟨⟨xs, xs[i], hS, List.getElem?_eq_getElem hlt⟩, Pv (i + 1), fun H' p' => ⟨xs.length - (i + 1), by omega, rfl, hlt, p'⟩, fun v H' hy => ?_⟩
    obtain ⟨T, x2, rfl, nT, rfl, f⟩ := hy
    exact hs i x2 T H (f xs hS) p nT
  · obtain rfl : i = xs.length := by omega
    exact .inl ⟨⟨xs, hS, Nat.le_refl _⟩, hd H p⟩
theorem lc_zipS {x y : Str} {g : TG} {tt : TT} {te : TE} {vs : List Nat} {σ : L2.St} {H1 : Hp} {D : Addr} {Qd : Hp → Prop} (hxy : x.cps.size = y.cps.size) (Pv : Nat → Hp → Prop) (h0 : Pv 0 (upd H1 D (.lst [])))
    (hs : ∀ (i c d : Nat) (T : Addr) (H : Hp), x.cps.toList[i]? = some c → y.cps.toList[i]? = some d → Pv i H → H T = none → g (.ref T) (wipe σ vs) (upd H T (.tup [.str (sg c), .str (sg d)])) fun σ2 H2 => wipe σ2 vs = wipe σ vs ∧ tt σ2 H2 fun b H3 =>
      if b = true then te σ2 H3 fun y H4 => ∃ acc, H4 D = some (.lst acc) ∧ acc.length < sizeLine ∧ Pv (i + 1) (upd H4 D (.lst (acc ++ [y]))) else Pv (i + 1) H3) (hd : ∀ H, Pv x.cps.size H → Qd H) :
    ∃ W : Nat → Nat → Hp → Prop, (∃ m, W 0 m (upd H1 D (.lst []))) ∧ ∀ i m H, W i m H →
      ((ItzS x y).stop i H ∧ Qd H) ∨ ((ItzS x y).go i H ∧ ∃ Nx : Hp → Prop, (∀ H', Nx H' → ∃ m', m' < m ∧ W (i + 1) m' H') ∧ ∀ v H', (ItzS x y).yld i H v H' → g v (wipe σ vs) H' fun σ2 H2 => wipe σ2 vs = wipe σ vs ∧ tt σ2 H2 fun b H3 =>
        if b = true then te σ2 H3 fun y H4 => ∃ acc, H4 D = some (.lst acc) ∧ acc.length < sizeLine ∧ Nx (upd H4 D (.lst (acc ++ [y]))) else Nx H3) := by
  refine ⟨fun i m H => m = x.cps.size - i ∧ i ≤ x.cps.size ∧ Pv i H, ⟨x.cps.size, by simp, Nat.zero_le _, h0⟩, ?_⟩
  rintro i m H ⟨rfl, hi, p⟩
  by_cases hlt : i < x.cps.size
  · refine .inr ⟨⟨hlt, by omega⟩, Pv (i + 1), fun H' p' => ⟨x.cps.size - (i + 1), by omega, rfl, hlt, p'⟩, fun v H' hy => ?_⟩
    obtain ⟨T, c, d, rfl, nT, rfl, e1, e2⟩ := hy
    exact hs i c d T H (by rw [Array.getElem?_toList]; exact e1) (by rw [Array.getElem?_toList]; exact e2) p nT
  · obtain rfl : i = x.cps.size := by omega
    exact .inl ⟨Or.inl (Nat.le_refl _), hd H p⟩
/-! ### lost shifts -/
/-- the places of all shift codes -/
def plc (n : Nat) (cs : List Int) : List Nat := (List.range cs.length).filter fun i => decide ((n : Int) ≤ cs.getD i 0)
def plcV (n : Nat) (cs : List Int) (k : Nat) : List Nat := (List.range k).filter fun i => decide ((n : Int) ≤ cs.getD i 0)
theorem plcV_all (n : Nat) (cs : List Int) : plcV n cs cs.length = plc n cs := rfl
theorem plcV_succ (n : Nat) (cs : List Int) (k : Nat) : plcV n cs (k + 1) = plcV n cs k ++ if (n : Int) ≤ cs.getD k 0 then [k] else [] := by
  unfold plcV
  rw [List.range_succ, List.filter_append]
  congr 1
  by_cases h : (n : Int) ≤ cs.getD k 0
  · rw [if_pos h]; simp only [List.filter_cons, List.filter_nil, decide_eq_true h]; rfl
  · rw [if_neg h]; simp only [List.filter_cons, List.filter_nil, decide_eq_false h]; rfl
theorem plcV_le (n : Nat) (cs : List Int) (k : Nat) : (plcV n cs k).length ≤ k := by
  unfold plcV
  exact Nat.le_trans (List.length_filter_le _ _) (by rw [List.length_range]; exact Nat.le_refl _)
theorem plc_lt {n : Nat} {cs : List Int} {i : Nat} (h : i ∈ plc n cs) : i < cs.length ∧ (n : Int) ≤ cs.getD i 0 := by
  unfold plc at h
  obtain ⟨h1, h2⟩ := List.mem_filter.mp h
  exact ⟨List.mem_range.mp h1, of_decide_eq_true h2⟩
def inZ (l : List Nat) : List V := l.map fun k => V.int ((k : Nat) : Int)
theorem inZ_at {l : List Nat} {i k : Nat} (h : l[i]? = some k) : (inZ l)[i]? = some (.int ((k : Nat) : Int)) := map_at h
/-- the tape without the code at a place -/
def cutAt (cs : List Int) (i : Nat) : List Int := cs.take i ++ cs.drop (i + 1)
theorem cut_lo (cs : List Int) (i : Nat) (h : i ≤ cs.length) : cutV (cs.map V.int) none (some ((i : Nat) : Int)) = (cs.take i).map V.int := by
  unfold cutV
  rw [HT.sIx_none, HT.sIx_nat, List.length_map, List.drop_zero, Nat.sub_zero, Nat.min_eq_left h, List.map_take]
theorem cut_hi (cs : List Int) (i : Nat) (h : i ≤ cs.length) : cutV (cs.map V.int) (some ((i : Nat) : Int)) none = (cs.drop i).map V.int := by
  unfold cutV
  rw [HT.sIx_none, HT.sIx_nat, List.length_map, Nat.min_eq_left h, List.map_drop, List.take_of_length_le]
  rw [List.length_drop, List.length_map]
  exact Nat.le_refl _
theorem cutAt_codes {n : Nat} {cs : List Int} (h : Codes n cs) (i : Nat) : Codes n (cutAt cs i) := fun c hc => by
  rcases List.mem_append.mp hc with m | m
  · exact h c (List.mem_of_mem_take m)
  · exact h c (List.mem_of_mem_drop m)
theorem cutAt_len (cs : List Int) (i : Nat) : (cutAt cs i).length ≤ cs.length := by
  unfold cutAt
  rw [List.length_append, List.length_take, List.length_drop]; omega
/-- how many signs a tape has -/
def signN (n : Nat) (cs : List Int) : Nat := (cs.filter fun c => decide (c < (n : Int))).length
theorem rd_size (z o : Str) (hm : V) (cs : List Int) (b : Int) : (rd z o hm cs b).1.cps.size = signN z.cps.size cs := by
  suffices h : ∀ (cs : List Int) (s : Str × Int), (cs.foldl (rdStep z o hm) s).1.cps.size = s.1.cps.size + signN z.cps.size cs by
    have e : (Str.ofString "").cps.size = 0 := by decide +kernel
    have := h cs (Str.ofString "", b)
    unfold rd
    rw [this, e, Nat.zero_add]
  intro cs
  induction cs with
  | nil => intro s; rfl
  | cons c cs ih =>
    intro s
    rw [List.foldl_cons, ih]
    unfold signN rdStep
    by_cases h : (z.cps.size : Int) ≤ c
    · rw [if_pos h, List.filter_cons_of_neg (by simpa using h)]
    · rw [if_neg h, List.filter_cons_of_pos (by simp; omega)]
      rw [Str.cps_append, Array.size_append]
      simp [sg]; omega
theorem cutAt_sign {n : Nat} {cs : List Int} {i : Nat} (h1 : i < cs.length) (h2 : (n : Int) ≤ cs.getD i 0) : signN n (cutAt cs i) = signN n cs := by
  have e : cs = cs.take i ++ cs[i] :: cs.drop (i + 1) := by
    rw [← List.drop_eq_getElem_cons h1, List.take_append_drop]
  have e2 : cs.getD i 0 = cs[i] := by simp [List.getD_eq_getElem?_getD, h1]
  rw [e2] at h2
  unfold signN cutAt
  conv => rhs; rw [e]
  rw [List.filter_append, List.filter_append, List.filter_cons_of_neg (by simpa using h2)]
/-- the text without the code at a place -/
def wo (z o : Str) (hm : V) (cs : List Int) (b : Int) (i : Nat) : Str := (rd z o hm (cutAt cs i) b).1
theorem wo_size {z o : Str} {hm : V} {cs : List Int} {b : Int} {i : Nat} (h : i ∈ plc z.cps.size cs) : (wo z o hm cs b i).cps.size = (rd z o hm cs b).1.cps.size := by
  unfold wo
  rw [rd_size, rd_size, cutAt_sign (plc_lt h).1 (plc_lt h).2]
/-- at how many places two texts are unlike -/
def unlikeV (x y : Str) (k : Nat) : Nat := ((List.range k).filter fun i => decide (x.cps.toList.getD i 0 ≠ y.cps.toList.getD i 0)).length
def unlike (x y : Str) : Nat := unlikeV x y x.cps.size
theorem unlikeV_succ (x y : Str) (k : Nat) : unlikeV x y (k + 1) = unlikeV x y k + if x.cps.toList.getD k 0 ≠ y.cps.toList.getD k 0 then 1 else 0 := by
  unfold unlikeV
  rw [List.range_succ, List.filter_append, List.length_append]
  congr 1
  by_cases h : x.cps.toList.getD k 0 ≠ y.cps.toList.getD k 0
  · rw [if_pos h, List.filter_cons_of_pos (by exact decide_eq_true h)]; rfl
  · rw [if_neg h, List.filter_cons_of_neg (by simpa using h)]; rfl
theorem unlikeV_le (x y : Str) (k : Nat) : unlikeV x y k ≤ k := by
  unfold unlikeV
  exact Nat.le_trans (List.length_filter_le _ _) (by rw [List.length_range]; exact Nat.le_refl _)
/-- pairs that stand as tuples -/
def Prs (H : Hp) : List Addr → List (Int × Int) → Prop
  | [], [] => True
  | a :: as, p :: L => H a = some (.tup [.int p.1, .int p.2]) ∧ Prs H as L
  | _, _ => False
theorem Prs.mono {H H' : Hp} (k : ∀ a xs, H a = some (.tup xs) → H' a = some (.tup xs)) : ∀ {as : List Addr} {L : List (Int × Int)}, Prs H as L → Prs H' as L
  | [], [], _ => trivial
  | a :: as, u :: L, h => ⟨k _ _ h.1, Prs.mono k h.2⟩
  | [], _ :: _, h => h.elim
  | _ :: _, [], h => h.elim
theorem Prs.len {H : Hp} : ∀ {as : List Addr} {L : List (Int × Int)}, Prs H as L → as.length = L.length
  | [], [], _ => rfl
  | a :: as, u :: L, h => congrArg (· + 1) (Prs.len h.2)
  | [], _ :: _, h => h.elim
  | _ :: _, [], h => h.elim
theorem Prs.app {H : Hp} : ∀ {as bs : List Addr} {L M : List (Int × Int)}, Prs H as L → Prs H bs M → Prs H (as ++ bs) (L ++ M)
  | [], _, [], _, _, g => g
  | a :: as, _, u :: L, _, h, g => ⟨h.1, Prs.app h.2 g⟩
  | [], _, _ :: _, _, h, _ => h.elim
  | _ :: _, _, [], _, h, _ => h.elim
theorem Prs.get {H : Hp} : ∀ {as : List Addr} {L : List (Int × Int)}, Prs H as L → ∀ {i : Nat} {a : Addr}, as[i]? = some a → ∃ p, L[i]? = some p ∧ H a = some (.tup [.int p.1, .int p.2])
  | [], [], _, i, a, e => by simp at e
  | b :: as, u :: L, h, 0, a, e => by
    simp at e; subst e
    exact ⟨u, rfl, h.1⟩
  | b :: as, u :: L, h, i + 1, a, e => by
    obtain ⟨v, e1, e2⟩ := Prs.get h.2 (i := i) (a := a) (by simpa using e)
    exact ⟨v, by simpa using e1, e2⟩
  | [], _ :: _, h, _, _, _ => h.elim
  | _ :: _, [], h, _, _, _ => h.elim
theorem atI_0 {l : List Nat} {j : Nat} (h : j < l.length) : atI l (0 + (j : Int)) = some (l.getD j 0) := by
  rw [Int.zero_add]
  exact atI_nat (j := j) (by rw [List.getD_eq_getElem?_getD, List.getElem?_eq_getElem h]; rfl)
theorem cut_read {K : PySem.W.Frag} {σ : L2.St} {H : Hp} {i j : Nat} {D : Addr} {cs : List Int} {k : Nat} {Q : VK} (h1 : σ[i]? = some (some (.ref D))) (h2 : σ[j]? = some (some (.int ((k : Nat) : Int)))) (hS : SqL K H D (cs.map V.int)) (hk : k < cs.length) (hl : cs.length ≤ 1000)
    (q : ∀ p H', Same H H' → H p = none → H' p = some (.lst ((cutAt cs k).map V.int)) → Q (.ref p) H') :
    tOp rCat (tSl (rSlL K) (tVar i) tNoPart (tPart (tVar j))) (tSl (rSlL K) (tVar i) (tPart (tOp (rI0 fun i j => V.int (i + j)) (tVar j) (tC (.int 1)))) tNoPart) σ H Q := by
  refine ⟨.ref D, h1, .int (k : Nat), h2, (k : Nat), rfl, D, _, rfl, hS, fun p1 n1 => ?_⟩
  have s1 := same_new (o := HO.lst (cutV (cs.map V.int) none (some (k : Nat)))) n1
  refine ⟨.ref D, h1, .int (k : Nat), h2, (k : Nat), 1, rfl, rfl, _, rfl, D, _, rfl, s1.seq hS, fun p2 n2 => ?_⟩
  have s2 := s1.trans (same_new (o := HO.lst (cutV (cs.map V.int) (some ((k : Nat) + 1)) none)) n2)
  have e1 := cut_lo cs k (by omega)
  have e2 := cut_hi cs (k + 1) (by omega)
  refine ⟨p1, p2, _, _, rfl, rfl, same_new n2 _ _ upd_same, upd_same, Nat.le_trans (Nat.add_le_add (cutV_length _ _ _) (cutV_length _ _ _)) (by rw [List.length_map]; exact Nat.le_trans (Nat.add_le_add hl hl) (by decide)), fun p3 n3 => ?_⟩
  refine q p3 _ (s2.trans (same_new n3)) (s2.free n3) ?_
  rw [upd_same, e1]
  unfold cutAt
  rw [List.map_append, ← e2]
  rfl
theorem BoxAt.fresh {H : Hp} {b l p : Addr} (bx : BoxAt H b l) (n : H p = none) : p ≠ b ∧ p ≠ l := by
  obtain ⟨ns, st, h1, h2⟩ := bx
  exact ⟨(ne_of_none h1 n).symm, (ne_of_none h2 n).symm⟩
def unl (x y : Str) (k : Nat) : List Nat := (List.range k).filter fun i => decide (x.cps.toList.getD i 0 ≠ y.cps.toList.getD i 0)
theorem unl_succ (x y : Str) (k : Nat) : unl x y (k + 1) = unl x y k ++ if x.cps.toList.getD k 0 ≠ y.cps.toList.getD k 0 then [k] else [] := by
  unfold unl
  rw [List.range_succ, List.filter_append]
  congr 1
  by_cases h : x.cps.toList.getD k 0 ≠ y.cps.toList.getD k 0
  · rw [if_pos h, List.filter_cons_of_pos (by exact decide_eq_true h)]; rfl
  · rw [if_neg h, List.filter_cons_of_neg (by simpa using h)]; rfl
theorem unl_len (x y : Str) (k : Nat) : (unl x y k).length = unlikeV x y k := rfl
theorem filt_succ {α : Type} {l : List α} {i : Nat} {k : α} (p : α → Bool) (hk : l[i]? = some k) : (l.take (i + 1)).filter p = (l.take i).filter p ++ if p k = true then [k] else [] := by
  rw [List.take_add_one, hk, List.filter_append]
  congr 1
  by_cases e : p k = true
  · rw [if_pos e]; exact List.filter_cons_of_pos e
  · rw [if_neg e]; exact List.filter_cons_of_neg e
def prD (p : Int × Int) : PyData := .tuple [.int p.1, .int p.2]
theorem canLay_prs : ∀ L : List (Int × Int), PyData.canLayAll0 (L.map prD) = true
  | [] => by simp [PyData.canLayAll0]
  | p :: r => by simp [PyData.canLayAll0, PyData.canLay0, prD, canLay_prs r]
theorem depth_prs : ∀ L : List (Int × Int), PyData.depthAll (L.map prD) ≤ 1
  | [] => by simp [PyData.depthAll]
  | p :: r => by
    have := depth_prs r
    simp only [List.map_cons, PyData.depthAll, PyData.depth, prD]
    omega
theorem shaped_prs (L : List (Int × Int)) : SeqAt.shaped (.list (L.map prD)) = true := by
  have h1 := depth_prs L
  have h2 : PyData.depth (.list (L.map prD)) ≤ 64 := by simp only [PyData.depth]; omega
  show (PyData.canLay0 (.list (L.map prD)) && decide (PyData.depth (.list (L.map prD)) ≤ 64)) = true
  rw [Bool.and_eq_true]
  exact ⟨by simp only [PyData.canLay0]; exact canLay_prs L, decide_eq_true h2⟩
theorem eqv_none : ∀ L : List (Int × Int), PyData.eqv (.list (L.map prD)) (.list []) = L.isEmpty
  | [] => by simp [PyData.eqv, PyData.eqvAll]
  | p :: r => by simp [PyData.eqv, PyData.eqvAll]
theorem Prs.dp {K : PySem.W.Frag} {H : Hp} : ∀ {as : List Addr} {L : List (Int × Int)}, Prs H as L → DpAll K H (as.map V.ref) (L.map prD)
  | [], [], _ => .nil
  | a :: as, p :: L, h => .cons (.tup (SqT.of h.1) (.cons (.int _) (.cons (.int _) .nil))) (Prs.dp h.2)
  | [], _ :: _, h => h.elim
  | _ :: _, [], h => h.elim
theorem Prs.al {H : Hp} {as bs : List Addr} {L : List (Int × Int)} {a b : Addr} (ha : H a = some (.lst (as.map V.ref))) (hb : H b = some (.lst (bs.map V.ref))) (pa : Prs H as L) (pb : Prs H bs L) (hl : L.length ≤ 1000) : Al H 2 (.ref a) (.ref b) := by
  have l1 := pa.len
  have l2 := pb.len
  refine .lst ha hb (by rw [List.length_map, List.length_map, l1, l2]) (by rw [List.length_map, l1]; exact hl) fun i x y h1 h2 => ?_
  obtain ⟨u, hu, rfl⟩ := at_map h1
  obtain ⟨v, hv, rfl⟩ := at_map h2
  obtain ⟨p, hp, eu⟩ := pa.get hu
  obtain ⟨p', hp', ev⟩ := pb.get hv
  rw [hp] at hp'
  cases hp'
  refine .tup eu ev rfl (by show 2 ≤ 1000; decide) fun j x y e1 e2 => ?_
  match j, e1, e2 with
  | 0, e1, e2 => cases e1; cases e2; exact .int _ _
  | 1, e1, e2 => cases e1; cases e2; exact .int _ _
  | j + 2, e1, e2 => simp at e1
theorem inZ_al {H : Hp} {l : List Nat} {n : Nat} {a b : Addr} (ha : H a = some (.lst (inZ l))) (hb : H b = some (.lst (inZ l))) (hl : l.length ≤ 1000) : Al H (n + 1) (.ref a) (.ref b) := by
  refine .lst ha hb rfl (by unfold inZ; rw [List.length_map]; exact hl) fun i x y h1 h2 => ?_
  obtain ⟨u, hu, rfl⟩ := at_map h1
  rw [h1] at h2
  cases h2
  exact .int _ _
/-- what is told spoilt -/
def lossOf (z o : Str) (hm : V) (cs : List Int) (b : Int) (i : Nat) : Int × Int := (((i : Nat) : Int), ((unlike (rd z o hm cs b).1 (wo z o hm cs b i) : Nat) : Int))
def losses (z o : Str) (hm : V) (cs : List Int) (b : Int) : List (Int × Int) := (plc z.cps.size cs).map (lossOf z o hm cs b)
def lostAt (z o : Str) (hm : V) (cs : List Int) (b : Int) (x : Str) : List Nat := (plc z.cps.size cs).filter fun i => decide (wo z o hm cs b i = x)
def kept (z o : Str) (hm : V) (cs : List Int) (b : Int) (most : Int) : Bool := (losses z o hm cs b).all fun p => decide (p.2 ≤ most)
theorem losses_len (z o : Str) (hm : V) (cs : List Int) (b : Int) : (losses z o hm cs b).length ≤ cs.length := by
  unfold losses
  rw [List.length_map]
  exact plcV_le z.cps.size cs cs.length
/-! ### the promises -/
def spPlaces (K : PySem.W.Frag) : Sp := fun vs H Q _ => ∃ (t a : Addr) (z o : Str) (hm : V) (cs : List Int), vs = [.ref t, .ref a] ∧ Good z o hm ∧ Sh H t z o hm ∧ SqL K H a (cs.map V.int) ∧ cs.length ≤ 1000 ∧
  ∀ p H', Same H H' → H p = none → H' p = some (.lst (inZ (plc z.cps.size cs))) → Q (.ref p) H'
def spWo (K : PySem.W.Frag) : Sp := fun vs H Q _ => ∃ (t a : Addr) (z o : Str) (hm : V) (cs : List Int) (b : Int) (i : Nat), vs = [.ref t, .ref a, .int b, .int (i : Nat)] ∧ Good z o hm ∧ Sh H t z o hm ∧ SqL K H a (cs.map V.int) ∧ Codes z.cps.size cs ∧ cs.length ≤ 100 ∧ Is01 b ∧ i < cs.length ∧
  ∀ H', Same H H' → Q (.str (wo z o hm cs b i)) H'
def spUnlike : Sp := fun vs H Q _ => ∃ x y : Str, vs = [.str x, .str y] ∧ x.cps.size = y.cps.size ∧ x.cps.size ≤ 1000 ∧ ∀ H', Same H H' → Q (.int ((unlike x y : Nat) : Int)) H'
def spSpoilt (K : PySem.W.Frag) (P : Addr) : Sp := fun vs H Q _ => ∃ (t a : Addr) (z o : Str) (hm : V) (cs : List Int) (b : Int), vs = [.ref t, .ref a, .int b] ∧ Good z o hm ∧ Sh H t z o hm ∧ SqL K H a (cs.map V.int) ∧ Codes z.cps.size cs ∧ cs.length ≤ 100 ∧ Is01 b ∧ GxR.TabG H P ∧
  ∀ p as H', Kp P H H' → H p = none → H' p = some (.lst (as.map V.ref)) → Prs H' as (losses z o hm cs b) → (∀ a ∈ as, H a = none) → Q (.ref p) H'
def spLostAt (K : PySem.W.Frag) (P : Addr) : Sp := fun vs H Q _ => ∃ (t a : Addr) (z o : Str) (hm : V) (cs : List Int) (b : Int) (x : Str), vs = [.ref t, .ref a, .int b, .str x] ∧ Good z o hm ∧ Sh H t z o hm ∧ SqL K H a (cs.map V.int) ∧ Codes z.cps.size cs ∧ cs.length ≤ 100 ∧ Is01 b ∧ GxR.TabG H P ∧
  ∀ p H', Kp P H H' → H p = none → H' p = some (.lst (inZ (lostAt z o hm cs b x))) → Q (.ref p) H'
def spCount : Sp := fun vs H Q _ => ∃ m n : Int, vs = [.int m, .int n] ∧ 0 ≤ m ∧ m ≤ n ∧ Q .non H
def spIsGuarded (K : PySem.W.Frag) (P : Addr) : Sp := fun vs H Q _ => ∃ (t a : Addr) (z o : Str) (hm : V) (cs : List Int) (b m : Int), vs = [.ref t, .ref a, .int b, .int m] ∧ Good z o hm ∧ Sh H t z o hm ∧ SqL K H a (cs.map V.int) ∧ Codes z.cps.size cs ∧ cs.length ≤ 100 ∧ Is01 b ∧ 0 ≤ m ∧ m ≤ 32 ∧ GxR.TabG H P ∧
  ∀ H', Kp P H H' → Q (.bl (kept z o hm cs b m)) H'
end Kt
namespace K06
open PySem PySem.Spec PyProof.Rows L2
def topS (i : Nat) : Stmt := PySem.Challenge.pw_shifttape_k06_what_is_spoilt.main.body.getD i (.Pass ⟨0, 0, 0, 0⟩)
abbrev s_are_signs : Stmt := topS 10
theorem sc_are_signs : FnScope ["signs"] ["signs"] (defScope s_are_signs) := ⟨rfl, rfl, rfl, by decide +kernel, rfl, by decide +kernel, by decide +kernel⟩
abbrev s_can_be_a_set : Stmt := topS 11
theorem sc_can_be_a_set : FnScope ["signs"] ["signs"] (defScope s_can_be_a_set) := ⟨rfl, rfl, rfl, by decide +kernel, rfl, by decide +kernel, by decide +kernel⟩
abbrev s_check_sheet : Stmt := topS 12
theorem sc_check_sheet : FnScope ["sheet", "zero", "one", "home"] ["sheet"] (defScope s_check_sheet) := ⟨rfl, rfl, rfl, by decide +kernel, rfl, by decide +kernel, by decide +kernel⟩
abbrev s_check_tape : Stmt := topS 13
theorem sc_check_tape : FnScope ["sheet", "tape", "last", "place", "code"] ["sheet", "tape"] (defScope s_check_tape) := ⟨rfl, rfl, rfl, by decide +kernel, rfl, by decide +kernel, by decide +kernel⟩
abbrev s_check_set : Stmt := topS 14
theorem sc_check_set : FnScope ["begin"] ["begin"] (defScope s_check_set) := ⟨rfl, rfl, rfl, by decide +kernel, rfl, by decide +kernel, by decide +kernel⟩
abbrev s_check_count : Stmt := topS 15
theorem sc_check_count : FnScope ["many", "most"] ["many", "most"] (defScope s_check_count) := ⟨rfl, rfl, rfl, by decide +kernel, rfl, by decide +kernel, by decide +kernel⟩
abbrev s_check_begun : Stmt := topS 16
theorem sc_check_begun : FnScope ["sheet", "tape", "begin"] ["sheet", "tape", "begin"] (defScope s_check_begun) := ⟨rfl, rfl, rfl, by decide +kernel, rfl, by decide +kernel, by decide +kernel⟩
abbrev s_set_behind : Stmt := topS 18
theorem sc_set_behind : FnScope ["sheet", "code", "now", "zero", "_", "home"] ["sheet", "code", "now"] (defScope s_set_behind) := ⟨rfl, rfl, rfl, by decide +kernel, rfl, by decide +kernel, by decide +kernel⟩
abbrev s_walked : Stmt := topS 19
theorem sc_walked : FnScope ["sheet", "tape", "begin", "text", "now", "code"] ["sheet", "tape", "begin"] (defScope s_walked) := ⟨rfl, rfl, rfl, by decide +kernel, rfl, by decide +kernel, by decide +kernel⟩
abbrev s_shift_places : Stmt := topS 21
theorem sc_shift_places : FnScope ["sheet", "tape", "place", "code"] ["sheet", "tape"] (defScope s_shift_places) := ⟨rfl, rfl, rfl, by decide +kernel, rfl, by decide +kernel, by decide +kernel⟩
abbrev s_text_without : Stmt := topS 22
theorem sc_text_without : FnScope ["sheet", "tape", "begin", "place", "text", "_"] ["sheet", "tape", "begin", "place"] (defScope s_text_without) := ⟨rfl, rfl, rfl, by decide +kernel, rfl, by decide +kernel, by decide +kernel⟩
abbrev s_count_unlike : Stmt := topS 23
theorem sc_count_unlike : FnScope ["text", "other", "sign", "instead"] ["text", "other"] (defScope s_count_unlike) := ⟨rfl, rfl, rfl, by decide +kernel, rfl, by decide +kernel, by decide +kernel⟩
abbrev s_spoilt : Stmt := topS 24
theorem sc_spoilt : FnScope ["sheet", "tape", "begin", "text", "_", "place"] ["sheet", "tape", "begin"] (defScope s_spoilt) := ⟨rfl, rfl, rfl, by decide +kernel, rfl, by decide +kernel, by decide +kernel⟩
abbrev s_lost_at : Stmt := topS 25
theorem sc_lost_at : FnScope ["sheet", "tape", "begin", "text", "places", "place"] ["sheet", "tape", "begin", "text"] (defScope s_lost_at) := ⟨rfl, rfl, rfl, by decide +kernel, rfl, by decide +kernel, by decide +kernel⟩
abbrev s_is_guarded : Stmt := topS 27
theorem sc_is_guarded : FnScope ["sheet", "tape", "begin", "most", "losses", "_", "many"] ["sheet", "tape", "begin", "most"] (defScope s_is_guarded) := ⟨rfl, rfl, rfl, by decide +kernel, rfl, by decide +kernel, by decide +kernel⟩
abbrev s_l_begun : Stmt := topS 29
theorem sc_l_begun : FnScope ["_law_script", "_law_stirred", "_law_cell"] ["_law_script"] (defScope s_l_begun) := ⟨rfl, rfl, rfl, by decide +kernel, rfl, by decide +kernel, by decide +kernel⟩
abbrev s_l_take : Stmt := topS 30
theorem sc_l_take : FnScope ["_law_box", "_law_many", "_law_number"] ["_law_box", "_law_many"] (defScope s_l_take) := ⟨rfl, rfl, rfl, by decide +kernel, rfl, by decide +kernel, by decide +kernel⟩
abbrev s_l_alike : Stmt := topS 31
theorem sc_l_alike : FnScope ["_law_found", "_law_due", "_law_k"] ["_law_found", "_law_due"] (defScope s_l_alike) := ⟨rfl, rfl, rfl, by decide +kernel, rfl, by decide +kernel, by decide +kernel⟩
abbrev s_l_picked : Stmt := topS 32
theorem sc_l_picked : FnScope ["_law_box", "_law_signs", "_law_many", "_law_left", "_law_turn"] ["_law_box", "_law_signs", "_law_many"] (defScope s_l_picked) := ⟨rfl, rfl, rfl, by decide +kernel, rfl, by decide +kernel, by decide +kernel⟩
abbrev s_l_sheet : Stmt := topS 33
theorem sc_l_sheet : FnScope ["_law_box", "_law_most", "_law_many", "_law_every", "_law_often", "_law_zero", "_law_one", "_law_place", "_law_home"] ["_law_box", "_law_most"] (defScope s_l_sheet) := ⟨rfl, rfl, rfl, by decide +kernel, rfl, by decide +kernel, by decide +kernel⟩
abbrev s_l_tape : Stmt := topS 35
theorem sc_l_tape : FnScope ["_law_box", "_law_sheet_here", "_law_most", "_law_n", "_law_often", "_law_found", "_law_turn"] ["_law_box", "_law_sheet_here", "_law_most"] (defScope s_l_tape) := ⟨rfl, rfl, rfl, by decide +kernel, rfl, by decide +kernel, by decide +kernel⟩
abbrev s_l_read : Stmt := topS 36
theorem sc_l_read : FnScope ["_law_sheet_here", "_law_tape_here", "_law_begin", "_law_n", "_law_found", "_law_code"] ["_law_sheet_here", "_law_tape_here", "_law_begin"] (defScope s_l_read) := ⟨rfl, rfl, rfl, by decide +kernel, rfl, by decide +kernel, by decide +kernel⟩
abbrev s_law : Stmt := topS 37
theorem sc_law : FnScope ["_law_script", "_law_box", "_law_sheet_here", "_law_n", "_law_turn", "_law_tape_here", "_law_begin", "_law_right", "_law_places", "_law_others", "_law_due", "_law_k", "_law_texts", "_law_text_here", "_law_lost", "_law_most", "_law_handed", "_law_again", "_law_found", "_law_place", "_law_at", "_law_row"] ["_law_script"] (defScope s_law) := ⟨rfl, rfl, rfl, by decide +kernel, rfl, by decide +kernel, by decide +kernel⟩
/-- what the top has written -/
structure Txt (K : PySem.W.Frag) (mg : Str → Option Value) where
  d_are_signs : Kt.Df K mg "are_signs" s_are_signs ["signs"]
  d_can_be_a_set : Kt.Df K mg "_can_be_a_set" s_can_be_a_set ["signs"]
  d_check_sheet : Kt.Df K mg "check_sheet" s_check_sheet ["sheet"]
  d_check_tape : Kt.Df K mg "check_tape" s_check_tape ["sheet", "tape"]
  d_check_set : Kt.Df K mg "check_set" s_check_set ["begin"]
  d_check_count : Kt.Df K mg "check_count" s_check_count ["many", "most"]
  d_check_begun : Kt.Df K mg "check_begun" s_check_begun ["sheet", "tape", "begin"]
  d_set_behind : Kt.Df K mg "set_behind" s_set_behind ["sheet", "code", "now"]
  d_walked : Kt.Df K mg "walked" s_walked ["sheet", "tape", "begin"]
  d_shift_places : Kt.Df K mg "_shift_places" s_shift_places ["sheet", "tape"]
  d_text_without : Kt.Df K mg "_text_without" s_text_without ["sheet", "tape", "begin", "place"]
  d_count_unlike : Kt.Df K mg "_count_unlike" s_count_unlike ["text", "other"]
  d_spoilt : Kt.Df K mg "spoilt" s_spoilt ["sheet", "tape", "begin"]
  d_lost_at : Kt.Df K mg "lost_at" s_lost_at ["sheet", "tape", "begin", "text"]
  d_is_guarded : Kt.Df K mg "is_guarded" s_is_guarded ["sheet", "tape", "begin", "most"]
  d_l_begun : Kt.Df K mg "_law_begun" s_l_begun ["_law_script"]
  d_l_take : Kt.Df K mg "_law_take" s_l_take ["_law_box", "_law_many"]
  d_l_alike : Kt.Df K mg "_law_alike" s_l_alike ["_law_found", "_law_due"]
  d_l_picked : Kt.Df K mg "_law_picked" s_l_picked ["_law_box", "_law_signs", "_law_many"]
  d_l_sheet : Kt.Df K mg "_law_sheet" s_l_sheet ["_law_box", "_law_most"]
  d_l_tape : Kt.Df K mg "_law_tape" s_l_tape ["_law_box", "_law_sheet_here", "_law_most"]
  d_l_read : Kt.Df K mg "_law_read" s_l_read ["_law_sheet_here", "_law_tape_here", "_law_begin"]
  d_law : Kt.Df K mg "law" s_law ["_law_script"]
  n_all : mg "all" = none
  n_bool : mg "bool" = none
  n_enumerate : mg "enumerate" = none
  n_int : mg "int" = none
  n_isinstance : mg "isinstance" = none
  n_len : mg "len" = none
  n_list : mg "list" = none
  n_range : mg "range" = none
  n_set : mg "set" = none
  n_str : mg "str" = none
  n_sum : mg "sum" = none
  n_tuple : mg "tuple" = none
  n_zip : mg "zip" = none
  c_MOST_CODES : ∃ t, mg "MOST_CODES" = some (.int 100 t)
  c_MOST_PLACES : ∃ t, mg "MOST_PLACES" = some (.int 26 t)
  c_MOST_SIGNS : ∃ t, mg "MOST_SIGNS" = some (.int 32 t)
  c_are_signs : Addr
  t_are_signs : Addr
  k_are_signs : Kt.Coded K "are_signs" s_are_signs d_are_signs.f d_are_signs.fd c_are_signs
end K06
namespace K06
open PySem PySem.Spec PyProof.Rows L2 Kt
section
variable {P : Program} {w : World} {K : PySem.W.Frag} {mg : Str → Option Value} {base : Heap}
theorem ok_l_take (T : Txt K mg) : FnOk P w K mg base CX0 1 T.d_l_take.f T.d_l_take.fd ["_law_box", "_law_many"] spTake := by
  refine T.d_l_take.F.ok sc_l_take (fun vs H Q E h => ?_) (fun cdv A outer s H vs Q E hr h => ?_)
  · obtain ⟨b, l, m, rfl, _⟩ := h
    rfl
  · obtain ⟨b, l, m, rfl, bx, m0, m9, q⟩ := h
    have nbl := bx.ne
    obtain ⟨ns, st, h1, h2⟩ := bx
    refine ⟨_, (pss_cons (ps_if (pt_cmpR (Kt.op_eqI hr.units) (pe_ix ix_list (pv 0) pe_int (fun _ _ => rfl)) (pe_lst pa_nil) (nomark _))
  (pss_cons (ps_asg (pe_op op_mod (pe_op op_mul (pe_ix ix_list (pv 0) pe_int (fun _ _ => rfl)) pe_int) pe_int) (pg_sub (pv 0) pe_int set_list))
  (pss_one (ps_ret (pe_op op_mod (pe_op op_fdivW (pe_ix ix_list (pv 0) pe_int (fun _ _ => rfl)) pe_int) (pv 1)))))
  pss_nil)
  (pss_cons (ps_set (i := 2) sc_l_take.nd rfl (.inl rfl) (pe_ix ix_list (pe_ix ix_list (pv 0) pe_int (fun _ _ => rfl)) pe_int (fun _ _ => rfl)))
  (pss_cons (ps_asg (pe_op op_fdivW (pv 2) (pv 1)) (pg_sub (pe_ix ix_list (pv 0) pe_int (fun _ _ => rfl)) pe_int set_list))
  (pss_cons (ps_if (PW.pt (pw_or (pt_cmpR op_eq (pe_ix ix_list (pe_ix ix_list (pv 0) pe_int (fun _ _ => rfl)) pe_int (fun _ _ => rfl)) pe_int (nomark _)) (pw_or1 (pt_cmpR op_eq (pe_ix ix_list (pe_ix ix_list (pv 0) pe_int (fun _ _ => rfl)) pe_int (fun _ _ => rfl)) (pe_un un_neg pe_int) (nomark _)))))
  (pss_one (ps_expr (pe_bm PySem.F.plainAttrs_list PySem.F.slot_list_pop PySem.F.type_list_pop mt_popAt (pe_ix ix_list (pv 0) pe_int (fun _ _ => rfl)) (pa_cons pe_int pa_nil))))
  pss_nil)
  (pss_one (ps_ret (pe_op op_mod (pv 2) (pv 1)))))))), ?_⟩
    -- if box[0] == []
    refine ⟨.ref b, rfl, b, _, 0, .ref l, rfl, rfl, SqL.of h1, atI_nat (j := 0) rfl, Nat.zero_le _, fun p np => ?_⟩
    have nb : b ≠ p := ne_of_none h1 np
    have nl : l ≠ p := ne_of_none h2 np
    have g1 : upd H p (.lst []) b = some (.lst [.ref l, .int st]) := by rw [upd_ne nb]; exact h1
    have g2 : upd H p (.lst []) l = some (.lst (ns.map V.int)) := by rw [upd_ne nl]; exact h2
    have keep : ∀ a o, H a = some o → upd H p (.lst []) a = some o := fun a o e => by rw [upd_ne (ne_of_none e np)]; exact e
    refine ⟨l, p, ns, [], rfl, rfl, SqL.of g2, SqL.of upd_same, _, rfl, ?_⟩
    generalize upd H p (.lst []) = H1 at g1 g2 keep
    cases ns with
    | nil =>
      refine iteT ?_
      -- box[1] = box[1] * 48271 % 2147483647
      refine ⟨.ref b, rfl, b, _, 1, .int st, rfl, rfl, SqL.of g1, atI_nat (j := 1) rfl, st, 48271, rfl, rfl, .inr ⟨by decide, by decide⟩, _, 2147483647, rfl, rfl, (by show (0 : Int) < 2147483647; decide), ?_⟩
      refine ⟨.ref b, rfl, b, _, 1, 1, rfl, rfl, g1, rfl, ?_⟩
      -- return box[1] // 7 % many
      refine ⟨.ref b, rfl, b, _, 1, _, rfl, rfl, SqL.of upd_same, atI_nat (j := 1) rfl, _, 7, rfl, rfl, ⟨by decide, by decide⟩, .int m, rfl, _, m, rfl, rfl, m0, ?_⟩
      refine q _ _ (Int.emod_nonneg _ (by omega)) (Int.emod_lt_of_pos _ m0) ⟨⟨[], _, upd_same, by rw [upd_ne nbl.symm]; exact g2⟩, fun a o e1 e2 e => by rw [upd_ne e1]; exact keep a o e⟩
    | cons n r =>
      refine iteF ?_
      -- number = box[0][0]
      refine ⟨.ref b, rfl, b, _, 0, .ref l, rfl, rfl, SqL.of g1, atI_nat (j := 0) rfl, l, _, 0, .int n, rfl, rfl, SqL.of g2, atI_nat (j := 0) rfl, ?_⟩
      -- box[0][0] = number // many
      refine ⟨.int n, rfl, .int m, rfl, n, m, rfl, rfl, wide_div m0 m9 (by decide) (by decide), ?_⟩
      refine ⟨.ref b, rfl, b, _, 0, .ref l, rfl, rfl, SqL.of g1, atI_nat (j := 0) rfl, l, _, 0, 0, rfl, rfl, g2, ix_ok rfl (by simp), ?_⟩
      have k1 : upd H1 l (.lst ((List.map V.int (n :: r)).set 0 (V.int (n / m)))) b = some (.lst [.ref l, .int st]) := by rw [upd_ne nbl]; exact g1
      have k2 : upd H1 l (.lst ((List.map V.int (n :: r)).set 0 (V.int (n / m)))) l = some (.lst (((n / m) :: r).map V.int)) := upd_same
      have keep2 : ∀ a o, a ≠ l → H a = some o → upd H1 l (.lst ((List.map V.int (n :: r)).set 0 (V.int (n / m)))) a = some o := fun a o e1 e => by rw [upd_ne e1]; exact keep a o e
      generalize upd H1 l (.lst ((List.map V.int (n :: r)).set 0 (V.int (n / m)))) = H2 at k1 k2 keep2
      -- the end
      have fin : ∀ H3, BoxAt H3 b l → (∀ a o, a ≠ b → a ≠ l → H a = some o → H3 a = some o) → tRet (tOp (rI (fun _ j => 0 < j) fun i j => .int (i % j)) (tVar 2) (tVar 1)) { nx := fun _ H' => Q .non H', rt := Q } [some (.ref b), some (.int m), some (.int n)] H3 := fun H3 bx kk =>
        ⟨.int n, rfl, .int m, rfl, n, m, rfl, rfl, m0, q _ _ (Int.emod_nonneg _ (by omega)) (Int.emod_lt_of_pos _ m0) ⟨bx, kk⟩⟩
      have drop : ∀ H3, H3 = H2 → tDrop (tBM K "list" rPopAt (tOp (rIxL K) (tVar 0) (tC (.int 0))) (tCons (tC (.int 0)) tNil)) { nx := fun σ H' => tRet (tOp (rI (fun _ j => 0 < j) fun i j => .int (i % j)) (tVar 2) (tVar 1)) { nx := fun _ H' => Q .non H', rt := Q } σ H', rt := Q } [some (.ref b), some (.int m), some (.int n)] H3 := fun H3 e => by
        subst e
        refine ⟨.ref b, rfl, b, _, 0, .ref l, rfl, rfl, SqL.of k1, atI_nat (j := 0) rfl, .inl ⟨rfl, _, SqL.of k2⟩, l, _, 0, 0, _, rfl, rfl, k2, by decide, by decide, (ixN_seq (ix_ok rfl (by simp))).1, rfl, ?_⟩
        refine fin _ ⟨r, st, by rw [upd_ne nbl]; exact k1, upd_same⟩ fun a o e1 e2 e => by rw [upd_ne e2]; exact keep2 a o e2 e
      refine ⟨.ref b, rfl, b, _, 0, .ref l, rfl, rfl, SqL.of k1, atI_nat (j := 0) rfl, l, _, 0, _, rfl, rfl, SqL.of k2, atI_nat (j := 0) rfl, rfl, _, rfl, ?_⟩
      cases e0 : decide (V.int (n / m) = V.int 0) with
      | true => exact iteT (iteT (drop _ rfl))
      | false =>
        refine iteF ?_
        refine ⟨.ref b, rfl, b, _, 0, .ref l, rfl, rfl, SqL.of k1, atI_nat (j := 0) rfl, l, _, 0, _, rfl, rfl, SqL.of k2, atI_nat (j := 0) rfl, 1, rfl, rfl, _, rfl, ?_⟩
        cases e1 : decide (V.int (n / m) = V.int (-1)) with
        | true => exact iteT (drop _ rfl)
        | false => exact iteF (fin _ ⟨_, st, k1, k2⟩ fun a o e1 e2 e => keep2 a o e2 e)
end
end K06
namespace K06
open PySem PySem.Spec PyProof.Rows L2 Kt
section
variable {P : Program} {w : World} {K : PySem.W.Frag} {mg : Str → Option Value} {base : Heap}
theorem ok_l_begun (T : Txt K mg) : FnOk P w K mg base CX0 1 T.d_l_begun.f T.d_l_begun.fd ["_law_script"] (spBegun K) := by
  refine T.d_l_begun.F.ok sc_l_begun (fun vs H Q E h => ?_) (fun cdv A outer s H vs Q E hr h => ?_)
  · obtain ⟨a, ns, rfl, _⟩ := h
    rfl
  · obtain ⟨a, ns, rfl, hS, hlen, q⟩ := h
    refine ⟨_, (pss_cons (ps_set (i := 1) sc_l_begun.nd rfl (.inl rfl) pe_int)
  (pss_cons (ps_for PassesOwn.never rfl (pi_list (pv 0)) (pg_name (i := 2) sc_l_begun.nd rfl (.inl rfl))
  (pss_one (ps_set (i := 1) sc_l_begun.nd rfl (.inl rfl) (pe_op op_mod (pe_op op_add (pe_op op_add (pe_op op_mul (pv 1) pe_int) (pe_op op_mul (pv 2) pe_int)) pe_int) pe_int))))
  (pss_one (ps_ret (pe_lst (pa_cons (pe_callTy call_list_of (by rfl) T.n_list (by decide +kernel) (pa_cons (pv 0) pa_nil)) (pa_cons (pe_op op_mul (pv 1) (pe_callTy call_int1 (by rfl) T.n_int (by decide +kernel) (pa_cons (pe_cmpR op_gt (pe_callB call_len_seq (by rfl) T.n_len PySem.boot_len (pa_cons (pv 0) pa_nil)) pe_int (nomark _)) pa_nil))) pa_nil))))))), ?_⟩
    refine ⟨.ref a, rfl, a, rfl, ⟨_, hS⟩, for_list (K := K) (a := a) (xs := ns.map V.int) (fun i σ H' => H' = H ∧ ∃ (st : Int) (y : Option V), σ = [some (.ref a), some (.int st), y]) ⟨rfl, 0, none, rfl⟩ (fun i σ H' _ p => ?_) (fun i x σ H' hx p => ?_) (fun σ H' p => ?_)⟩
    · obtain ⟨rfl, _⟩ := p
      exact hS
    · obtain ⟨rfl, st, y, rfl⟩ := p
      obtain ⟨k, hk, rfl⟩ := at_map hx
      refine ⟨.int st, rfl, st, 48271, rfl, rfl, .inr ⟨by decide, by decide⟩, .int k, rfl, k, 69621, rfl, rfl, .inr ⟨by decide, by decide⟩, _, _, rfl, rfl, _, 11, rfl, rfl, _, 2147483647, rfl, rfl, (by show (0 : Int) < 2147483647; decide), rfl, _, _, rfl⟩
    · obtain ⟨rfl, st, y, rfl⟩ := p
      refine ⟨.ref a, rfl, a, _, rfl, .inl hS, fun l nl => ?_⟩
      refine ⟨.int st, rfl, .ref a, rfl, a, _, rfl, .inl ((same_new nl).seq hS), _, 2, rfl, rfl, .inr ⟨_, rfl, ?_⟩⟩
      refine ⟨st, _, rfl, rfl, .inr (by split <;> constructor <;> decide), ?_⟩
      refine ⟨by show 2 ≤ sizeLine; decide, fun b nb => ?_⟩
      have nlb : l ≠ b := fun e => by rw [← e, upd_same] at nb; cases nb
      refine q b l _ ((same_new nl).trans (same_new nb)) ⟨ns, _, upd_same, by rw [upd_ne nlb, upd_same]⟩ ((same_new nl).free nb) nl
theorem ok_l_picked (T : Txt K mg) : FnOk P w K mg base CX0 2 T.d_l_picked.f T.d_l_picked.fd ["_law_box", "_law_signs", "_law_many"] spPicked := by
  refine T.d_l_picked.F.ok sc_l_picked (fun vs H Q E h => ?_) (fun cdv A outer s H vs Q E hr h => ?_)
  · obtain ⟨b, l, z, m, rfl, _⟩ := h
    rfl
  · obtain ⟨b, l, z, m, rfl, bx, hz, hm, q⟩ := h
    have nbl := bx.ne
    refine ⟨_, (pss_cons (ps_set (i := 3) sc_l_picked.nd rfl (.inr rfl) (pe_callTy (Kt.call_listS rfl) (by rfl) T.n_list (by decide +kernel) (pa_cons (pv 1) pa_nil)))
  (pss_one (ps_ret (pe_lc (own := [("_law_turn", 4)]) (g := gName 4) (tt := tYes) (te := (tBM K "list" rPopAt (tVar 3) (tCons (tCall spTake [] E0 (tCons (tVar 0) (tCons (tCB (rLenQ K) (tCons (tVar 3) tNil)) tNil))) tNil))) rfl sc_l_picked.nd (pi_range1 (by rfl) T.n_range (pa_cons (pv 2) pa_nil)) (blkOk_by (own := [("_law_turn", 4)]) (N := ["_law_box", "_law_signs", "_law_many", "_law_left", "_law_turn"]) (sc := defScope s_l_picked) (by decide +kernel)) (by exact fun _ _ _ _ _ => pg_name (i := 4) sc_l_picked.nd rfl (Or.inl rfl)) (by exact fun _ _ _ _ _ => pts_nil) (by exact fun _ _ _ _ _ => (pe_bm PySem.F.plainAttrs_list PySem.F.slot_list_pop PySem.F.type_list_pop mt_popAt (pv 3) (pa_cons (pe_call (ok_l_take T) (hr.mono (by decide)) (by rfl) T.d_l_take.g T.d_l_take.F.kp T.d_l_take.b .nil pass0 (pa_cons (pv 0) (pa_cons (pe_callB call_len_seq (by rfl) T.n_len PySem.boot_len (pa_cons (pv 3) pa_nil)) pa_nil))) pa_nil))))))), ?_⟩
    refine ⟨.str z, rfl, z, rfl, hz, fun L nL => ?_⟩
    refine ⟨.int m, rfl, m, rfl, by omega, by omega, fun D nD => ?_⟩
    have nL0 : L ≠ D := fun e => by rw [← e, upd_same] at nD; cases nD
    have nD0 : H D = none := by rw [upd_ne nL0.symm] at nD; exact nD
    have nLb : b ≠ L ∧ l ≠ L := let ⟨ns, st, h1, h2⟩ := bx; ⟨ne_of_none h1 nL, ne_of_none h2 nL⟩
    have nDb : b ≠ D ∧ l ≠ D := let ⟨ns, st, h1, h2⟩ := bx; ⟨ne_of_none h1 nD0, ne_of_none h2 nD0⟩
    refine lc_range (lo := 0) (n := (m : Int).toNat) (fun i H' => ∃ ps rest : List Nat, (ps ++ rest).Perm z.cps.toList ∧ ps.length = i ∧ Bxd b l H H' ∧ H' D = some (.lst (sgs ps)) ∧ H' L = some (.lst (sgs rest))) ?_ (fun i H' hi p => ?_) (fun H' p => ?_)
    · refine ⟨[], z.cps.toList, List.Perm.refl _, rfl, Bxd.same bx ((same_new nL).trans (same_new nD)), upd_same, ?_⟩
      rw [upd_ne nL0, upd_same]; rfl
    · obtain ⟨ps, rest, hp, hl, bd, hD, hL⟩ := p
      have hlen : ps.length + rest.length = z.cps.size := by
        have := hp.length_eq
        rw [List.length_append, Array.length_toList] at this; exact this
      have hpos : 0 < rest.length := by omega
      have hsl : (sgs rest).length = rest.length := by simp [sgs]
      refine ⟨rfl, lc_yes ?_⟩
      refine ⟨.ref L, rfl, .inl ⟨rfl, _, SqL.of hL⟩, .ref b, rfl, .ref L, rfl, L, _, rfl, .inl (SqL.of hL), b, l, ((sgs rest).length : Nat), rfl, bd.box, by omega, ?_, fun v H3 v0 v1 bd3 => ?_⟩
      · rw [hsl, Int.natAbs_natCast]
        exact Nat.lt_of_le_of_lt (show rest.length ≤ 1000 by omega) (by decide)
      obtain ⟨k, rfl⟩ := Int.eq_ofNat_of_zero_le v0
      have hk : k < rest.length := by omega
      have eL : H3 L = some (.lst (sgs rest)) := bd3.at' L _ nLb.1.symm nLb.2.symm hL
      have eD : H3 D = some (.lst (sgs ps)) := bd3.at' D _ nDb.1.symm nDb.2.symm hD
      refine ⟨L, sgs rest, k, k, .str (sg rest[k]), rfl, rfl, eL, by omega, by omega, (ixN_seq (ix_ok rfl (by rw [hsl]; exact hk))).1, map_at (map_at (List.getElem?_eq_getElem hk)), ?_⟩
      refine ⟨sgs ps, by rw [upd_ne nL0.symm]; exact eD, ?_, ps ++ [rest[k]], rest.eraseIdx k, ?_, by simp [hl], ⟨?_, ?_⟩, ?_, ?_⟩
      · have : (sgs ps).length = ps.length := by simp [sgs]
        rw [this]; exact small1000 (by omega)
      · refine List.Perm.trans ?_ hp
        rw [List.append_assoc]
        exact List.Perm.append_left ps (perm_erase (List.getElem?_eq_getElem hk))
      · exact bd3.box.kp (fun o e => by rw [upd_ne nDb.1, upd_ne nLb.1]; exact e) fun o e => by rw [upd_ne nDb.2, upd_ne nLb.2]; exact e
      · intro a o e1 e2 e
        rw [upd_ne (ne_of_none e nD0), upd_ne (ne_of_none e nL)]
        exact bd3.at' a o e1 e2 (bd.at' a o e1 e2 e)
      · rw [upd_same]; simp [sgs]
      · rw [upd_ne nL0, upd_same]
        unfold sgs; rw [erase_map, erase_map]
    · obtain ⟨ps, rest, hp, hl, bd, hD, hL⟩ := p
      exact q D ps rest H' hp (by rw [hl]; exact Int.toNat_natCast m) bd nD0 hD
end
end K06
namespace K06
open PySem PySem.Spec PyProof.Rows L2 Kt
section
variable {P : Program} {w : World} {K : PySem.W.Frag} {mg : Str → Option Value} {base : Heap}
theorem ok_l_sheet (T : Txt K mg) : FnOk P w K mg base CX0 3 T.d_l_sheet.f T.d_l_sheet.fd ["_law_box", "_law_most"] spSheet := by
  refine T.d_l_sheet.F.ok sc_l_sheet (fun vs H Q E h => ?_) (fun cdv A outer s H vs Q E hr h => ?_)
  · obtain ⟨b, l, m, rfl, _⟩ := h
    rfl
  · obtain ⟨b, l, most, rfl, bx, m1, m2, q⟩ := h
    refine ⟨_, (pss_cons (ps_set (i := 2) sc_l_sheet.nd rfl (.inl rfl) (pe_op op_add pe_int (pe_call (ok_l_take T) (hr.mono (by decide)) (by rfl) T.d_l_take.g T.d_l_take.F.kp T.d_l_take.b .nil pass0 (pa_cons (pv 0) (pa_cons (pv 1) pa_nil)))))
  (pss_cons (ps_set (i := 3) sc_l_sheet.nd rfl (.inl rfl) pe_str)
  (pss_cons (ps_set (i := 3) sc_l_sheet.nd rfl (.inl rfl) (pe_op op_add_str (pv 3) pe_str))
  (pss_cons (ps_set (i := 4) sc_l_sheet.nd rfl (.inl rfl) (pe_op op_fdivW (pe_call (ok_l_take T) (hr.mono (by decide)) (by rfl) T.d_l_take.g T.d_l_take.F.kp T.d_l_take.b .nil pass0 (pa_cons (pv 0) (pa_cons pe_int pa_nil))) pe_int))
  (pss_cons (ps_set (i := 5) sc_l_sheet.nd rfl (.inl rfl) (pe_call (ok_l_picked T) (hr.mono (by decide)) (by rfl) T.d_l_picked.g T.d_l_picked.F.kp T.d_l_picked.b .nil pass0 (pa_cons (pv 0) (pa_cons (pe_ix ix_list (pe_lst (pa_cons pe_str (pa_cons (pv 3) pa_nil))) (pv 4) (fun _ _ => rfl)) (pa_cons (pv 2) pa_nil)))))
  (pss_cons (ps_set (i := 6) sc_l_sheet.nd rfl (.inl rfl) (pe_call (ok_l_picked T) (hr.mono (by decide)) (by rfl) T.d_l_picked.g T.d_l_picked.F.kp T.d_l_picked.b .nil pass0 (pa_cons (pv 0) (pa_cons (pe_ix ix_list (pe_lst (pa_cons pe_str (pa_cons (pv 3) pa_nil))) (pv 4) (fun _ _ => rfl)) (pa_cons (pv 2) pa_nil)))))
  (pss_cons (ps_for PassesOwn.never rfl (pi_range1 (by rfl) T.n_range (pa_cons (pv 2) pa_nil)) (pg_name (i := 7) sc_l_sheet.nd rfl (.inl rfl))
  (pss_one (ps_if (PW.pt (pw_and (pt_cmpR op_eq (pe_call (ok_l_take T) (hr.mono (by decide)) (by rfl) T.d_l_take.g T.d_l_take.F.kp T.d_l_take.b .nil pass0 (pa_cons (pv 0) (pa_cons pe_int pa_nil))) pe_int (nomark _)) (pw_and1 (pt_cmpR op_notIn_seq (pe_ix ix_list (pv 5) (pv 7) (fun _ _ => rfl)) (pv 6) (by rfl)))))
  (pss_one (ps_asg (pe_ix ix_list (pv 5) (pv 7) (fun _ _ => rfl)) (pg_sub (pv 6) (pv 7) set_list)))
  pss_nil)))
  (pss_cons (ps_set (i := 8) sc_l_sheet.nd rfl (.inl rfl) (pe_ix ix_list (pe_lst (pa_cons pe_non (pa_cons (pe_call (ok_l_take T) (hr.mono (by decide)) (by rfl) T.d_l_take.g T.d_l_take.F.kp T.d_l_take.b .nil pass0 (pa_cons (pv 0) (pa_cons (pv 2) pa_nil))) pa_nil))) (pe_call (ok_l_take T) (hr.mono (by decide)) (by rfl) T.d_l_take.g T.d_l_take.F.kp T.d_l_take.b .nil pass0 (pa_cons (pv 0) (pa_cons pe_int pa_nil))) (fun _ _ => rfl)))
  (pss_one (ps_ret (pe_tup (pa_cons (pe_join pe_str (pv 5)) (pa_cons (pe_join pe_str (pv 6)) (pa_cons (pv 8) pa_nil)))))))))))))), ?_⟩
    -- many
    refine ⟨.ref b, rfl, .int most, rfl, b, l, most, rfl, bx, by omega, Nat.lt_of_le_of_lt (show (most : Int).natAbs ≤ 26 by omega) (by decide), fun v H1 v0 v1 bd1 => ?_⟩
    refine ⟨1, v, rfl, rfl, ?_⟩
    obtain ⟨n, hn, n1, n2⟩ : ∃ n : Nat, 1 + v = (n : Int) ∧ 1 ≤ n ∧ n ≤ most := ⟨(1 + v).toNat, by omega, by omega, by omega⟩
    -- every
    refine ⟨_, rfl, _, _, rfl, rfl, (by decide +kernel), ?_⟩
    -- often
    refine ⟨.ref b, rfl, b, l, 4, rfl, bd1.box, by decide, by decide, fun v4 H2 v40 v41 bd2 => ?_⟩
    refine ⟨v4, 3, rfl, rfl, ⟨by decide, by decide⟩, ?_⟩
    have hof : v4 / 3 = 0 ∨ v4 / 3 = 1 := by omega
    -- zero
    refine ⟨.ref b, rfl, _, rfl, by show 2 ≤ sizeLine; decide, fun p np => ?_⟩
    have bd2' := bd1.trans bd2
    have bd3 : ∀ o, Bxd b l H (upd H2 p o) := fun o => bd2'.trans (Bxd.same bd2'.box (same_new np))
    refine ⟨.int (v4 / 3), rfl, ix_pick hof (SqL.of upd_same) (by decide +kernel) (by decide +kernel) fun sz ok1 => ?_⟩
    refine ⟨.int (1 + v), rfl, b, l, sz, n, by rw [hn]; rfl, (bd3 _).box, (SOk.elim ok1).2.2.2, Nat.le_trans (Nat.le_trans n2 m2) (SOk.elim ok1).2.2.1, fun Dz zs rz H3 pz lz bd4 nDz eDz => ?_⟩
    have bd4' := (bd3 _).trans bd4
    have fDz : H Dz = none := (bd3 _).new bx nDz
    have nDzb : Dz ≠ b ∧ Dz ≠ l := by
      obtain ⟨ns, st, h1, h2⟩ := (bd3 (.lst [])).box
      obtain ⟨ns', st', h1', h2'⟩ := bd2'.box
      have q1 : p ≠ b := (ne_of_none h1' np).symm
      have q2 : p ≠ l := (ne_of_none h2' np).symm
      have r1 : Dz ≠ p := fun e => by rw [e, upd_same] at nDz; cases nDz
      rw [upd_ne r1] at nDz
      exact ⟨(ne_of_none h1' nDz).symm, (ne_of_none h2' nDz).symm⟩
    -- one
    refine ⟨.ref b, rfl, _, rfl, by show 2 ≤ sizeLine; decide, fun p2 np2 => ?_⟩
    have bd5 : ∀ o, Bxd b l H (upd H3 p2 o) := fun o => bd4'.trans (Bxd.same bd4'.box (same_new np2))
    refine ⟨.int (v4 / 3), rfl, ix_pick hof (SqL.of upd_same) (by decide +kernel) (by decide +kernel) fun so ok2 => ?_⟩
    refine ⟨.int (1 + v), rfl, b, l, so, n, by rw [hn]; rfl, (bd5 _).box, (SOk.elim ok2).2.2.2, Nat.le_trans (Nat.le_trans n2 m2) (SOk.elim ok2).2.2.1, fun Do os ro H4 po lo bd6 nDo eDo => ?_⟩
    have bd6' := (bd5 _).trans bd6
    have fDo : H Do = none := (bd5 _).new bx nDo
    have nDo3 : Do ≠ p2 := fun e => by rw [e, upd_same] at nDo; cases nDo
    rw [upd_ne nDo3] at nDo
    have nDob : Do ≠ b ∧ Do ≠ l := by
      obtain ⟨ns', st', h1', h2'⟩ := bd4'.box
      exact ⟨(ne_of_none h1' nDo).symm, (ne_of_none h2' nDo).symm⟩
    have nDD : Dz ≠ Do := ne_of_none eDz nDo
    have eDz4 : H4 Dz = some (.lst (sgs zs)) := bd6.at' Dz _ nDzb.1 nDzb.2 (by rw [upd_ne (ne_of_none eDz np2)]; exact eDz)
    obtain ⟨nz, az⟩ := picked_ok ok1 pz
    obtain ⟨no, ao⟩ := picked_ok ok2 po
    -- the loop
    refine ⟨.int (1 + v), rfl, 1 + v, rfl, by omega, by omega, ?_⟩
    rw [show (1 + v).toNat = n by omega]
    refine for_range (lo := 0) (n := n) (fun i σ H' => ∃ (os' : List Nat) (y7 : Option V) (sE : Str), os'.Nodup ∧ (∀ c ∈ os', 32 ≤ c ∧ c ≤ 126) ∧ os'.length = n ∧ H' Do = some (.lst (sgs os')) ∧ H' Dz = some (.lst (sgs zs)) ∧ Bxd b l H H' ∧
      σ = [some (.ref b), some (.int most), some (.int (1 + v)), some (.str sE), some (.int (v4 / 3)), some (.ref Dz), some (.ref Do), y7, none]) ?_ (fun i σ H' hi p => ?_) (fun σ H' p => ?_)
    · exact ⟨os, none, _, no, ao, lo, eDo, eDz4, bd6', rfl⟩
    · obtain ⟨os', y7, sE, no', ao', lo', eo', ez', bd', rfl⟩ := p
      -- take == 1
      refine ⟨.ref b, rfl, b, l, 4, rfl, bd'.box, by decide, by decide, fun u H5 u0 u1 bdu => ?_⟩
      have bdu' := bd'.trans bdu
      have eo5 : H5 Do = some (.lst (sgs os')) := bdu.at' Do _ nDob.1 nDob.2 eo'
      have ez5 : H5 Dz = some (.lst (sgs zs)) := bdu.at' Dz _ nDzb.1 nDzb.2 ez'
      have same : ∃ (os2 : List Nat) (y7 : Option V) (sE' : Str), os2.Nodup ∧ (∀ c ∈ os2, 32 ≤ c ∧ c ≤ 126) ∧ os2.length = n ∧ H5 Do = some (.lst (sgs os2)) ∧ H5 Dz = some (.lst (sgs zs)) ∧ Bxd b l H H5 ∧
          [some (V.ref b), some (.int most), some (.int (1 + v)), some (.str sE), some (.int (v4 / 3)), some (.ref Dz), some (.ref Do), some (.int (0 + (i : Int))), none] =
          [some (.ref b), some (.int most), some (.int (1 + v)), some (.str sE'), some (.int (v4 / 3)), some (.ref Dz), some (.ref Do), y7, none] := ⟨os', _, sE, no', ao', lo', eo5, ez5, bdu', rfl⟩
      refine ⟨rfl, _, rfl, ?_⟩
      cases decide (V.int u = V.int 1) with
      | false => exact iteF (iteF same)
      | true =>
        refine iteT ?_
        obtain ⟨c, hc⟩ : ∃ c, zs[i]? = some c := ⟨zs[i]'(by omega), List.getElem?_eq_getElem _⟩
        refine ⟨.ref Dz, rfl, .int (0 + (i : Int)), rfl, Dz, _, 0 + (i : Int), _, rfl, rfl, SqL.of ez5, at_of (by omega) (sgs_at hc), .ref Do, rfl, Do, _, rfl, .inl (SqL.of eo5), rfl, sgs_flat os', _, rfl, ?_⟩
        rw [if_pos rfl, sgs_in]
        by_cases hm : c ∈ os'
        · rw [decide_eq_true hm]
          exact iteF same
        · rw [decide_eq_false hm]
          refine iteT ?_
          refine ⟨.ref Dz, rfl, .int (0 + (i : Int)), rfl, Dz, _, 0 + (i : Int), _, rfl, rfl, SqL.of ez5, at_of (by omega) (sgs_at hc), .ref Do, rfl, .int (0 + (i : Int)), rfl, Do, _, 0 + (i : Int), i, rfl, rfl, eo5, ix_ok (by omega) (by rw [sgs_len]; omega), ?_⟩
          refine ⟨os'.set i c, _, sE, nodup_set no' hm, fun d hd => ?_, by rw [List.length_set]; exact lo', by rw [upd_same, sgs_set], by rw [upd_ne nDD]; exact ez5, ⟨?_, fun a o e1 e2 e => ?_⟩, rfl⟩
          · rcases mem_set_or hd with z | z
            · exact ao' d z
            · rw [z]; exact az c (List.mem_of_getElem? hc)
          · exact bdu'.box.kp (fun o e => by rw [upd_ne nDob.1.symm]; exact e) fun o e => by rw [upd_ne nDob.2.symm]; exact e
          · rw [upd_ne (ne_of_none e fDo)]
            exact bdu'.at' a o e1 e2 e
    · obtain ⟨os', y7, sE, no', ao', lo', eo', ez', bd', rfl⟩ := p
      -- home
      refine ⟨.ref b, rfl, .int (1 + v), rfl, b, l, 1 + v, rfl, bd'.box, by omega, Nat.lt_of_le_of_lt (show (1 + v).natAbs ≤ 26 by omega) (by decide), fun u H5 u0 u1 bdu => ?_⟩
      refine ⟨by show 2 ≤ sizeLine; decide, fun p3 np3 => ?_⟩
      have bd7 := bd'.trans bdu
      have bd8 : Bxd b l H (upd H5 p3 (HO.lst [V.non, V.int u])) := bd7.trans (Bxd.same bd7.box (same_new np3))
      refine ⟨.ref b, rfl, b, l, 2, rfl, bd8.box, by decide, by decide, fun t H6 t0 t1 bdt => ?_⟩
      have bd9 := bd8.trans bdt
      have e3 : upd H5 p3 (HO.lst [V.non, V.int u]) p3 = some (.lst [V.non, V.int u]) := upd_same
      have np3b : p3 ≠ b ∧ p3 ≠ l := by
        obtain ⟨ns, st, h1, h2⟩ := bd7.box
        exact ⟨(ne_of_none h1 np3).symm, (ne_of_none h2 np3).symm⟩
      have e36 : H6 p3 = some (.lst [V.non, V.int u]) := bdt.at' p3 _ np3b.1 np3b.2 e3
      have stay : ∀ a o, a ≠ b → a ≠ l → H' a = some o → H6 a = some o := fun a o e1 e2 e => bdt.at' a o e1 e2 (by
        have e5 := bdu.at' a o e1 e2 e
        rw [upd_ne (ne_of_none e5 np3)]; exact e5)
      have ez6 := stay Dz _ nDzb.1 nDzb.2 ez'
      have eo6 := stay Do _ nDob.1 nDob.2 eo'
      obtain ⟨hm, at3, hh⟩ : ∃ hm : V, atI [V.non, V.int u] t = some hm ∧ (hm = .non ∨ ∃ h : Nat, hm = .int h ∧ h < n) := by
        rcases (show t = 0 ∨ t = 1 by omega) with e | e <;> rw [e]
        · exact ⟨_, atI_nat (j := 0) rfl, .inl rfl⟩
        · exact ⟨_, atI_nat (j := 1) rfl, .inr ⟨u.toNat, by rw [show ((u.toNat : Nat) : Int) = u by omega], by omega⟩⟩
      refine ⟨p3, _, t, hm, rfl, rfl, SqL.of e36, at3, ?_⟩
      -- the tuple
      have lens : ∀ ps : List Nat, ps.length ≤ 26 → ((ps.map sg).map (·.length)).sum + (ps.map sg).length * (Str.ofString "").length ≤ 16777216 := fun ps hp => by
        have e0 : (Str.ofString "").length = 0 := by decide +kernel
        have e1 : (ps.map sg).map (·.length) = List.replicate ps.length 1 := by
          rw [List.map_map]
          exact List.map_eq_replicate_iff.mpr fun _ _ => rfl
        rw [e0, e1]
        simp
        omega
      refine ⟨⟨_, rfl⟩, .ref Dz, rfl, _, Dz, zs.map sg, rfl, rfl, .inl (SqL.of ez6), lens zs (by omega), ?_⟩
      refine ⟨⟨_, rfl⟩, .ref Do, rfl, _, Do, os'.map sg, rfl, rfl, .inl (SqL.of eo6), lens os' (by omega), ?_⟩
      refine ⟨hm, rfl, by show 3 ≤ sizeLine; decide, fun t' nt' => ?_⟩
      rw [join_sg, join_sg]
      refine q t' ⟨zs.toArray⟩ ⟨os'.toArray⟩ hm _ ⟨?_, ?_, ?_, nz, no', az, ao', ?_⟩ ?_ (bd9.trans (Bxd.same bd9.box (same_new nt'))) (bd9.new bx nt') upd_same
      · show os'.toArray.size = zs.toArray.size
        simp; omega
      · show 1 ≤ zs.toArray.size
        simp; omega
      · show zs.toArray.size ≤ 26
        simp; omega
      · rcases hh with e | ⟨h, e1, e2⟩
        · exact .inl e
        · refine .inr ⟨h, e1, ?_⟩
          show h < zs.toArray.size
          simp; omega
      · show zs.toArray.size ≤ most
        simp; omega
end
end K06
namespace K06
open PySem PySem.Spec PyProof.Rows L2 Kt
section
variable {P : Program} {w : World} {K : PySem.W.Frag} {mg : Str → Option Value} {base : Heap}
theorem ok_l_read (T : Txt K mg) : FnOk P w K mg base CX0 1 T.d_l_read.f T.d_l_read.fd ["_law_sheet_here", "_law_tape_here", "_law_begin"] (spRd K) := by
  refine T.d_l_read.F.ok sc_l_read (fun vs H Q E h => ?_) (fun cdv A outer s H vs Q E hr h => ?_)
  · obtain ⟨t, a, z, o, hm, cs, b, rfl, _⟩ := h
    rfl
  · obtain ⟨t, a, z, o, hm, cs, b, rfl, gd, sh, hS, hc, hl, hb, q⟩ := h
    refine ⟨_, (pss_cons (ps_set (i := 3) sc_l_read.nd rfl (.inl rfl) (pe_callB call_len_str (by rfl) T.n_len PySem.boot_len (pa_cons (pe_ix ix_tup (pv 0) pe_int (fun _ _ => rfl)) pa_nil)))
  (pss_cons (ps_set (i := 4) sc_l_read.nd rfl (.inl rfl) pe_str)
  (pss_cons (ps_for PassesOwn.never rfl (pi_list (pv 1)) (pg_name (i := 5) sc_l_read.nd rfl (.inl rfl))
  (pss_one (ps_if (pt_cmpR op_ge (pv 5) (pv 3) (nomark _))
  (pss_one (ps_set (i := 2) sc_l_read.nd rfl (.inl rfl) (pe_op op_sub (pv 5) (pv 3))))
  (pss_cons (ps_set (i := 4) sc_l_read.nd rfl (.inl rfl) (pe_op op_add_str (pv 4) (pe_ix ix_str (pe_ix ix_list (pe_lst (pa_cons (pe_ix ix_tup (pv 0) pe_int (fun _ _ => rfl)) (pa_cons (pe_ix ix_tup (pv 0) pe_int (fun _ _ => rfl)) pa_nil))) (pv 2) (fun _ _ => rfl)) (pv 5) (fun _ _ => rfl))))
  (pss_one (ps_set (i := 2) sc_l_read.nd rfl (.inl rfl) (pe_ifExp (pt_cmpR op_eq (pv 5) (pe_ix ix_tup (pv 0) pe_int (fun _ _ => rfl)) (nomark _)) pe_int (pv 2))))))))
  (pss_one (ps_ret (pe_tup (pa_cons (pv 4) (pa_cons (pv 2) pa_nil)))))))), ?_⟩
    have z2 := gd.le
    have big : z.length ≤ sizeLine := Nat.le_trans z2 (by decide)
    have bigo : o.length ≤ sizeLine := Nat.le_trans (Nat.le_of_eq gd.len) big
    refine ⟨.ref t, rfl, t, _, 0, _, rfl, rfl, SqT.of sh, atI_nat (j := 0) rfl, z, rfl, big, ?_⟩
    refine ⟨.ref a, rfl, a, rfl, ⟨_, hS⟩, for_list (K := K) (a := a) (xs := cs.map V.int) (fun i σ H' => Same H H' ∧ ∃ y : Option V, σ = [some (.ref t), some (.ref a), some (.int (rd z o hm (cs.take i) b).2), some (.int (z.length : Nat)), some (.str (rd z o hm (cs.take i) b).1), y])
      ⟨Same.refl _, none, rfl⟩ (fun i σ H' _ p => p.1.seq hS) (fun i x σ H' hx p => ?_) (fun σ H' p => ?_)⟩
    · obtain ⟨sm, y, rfl⟩ := p
      obtain ⟨c, hci, rfl⟩ := at_map hx
      have c01 := hc c (List.mem_of_getElem? hci)
      have ok := rd_ok (z := z) (o := o) (hm := hm) hb hc i
      have hil : i < cs.length := (List.getElem?_eq_some_iff.mp hci).1
      have st := rd_take (z := z) (o := o) (hm := hm) (b := b) hci
      have sh' : Sh H' t z o hm := sm _ _ sh
      rw [st]
      generalize rd z o hm (cs.take i) b = r at ok
      obtain ⟨tx, nw⟩ := r
      obtain ⟨ok1, ok2⟩ := ok
      have ok1 : nw = 0 ∨ nw = 1 := ok1
      have ok2 : tx.length ≤ i := ok2
      refine ⟨.int c, rfl, .int (z.length : Nat), rfl, c, _, rfl, rfl, _, rfl, ?_⟩
      have hz : (z.length : Int) = (z.cps.size : Int) := rfl
      by_cases h : (z.cps.size : Int) ≤ c
      · have e1 : rdStep z o hm (tx, nw) c = (tx, c - z.cps.size) := by unfold rdStep; rw [if_pos h]
        rw [e1]
        refine iteTd h ?_
        exact ⟨.int c, rfl, .int (z.length : Nat), rfl, c, _, rfl, rfl, sm, _, rfl⟩
      · have e1 : rdStep z o hm (tx, nw) c = (tx ++ sg ((if nw = 0 then z else o).cps.toList.getD c.toNat 0), if V.int c = hm then 0 else nw) := by unfold rdStep; rw [if_neg h]
        rw [e1]
        refine iteFd h ?_
        refine ⟨.str tx, rfl, .ref t, rfl, t, _, 0, _, rfl, rfl, SqT.of sh', atI_nat (j := 0) rfl, .ref t, rfl, t, _, 1, _, rfl, rfl, SqT.of sh', atI_nat (j := 1) rfl, by show 2 ≤ sizeLine; decide, fun p np => ?_⟩
        have sm2 : Same H (upd H' p (.lst [.str z, .str o])) := sm.trans (same_new np)
        refine ⟨.int nw, rfl, p, _, nw, .str (if nw = 0 then z else o), rfl, rfl, SqL.of upd_same, ?_, .int c, rfl, _, c, _, rfl, rfl, ?_, atI_nd ?_, _, _, rfl, rfl, ?_, ?_⟩
        · rcases ok1 with e | e <;> rw [e]
          · exact atI_nat (j := 0) rfl
          · exact atI_nat (j := 1) rfl
        · split
          · exact big
          · exact bigo
        · refine ⟨c01.1, ?_⟩
          have hlen := gd.len
          split <;> rw [Array.length_toList] <;> omega
        · show tx.length + 1 ≤ sizeLine
          exact Nat.le_of_lt (small1000 (by omega))
        · refine ⟨.int c, rfl, .ref t, rfl, t, _, 2, _, rfl, rfl, SqT.of (sm2 _ _ sh), atI_nat (j := 2) rfl, ?_, _, rfl, ?_⟩
          · rcases gd.home with e | ⟨h, e, _⟩ <;> rw [e] <;> rfl
          · by_cases e : V.int c = hm
            · rw [if_pos e, decide_eq_true e]
              exact iteT ⟨sm2, _, rfl⟩
            · rw [if_neg e, decide_eq_false e]
              exact iteF ⟨.int nw, rfl, sm2, _, rfl⟩
    · obtain ⟨sm, y, rfl⟩ := p
      rw [List.length_map, List.take_length]
      exact ⟨.str _, rfl, .int _, rfl, by show 2 ≤ sizeLine; decide, fun p np => q p _ (sm.trans (same_new np)) (sm.free np) upd_same⟩
theorem ok_l_tape (T : Txt K mg) : FnOk P w K mg base CX0 2 T.d_l_tape.f T.d_l_tape.fd ["_law_box", "_law_sheet_here", "_law_most"] spTape := by
  refine T.d_l_tape.F.ok sc_l_tape (fun vs H Q E h => ?_) (fun cdv A outer s H vs Q E hr h => ?_)
  · obtain ⟨b, l, t, z, o, hm, m, rfl, _⟩ := h
    rfl
  · obtain ⟨b, l, t, z, o, hm, most, rfl, bx, gd, sh, m1, q⟩ := h
    refine ⟨_, (pss_cons (ps_set (i := 3) sc_l_tape.nd rfl (.inl rfl) (pe_callB call_len_str (by rfl) T.n_len PySem.boot_len (pa_cons (pe_ix ix_tup (pv 1) pe_int (fun _ _ => rfl)) pa_nil)))
  (pss_cons (ps_set (i := 4) sc_l_tape.nd rfl (.inl rfl) (pe_op op_add pe_int (pe_call (ok_l_take T) (hr.mono (by decide)) (by rfl) T.d_l_take.g T.d_l_take.F.kp T.d_l_take.b .nil pass0 (pa_cons (pv 0) (pa_cons pe_int pa_nil)))))
  (pss_cons (ps_set (i := 5) sc_l_tape.nd rfl (.inl rfl) (pe_lst pa_nil))
  (pss_cons (ps_for PassesOwn.never rfl (pi_range1 (by rfl) T.n_range (pa_cons (pe_call (ok_l_take T) (hr.mono (by decide)) (by rfl) T.d_l_take.g T.d_l_take.F.kp T.d_l_take.b .nil pass0 (pa_cons (pv 0) (pa_cons (pe_op op_add (pv 2) pe_int) pa_nil))) pa_nil)) (pg_name (i := 6) sc_l_tape.nd rfl (.inl rfl))
  (pss_one (ps_expr (pe_bm PySem.F.plainAttrs_list PySem.F.slot_list_append PySem.F.type_list_append mt_append (pv 5) (pa_cons (pe_ifExp (pt_cmpR op_eq (pe_call (ok_l_take T) (hr.mono (by decide)) (by rfl) T.d_l_take.g T.d_l_take.F.kp T.d_l_take.b .nil pass0 (pa_cons (pv 0) (pa_cons (pv 4) pa_nil))) pe_int (nomark _)) (pe_op op_add (pv 3) (pe_call (ok_l_take T) (hr.mono (by decide)) (by rfl) T.d_l_take.g T.d_l_take.F.kp T.d_l_take.b .nil pass0 (pa_cons (pv 0) (pa_cons pe_int pa_nil)))) (pe_call (ok_l_take T) (hr.mono (by decide)) (by rfl) T.d_l_take.g T.d_l_take.F.kp T.d_l_take.b .nil pass0 (pa_cons (pv 0) (pa_cons (pe_op op_add (pv 3) pe_int) pa_nil)))) pa_nil)))))
  (pss_one (ps_ret (pv 5))))))), ?_⟩
    have z1 := gd.pos
    have z2 := gd.le
    refine ⟨.ref t, rfl, t, _, 0, _, rfl, rfl, SqT.of sh, atI_nat (j := 0) rfl, z, rfl, Nat.le_trans z2 (by decide), ?_⟩
    refine ⟨.ref b, rfl, b, l, 4, rfl, bx, by decide, by decide, fun v H1 v0 v1 bd1 => ⟨2, v, rfl, rfl, ?_⟩⟩
    refine ⟨Nat.zero_le _, fun D nD => ?_⟩
    have fD : H D = none := bd1.new bx nD
    have nDb : D ≠ b ∧ D ≠ l := by
      obtain ⟨ns, st, h1, h2⟩ := bd1.box
      exact ⟨(ne_of_none h1 nD).symm, (ne_of_none h2 nD).symm⟩
    have bd2 : Bxd b l H (upd H1 D (HO.lst [])) := bd1.trans (Bxd.same bd1.box (same_new nD))
    refine ⟨.ref b, rfl, .int most, rfl, most, 1, rfl, rfl, b, l, _, rfl, bd2.box, by omega, Nat.lt_of_le_of_lt (show ((most : Int) + 1).natAbs ≤ 101 by omega) (by decide), fun m H2 w0 w1 bd3 => ?_⟩
    have bd4 := bd2.trans bd3
    refine ⟨m, rfl, by omega, by omega, for_range (lo := 0) (n := m.toNat) (fun i σ H' => ∃ (cs : List Int) (y : Option V), cs.length = i ∧ Codes z.cps.size cs ∧ H' D = some (.lst (cs.map V.int)) ∧ Bxd b l H H' ∧
      σ = [some (.ref b), some (.ref t), some (.int most), some (.int (z.length : Nat)), some (.int (2 + v)), some (.ref D), y]) ?_ (fun i σ H' hi p => ?_) (fun σ H' p => ?_)⟩
    · exact ⟨[], none, rfl, fun c hc => (nomatch hc), bd3.at' D _ nDb.1 nDb.2 upd_same, bd4, rfl⟩
    · obtain ⟨cs, y, hl, hc, eD, bd, rfl⟩ := p
      refine ⟨.ref D, rfl, .inl ⟨rfl, _, SqL.of eD⟩, .ref b, rfl, .int (2 + v), rfl, b, l, 2 + v, rfl, bd.box, by omega, Nat.lt_of_le_of_lt (show (2 + v).natAbs ≤ 6 by omega) (by decide), fun u H3 u0 u1 bdu => ⟨rfl, _, rfl, ?_⟩⟩
      have bdu' := bd.trans bdu
      have fin : ∀ (c : Int) H4, 0 ≤ c → c < (z.cps.size : Int) + 2 → Bxd b l H3 H4 → rAppend (.ref D) [.int c] H4 fun _ H5 => ∃ (cs : List Int) (y : Option V), cs.length = i + 1 ∧ Codes z.cps.size cs ∧ H5 D = some (.lst (cs.map V.int)) ∧ Bxd b l H H5 ∧
          [some (V.ref b), some (.ref t), some (.int most), some (.int (z.length : Nat)), some (.int (2 + v)), some (.ref D), some (.int (0 + (i : Int)))] = [some (V.ref b), some (.ref t), some (.int most), some (.int (z.length : Nat)), some (.int (2 + v)), some (.ref D), y] := by
        intro c H4 c0 c1 bd4
        have eD4 : H4 D = some (.lst (cs.map V.int)) := bd4.at' D _ nDb.1 nDb.2 (bdu.at' D _ nDb.1 nDb.2 eD)
        have bd5 := bdu'.trans bd4
        refine ⟨D, _, _, rfl, rfl, eD4, by rw [List.length_map, hl]; exact small1000 (by omega), cs ++ [c], _, by simp [hl], fun d hd => ?_, by rw [upd_same]; simp, ⟨?_, fun a o e1 e2 e => ?_⟩, rfl⟩
        · rcases List.mem_append.mp hd with k | k
          · exact hc d k
          · rw [List.mem_singleton.mp k]; exact ⟨c0, c1⟩
        · exact bd5.box.kp (fun o e => by rw [upd_ne nDb.1.symm]; exact e) fun o e => by rw [upd_ne nDb.2.symm]; exact e
        · rw [upd_ne (ne_of_none e fD)]
          exact bd5.at' a o e1 e2 e
      cases decide (V.int u = V.int 1) with
      | true =>
        refine iteT ?_
        refine ⟨.int (z.length : Nat), rfl, .ref b, rfl, b, l, 2, rfl, bdu'.box, by decide, by decide, fun u2 H4 x0 x1 bd4 => ⟨_, u2, rfl, rfl, ?_⟩⟩
        have hz : (z.length : Int) = (z.cps.size : Int) := rfl
        exact fin _ H4 (by omega) (by omega) bd4
      | false =>
        refine iteF ?_
        have hz : (z.length : Int) = (z.cps.size : Int) := rfl
        refine ⟨.ref b, rfl, .int (z.length : Nat), rfl, _, 2, rfl, rfl, b, l, (z.length : Int) + 2, rfl, bdu'.box, by omega, Nat.lt_of_le_of_lt (show ((z.length : Int) + 2).natAbs ≤ 28 by omega) (by decide), fun u2 H4 x0 x1 bd4 => ?_⟩
        exact fin _ H4 x0 (by omega) bd4
    · obtain ⟨cs, y, hl, hc, eD, bd, rfl⟩ := p
      exact ⟨.ref D, rfl, q D cs H' (by omega) hc bd fD eD⟩
set_option maxHeartbeats 1000000 in
theorem ok_l_alike (T : Txt K mg) : ∀ n : Nat, FnOk P w K mg base CX0 (n + 1) T.d_l_alike.f T.d_l_alike.fd ["_law_found", "_law_due"] (spAl n)
  | 0 => by
    refine T.d_l_alike.F.ok sc_l_alike (fun vs H Q E h => ?_) (fun cdv A outer s H vs Q E hr h => ?_)
    · obtain ⟨a, b, rfl, _⟩ := h
      rfl
    · obtain ⟨a, b, rfl, al, q⟩ := h
      refine ⟨_, (pss_cons (ps_if (pt_cmp (pc_isN (pv 1)))
  (pss_one (ps_ret (pe_cmp (pc_isN (pv 0)) rfl)))
  pss_nil)
  (pss_cons (ps_if (pt_val (pe_callB call_isi (by rfl) T.n_isinstance (by decide +kernel) (pa_cons (pv 1) (pa_cons (pe_bltn (v := .ty "bool") (by rfl) T.n_bool (by decide +kernel) rfl) pa_nil))))
  (pss_one (ps_ret (pe_and (pe_callB call_isi (by rfl) T.n_isinstance (by decide +kernel) (pa_cons (pv 0) (pa_cons (pe_bltn (v := .ty "bool") (by rfl) T.n_bool (by decide +kernel) rfl) pa_nil))) (pe_one (pe_cmpR op_eq (pv 0) (pv 1) (nomark _))))))
  pss_nil)
  (pss_cons (ps_if (pt_val (pe_callB call_isi (by rfl) T.n_isinstance (by decide +kernel) (pa_cons (pv 1) (pa_cons (pe_bltn (v := .ty "int") (by rfl) T.n_int (by decide +kernel) rfl) pa_nil))))
  (pss_one (ps_ret (pe_and (pe_callB call_isi (by rfl) T.n_isinstance (by decide +kernel) (pa_cons (pv 0) (pa_cons (pe_bltn (v := .ty "int") (by rfl) T.n_int (by decide +kernel) rfl) pa_nil))) (pe_and (pe_not (pe_callB call_isi (by rfl) T.n_isinstance (by decide +kernel) (pa_cons (pv 0) (pa_cons (pe_bltn (v := .ty "bool") (by rfl) T.n_bool (by decide +kernel) rfl) pa_nil)))) (pe_one (pe_cmpR op_eq (pv 0) (pv 1) (nomark _)))))))
  pss_nil)
  (pss_cons (ps_if (pt_val (pe_callB call_isi (by rfl) T.n_isinstance (by decide +kernel) (pa_cons (pv 1) (pa_cons (pe_bltn (v := .ty "str") (by rfl) T.n_str (by decide +kernel) rfl) pa_nil))))
  (pss_one (ps_ret (pe_and (pe_callB call_isi (by rfl) T.n_isinstance (by decide +kernel) (pa_cons (pv 0) (pa_cons (pe_bltn (v := .ty "str") (by rfl) T.n_str (by decide +kernel) rfl) pa_nil))) (pe_one (pe_cmpR op_eq (pv 0) (pv 1) (nomark _))))))
  pss_nil)
  pss_never)))), ?_⟩
      cases al with
      | non =>
        refine ⟨.non, rfl, true, rfl, iteT ⟨.non, rfl, ?_⟩⟩
        exact q
      | bl _ i =>
        refine ⟨.bl i, rfl, false, dec_f (fun e => nomatch e), iteF ?_⟩
        refine ⟨.bl i, rfl, .bl i, .ty "bool", .type "bool", .type "bool", true, rfl, .ty _, .base (.bl i), kit_ty (by decide +kernel), true, rfl, iteT ?_⟩
        refine ⟨.bl i, rfl, .bl i, .ty "bool", .type "bool", .type "bool", true, rfl, .ty _, .base (.bl i), kit_ty (by decide +kernel), true, rfl, iteT ?_⟩
        refine ⟨.bl i, rfl, .bl i, rfl, rfl, ?_⟩
        rw [decide_eq_true rfl]
        exact q
      | int _ i =>
        refine ⟨.int i, rfl, false, dec_f (fun e => nomatch e), iteF ?_⟩
        refine ⟨.int i, rfl, .int i, .ty "bool", .type "int", .type "bool", false, rfl, .ty _, .base (.int i), kit_ty (by decide +kernel), false, rfl, iteF ?_⟩
        refine ⟨.int i, rfl, .int i, .ty "int", .type "int", .type "int", true, rfl, .ty _, .base (.int i), kit_ty (by decide +kernel), true, rfl, iteT ?_⟩
        refine ⟨.int i, rfl, .int i, .ty "int", .type "int", .type "int", true, rfl, .ty _, .base (.int i), kit_ty (by decide +kernel), true, rfl, iteT ?_⟩
        refine ⟨.int i, rfl, .int i, .ty "bool", .type "int", .type "bool", false, rfl, .ty _, .base (.int i), kit_ty (by decide +kernel), false, rfl, true, rfl, iteT ?_⟩
        refine ⟨.int i, rfl, .int i, rfl, rfl, ?_⟩
        rw [decide_eq_true rfl]
        exact q
      | str _ s =>
        refine ⟨.str s, rfl, false, dec_f (fun e => nomatch e), iteF ?_⟩
        refine ⟨.str s, rfl, .str s, .ty "bool", .type "str", .type "bool", false, rfl, .ty _, .base (.str s), kit_ty (by decide +kernel), false, rfl, iteF ?_⟩
        refine ⟨.str s, rfl, .str s, .ty "int", .type "str", .type "int", false, rfl, .ty _, .base (.str s), kit_ty (by decide +kernel), false, rfl, iteF ?_⟩
        refine ⟨.str s, rfl, .str s, .ty "str", .type "str", .type "str", true, rfl, .ty _, .base (.str s), kit_ty (by decide +kernel), true, rfl, iteT ?_⟩
        refine ⟨.str s, rfl, .str s, .ty "str", .type "str", .type "str", true, rfl, .ty _, .base (.str s), kit_ty (by decide +kernel), true, rfl, iteT ?_⟩
        refine ⟨.str s, rfl, .str s, rfl, rfl, ?_⟩
        rw [decide_eq_true rfl]
        exact q
  | n + 1 => by
    have ih := ok_l_alike T n
    refine T.d_l_alike.F.ok sc_l_alike (fun vs H Q E h => ?_) (fun cdv A outer s H vs Q E hr h => ?_)
    · obtain ⟨a, b, rfl, _⟩ := h
      rfl
    · obtain ⟨a, b, rfl, al, q⟩ := h
      refine ⟨_, (pss_cons (ps_if (pt_cmp (pc_isN (pv 1)))
  (pss_one (ps_ret (pe_cmp (pc_isN (pv 0)) rfl)))
  pss_nil)
  (pss_cons (ps_if (pt_val (pe_callB call_isi (by rfl) T.n_isinstance (by decide +kernel) (pa_cons (pv 1) (pa_cons (pe_bltn (v := .ty "bool") (by rfl) T.n_bool (by decide +kernel) rfl) pa_nil))))
  (pss_one (ps_ret (pe_and (pe_callB call_isi (by rfl) T.n_isinstance (by decide +kernel) (pa_cons (pv 0) (pa_cons (pe_bltn (v := .ty "bool") (by rfl) T.n_bool (by decide +kernel) rfl) pa_nil))) (pe_one (pe_cmpR op_eq (pv 0) (pv 1) (nomark _))))))
  pss_nil)
  (pss_cons (ps_if (pt_val (pe_callB call_isi (by rfl) T.n_isinstance (by decide +kernel) (pa_cons (pv 1) (pa_cons (pe_bltn (v := .ty "int") (by rfl) T.n_int (by decide +kernel) rfl) pa_nil))))
  (pss_one (ps_ret (pe_and (pe_callB call_isi (by rfl) T.n_isinstance (by decide +kernel) (pa_cons (pv 0) (pa_cons (pe_bltn (v := .ty "int") (by rfl) T.n_int (by decide +kernel) rfl) pa_nil))) (pe_and (pe_not (pe_callB call_isi (by rfl) T.n_isinstance (by decide +kernel) (pa_cons (pv 0) (pa_cons (pe_bltn (v := .ty "bool") (by rfl) T.n_bool (by decide +kernel) rfl) pa_nil)))) (pe_one (pe_cmpR op_eq (pv 0) (pv 1) (nomark _)))))))
  pss_nil)
  (pss_cons (ps_if (pt_val (pe_callB call_isi (by rfl) T.n_isinstance (by decide +kernel) (pa_cons (pv 1) (pa_cons (pe_bltn (v := .ty "str") (by rfl) T.n_str (by decide +kernel) rfl) pa_nil))))
  (pss_one (ps_ret (pe_and (pe_callB call_isi (by rfl) T.n_isinstance (by decide +kernel) (pa_cons (pv 0) (pa_cons (pe_bltn (v := .ty "str") (by rfl) T.n_str (by decide +kernel) rfl) pa_nil))) (pe_one (pe_cmpR op_eq (pv 0) (pv 1) (nomark _))))))
  pss_nil)
  (pss_cons (ps_if (PW.pt (pw_or (pt_cmpR op_ne (pe_callB call_isi (by rfl) T.n_isinstance (by decide +kernel) (pa_cons (pv 1) (pa_cons (pe_bltn (v := .ty "tuple") (by rfl) T.n_tuple (by decide +kernel) rfl) pa_nil))) (pe_callB call_isi (by rfl) T.n_isinstance (by decide +kernel) (pa_cons (pv 0) (pa_cons (pe_bltn (v := .ty "tuple") (by rfl) T.n_tuple (by decide +kernel) rfl) pa_nil))) (nomark _)) (pw_or1 (pt_cmpR op_ne (pe_callB call_isi (by rfl) T.n_isinstance (by decide +kernel) (pa_cons (pv 1) (pa_cons (pe_bltn (v := .ty "list") (by rfl) T.n_list (by decide +kernel) rfl) pa_nil))) (pe_callB call_isi (by rfl) T.n_isinstance (by decide +kernel) (pa_cons (pv 0) (pa_cons (pe_bltn (v := .ty "list") (by rfl) T.n_list (by decide +kernel) rfl) pa_nil))) (nomark _)))))
  (pss_one (ps_ret pe_bl))
  pss_nil)
  (pss_cons (ps_if (pt_cmpR op_ne (pe_callB call_len_seq (by rfl) T.n_len PySem.boot_len (pa_cons (pv 0) pa_nil)) (pe_callB call_len_seq (by rfl) T.n_len PySem.boot_len (pa_cons (pv 1) pa_nil)) (nomark _))
  (pss_one (ps_ret pe_bl))
  pss_nil)
  (pss_cons (ps_for PassesOwn.never rfl (pi_range1 (by rfl) T.n_range (pa_cons (pe_callB call_len_seq (by rfl) T.n_len PySem.boot_len (pa_cons (pv 1) pa_nil)) pa_nil)) (pg_name (i := 2) sc_l_alike.nd rfl (.inl rfl))
  (pss_one (ps_if (pt_not (pt_val (pe_call ih hr (by rfl) T.d_l_alike.g T.d_l_alike.F.kp T.d_l_alike.b .nil pass0 (pa_cons (pe_ix ix_seq (pv 0) (pv 2) (fun _ _ => rfl)) (pa_cons (pe_ix ix_seq (pv 1) (pv 2) (fun _ _ => rfl)) pa_nil)))))
  (pss_one (ps_ret pe_bl))
  pss_nil)))
  (pss_one (ps_ret pe_bl))))))))), ?_⟩
      cases al with
      | non =>
        refine ⟨.non, rfl, true, rfl, iteT ⟨.non, rfl, ?_⟩⟩
        exact q
      | bl _ i =>
        refine ⟨.bl i, rfl, false, dec_f (fun e => nomatch e), iteF ?_⟩
        refine ⟨.bl i, rfl, .bl i, .ty "bool", .type "bool", .type "bool", true, rfl, .ty _, .base (.bl i), kit_ty (by decide +kernel), true, rfl, iteT ?_⟩
        refine ⟨.bl i, rfl, .bl i, .ty "bool", .type "bool", .type "bool", true, rfl, .ty _, .base (.bl i), kit_ty (by decide +kernel), true, rfl, iteT ?_⟩
        refine ⟨.bl i, rfl, .bl i, rfl, rfl, ?_⟩
        rw [decide_eq_true rfl]
        exact q
      | int _ i =>
        refine ⟨.int i, rfl, false, dec_f (fun e => nomatch e), iteF ?_⟩
        refine ⟨.int i, rfl, .int i, .ty "bool", .type "int", .type "bool", false, rfl, .ty _, .base (.int i), kit_ty (by decide +kernel), false, rfl, iteF ?_⟩
        refine ⟨.int i, rfl, .int i, .ty "int", .type "int", .type "int", true, rfl, .ty _, .base (.int i), kit_ty (by decide +kernel), true, rfl, iteT ?_⟩
        refine ⟨.int i, rfl, .int i, .ty "int", .type "int", .type "int", true, rfl, .ty _, .base (.int i), kit_ty (by decide +kernel), true, rfl, iteT ?_⟩
        refine ⟨.int i, rfl, .int i, .ty "bool", .type "int", .type "bool", false, rfl, .ty _, .base (.int i), kit_ty (by decide +kernel), false, rfl, true, rfl, iteT ?_⟩
        refine ⟨.int i, rfl, .int i, rfl, rfl, ?_⟩
        rw [decide_eq_true rfl]
        exact q
      | str _ s =>
        refine ⟨.str s, rfl, false, dec_f (fun e => nomatch e), iteF ?_⟩
        refine ⟨.str s, rfl, .str s, .ty "bool", .type "str", .type "bool", false, rfl, .ty _, .base (.str s), kit_ty (by decide +kernel), false, rfl, iteF ?_⟩
        refine ⟨.str s, rfl, .str s, .ty "int", .type "str", .type "int", false, rfl, .ty _, .base (.str s), kit_ty (by decide +kernel), false, rfl, iteF ?_⟩
        refine ⟨.str s, rfl, .str s, .ty "str", .type "str", .type "str", true, rfl, .ty _, .base (.str s), kit_ty (by decide +kernel), true, rfl, iteT ?_⟩
        refine ⟨.str s, rfl, .str s, .ty "str", .type "str", .type "str", true, rfl, .ty _, .base (.str s), kit_ty (by decide +kernel), true, rfl, iteT ?_⟩
        refine ⟨.str s, rfl, .str s, rfl, rfl, ?_⟩
        rw [decide_eq_true rfl]
        exact q
      | lst ha hb hl hz hh =>
        rename_i a b xs ys
        refine ⟨.ref b, rfl, false, dec_f (fun e => nomatch e), iteF ?_⟩
        refine ⟨.ref b, rfl, .ref b, .ty "bool", .type "list", .type "bool", false, rfl, .ty _, .base (.lst hb), kit_ty (by decide +kernel), false, rfl, iteF ?_⟩
        refine ⟨.ref b, rfl, .ref b, .ty "int", .type "list", .type "int", false, rfl, .ty _, .base (.lst hb), kit_ty (by decide +kernel), false, rfl, iteF ?_⟩
        refine ⟨.ref b, rfl, .ref b, .ty "str", .type "list", .type "str", false, rfl, .ty _, .base (.lst hb), kit_ty (by decide +kernel), false, rfl, iteF ?_⟩
        refine ⟨.ref b, rfl, .ref b, .ty "tuple", .type "list", .type "tuple", false, rfl, .ty _, .base (.lst hb), kit_ty (by decide +kernel), .ref a, rfl, .ref a, .ty "tuple", .type "list", .type "tuple", false, rfl, .ty _, .base (.lst ha), kit_ty (by decide +kernel), rfl, false, rfl, iteF ?_⟩
        refine ⟨.ref b, rfl, .ref b, .ty "list", .type "list", .type "list", true, rfl, .ty _, .base (.lst hb), kit_ty (by decide +kernel), .ref a, rfl, .ref a, .ty "list", .type "list", .type "list", true, rfl, .ty _, .base (.lst ha), kit_ty (by decide +kernel), rfl, false, rfl, iteF ?_⟩
        refine ⟨.ref a, rfl, a, _, rfl, .inl (SqL.of ha), .ref b, rfl, b, _, rfl, .inl (SqL.of hb), rfl, _, rfl, iteNS (by rw [hl]) ?_⟩
        refine ⟨.ref b, rfl, b, _, rfl, .inl (SqL.of hb), _, rfl, by omega, by omega, for_range (lo := 0) (n := ((ys.length : Nat) : Int).toNat) (fun i σ H' => H' = H ∧ ∃ y : Option V, σ = [some (.ref a), some (.ref b), y]) ⟨rfl, _, rfl⟩ (fun i σ H' hi p => ?_) (fun σ H' p => ?_)⟩
        · obtain ⟨rfl, y, rfl⟩ := p
          have h1 : i < ys.length := by omega
          have h2 : i < xs.length := by omega
          refine ⟨.ref a, rfl, .int (0 + (i : Int)), rfl, .inl ⟨a, _, _, _, rfl, rfl, SqL.of ha, at_of (by omega) (List.getElem?_eq_getElem h2), .ref b, rfl, .int (0 + (i : Int)), rfl, .inl ⟨b, _, _, _, rfl, rfl, SqL.of hb, at_of (by omega) (List.getElem?_eq_getElem h1), ?_⟩⟩⟩
          refine ⟨_, _, rfl, hh i _ _ (List.getElem?_eq_getElem h2) (List.getElem?_eq_getElem h1), true, rfl, iteF ⟨rfl, _, rfl⟩⟩
        · obtain ⟨rfl, y, rfl⟩ := p
          exact q
      | tup ha hb hl hz hh =>
        rename_i a b xs ys
        refine ⟨.ref b, rfl, false, dec_f (fun e => nomatch e), iteF ?_⟩
        refine ⟨.ref b, rfl, .ref b, .ty "bool", .type "tuple", .type "bool", false, rfl, .ty _, .base (.tup hb), kit_ty (by decide +kernel), false, rfl, iteF ?_⟩
        refine ⟨.ref b, rfl, .ref b, .ty "int", .type "tuple", .type "int", false, rfl, .ty _, .base (.tup hb), kit_ty (by decide +kernel), false, rfl, iteF ?_⟩
        refine ⟨.ref b, rfl, .ref b, .ty "str", .type "tuple", .type "str", false, rfl, .ty _, .base (.tup hb), kit_ty (by decide +kernel), false, rfl, iteF ?_⟩
        refine ⟨.ref b, rfl, .ref b, .ty "tuple", .type "tuple", .type "tuple", true, rfl, .ty _, .base (.tup hb), kit_ty (by decide +kernel), .ref a, rfl, .ref a, .ty "tuple", .type "tuple", .type "tuple", true, rfl, .ty _, .base (.tup ha), kit_ty (by decide +kernel), rfl, false, rfl, iteF ?_⟩
        refine ⟨.ref b, rfl, .ref b, .ty "list", .type "tuple", .type "list", false, rfl, .ty _, .base (.tup hb), kit_ty (by decide +kernel), .ref a, rfl, .ref a, .ty "list", .type "tuple", .type "list", false, rfl, .ty _, .base (.tup ha), kit_ty (by decide +kernel), rfl, false, rfl, iteF ?_⟩
        refine ⟨.ref a, rfl, a, _, rfl, .inr (SqT.of ha), .ref b, rfl, b, _, rfl, .inr (SqT.of hb), rfl, _, rfl, iteNS (by rw [hl]) ?_⟩
        refine ⟨.ref b, rfl, b, _, rfl, .inr (SqT.of hb), _, rfl, by omega, by omega, for_range (lo := 0) (n := ((ys.length : Nat) : Int).toNat) (fun i σ H' => H' = H ∧ ∃ y : Option V, σ = [some (.ref a), some (.ref b), y]) ⟨rfl, _, rfl⟩ (fun i σ H' hi p => ?_) (fun σ H' p => ?_)⟩
        · obtain ⟨rfl, y, rfl⟩ := p
          have h1 : i < ys.length := by omega
          have h2 : i < xs.length := by omega
          refine ⟨.ref a, rfl, .int (0 + (i : Int)), rfl, (.inr (.inl ⟨a, _, _, _, rfl, rfl, SqT.of ha, at_of (by omega) (List.getElem?_eq_getElem h2), .ref b, rfl, .int (0 + (i : Int)), rfl, (.inr (.inl ⟨b, _, _, _, rfl, rfl, SqT.of hb, at_of (by omega) (List.getElem?_eq_getElem h1), ?_⟩))⟩))⟩
          refine ⟨_, _, rfl, hh i _ _ (List.getElem?_eq_getElem h2) (List.getElem?_eq_getElem h1), true, rfl, iteF ⟨rfl, _, rfl⟩⟩
        · obtain ⟨rfl, y, rfl⟩ := p
          exact q
end
end K06
namespace K06
open PySem PySem.Spec PyProof.Rows L2 Kt
/-- the tables of the text -/
abbrev tws {K : PySem.W.Frag} {mg : Str → Option Value} (T : Txt K mg) : TWs := ⟨[T.t_are_signs], []⟩
theorem tb1 {K : PySem.W.Frag} {mg : Str → Option Value} {T : Txt K mg} {H : Hp} (t : Tb (tws T) H) : GxR.TabG H T.t_are_signs := t.g _ (by simp [tws])
theorem kz1 {K : PySem.W.Frag} {mg : Str → Option Value} {T : Txt K mg} {H H' : Hp} (t : Tb (tws T) H) (k : Kp T.t_are_signs H H') : Kz (tws T) H H' := Kz.kp t (by simp [tws]) (fun p h => nomatch h) k
section
variable {P : Program} {w : World} {K : PySem.W.Frag} {mg : Str → Option Value} {base : Heap}
theorem ok_are_signs (T : Txt K mg) (TB : GxR.TabB base mg T.c_are_signs T.t_are_signs) : FnOk P w K mg base CX0 1 T.d_are_signs.f T.d_are_signs.fd ["signs"] (spSigns T.t_are_signs) := by
  refine T.k_are_signs.ok sc_are_signs (fun vs H Q E h => ?_) (fun A outer s H vs Q E hr h => ?_)
  · obtain ⟨z, rfl, _⟩ := h
    rfl
  · obtain ⟨z, rfl, tb, q⟩ := h
    refine ⟨_, (pss_one (ps_ret (GxR.pe_allS hr (by rfl) T.n_all (by decide +kernel) TB rfl (Kt.genS_by rfl rfl (by decide +kernel) rfl rfl) (pv 0) (Kt.elt_in rfl rfl) (fun _ => rfl)))), ?_⟩
    refine ⟨.str z, rfl, z, rfl, tb, fun H2 t2 => ?_⟩
    rw [show pbIn " " "~" = fun c => decide (32 ≤ c ∧ c ≤ 126) from funext pbIn_32_126]
    exact q H2 t2
theorem ok_check_tape (T : Txt K mg) : FnOk P w K mg base CX0 1 T.d_check_tape.f T.d_check_tape.fd ["sheet", "tape"] (spCheckTape K) := by
  refine T.d_check_tape.F.ok sc_check_tape (fun vs H Q E h => ?_) (fun cdv A outer s H vs Q E hr h => ?_)
  · obtain ⟨t, a, z, o, hm, cs, rfl, _⟩ := h
    rfl
  · obtain ⟨t, a, z, o, hm, cs, rfl, gd, sh, hS, hc, hl, q⟩ := h
    refine ⟨_, (pss_cons (ps_set (i := 2) sc_check_tape.nd rfl (.inl rfl) (pe_op op_add (pe_callB call_len_str (by rfl) T.n_len PySem.boot_len (pa_cons (pe_ix ix_tup (pv 0) pe_int (fun _ _ => rfl)) pa_nil)) pe_int))
  (pss_one (ps_for PassesOwn.never rfl (pi_enum (by rfl) T.n_enumerate (pa_cons (pv 1) pa_nil)) (pg_tup rfl (pgs_cons (pg_name (i := 3) sc_check_tape.nd rfl (.inl rfl)) (pgs_cons (pg_name (i := 4) sc_check_tape.nd rfl (.inl rfl)) pgs_nil)))
  (pss_one (ps_if (PW.pt (pw_or (pt_cmpR op_eq (pv 3) (pe_glob (v := .int 100) (by rfl) T.c_MOST_CODES.choose_spec ⟨_, rfl⟩) (nomark _)) (pw_or1 (pt_not (pt_chain op_le op_le pe_int (pv 4) (pv 2))))))
  (pss_one ps_never)
  pss_nil))))), ?_⟩
    have z2 := gd.le
    have big : z.length ≤ sizeLine := Nat.le_trans z2 (by decide)
    refine ⟨.ref t, rfl, t, _, 0, _, rfl, rfl, SqT.of sh, atI_nat (j := 0) rfl, z, rfl, big, _, 1, rfl, rfl, ?_⟩
    refine ⟨.ref a, rfl, a, _, rfl, hS, ?_⟩
    refine ⟨fun i m σ H' => m = cs.length - i ∧ i ≤ cs.length ∧ Same H H' ∧ ∃ y3 y4 : Option V, σ = [some (.ref t), some (.ref a), some (.int ((z.length : Nat) + 1)), y3, y4], ⟨cs.length, by omega, Nat.zero_le _, Same.refl _, none, none, rfl⟩, fun i m σ H' hW => ?_⟩
    obtain ⟨em, hi, sm, y3, y4, rfl⟩ := hW
    have hS' := sm.seq hS
    by_cases hlt : i < cs.length
    · have hx : (cs.map V.int)[i]? = some (.int cs[i]) := map_at (List.getElem?_eq_getElem hlt)
      refine .inr ⟨⟨_, _, hS', hx⟩, fun σ' H2 => Same H H2 ∧ ∃ y3 y4 : Option V, σ' = [some (.ref t), some (.ref a), some (.int ((z.length : Nat) + 1)), y3, y4], fun σ' H2 p => ⟨m - 1, by omega, by omega, hlt, p.1, p.2⟩, fun x H2 hy => ?_⟩
      obtain ⟨D, x2, rfl, nD, rfl, f⟩ := hy
      obtain rfl : x2 = .int cs[i] := Option.some.inj ((f _ hS').symm.trans hx)
      have c01 := hc cs[i] (List.getElem_mem hlt)
      have hz : (z.length : Int) = (z.cps.size : Int) := rfl
      refine ⟨D, _, rfl, SqT.of upd_same, rfl, _, _, rfl, _, _, rfl, rfl, ?_⟩
      refine ⟨.int (i : Nat), rfl, rfl, _, rfl, iteFd (fun e => ?_) ?_⟩
      · injection e with e
        omega
      · refine ⟨.int cs[i], rfl, 0, _, rfl, rfl, _, rfl, iteTd c01.1 ⟨.int ((z.length : Nat) + 1), rfl, _, _, rfl, rfl, _, rfl, iteNS (by omega) ?_⟩⟩
        exact ⟨sm.trans (same_new nD), _, _, rfl⟩
    · refine .inl ⟨⟨_, hS', by rw [List.length_map]; omega⟩, ?_⟩
      exact q H' sm
theorem ok_check_set (T : Txt K mg) : FnOk P w K mg base CX0 1 T.d_check_set.f T.d_check_set.fd ["begin"] spCheckSet := by
  refine T.d_check_set.F.ok sc_check_set (fun vs H Q E h => ?_) (fun cdv A outer s H vs Q E hr h => ?_)
  · obtain ⟨b, rfl, _⟩ := h
    rfl
  · obtain ⟨b, rfl, hb, q⟩ := h
    refine ⟨_, (pss_one (ps_if (PW.pt (pw_and (pt_cmpR op_ne (pv 0) pe_int (nomark _)) (pw_and1 (pt_cmpR op_ne (pv 0) pe_int (nomark _)))))
  (pss_one ps_never)
  pss_nil)), ?_⟩
    refine ⟨.int b, rfl, rfl, _, rfl, ?_⟩
    rcases hb with e | e <;> subst e
    · exact iteF (iteF q)
    · exact iteT ⟨.int 1, rfl, rfl, _, rfl, iteF q⟩
theorem ok_check_count (T : Txt K mg) : FnOk P w K mg base CX0 1 T.d_check_count.f T.d_check_count.fd ["many", "most"] spCount := by
  refine T.d_check_count.F.ok sc_check_count (fun vs H Q E h => ?_) (fun cdv A outer s H vs Q E hr h => ?_)
  · obtain ⟨m, n, rfl, _⟩ := h
    rfl
  · obtain ⟨m, n, rfl, h0, h1, q⟩ := h
    refine ⟨_, (pss_one (ps_if (pt_not (pt_chain op_le op_le pe_int (pv 0) (pv 1)))
  (pss_one ps_never)
  pss_nil)), ?_⟩
    refine ⟨.int m, rfl, 0, _, rfl, rfl, _, rfl, iteTd h0 ⟨.int n, rfl, m, n, rfl, rfl, _, rfl, iteNS h1 ?_⟩⟩
    exact q
theorem ok_set_behind (T : Txt K mg) : FnOk P w K mg base CX0 1 T.d_set_behind.f T.d_set_behind.fd ["sheet", "code", "now"] spBehind := by
  refine T.d_set_behind.F.ok sc_set_behind (fun vs H Q E h => ?_) (fun cdv A outer s H vs Q E hr h => ?_)
  · obtain ⟨t, z, o, hm, c, nw, rfl, _⟩ := h
    rfl
  · obtain ⟨t, z, o, hm, c, nw, rfl, gd, sh, q⟩ := h
    refine ⟨_, (pss_cons (ps_asg (pv 0) (pg_tup rfl (pgs_cons (pg_name (i := 3) sc_set_behind.nd rfl (.inl rfl)) (pgs_cons (pg_name (i := 4) sc_set_behind.nd rfl (.inl rfl)) (pgs_cons (pg_name (i := 5) sc_set_behind.nd rfl (.inl rfl)) pgs_nil)))))
  (pss_cons (ps_if (pt_cmpR op_ge (pv 1) (pe_callB call_len_str (by rfl) T.n_len PySem.boot_len (pa_cons (pv 3) pa_nil)) (nomark _))
  (pss_one (ps_ret (pe_op op_sub (pv 1) (pe_callB call_len_str (by rfl) T.n_len PySem.boot_len (pa_cons (pv 3) pa_nil)))))
  pss_nil)
  (pss_cons (ps_if (pt_cmpR op_eq (pv 1) (pv 5) (nomark _))
  (pss_one (ps_ret pe_int))
  pss_nil)
  (pss_one (ps_ret (pv 2)))))), ?_⟩
    have big : z.length ≤ sizeLine := Nat.le_trans gd.le (by decide)
    refine ⟨.ref t, rfl, t, _, rfl, SqT.of sh, rfl, _, _, rfl, _, _, rfl, _, _, rfl, rfl, ?_⟩
    refine ⟨.int c, rfl, .str z, rfl, z, rfl, big, c, _, rfl, rfl, _, rfl, ?_⟩
    unfold behind at q
    by_cases h : (z.cps.size : Int) ≤ c
    · rw [if_pos h] at q
      exact iteTd h ⟨.int c, rfl, .str z, rfl, z, rfl, big, c, _, rfl, rfl, q⟩
    · rw [if_neg h] at q
      refine iteFd h ?_
      refine ⟨.int c, rfl, hm, rfl, ?_, _, rfl, ?_⟩
      · rcases gd.home with e | ⟨h, e, _⟩ <;> rw [e] <;> rfl
      · by_cases e : V.int c = hm
        · rw [if_pos e] at q
          exact iteTd e q
        · rw [if_neg e] at q
          exact iteFd e ⟨.int nw, rfl, q⟩
theorem ok_shift_places (T : Txt K mg) : FnOk P w K mg base CX0 1 T.d_shift_places.f T.d_shift_places.fd ["sheet", "tape"] (spPlaces K) := by
  refine T.d_shift_places.F.ok sc_shift_places (fun vs H Q E h => ?_) (fun cdv A outer s H vs Q E hr h => ?_)
  · obtain ⟨t, a, z, o, hm, cs, rfl, _⟩ := h
    rfl
  · obtain ⟨t, a, z, o, hm, cs, rfl, gd, sh, hS, hl, q⟩ := h
    refine ⟨_, (pss_one (ps_ret (pe_lc (own := [("place", 2), ("code", 3)]) (g := gTup K 2 (gCons (gName 2) (gCons (gName 3) gNil))) (tt := (tTest (tOp _ _ (tCB _ (tCons (tOp (rIxT K) _ _) tNil))))) (te := _) rfl sc_shift_places.nd (pi_enum (by rfl) T.n_enumerate (pa_cons (pv 1) pa_nil)) (blkOk_by (own := [("place", 2), ("code", 3)]) (N := ["sheet", "tape", "place", "code"]) (sc := defScope s_shift_places) (by decide +kernel)) (by exact fun _ _ _ _ _ => pg_tup rfl (pgs_cons (pg_name (i := 2) sc_shift_places.nd rfl (Or.inl rfl)) (pgs_cons (pg_name (i := 3) sc_shift_places.nd rfl (Or.inl rfl)) pgs_nil))) (by exact fun _ _ _ _ _ => (pts_one (pt_cmpR op_ge (pv 3) (pe_callB call_len_str (by rfl) T.n_len PySem.boot_len (pa_cons (pe_ix ix_tup (pv 0) pe_int (fun _ _ => rfl)) pa_nil)) (nomark _)))) (by exact fun _ _ _ _ _ => (pv 2))))), ?_⟩
    have big : z.length ≤ sizeLine := Nat.le_trans gd.le (by decide)
    refine ⟨.ref a, rfl, a, _, rfl, hS, fun D nD => ?_⟩
    refine lc_enum (K := K) (a := a) (xs := cs.map V.int) (fun i H' => Same H H' ∧ i ≤ cs.length ∧ H' D = some (.lst (inZ (plcV z.cps.size cs i)))) ⟨sameD (Same.refl _) nD, Nat.zero_le _, upd_same⟩ (fun i H' _ p => p.1.seq hS) (fun i x T' H' hx p nT => ?_) (fun H' p => ?_)
    · obtain ⟨sm, _, eD⟩ := p
      obtain ⟨c, hc, rfl⟩ := at_map hx
      have hi := (List.getElem?_eq_some_iff.mp hc).1
      have eg : cs.getD i 0 = c := by rw [List.getD_eq_getElem?_getD, hc]; rfl
      have nTD : D ≠ T' := ne_of_none eD nT
      have s2 := sm.trans (same_new (o := HO.tup [V.int (i : Nat), V.int c]) nT)
      have sh' : Sh (upd H' T' (HO.tup [V.int (i : Nat), V.int c])) t z o hm := s2 _ _ sh
      have eD2 : upd H' T' (HO.tup [V.int (i : Nat), V.int c]) D = _ := (upd_ne nTD).trans eD
      refine ⟨T', _, rfl, SqT.of upd_same, rfl, _, _, rfl, _, _, rfl, rfl, rfl, ?_⟩
      refine ⟨.int c, rfl, .ref t, rfl, t, _, 0, _, rfl, rfl, SqT.of sh', atI_nat (j := 0) rfl, z, rfl, big, c, _, rfl, rfl, _, rfl, ?_⟩
      have st := plcV_succ z.cps.size cs i
      rw [eg] at st
      by_cases h : (z.cps.size : Int) ≤ c
      · rw [if_pos h] at st
        refine iteTd h ⟨.int (i : Nat), rfl, _, eD2, ?_, sameD s2 nD, hi, ?_⟩
        · unfold inZ; rw [List.length_map]; exact small1000 (Nat.le_trans (plcV_le _ _ _) (by omega))
        · rw [upd_same, st]; unfold inZ; rw [List.map_append]; rfl
      · rw [if_neg h, List.append_nil] at st
        refine iteFd h ⟨s2, hi, ?_⟩
        rw [eD2, st]
    · obtain ⟨sm, _, eD⟩ := p
      rw [List.length_map] at eD
      exact q D H' sm nD eD
theorem ok_count_unlike (T : Txt K mg) : FnOk P w K mg base CX0 1 T.d_count_unlike.f T.d_count_unlike.fd ["text", "other"] spUnlike := by
  refine T.d_count_unlike.F.ok sc_count_unlike (fun vs H Q E h => ?_) (fun cdv A outer s H vs Q E hr h => ?_)
  · obtain ⟨x, y, rfl, _⟩ := h
    rfl
  · obtain ⟨x, y, rfl, hxy, hl, q⟩ := h
    refine ⟨_, (pss_one (ps_ret (pe_callB (cr_sum rfl) (by rfl) T.n_sum (by decide +kernel) (pa_cons (pe_lc (own := [("sign", 2), ("instead", 3)]) (g := gTup K 2 (gCons (gName 2) (gCons (gName 3) gNil))) (tt := _) (te := _) rfl sc_count_unlike.nd (Kt.pi_zipS (by rfl) T.n_zip (pa_cons (pv 0) (pa_cons (pv 1) pa_nil))) (blkOk_by (own := [("sign", 2), ("instead", 3)]) (N := ["text", "other", "sign", "instead"]) (sc := defScope s_count_unlike) (by decide +kernel)) (by exact fun _ _ _ _ _ => pg_tup rfl (pgs_cons (pg_name (i := 2) sc_count_unlike.nd rfl (Or.inl rfl)) (pgs_cons (pg_name (i := 3) sc_count_unlike.nd rfl (Or.inl rfl)) pgs_nil))) (by exact fun _ _ _ _ _ => (pts_one (pt_cmpR op_ne (pv 2) (pv 3) (nomark _)))) (by exact fun _ _ _ _ _ => pe_int)) pa_nil)))), ?_⟩
    refine ⟨.str x, rfl, .str y, rfl, x, y, rfl, fun D nD => ?_⟩
    refine lc_zipS hxy (fun i H' => Same H H' ∧ i ≤ x.cps.size ∧ H' D = some (.lst ((List.replicate (unlikeV x y i) (1 : Int)).map V.int))) ⟨sameD (Same.refl _) nD, Nat.zero_le _, upd_same⟩ (fun i c d T' H' hc hd p nT => ?_) (fun H' p => ?_)
    · obtain ⟨sm, _, eD⟩ := p
      have hi := (List.getElem?_eq_some_iff.mp hc).1
      rw [Array.length_toList] at hi
      have nTD : D ≠ T' := ne_of_none eD nT
      have s2 := sm.trans (same_new (o := HO.tup [V.str (sg c), V.str (sg d)]) nT)
      have eD2 : upd H' T' (HO.tup [V.str (sg c), V.str (sg d)]) D = _ := (upd_ne nTD).trans eD
      have st := unlikeV_succ x y i
      have ec : x.cps.toList.getD i 0 = c := by rw [List.getD_eq_getElem?_getD, hc]; rfl
      have ed : y.cps.toList.getD i 0 = d := by rw [List.getD_eq_getElem?_getD, hd]; rfl
      rw [ec, ed] at st
      refine ⟨T', _, rfl, SqT.of upd_same, rfl, _, _, rfl, _, _, rfl, rfl, rfl, ?_⟩
      refine ⟨.str (sg c), rfl, .str (sg d), rfl, rfl, _, rfl, ?_⟩
      by_cases h : c = d
      · rw [if_neg (fun k => k h)] at st
        refine iteNS (by rw [h]) ⟨s2, hi, ?_⟩
        rw [eD2, st, Nat.add_zero]
      · rw [if_pos h] at st
        rw [show decide (V.str (sg c) = V.str (sg d)) = false from decide_eq_false fun k => h (sg_inj (V.str.inj k))]
        refine iteT ⟨_, eD2, ?_, sameD s2 nD, hi, ?_⟩
        · rw [List.length_map, List.length_replicate]
          exact small1000 (Nat.le_trans (unlikeV_le _ _ _) (by omega))
        · rw [upd_same, st, List.replicate_succ', List.map_append]; rfl
    · obtain ⟨sm, _, eD⟩ := p
      refine ⟨D, _, rfl, SqL.of eD, ?_⟩
      have e : (List.replicate (unlikeV x y x.cps.size) (1 : Int)).sum = ((unlike x y : Nat) : Int) := by
        unfold unlike
        generalize unlikeV x y x.cps.size = n
        induction n with
        | zero => rfl
        | succ n ih => rw [List.replicate_succ, List.sum_cons, ih]; omega
      rw [e]
      exact q H' sm
theorem ok_can_be_a_set (T : Txt K mg) (TB : GxR.TabB base mg T.c_are_signs T.t_are_signs) : FnOk P w K mg base CX0 2 T.d_can_be_a_set.f T.d_can_be_a_set.fd ["signs"] (spCan T.t_are_signs) := by
  refine T.d_can_be_a_set.F.ok sc_can_be_a_set (fun vs H Q E h => ?_) (fun cdv A outer s H vs Q E hr h => ?_)
  · obtain ⟨z, rfl, _⟩ := h
    rfl
  · obtain ⟨z, rfl, hz, hn, hp, tb, q⟩ := h
    refine ⟨_, (pss_one (ps_ret (pe_and (pe_call (ok_are_signs T TB) (hr.mono (by decide)) (by rfl) T.d_are_signs.g T.d_are_signs.F.kp T.d_are_signs.b .nil pass0 (pa_cons (pv 0) pa_nil)) (pe_one (pe_cmpR op_eq (Kt.pe_lenSetS rfl (by rfl) T.n_len (by rfl) T.n_set (pv 0)) (pe_callB call_len_str (by rfl) T.n_len PySem.boot_len (pa_cons (pv 0) pa_nil)) (nomark _)))))), ?_⟩
    refine ⟨.str z, rfl, z, rfl, tb, fun H2 t2 => ?_⟩
    have e : (z.cps.toList.all fun c => decide (32 ≤ c ∧ c ≤ 126)) = true := List.all_eq_true.mpr fun c hc => decide_eq_true (hp c hc)
    rw [e]
    refine ⟨true, rfl, iteT ?_⟩
    refine ⟨.str z, rfl, z, rfl, hz, .str z, rfl, z, rfl, Nat.le_trans hz (by decide), rfl, ?_⟩
    rw [uq_nodup hn, Array.length_toList]
    rw [show decide (V.int ((z.cps.size : Nat) : Int) = V.int ((z.length : Nat) : Int)) = true from decide_eq_true rfl]
    exact q H2 t2
theorem ok_walked (T : Txt K mg) : FnOk P w K mg base CX0 2 T.d_walked.f T.d_walked.fd ["sheet", "tape", "begin"] (spRd K) := by
  refine T.d_walked.F.ok sc_walked (fun vs H Q E h => ?_) (fun cdv A outer s H vs Q E hr h => ?_)
  · obtain ⟨t, a, z, o, hm, cs, b, rfl, _⟩ := h
    rfl
  · obtain ⟨t, a, z, o, hm, cs, b, rfl, gd, sh, hS, hc, hl, hb, q⟩ := h
    refine ⟨_, (pss_cons (ps_set (i := 3) sc_walked.nd rfl (.inl rfl) pe_str)
  (pss_cons (ps_set (i := 4) sc_walked.nd rfl (.inl rfl) (pv 2))
  (pss_cons (ps_for PassesOwn.never rfl (pi_list (pv 1)) (pg_name (i := 5) sc_walked.nd rfl (.inl rfl))
  (pss_cons (ps_if (pt_cmpR op_lt (pv 5) (pe_callB call_len_str (by rfl) T.n_len PySem.boot_len (pa_cons (pe_ix ix_tup (pv 0) (pv 4) (fun _ _ => rfl)) pa_nil)) (nomark _))
  (pss_one (ps_aug (i := 3) sc_walked.nd rfl (.inl rfl) (pe_ix ix_str (pe_ix ix_tup (pv 0) (pv 4) (fun _ _ => rfl)) (pv 5) (fun _ _ => rfl)) Kt.ip_addS))
  pss_nil)
  (pss_one (ps_set (i := 4) sc_walked.nd rfl (.inl rfl) (pe_call (ok_set_behind T) (hr.mono (by decide)) (by rfl) T.d_set_behind.g T.d_set_behind.F.kp T.d_set_behind.b .nil pass0 (pa_cons (pv 0) (pa_cons (pv 5) (pa_cons (pv 4) pa_nil))))))))
  (pss_one (ps_ret (pe_tup (pa_cons (pv 3) (pa_cons (pv 4) pa_nil)))))))), ?_⟩
    have z2 := gd.le
    have big : z.length ≤ sizeLine := Nat.le_trans z2 (by decide)
    have hlen := gd.len
    have bigo : o.length ≤ sizeLine := Nat.le_trans (Nat.le_of_eq hlen) big
    refine ⟨.int b, rfl, ?_⟩
    refine ⟨.ref a, rfl, a, rfl, ⟨_, hS⟩, for_list (K := K) (a := a) (xs := cs.map V.int) (fun i σ H' => H' = H ∧ ∃ y : Option V, σ = [some (.ref t), some (.ref a), some (.int b), some (.str (rd z o hm (cs.take i) b).1), some (.int (rd z o hm (cs.take i) b).2), y])
      ⟨rfl, none, rfl⟩ (fun i σ H' _ p => p.1 ▸ hS) (fun i x σ H' hx p => ?_) (fun σ H' p => ?_)⟩
    · obtain ⟨rfl, y, rfl⟩ := p
      obtain ⟨c, hci, rfl⟩ := at_map hx
      have c01 := hc c (List.mem_of_getElem? hci)
      have ok := rd_ok (z := z) (o := o) (hm := hm) hb hc i
      have hil : i < cs.length := (List.getElem?_eq_some_iff.mp hci).1
      have st := rd_take (z := z) (o := o) (hm := hm) (b := b) hci
      rw [st]
      generalize rd z o hm (cs.take i) b = r at ok
      obtain ⟨tx, nw⟩ := r
      obtain ⟨ok1, ok2⟩ := ok
      have ok1 : nw = 0 ∨ nw = 1 := ok1
      have ok2 : tx.length ≤ i := ok2
      have at1 : atI [V.str z, V.str o, hm] nw = some (.str (if nw = 0 then z else o)) := by
        rcases ok1 with e | e <;> rw [e]
        · exact atI_nat (j := 0) rfl
        · exact atI_nat (j := 1) rfl
      have sz : (if nw = 0 then z else o).length = z.cps.size := by
        rcases ok1 with e | e <;> rw [e]
        · rfl
        · exact hlen
      have bigs : (if nw = 0 then z else o).length ≤ sizeLine := by rw [sz]; exact big
      refine ⟨.int c, rfl, .ref t, rfl, .int nw, rfl, t, _, nw, _, rfl, rfl, SqT.of sh, at1, _, rfl, bigs, c, _, rfl, rfl, _, rfl, ?_⟩
      have beh : ∀ σ : L2.St, σ = [some (.ref t), some (.ref a), some (.int b), some (.str (rdStep z o hm (tx, nw) c).1), some (.int nw), some (.int c)] →
          tAsg (tCall spBehind [] E0 (tCons (tVar 0) (tCons (tVar 5) (tCons (tVar 4) tNil)))) (gName 4) { nx := fun σ H'' => H'' = H' ∧ ∃ y : Option V, σ = [some (.ref t), some (.ref a), some (.int b), some (.str (rdStep z o hm (tx, nw) c).1), some (.int (rdStep z o hm (tx, nw) c).2), y], rt := Q } σ H' := by
        intro σ e
        subst e
        refine ⟨.ref t, rfl, .int c, rfl, .int nw, rfl, t, z, o, hm, c, nw, rfl, gd, sh, rfl, some (.int c), ?_⟩
        rw [rdStep_snd]; rfl
      by_cases h : (z.cps.size : Int) ≤ c
      · refine iteFd (by rw [sz]; omega) ?_
        refine beh _ ?_
        unfold rdStep
        rw [if_pos h]; rfl
      · refine iteTd (by rw [sz]; omega) ?_
        refine ⟨.str tx, rfl, .ref t, rfl, .int nw, rfl, t, _, nw, _, rfl, rfl, SqT.of sh, at1, .int c, rfl, _, c, _, rfl, rfl, bigs, atI_nd ⟨c01.1, ?_⟩, _, _, rfl, rfl, ?_, ?_⟩
        · rw [Array.length_toList]
          have : (if nw = 0 then z else o).cps.size = z.cps.size := sz
          rw [this]; omega
        · show tx.length + 1 ≤ sizeLine
          exact Nat.le_of_lt (small1000 (by omega))
        · refine beh _ ?_
          unfold rdStep
          rw [if_neg h]; rfl
    · obtain ⟨rfl, y, rfl⟩ := p
      rw [List.length_map, List.take_length]
      exact ⟨.str _, rfl, .int _, rfl, by show 2 ≤ sizeLine; decide, fun p np => q p _ (same_new np) np upd_same⟩
theorem ok_check_sheet (T : Txt K mg) (TB : GxR.TabB base mg T.c_are_signs T.t_are_signs) : FnOk P w K mg base CX0 3 T.d_check_sheet.f T.d_check_sheet.fd ["sheet"] (spCheckSheet T.t_are_signs) := by
  refine T.d_check_sheet.F.ok sc_check_sheet (fun vs H Q E h => ?_) (fun cdv A outer s H vs Q E hr h => ?_)
  · obtain ⟨t, z, o, hm, rfl, _⟩ := h
    rfl
  · obtain ⟨t, z, o, hm, rfl, gd, sh, tb, q⟩ := h
    refine ⟨_, (pss_cons (ps_asg (pv 0) (pg_tup rfl (pgs_cons (pg_name (i := 1) sc_check_sheet.nd rfl (.inl rfl)) (pgs_cons (pg_name (i := 2) sc_check_sheet.nd rfl (.inl rfl)) (pgs_cons (pg_name (i := 3) sc_check_sheet.nd rfl (.inl rfl)) pgs_nil)))))
  (pss_cons (ps_if (pt_cmpR op_ne (pe_callB call_len_str (by rfl) T.n_len PySem.boot_len (pa_cons (pv 1) pa_nil)) (pe_callB call_len_str (by rfl) T.n_len PySem.boot_len (pa_cons (pv 2) pa_nil)) (nomark _))
  (pss_one ps_never)
  pss_nil)
  (pss_cons (ps_if (pt_not (pt_chain op_le op_le pe_int (pe_callB call_len_str (by rfl) T.n_len PySem.boot_len (pa_cons (pv 1) pa_nil)) (pe_glob (v := .int 26) (by rfl) T.c_MOST_PLACES.choose_spec ⟨_, rfl⟩)))
  (pss_one ps_never)
  pss_nil)
  (pss_cons (ps_if (PW.pt (pw_or (pt_not (pt_val (pe_call (ok_can_be_a_set T TB) (hr.mono (by decide)) (by rfl) T.d_can_be_a_set.g T.d_can_be_a_set.F.kp T.d_can_be_a_set.b .nil pass0 (pa_cons (pv 1) pa_nil)))) (pw_or1 (pt_not (pt_val (pe_call (ok_can_be_a_set T TB) (hr.mono (by decide)) (by rfl) T.d_can_be_a_set.g T.d_can_be_a_set.F.kp T.d_can_be_a_set.b .nil pass0 (pa_cons (pv 2) pa_nil)))))))
  (pss_one ps_never)
  pss_nil)
  (pss_one (ps_if (PW.pt (pw_and (pt_cmp (pc_notN (pv 3))) (pw_and1 (pt_not (pt_chain op_le op_lt pe_int (pv 3) (pe_callB call_len_str (by rfl) T.n_len PySem.boot_len (pa_cons (pv 1) pa_nil)))))))
  (pss_one ps_never)
  pss_nil)))))), ?_⟩
    have z1 := gd.pos
    have z2 := gd.le
    have big : z.length ≤ sizeLine := Nat.le_trans z2 (by decide)
    have bigo : o.length ≤ sizeLine := Nat.le_trans (Nat.le_of_eq gd.len) big
    have elen : z.length = o.length := gd.len.symm
    refine ⟨.ref t, rfl, t, _, rfl, SqT.of sh, rfl, _, _, rfl, _, _, rfl, _, _, rfl, rfl, ?_⟩
    refine ⟨.str z, rfl, z, rfl, big, .str o, rfl, o, rfl, bigo, rfl, _, rfl, iteNS (by rw [elen]) ?_⟩
    have hz : (z.length : Int) = (z.cps.size : Int) := rfl
    refine ⟨.str z, rfl, z, rfl, big, 1, _, rfl, rfl, _, rfl, iteTd (by omega) ?_⟩
    refine ⟨_, 26, rfl, rfl, _, rfl, iteNS (by omega) ?_⟩
    refine ⟨.str z, rfl, z, rfl, Nat.le_trans z2 (by decide), gd.nz, gd.pz, tb, fun H1 t1 => ⟨true, rfl, iteF ?_⟩⟩
    refine ⟨.str o, rfl, o, rfl, Nat.le_trans (Nat.le_of_eq gd.len) (Nat.le_trans z2 (by decide)), gd.no, gd.po, t1.1, fun H2 t2 => ⟨true, rfl, iteF ?_⟩⟩
    have kp : Kp T.t_are_signs H H2 := (Kp.of_tabbed t1).trans (Kp.of_tabbed t2)
    refine ⟨hm, rfl, _, rfl, ?_⟩
    rcases gd.home with e | ⟨h, e, hh⟩
    · rw [e]
      exact iteF (iteF (q H2 kp))
    · rw [e]
      refine iteT ?_
      refine ⟨.int h, rfl, 0, _, rfl, rfl, _, rfl, iteTd (by omega) ?_⟩
      refine ⟨.str z, rfl, z, rfl, big, _, _, rfl, rfl, _, rfl, iteNS (by omega) ?_⟩
      exact q H2 kp
theorem ok_text_without (T : Txt K mg) : FnOk P w K mg base CX0 3 T.d_text_without.f T.d_text_without.fd ["sheet", "tape", "begin", "place"] (spWo K) := by
  refine T.d_text_without.F.ok sc_text_without (fun vs H Q E h => ?_) (fun cdv A outer s H vs Q E hr h => ?_)
  · obtain ⟨t, a, z, o, hm, cs, b, i, rfl, _⟩ := h
    rfl
  · obtain ⟨t, a, z, o, hm, cs, b, i, rfl, gd, sh, hS, hc, hl, hb, hi, q⟩ := h
    refine ⟨_, (pss_cons (ps_asg (pe_call (ok_walked T) (hr.mono (by decide)) (by rfl) T.d_walked.g T.d_walked.F.kp T.d_walked.b .nil pass0 (pa_cons (pv 0) (pa_cons (pe_op op_cat (pe_slice sl_list (pv 1) po_none (po_some (pv 3))) (pe_slice sl_list (pv 1) (po_some (pe_op op_add (pv 3) pe_int)) po_none)) (pa_cons (pv 2) pa_nil)))) (pg_tup rfl (pgs_cons (pg_name (i := 4) sc_text_without.nd rfl (.inl rfl)) (pgs_cons (pg_name (i := 5) sc_text_without.nd rfl (.inl rfl)) pgs_nil))))
  (pss_one (ps_ret (pv 4)))), ?_⟩
    refine ⟨.ref t, rfl, .ref a, rfl, .int (i : Nat), rfl, (i : Nat), rfl, a, _, rfl, hS, fun p1 n1 => ?_⟩
    have s1 := same_new (o := HO.lst (cutV (cs.map V.int) none (some (i : Nat)))) n1
    refine ⟨.ref a, rfl, .int (i : Nat), rfl, (i : Nat), 1, rfl, rfl, _, rfl, a, _, rfl, s1.seq hS, fun p2 n2 => ?_⟩
    have s2 := s1.trans (same_new (o := HO.lst (cutV (cs.map V.int) (some ((i : Nat) + 1)) none)) n2)
    have e1 := cut_lo cs i (by omega)
    have e2 := cut_hi cs (i + 1) (by omega)
    refine ⟨p1, p2, _, _, rfl, rfl, same_new n2 _ _ upd_same, upd_same, Nat.le_trans (Nat.add_le_add (cutV_length _ _ _) (cutV_length _ _ _)) (by rw [List.length_map]; exact Nat.le_trans (Nat.add_le_add hl hl) (by decide)), fun p3 n3 => ?_⟩
    have s3 := s2.trans (same_new (o := HO.lst (cutV (cs.map V.int) none (some (i : Nat)) ++ cutV (cs.map V.int) (some ((i : Nat) + 1)) none)) n3)
    refine ⟨.int b, rfl, t, p3, z, o, hm, cutAt cs i, b, rfl, gd, s3 _ _ sh, ?_, cutAt_codes hc i, Nat.le_trans (cutAt_len cs i) (by omega), hb, fun p4 H4 s4 n4 e4 => ?_⟩
    · refine SqL.of ?_
      rw [upd_same, e1]
      unfold cutAt
      rw [List.map_append, ← e2]
      rfl
    · refine ⟨p4, _, rfl, SqT.of e4, rfl, _, _, rfl, _, _, rfl, rfl, ?_⟩
      exact ⟨_, rfl, q H4 (s3.trans s4)⟩
theorem ok_check_begun (T : Txt K mg) (TB : GxR.TabB base mg T.c_are_signs T.t_are_signs) : FnOk P w K mg base CX0 4 T.d_check_begun.f T.d_check_begun.fd ["sheet", "tape", "begin"] (spBegun3 K T.t_are_signs) := by
  refine T.d_check_begun.F.ok sc_check_begun (fun vs H Q E h => ?_) (fun cdv A outer s H vs Q E hr h => ?_)
  · obtain ⟨t, a, z, o, hm, cs, b, rfl, _⟩ := h
    rfl
  · obtain ⟨t, a, z, o, hm, cs, b, rfl, gd, sh, hS, hc, hl, hb, tb, q⟩ := h
    refine ⟨_, (pss_cons (ps_expr (pe_call (ok_check_sheet T TB) (hr.mono (by decide)) (by rfl) T.d_check_sheet.g T.d_check_sheet.F.kp T.d_check_sheet.b .nil pass0 (pa_cons (pv 0) pa_nil)))
  (pss_cons (ps_expr (pe_call (ok_check_tape T) (hr.mono (by decide)) (by rfl) T.d_check_tape.g T.d_check_tape.F.kp T.d_check_tape.b .nil pass0 (pa_cons (pv 0) (pa_cons (pv 1) pa_nil))))
  (pss_one (ps_expr (pe_call (ok_check_set T) (hr.mono (by decide)) (by rfl) T.d_check_set.g T.d_check_set.F.kp T.d_check_set.b .nil pass0 (pa_cons (pv 2) pa_nil)))))), ?_⟩
    refine ⟨.ref t, rfl, t, z, o, hm, rfl, gd, sh, tb, fun H1 k1 => ?_⟩
    refine ⟨.ref t, rfl, .ref a, rfl, t, a, z, o, hm, cs, rfl, gd, k1.get tb sh fun _ e => (nomatch e), k1.seqL tb hS, hc, hl, fun H2 s2 => ?_⟩
    exact ⟨.int b, rfl, b, rfl, hb, q H2 (k1.trans (Kp.same k1.tab s2))⟩
theorem ok_spoilt (T : Txt K mg) (TB : GxR.TabB base mg T.c_are_signs T.t_are_signs) : FnOk P w K mg base CX0 5 T.d_spoilt.f T.d_spoilt.fd ["sheet", "tape", "begin"] (spSpoilt K T.t_are_signs) := by
  refine T.d_spoilt.F.ok sc_spoilt (fun vs H Q E h => ?_) (fun cdv A outer s H vs Q E hr h => ?_)
  · obtain ⟨t, a, z, o, hm, cs, b, rfl, _⟩ := h
    rfl
  · obtain ⟨t, a, z, o, hm, cs, b, rfl, gd, sh, hS, hc, hl, hb, tb, q⟩ := h
    refine ⟨_, (pss_cons (ps_expr (pe_call (ok_check_begun T TB) (hr.mono (by decide)) (by rfl) T.d_check_begun.g T.d_check_begun.F.kp T.d_check_begun.b .nil pass0 (pa_cons (pv 0) (pa_cons (pv 1) (pa_cons (pv 2) pa_nil)))))
  (pss_cons (ps_asg (pe_call (ok_walked T) (hr.mono (by decide)) (by rfl) T.d_walked.g T.d_walked.F.kp T.d_walked.b .nil pass0 (pa_cons (pv 0) (pa_cons (pv 1) (pa_cons (pv 2) pa_nil)))) (pg_tup rfl (pgs_cons (pg_name (i := 3) sc_spoilt.nd rfl (.inr rfl)) (pgs_cons (pg_name (i := 4) sc_spoilt.nd rfl (.inl rfl)) pgs_nil))))
  (pss_one (ps_ret (pe_lc (own := [("place", 5)]) (g := gName 5) (tt := tYes) (te := _) rfl sc_spoilt.nd (pi_list (pe_call (ok_shift_places T) (hr.mono (by decide)) (by rfl) T.d_shift_places.g T.d_shift_places.F.kp T.d_shift_places.b .nil pass0 (pa_cons (pv 0) (pa_cons (pv 1) pa_nil)))) (blkOk_by (own := [("place", 5)]) (N := ["sheet", "tape", "begin", "text", "_", "place"]) (sc := defScope s_spoilt) (by decide +kernel)) (by exact fun _ _ _ _ _ => pg_name (i := 5) sc_spoilt.nd rfl (Or.inl rfl)) (by exact fun _ _ _ _ _ => pts_nil) (by exact fun _ _ _ _ _ => (pe_tup (pa_cons (pv 5) (pa_cons (pe_call (ok_count_unlike T) (hr.mono (by decide)) (by rfl) T.d_count_unlike.g T.d_count_unlike.F.kp T.d_count_unlike.b .nil pass0 (pa_cons (pv 3) (pa_cons (pe_call (ok_text_without T) (hr.mono (by decide)) (by rfl) T.d_text_without.g T.d_text_without.F.kp T.d_text_without.b .nil pass0 (pa_cons (pv 0) (pa_cons (pv 1) (pa_cons (pv 2) (pa_cons (pv 5) pa_nil))))) pa_nil))) pa_nil))))))))), ?_⟩
    refine ⟨.ref t, rfl, .ref a, rfl, .int b, rfl, t, a, z, o, hm, cs, b, rfl, gd, sh, hS, hc, hl, hb, tb, fun H1 k1 => ?_⟩
    have sh1 : Sh H1 t z o hm := k1.get tb sh fun _ e => (nomatch e)
    have hS1 := k1.seqL tb hS
    refine ⟨.ref t, rfl, .ref a, rfl, .int b, rfl, t, a, z, o, hm, cs, b, rfl, gd, sh1, hS1, hc, by omega, hb, fun p H2 s2 np ep => ?_⟩
    refine ⟨p, _, rfl, SqT.of ep, rfl, _, _, rfl, _, _, rfl, rfl, ?_⟩
    have sh2 : Sh H2 t z o hm := s2 _ _ sh1
    have hS2 := s2.seq hS1
    refine ⟨.ref t, rfl, .ref a, rfl, t, a, z, o, hm, cs, rfl, gd, sh2, hS2, by omega, fun pl H3 s3 npl epl => ⟨pl, rfl, ⟨_, SqL.of epl⟩, fun D nD => ?_⟩⟩
    have k3 := k1.trans ((Kp.same k1.tab s2).trans (Kp.same (tab_same k1.tab fun o e => s2 _ o e) s3))
    have nDH : H D = none := k3.new tb nD
    have pll : (plc z.cps.size cs).length ≤ cs.length := plcV_le z.cps.size cs cs.length
    refine lc_list (K := K) (a := pl) (xs := inZ (plc z.cps.size cs)) (fun i H' => Same H3 H' ∧ ∃ as : List Addr, as.length = i ∧ i ≤ (plc z.cps.size cs).length ∧ H' D = some (.lst (as.map V.ref)) ∧ Prs H' as (((plc z.cps.size cs).take i).map (lossOf z o hm cs b)) ∧ ∀ c ∈ as, H3 c = none)
      ⟨sameD (Same.refl _) nD, [], rfl, Nat.zero_le _, upd_same, by rw [List.take_zero]; exact True.intro, fun c hc => nomatch hc⟩ (fun i H' _ p => SqL.of (p.1 _ _ epl)) (fun i x H' hx p => ?_) (fun H' p => ?_)
    · obtain ⟨sm, as, hal, hil, eD, prs, nas⟩ := p
      obtain ⟨k, hk, rfl⟩ := at_map hx
      have hin : k ∈ plc z.cps.size cs := List.mem_of_getElem? hk
      have hkl := (List.getElem?_eq_some_iff.mp hk).1
      have sh' : Sh H' t z o hm := sm _ _ (s3 _ _ sh2)
      have hS' := sm.seq (s3.seq hS2)
      refine ⟨rfl, lc_yes ?_⟩
      refine ⟨.int (k : Nat), rfl, .str (rd z o hm cs b).1, rfl, .ref t, rfl, .ref a, rfl, .int b, rfl, .int (k : Nat), rfl, t, a, z, o, hm, cs, b, k, rfl, gd, sh', hS', hc, hl, hb, (plc_lt hin).1, fun H4 s4 => ?_⟩
      have sz := rd_size z o hm cs b
      have szl : (rd z o hm cs b).1.cps.size ≤ 1000 := by
        rw [sz]; exact Nat.le_trans (List.length_filter_le _ _) (by omega)
      refine ⟨_, _, rfl, (wo_size hin).symm, szl, fun H5 s5 => ?_⟩
      refine ⟨by show 2 ≤ sizeLine; decide, fun u nu => ?_⟩
      have s6 := s4.trans (s5.trans (same_new (o := HO.tup [V.int (k : Nat), V.int ((unlike (rd z o hm cs b).1 (wo z o hm cs b k) : Nat) : Int)]) nu))
      have nu' : H' u = none := (s4.trans s5).free nu
      have eD6 := s6 _ _ eD
      refine ⟨as.map V.ref, eD6, by rw [List.length_map, hal]; exact small1000 (by omega), sameD (sm.trans s6) nD, as ++ [u], by rw [List.length_append, hal]; rfl, hkl, by rw [upd_same, List.map_append]; rfl, ?_, fun c hc => ?_⟩
      · rw [List.take_add_one, hk, List.map_append]
        have nuD : u ≠ D := fun e => by rw [e, eD] at nu'; cases nu'
        refine Prs.app (prs.mono fun c xs e => ?_) ⟨?_, True.intro⟩
        · rw [upd_ne (ne_of (s6 _ _ e) eD6 fun e => nomatch e)]; exact s6 _ _ e
        · rw [upd_ne nuD]; exact upd_same
      · rcases List.mem_append.mp hc with m | m
        · exact nas c m
        · rw [List.mem_singleton.mp m]; exact sm.free nu'
    · obtain ⟨sm, as, hal, hil, eD, prs, nas⟩ := p
      have e : (inZ (plc z.cps.size cs)).length = (plc z.cps.size cs).length := by unfold inZ; rw [List.length_map]
      rw [e, List.take_length] at prs
      exact q D as H' (k3.trans (Kp.same k3.tab sm)) nDH eD prs fun c hc => k3.new tb (nas c hc)
theorem ok_lost_at (T : Txt K mg) (TB : GxR.TabB base mg T.c_are_signs T.t_are_signs) : FnOk P w K mg base CX0 5 T.d_lost_at.f T.d_lost_at.fd ["sheet", "tape", "begin", "text"] (spLostAt K T.t_are_signs) := by
  refine T.d_lost_at.F.ok sc_lost_at (fun vs H Q E h => ?_) (fun cdv A outer s H vs Q E hr h => ?_)
  · obtain ⟨t, a, z, o, hm, cs, b, x, rfl, _⟩ := h
    rfl
  · obtain ⟨t, a, z, o, hm, cs, b, x, rfl, gd, sh, hS, hc, hl, hb, tb, q⟩ := h
    refine ⟨_, (pss_cons (ps_expr (pe_call (ok_check_begun T TB) (hr.mono (by decide)) (by rfl) T.d_check_begun.g T.d_check_begun.F.kp T.d_check_begun.b .nil pass0 (pa_cons (pv 0) (pa_cons (pv 1) (pa_cons (pv 2) pa_nil)))))
  (pss_cons (ps_set (i := 4) sc_lost_at.nd rfl (.inl rfl) (pe_call (ok_shift_places T) (hr.mono (by decide)) (by rfl) T.d_shift_places.g T.d_shift_places.F.kp T.d_shift_places.b .nil pass0 (pa_cons (pv 0) (pa_cons (pv 1) pa_nil))))
  (pss_one (ps_ret (pe_lc (own := [("place", 5)]) (g := gName 5) (tt := _) (te := _) rfl sc_lost_at.nd (pi_list (pv 4)) (blkOk_by (own := [("place", 5)]) (N := ["sheet", "tape", "begin", "text", "places", "place"]) (sc := defScope s_lost_at) (by decide +kernel)) (by exact fun _ _ _ _ _ => pg_name (i := 5) sc_lost_at.nd rfl (Or.inl rfl)) (by exact fun _ _ _ _ _ => (pts_one (pt_cmpR op_eq (pe_call (ok_text_without T) (hr.mono (by decide)) (by rfl) T.d_text_without.g T.d_text_without.F.kp T.d_text_without.b .nil pass0 (pa_cons (pv 0) (pa_cons (pv 1) (pa_cons (pv 2) (pa_cons (pv 5) pa_nil))))) (pv 3) (nomark _)))) (by exact fun _ _ _ _ _ => (pv 5))))))), ?_⟩
    refine ⟨.ref t, rfl, .ref a, rfl, .int b, rfl, t, a, z, o, hm, cs, b, rfl, gd, sh, hS, hc, hl, hb, tb, fun H1 k1 => ?_⟩
    have sh1 : Sh H1 t z o hm := k1.get tb sh fun _ e => (nomatch e)
    have hS1 := k1.seqL tb hS
    refine ⟨.ref t, rfl, .ref a, rfl, t, a, z, o, hm, cs, rfl, gd, sh1, hS1, by omega, fun pl H3 s3 npl epl => ⟨.ref pl, rfl, pl, rfl, ⟨_, SqL.of epl⟩, fun D nD => ?_⟩⟩
    have k3 := k1.trans (Kp.same k1.tab s3)
    have nDH : H D = none := k3.new tb nD
    have pll : (plc z.cps.size cs).length ≤ cs.length := plcV_le z.cps.size cs cs.length
    refine lc_list (K := K) (a := pl) (xs := inZ (plc z.cps.size cs)) (fun i H' => Same H3 H' ∧ i ≤ (plc z.cps.size cs).length ∧ H' D = some (.lst (inZ (((plc z.cps.size cs).take i).filter fun i => decide (wo z o hm cs b i = x)))))
      ⟨sameD (Same.refl _) nD, Nat.zero_le _, by rw [List.take_zero]; exact upd_same⟩ (fun i H' _ p => SqL.of (p.1 _ _ epl)) (fun i v H' hx p => ?_) (fun H' p => ?_)
    · obtain ⟨sm, hil, eD⟩ := p
      obtain ⟨k, hk, rfl⟩ := at_map hx
      have hin : k ∈ plc z.cps.size cs := List.mem_of_getElem? hk
      have hkl := (List.getElem?_eq_some_iff.mp hk).1
      have sh' : Sh H' t z o hm := sm _ _ (s3 _ _ sh1)
      have hS' := sm.seq (s3.seq hS1)
      refine ⟨rfl, ?_⟩
      refine ⟨.ref t, rfl, .ref a, rfl, .int b, rfl, .int (k : Nat), rfl, t, a, z, o, hm, cs, b, k, rfl, gd, sh', hS', hc, hl, hb, (plc_lt hin).1, fun H4 s4 => ?_⟩
      refine ⟨.str x, rfl, rfl, _, rfl, ?_⟩
      have eD4 := s4 _ _ eD
      have st : ((plc z.cps.size cs).take (i + 1)).filter (fun i => decide (wo z o hm cs b i = x)) = ((plc z.cps.size cs).take i).filter (fun i => decide (wo z o hm cs b i = x)) ++ if wo z o hm cs b k = x then [k] else [] := by
        rw [List.take_add_one, hk, List.filter_append]
        congr 1
        by_cases e : wo z o hm cs b k = x
        · rw [if_pos e]; exact List.filter_cons_of_pos (decide_eq_true e)
        · rw [if_neg e]; exact List.filter_cons_of_neg (by simpa using e)
      by_cases e : wo z o hm cs b k = x
      · rw [if_pos e] at st
        rw [show decide (V.str (wo z o hm cs b k) = V.str x) = true from decide_eq_true (congrArg V.str e)]
        refine iteT ⟨.int (k : Nat), rfl, _, eD4, ?_, sameD (sm.trans s4) nD, hkl, ?_⟩
        · unfold inZ; rw [List.length_map]
          refine small1000 (Nat.le_trans (List.length_filter_le _ _) ?_)
          rw [List.length_take]; omega
        · rw [upd_same, st]; unfold inZ; rw [List.map_append]; rfl
      · rw [if_neg e, List.append_nil] at st
        rw [show decide (V.str (wo z o hm cs b k) = V.str x) = false from decide_eq_false fun h => e (V.str.inj h)]
        refine iteF ⟨sm.trans s4, hkl, ?_⟩
        rw [eD4, st]
    · obtain ⟨sm, hil, eD⟩ := p
      have e : (inZ (plc z.cps.size cs)).length = (plc z.cps.size cs).length := by unfold inZ; rw [List.length_map]
      rw [e, List.take_length] at eD
      exact q D H' (k3.trans (Kp.same k3.tab sm)) nDH eD
theorem ok_is_guarded (T : Txt K mg) (TB : GxR.TabB base mg T.c_are_signs T.t_are_signs) : FnOk P w K mg base CX0 6 T.d_is_guarded.f T.d_is_guarded.fd ["sheet", "tape", "begin", "most"] (spIsGuarded K T.t_are_signs) := by
  refine T.d_is_guarded.F.ok sc_is_guarded (fun vs H Q E h => ?_) (fun cdv A outer s H vs Q E hr h => ?_)
  · obtain ⟨t, a, z, o, hm, cs, b, m, rfl, _⟩ := h
    rfl
  · obtain ⟨t, a, z, o, hm, cs, b, m, rfl, gd, sh, hS, hc, hl, hb, m0, m1, tb, q⟩ := h
    refine ⟨_, (pss_cons (ps_set (i := 4) sc_is_guarded.nd rfl (.inl rfl) (pe_call (ok_spoilt T TB) (hr.mono (by decide)) (by rfl) T.d_spoilt.g T.d_spoilt.F.kp T.d_spoilt.b .nil pass0 (pa_cons (pv 0) (pa_cons (pv 1) (pa_cons (pv 2) pa_nil)))))
  (pss_cons (ps_expr (pe_call (ok_check_count T) (hr.mono (by decide)) (by rfl) T.d_check_count.g T.d_check_count.F.kp T.d_check_count.b .nil pass0 (pa_cons (pv 3) (pa_cons (pe_glob (v := .int 32) (by rfl) T.c_MOST_SIGNS.choose_spec ⟨_, rfl⟩) pa_nil))))
  (pss_one (ps_ret (pe_callB (cr_all rfl) (by rfl) T.n_all (by decide +kernel) (pa_cons (pe_lc (own := [("_", 5), ("many", 6)]) (g := gTup K 2 (gCons (gName 5) (gCons (gName 6) gNil))) (tt := tYes) (te := _) rfl sc_is_guarded.nd (pi_list (pv 4)) (blkOk_by (own := [("_", 5), ("many", 6)]) (N := ["sheet", "tape", "begin", "most", "losses", "_", "many"]) (sc := defScope s_is_guarded) (by decide +kernel)) (by exact fun _ _ _ _ _ => pg_tup rfl (pgs_cons (pg_name (i := 5) sc_is_guarded.nd rfl (Or.inl rfl)) (pgs_cons (pg_name (i := 6) sc_is_guarded.nd rfl (Or.inl rfl)) pgs_nil))) (by exact fun _ _ _ _ _ => pts_nil) (by exact fun _ _ _ _ _ => (pe_cmpR op_le (pv 6) (pv 3) (nomark _)))) pa_nil)))))), ?_⟩
    refine ⟨.ref t, rfl, .ref a, rfl, .int b, rfl, t, a, z, o, hm, cs, b, rfl, gd, sh, hS, hc, hl, hb, tb, fun p as H1 k1 np ep prs nas => ?_⟩
    refine ⟨.int m, rfl, m, 32, rfl, m0, m1, ?_⟩
    refine ⟨.ref p, rfl, p, rfl, ⟨_, SqL.of ep⟩, fun D nD => ?_⟩
    have ll := losses_len z o hm cs b
    have al := prs.len
    refine lc_list (K := K) (a := p) (xs := as.map V.ref) (fun i H' => Same H1 H' ∧ i ≤ as.length ∧ H' D = some (.lst ((((losses z o hm cs b).take i).map fun p => decide (p.2 ≤ m)).map V.bl)))
      ⟨sameD (Same.refl _) nD, Nat.zero_le _, by rw [List.take_zero]; exact upd_same⟩ (fun i H' _ p => SqL.of (p.1 _ _ ep)) (fun i v H' hx p => ?_) (fun H' p => ?_)
    · obtain ⟨sm, hil, eD⟩ := p
      obtain ⟨u, hu, rfl⟩ := at_map hx
      obtain ⟨pr, hp, eu⟩ := prs.get hu
      have hul := (List.getElem?_eq_some_iff.mp hu).1
      refine ⟨u, _, rfl, SqT.of (sm _ _ eu), rfl, _, _, rfl, _, _, rfl, rfl, rfl, lc_yes ?_⟩
      refine ⟨.int pr.2, rfl, .int m, rfl, _, _, rfl, rfl, _, eD, ?_, sameD sm nD, hul, ?_⟩
      · rw [List.length_map, List.length_map, List.length_take]
        exact small1000 (by omega)
      · rw [upd_same, List.take_add_one, hp, List.map_append, List.map_append]; rfl
    · obtain ⟨sm, hil, eD⟩ := p
      rw [List.length_map, al, List.take_length] at eD
      refine ⟨D, _, rfl, SqL.of eD, ?_⟩
      have e : ((losses z o hm cs b).map fun p => decide (p.2 ≤ m)).all id = kept z o hm cs b m := by
        unfold kept
        rw [List.all_map]; rfl
      rw [e]
      exact q H' (k1.trans (Kp.same k1.tab sm))
end
end K06
namespace K06
open PySem PySem.Spec PyProof.Rows L2 Kt
section
variable {P : Program} {w : World} {K : PySem.W.Frag} {mg : Str → Option Value} {base : Heap}
def spLaw (K : PySem.W.Frag) (W : TWs) : Sp := fun vs H Q _ => ∃ (a : Addr) (ns : List Int), vs = [.ref a] ∧ SqL K H a (ns.map V.int) ∧ ns.length ≤ 63 ∧ Tb W H ∧ ∀ H', Q (.bl true) H'
/-- what stands through a turn -/
structure Stays (W : TWs) (b l t D L pl du lo : Addr) (z o : Str) (hm : V) (cs : List Int) (bg : Int) (x : Str) (as : List Addr) (H : Hp) : Prop where
  box : BoxAt H b l
  sh : Sh H t z o hm
  tb : Tb W H
  tape : H D = some (.lst (cs.map V.int))
  handed : H L = some (.lst (cs.map V.int))
  due : H du = some (.lst (as.map V.ref))
  prs : Prs H as (losses z o hm cs bg)
  lost : H lo = some (.lst (inZ (lostAt z o hm cs bg x)))
theorem Stays.kz {W : TWs} {b l t D L pl du lo : Addr} {z o : Str} {hm : V} {cs : List Int} {bg : Int} {x : Str} {as : List Addr} {H H' : Hp} (s : Stays W b l t D L pl du lo z o hm cs bg x as H) (k : Kz W H H') : Stays W b l t D L pl du lo z o hm cs bg x as H' :=
  ⟨s.box.kz k, k.sh s.sh, k.tb, k.lst s.tape, k.lst s.handed, k.lst s.due, s.prs.mono fun a xs e => k.tup e, k.lst s.lost⟩
set_option maxHeartbeats 1000000 in
theorem ok_law (T : Txt K mg) (TB : GxR.TabB base mg T.c_are_signs T.t_are_signs) : FnOk P w K mg base CX0 7 T.d_law.f T.d_law.fd ["_law_script"] (spLaw K (tws T)) := by
  refine T.d_law.F.ok sc_law (fun vs H Q E h => ?_) (fun cdv A outer s H vs Q E hr h => ?_)
  · obtain ⟨a, ns, rfl, _⟩ := h
    rfl
  · obtain ⟨a, ns, rfl, hS, hlen, tw, q⟩ := h
    refine ⟨_, (pss_cons (ps_set (i := 1) sc_law.nd rfl (.inl rfl) (pe_call (ok_l_begun T) (hr.mono (by decide)) (by rfl) T.d_l_begun.g T.d_l_begun.F.kp T.d_l_begun.b .nil pass0 (pa_cons (pv 0) pa_nil)))
  (pss_cons (ps_set (i := 2) sc_law.nd rfl (.inr rfl) (pe_call (ok_l_sheet T) (hr.mono (by decide)) (by rfl) T.d_l_sheet.g T.d_l_sheet.F.kp T.d_l_sheet.b .nil pass0 (pa_cons (pv 1) (pa_cons pe_int pa_nil))))
  (pss_cons (ps_set (i := 3) sc_law.nd rfl (.inr rfl) (pe_callB call_len_str (by rfl) T.n_len PySem.boot_len (pa_cons (pe_ix ix_tup (pv 2) pe_int (fun _ _ => rfl)) pa_nil)))
  (pss_cons (ps_for PassesOwn.never rfl (pi_range1 (by rfl) T.n_range (pa_cons pe_int pa_nil)) (pg_name (i := 4) sc_law.nd rfl (.inl rfl))
  (pss_cons (ps_set (i := 5) sc_law.nd rfl (.inr rfl) (pe_call (ok_l_tape T) (hr.mono (by decide)) (by rfl) T.d_l_tape.g T.d_l_tape.F.kp T.d_l_tape.b .nil pass0 (pa_cons (pv 1) (pa_cons (pv 2) (pa_cons (pe_ix ix_list (pe_lst (pa_cons pe_int (pa_cons pe_int (pa_cons pe_int pa_nil)))) (pe_call (ok_l_take T) (hr.mono (by decide)) (by rfl) T.d_l_take.g T.d_l_take.F.kp T.d_l_take.b .nil pass0 (pa_cons (pv 1) (pa_cons pe_int pa_nil))) (fun _ _ => rfl)) pa_nil)))))
  (pss_cons (ps_set (i := 6) sc_law.nd rfl (.inr rfl) (pe_call (ok_l_take T) (hr.mono (by decide)) (by rfl) T.d_l_take.g T.d_l_take.F.kp T.d_l_take.b .nil pass0 (pa_cons (pv 1) (pa_cons pe_int pa_nil))))
  (pss_cons (ps_set (i := 7) sc_law.nd rfl (.inr rfl) (pe_ix ix_tup (pe_call (ok_l_read T) (hr.mono (by decide)) (by rfl) T.d_l_read.g T.d_l_read.F.kp T.d_l_read.b .nil pass0 (pa_cons (pv 2) (pa_cons (pv 5) (pa_cons (pv 6) pa_nil)))) pe_int (fun _ _ => rfl)))
  (pss_cons (ps_set (i := 8) sc_law.nd rfl (.inr rfl) (pe_lc (own := [("_law_place", 19)]) (g := gName 19) (tt := (tTest (tOp _ (tOp (rIxL K) _ _) _))) (te := _) rfl sc_law.nd (pi_range1 (by rfl) T.n_range (pa_cons (pe_callB call_len_seq (by rfl) T.n_len PySem.boot_len (pa_cons (pv 5) pa_nil)) pa_nil)) (blkOk_by (own := [("_law_place", 19)]) (N := ["_law_script", "_law_box", "_law_sheet_here", "_law_n", "_law_turn", "_law_tape_here", "_law_begin", "_law_right", "_law_places", "_law_others", "_law_due", "_law_k", "_law_texts", "_law_text_here", "_law_lost", "_law_most", "_law_handed", "_law_again", "_law_found", "_law_place", "_law_at", "_law_row"]) (sc := defScope s_law) (by decide +kernel)) (by exact fun _ _ _ _ _ => pg_name (i := 19) sc_law.nd rfl (Or.inl rfl)) (by exact fun _ _ _ _ _ => (pts_one (pt_cmpR op_ge (pe_ix ix_list (pv 5) (pv 19) (fun _ _ => rfl)) (pv 3) (nomark _)))) (by exact fun _ _ _ _ _ => (pv 19))))
  (pss_cons (ps_set (i := 9) sc_law.nd rfl (.inr rfl) (pe_lc (own := [("_law_place", 19)]) (g := gName 19) (tt := tYes) (te := (tOp (rIxT K) (tCall _ [] E0 (tCons _ (tCons (tOp _ (tSl (rSlL K) _ tNoPart (tPart _)) (tSl (rSlL K) _ (tPart _) tNoPart)) (tCons _ tNil)))) _)) rfl sc_law.nd (pi_list (pv 8)) (blkOk_by (own := [("_law_place", 19)]) (N := ["_law_script", "_law_box", "_law_sheet_here", "_law_n", "_law_turn", "_law_tape_here", "_law_begin", "_law_right", "_law_places", "_law_others", "_law_due", "_law_k", "_law_texts", "_law_text_here", "_law_lost", "_law_most", "_law_handed", "_law_again", "_law_found", "_law_place", "_law_at", "_law_row"]) (sc := defScope s_law) (by decide +kernel)) (by exact fun _ _ _ _ _ => pg_name (i := 19) sc_law.nd rfl (Or.inl rfl)) (by exact fun _ _ _ _ _ => pts_nil) (by exact fun _ _ _ _ _ => (pe_ix ix_tup (pe_call (ok_l_read T) (hr.mono (by decide)) (by rfl) T.d_l_read.g T.d_l_read.F.kp T.d_l_read.b .nil pass0 (pa_cons (pv 2) (pa_cons (pe_op op_cat (pe_slice sl_list (pv 5) po_none (po_some (pv 19))) (pe_slice sl_list (pv 5) (po_some (pe_op op_add (pv 19) pe_int)) po_none)) (pa_cons (pv 6) pa_nil)))) pe_int (fun _ _ => rfl)))))
  (pss_cons (ps_set (i := 10) sc_law.nd rfl (.inl rfl) (pe_lst pa_nil))
  (pss_cons (ps_for PassesOwn.never rfl (pi_range1 (by rfl) T.n_range (pa_cons (pe_callB call_len_seq (by rfl) T.n_len PySem.boot_len (pa_cons (pv 8) pa_nil)) pa_nil)) (pg_name (i := 11) sc_law.nd rfl (.inr rfl))
  (pss_one (ps_expr (pe_bm PySem.F.plainAttrs_list PySem.F.slot_list_append PySem.F.type_list_append mt_append (pv 10) (pa_cons (pe_tup (pa_cons (pe_ix ix_list (pv 8) (pv 11) (fun _ _ => rfl)) (pa_cons (pe_callB call_len_seq (by rfl) T.n_len PySem.boot_len (pa_cons (pe_lc (own := [("_law_at", 20)]) (g := gName 20) (tt := (tTest (tOp _ _ (tOp _ (tOp (rIxL K) _ _) _)))) (te := _) rfl sc_law.nd (pi_range1 (by rfl) T.n_range (pa_cons (pe_callB call_len_str (by rfl) T.n_len PySem.boot_len (pa_cons (pv 7) pa_nil)) pa_nil)) (blkOk_by (own := [("_law_at", 20)]) (N := ["_law_script", "_law_box", "_law_sheet_here", "_law_n", "_law_turn", "_law_tape_here", "_law_begin", "_law_right", "_law_places", "_law_others", "_law_due", "_law_k", "_law_texts", "_law_text_here", "_law_lost", "_law_most", "_law_handed", "_law_again", "_law_found", "_law_place", "_law_at", "_law_row"]) (sc := defScope s_law) (by decide +kernel)) (by exact fun _ _ _ _ _ => pg_name (i := 20) sc_law.nd rfl (Or.inl rfl)) (by exact fun _ _ _ _ _ => (pts_one (pt_cmpR op_ne (pe_ix ix_str (pv 7) (pv 20) (fun _ _ => rfl)) (pe_ix ix_str (pe_ix ix_list (pv 9) (pv 11) (fun _ _ => rfl)) (pv 20) (fun _ _ => rfl)) (nomark _)))) (by exact fun _ _ _ _ _ => (pv 20))) pa_nil)) pa_nil))) pa_nil)))))
  (pss_cons (ps_set (i := 12) sc_law.nd rfl (.inl rfl) (pe_op op_cat (pv 9) (pe_lst (pa_cons (pv 7) (pa_cons (pe_slice sl_str (pv 7) (po_some pe_int) po_none) (pa_cons pe_str pa_nil))))))
  (pss_cons (ps_set (i := 13) sc_law.nd rfl (.inr rfl) (pe_ix ix_list (pv 12) (pe_call (ok_l_take T) (hr.mono (by decide)) (by rfl) T.d_l_take.g T.d_l_take.F.kp T.d_l_take.b .nil pass0 (pa_cons (pv 1) (pa_cons (pe_callB call_len_seq (by rfl) T.n_len PySem.boot_len (pa_cons (pv 12) pa_nil)) pa_nil))) (fun _ _ => rfl)))
  (pss_cons (ps_setLc (i := 14) (own := [("_law_k", 11)]) (g := gName 11) (tt := (tTest (tOp _ (tOp (rIxL K) _ _) _))) (te := (tOp (rIxL K) _ _)) rfl sc_law.nd rfl rfl (sw_true rfl rfl rfl (by decide +kernel)) (pi_range1 (by rfl) T.n_range (pa_cons (pe_callB call_len_seq (by rfl) T.n_len PySem.boot_len (pa_cons (pv 8) pa_nil)) pa_nil)) (blkOk_by (own := [("_law_k", 11)]) (N := ["_law_script", "_law_box", "_law_sheet_here", "_law_n", "_law_turn", "_law_tape_here", "_law_begin", "_law_right", "_law_places", "_law_others", "_law_due", "_law_k", "_law_texts", "_law_text_here", "_law_lost", "_law_most", "_law_handed", "_law_again", "_law_found", "_law_place", "_law_at", "_law_row"]) (sc := defScope s_law) (by decide +kernel)) (by exact fun _ _ _ _ _ => pg_name (i := 11) sc_law.nd rfl (Or.inl rfl)) (by exact fun _ _ _ _ _ => (pts_one (pt_cmpR op_eq (pe_ix ix_list (pv 9) (pv 11) (fun _ _ => rfl)) (pv 13) (nomark _)))) (by exact fun _ _ _ _ _ => (pe_ix ix_list (pv 8) (pv 11) (fun _ _ => rfl))))
  (pss_cons (ps_set (i := 15) sc_law.nd rfl (.inr rfl) (pe_call (ok_l_take T) (hr.mono (by decide)) (by rfl) T.d_l_take.g T.d_l_take.F.kp T.d_l_take.b .nil pass0 (pa_cons (pv 1) (pa_cons pe_int pa_nil))))
  (pss_cons (ps_set (i := 16) sc_law.nd rfl (.inl rfl) (pe_callTy call_list_of (by rfl) T.n_list (by decide +kernel) (pa_cons (pv 5) pa_nil)))
  (pss_one (ps_for PassesOwn.never rfl (pi_range1 (by rfl) T.n_range (pa_cons pe_int pa_nil)) (pg_name (i := 17) sc_law.nd rfl (.inl rfl))
  (pss_cons (ps_set (i := 18) sc_law.nd rfl (.inl rfl) (pe_lst (pa_cons (pe_call (ok_spoilt T TB) (hr.mono (by decide)) (by rfl) T.d_spoilt.g T.d_spoilt.F.kp T.d_spoilt.b .nil pass0 (pa_cons (pv 2) (pa_cons (pv 16) (pa_cons (pv 6) pa_nil)))) (pa_cons (pe_call (ok_lost_at T TB) (hr.mono (by decide)) (by rfl) T.d_lost_at.g T.d_lost_at.F.kp T.d_lost_at.b .nil pass0 (pa_cons (pv 2) (pa_cons (pv 16) (pa_cons (pv 6) (pa_cons (pv 13) pa_nil))))) pa_nil))))
  (pss_cons (ps_if (PW.pt (pw_or (pt_not (pt_val (pe_call (ok_l_alike T 3) (hr.mono (by decide)) (by rfl) T.d_l_alike.g T.d_l_alike.F.kp T.d_l_alike.b .nil pass0 (pa_cons (pv 18) (pa_cons (pe_lst (pa_cons (pv 10) (pa_cons (pv 14) pa_nil))) pa_nil))))) (pw_or1 (pt_cmpR (Kt.op_neI hr.units) (pv 16) (pv 5) (nomark _)))))
  (pss_one (ps_ret pe_bl))
  pss_nil)
  (pss_cons (ps_if (pt_not (pt_val (pe_call (ok_l_alike T 3) (hr.mono (by decide)) (by rfl) T.d_l_alike.g T.d_l_alike.F.kp T.d_l_alike.b .nil pass0 (pa_cons (pe_call (ok_is_guarded T TB) (hr.mono (by decide)) (by rfl) T.d_is_guarded.g T.d_is_guarded.F.kp T.d_is_guarded.b .nil pass0 (pa_cons (pv 2) (pa_cons (pv 16) (pa_cons (pv 6) (pa_cons (pv 15) pa_nil))))) (pa_cons (pe_cmpR (op_eqD hr.units) (pe_lc (own := [("_law_row", 21)]) (g := gName 21) (tt := (tTest (tOp _ (tOp (rIxT K) _ _) _))) (te := _) rfl sc_law.nd (pi_list (pv 10)) (blkOk_by (own := [("_law_row", 21)]) (N := ["_law_script", "_law_box", "_law_sheet_here", "_law_n", "_law_turn", "_law_tape_here", "_law_begin", "_law_right", "_law_places", "_law_others", "_law_due", "_law_k", "_law_texts", "_law_text_here", "_law_lost", "_law_most", "_law_handed", "_law_again", "_law_found", "_law_place", "_law_at", "_law_row"]) (sc := defScope s_law) (by decide +kernel)) (by exact fun _ _ _ _ _ => pg_name (i := 21) sc_law.nd rfl (Or.inl rfl)) (by exact fun _ _ _ _ _ => (pts_one (pt_cmpR op_gt (pe_ix ix_tup (pv 21) pe_int (fun _ _ => rfl)) (pv 15) (nomark _)))) (by exact fun _ _ _ _ _ => (pv 21))) (pe_lst pa_nil) (nomark _)) pa_nil)))))
  (pss_one (ps_ret pe_bl))
  pss_nil)
  (pss_cons (ps_expr (pe_bm PySem.F.plainAttrs_list PySem.F.slot_list_append PySem.F.type_list_append mt_append (pe_ix ix_list (pv 18) pe_int (fun _ _ => rfl)) (pa_cons (pe_tup pa_nil) pa_nil)))
  (pss_one (ps_expr (pe_bm PySem.F.plainAttrs_list PySem.F.slot_list_append PySem.F.type_list_append mt_append (pe_ix ix_list (pv 18) pe_int (fun _ _ => rfl)) (pa_cons pe_int pa_nil)))))))))))))))))))))))
  (pss_one (ps_ret pe_bl)))))), ?_⟩
    refine ⟨.ref a, rfl, a, ns, rfl, hS, hlen, fun b l H1 s1 bx1 nb nl => ?_⟩
    have tw1 := tw.same s1
    refine ⟨.ref b, rfl, b, l, 26, rfl, bx1, by decide, by decide, fun t z o hm H2 gd hz bd2 nt sh2 => ?_⟩
    have tw2 := bd2.tb bx1 tw1
    have big : z.length ≤ sizeLine := Nat.le_trans gd.le (by decide)
    refine ⟨.ref t, rfl, t, _, 0, _, rfl, rfl, SqT.of sh2, atI_nat (j := 0) rfl, z, rfl, big, ?_⟩
    refine ⟨3, rfl, by decide, by decide, for_range (lo := 0) (n := 3) (fun i σ H' => BoxAt H' b l ∧ Sh H' t z o hm ∧ Tb (tws T) H' ∧ ∃ y4 y5 y6 y7 y8 y9 y10 y11 y12 y13 y14 y15 y16 y17 y18 : Option V,
        σ = [some (.ref a), some (.ref b), some (.ref t), some (.int (z.length : Nat)), y4, y5, y6, y7, y8, y9, y10, y11, y12, y13, y14, y15, y16, y17, y18, none, none, none])
      ⟨bd2.box, sh2, tw2, _, _, _, _, _, _, _, _, _, _, _, _, _, _, _, rfl⟩ (fun i σ H' hi p => ?_) (fun σ H' p => ?_)⟩
    · obtain ⟨bx, sh, tb, y4, y5, y6, y7, y8, y9, y10, y11, y12, y13, y14, y15, y16, y17, y18, rfl⟩ := p
      -- the tape
      refine ⟨.ref b, rfl, .ref t, rfl, by show 3 ≤ sizeLine; decide, fun p np => ?_⟩
      have bd3 : Bxd b l H' (upd H' p (HO.lst [V.int 60, V.int 60, V.int 100])) := Bxd.same bx (same_new np)
      have npb : p ≠ b ∧ p ≠ l := by
        obtain ⟨ns, st, h1, h2⟩ := bx
        exact ⟨(ne_of_none h1 np).symm, (ne_of_none h2 np).symm⟩
      refine ⟨.ref b, rfl, b, l, 3, rfl, bd3.box, by decide, by decide, fun v H3 v0 v1 bd4 => ?_⟩
      obtain ⟨m, hm1, hm2⟩ : ∃ m : Nat, m ≤ 100 ∧ atI [V.int 60, V.int 60, V.int 100] v = some (.int m) := by
        rcases (show v = 0 ∨ v = 1 ∨ v = 2 by omega) with e | e | e <;> rw [e]
        · exact ⟨60, by decide, atI_nat (j := 0) rfl⟩
        · exact ⟨60, by decide, atI_nat (j := 1) rfl⟩
        · exact ⟨100, by decide, atI_nat (j := 2) rfl⟩
      have bd5 := bd3.trans bd4
      have sh3 : Sh H3 t z o hm := bd5.tup bx sh
      have tb3 := bd5.tb bx tb
      refine ⟨p, _, v, _, rfl, rfl, SqL.of (bd4.at' p _ npb.1 npb.2 upd_same), hm2, b, l, t, z, o, hm, m, rfl, bd5.box, gd, sh3, hm1, fun D cs H4 hl hc bd6 nD eD => ?_⟩
      have hl : cs.length ≤ 100 := Nat.le_trans hl hm1
      have sh4 : Sh H4 t z o hm := bd6.tup bd5.box sh3
      have tb4 := bd6.tb bd5.box tb3
      have nDb : D ≠ b ∧ D ≠ l := by
        obtain ⟨ns, st, h1, h2⟩ := bd5.box
        exact ⟨(ne_of_none h1 nD).symm, (ne_of_none h2 nD).symm⟩
      -- the set
      refine ⟨.ref b, rfl, b, l, 2, rfl, bd6.box, by decide, by decide, fun bg H5 g0 g1 bd7 => ?_⟩
      have hb : Is01 bg := by unfold Is01; omega
      have sh5 : Sh H5 t z o hm := bd7.tup bd6.box sh4
      have tb5 := bd7.tb bd6.box tb4
      have eD5 : H5 D = some (.lst (cs.map V.int)) := bd7.at' D _ nDb.1 nDb.2 eD
      -- right
      refine ⟨.ref t, rfl, .ref D, rfl, .int bg, rfl, t, D, z, o, hm, cs, bg, rfl, gd, sh5, SqL.of eD5, hc, by omega, hb, fun p6 H6 s6 n6 e6 => ?_⟩
      refine ⟨p6, _, 0, _, rfl, rfl, SqT.of e6, atI_nat (j := 0) rfl, ?_⟩
      have sh6 : Sh H6 t z o hm := s6 _ _ sh5
      have tb6 := tb5.same s6
      have bx6 := bd7.box.same s6
      have eD6 := s6 _ _ eD5
      -- places
      refine ⟨.ref D, rfl, D, _, rfl, .inl (SqL.of eD6), _, rfl, by omega, by rw [List.length_map]; omega, fun D7 n7 => ?_⟩
      refine lc_range (lo := 0) (n := (((cs.map V.int).length : Nat) : Int).toNat) (fun i H' => Same H6 H' ∧ i ≤ cs.length ∧ H' D7 = some (.lst (inZ (plcV z.cps.size cs i)))) ⟨sameD (Same.refl _) n7, Nat.zero_le _, upd_same⟩ (fun j H' hj p => ?_) (fun H7 p => ?_)
      · obtain ⟨sm, _, e7⟩ := p
        have hj : j < cs.length := by rw [List.length_map] at hj; omega
        have hx : (cs.map V.int)[j]? = some (.int cs[j]) := map_at (List.getElem?_eq_getElem hj)
        have eg : cs.getD j 0 = cs[j] := by simp [List.getD_eq_getElem?_getD, hj]
        refine ⟨rfl, ?_⟩
        refine ⟨.ref D, rfl, .int (0 + (j : Int)), rfl, D, _, _, _, rfl, rfl, SqL.of (sm _ _ eD6), at_of (by omega) hx, .int (z.length : Nat), rfl, _, _, rfl, rfl, _, rfl, ?_⟩
        have st := plcV_succ z.cps.size cs j
        rw [eg] at st
        by_cases h : (z.cps.size : Int) ≤ cs[j]
        · rw [if_pos h] at st
          refine iteTd h ⟨.int (0 + (j : Int)), rfl, _, e7, ?_, sameD sm n7, hj, ?_⟩
          · unfold inZ; rw [List.length_map]; exact small1000 (Nat.le_trans (plcV_le _ _ _) (by omega))
          · rw [upd_same, st]; unfold inZ; rw [List.map_append, Int.zero_add]; rfl
        · rw [if_neg h, List.append_nil] at st
          refine iteFd h ⟨sm, hj, ?_⟩
          rw [e7, st]
      · obtain ⟨s7, _, e7⟩ := p
        have e7 : H7 D7 = some (.lst (inZ (plc z.cps.size cs))) := by
          rw [e7, List.length_map, Int.toNat_natCast]; rfl
        have sh7 : Sh H7 t z o hm := s7 _ _ sh6
        have tb7 := tb6.same s7
        have bx7 := bx6.same s7
        have eD7 := s7 _ _ eD6
        have pll : (plc z.cps.size cs).length ≤ cs.length := plcV_le z.cps.size cs cs.length
        have zl : (inZ (plc z.cps.size cs)).length = (plc z.cps.size cs).length := by unfold inZ; rw [List.length_map]
        -- the others
        refine ⟨.ref D7, rfl, D7, rfl, ⟨_, SqL.of e7⟩, fun D8 n8 => ?_⟩
        refine lc_list (K := K) (a := D7) (xs := inZ (plc z.cps.size cs)) (fun i H' => Same H7 H' ∧ i ≤ (plc z.cps.size cs).length ∧ H' D8 = some (.lst ((((plc z.cps.size cs).take i).map (wo z o hm cs bg)).map V.str)))
          ⟨sameD (Same.refl _) n8, Nat.zero_le _, by rw [List.take_zero]; exact upd_same⟩ (fun i H' _ p => SqL.of (p.1 _ _ e7)) (fun i x H' hx p => ?_) (fun H8 p => ?_)
        · obtain ⟨sm, _, e8⟩ := p
          obtain ⟨k, hk, rfl⟩ := at_map hx
          have hin : k ∈ plc z.cps.size cs := List.mem_of_getElem? hk
          have hkl := (List.getElem?_eq_some_iff.mp hk).1
          refine ⟨rfl, lc_yes ?_⟩
          refine ⟨.ref t, rfl, cut_read (K := K) rfl rfl (SqL.of (sm _ _ eD7)) (plc_lt hin).1 (by omega) fun p3 H9 s9 n9 e9 => ?_⟩
          refine ⟨.int bg, rfl, t, p3, z, o, hm, cutAt cs k, bg, rfl, gd, s9 _ _ (sm _ _ sh7), SqL.of e9, cutAt_codes hc k, Nat.le_trans (cutAt_len cs k) (by omega), hb, fun p4 H10 s10 n10 e10 => ?_⟩
          refine ⟨p4, _, 0, _, rfl, rfl, SqT.of e10, atI_nat (j := 0) rfl, _, s10 _ _ (s9 _ _ e8), ?_, sameD ((sm.trans s9).trans s10) n8, hkl, ?_⟩
          · rw [List.length_map, List.length_map, List.length_take]; exact small1000 (by omega)
          · rw [upd_same, List.take_add_one, hk, List.map_append, List.map_append]; rfl
        · obtain ⟨s8, _, e8⟩ := p
          rw [zl, List.take_length] at e8
          have sh8 : Sh H8 t z o hm := s8 _ _ sh7
          have tb8 := tb7.same s8
          have bx8 := bx7.same s8
          have eD8 := s8 _ _ eD7
          have e78 := s8 _ _ e7
          have szR : (rd z o hm cs bg).1.cps.size ≤ 100 := by
            rw [rd_size]; exact Nat.le_trans (List.length_filter_le _ _) hl
          have bigR : (rd z o hm cs bg).1.length ≤ sizeLine := Nat.le_trans szR (by decide)
          -- due
          refine ⟨Nat.zero_le _, fun D9 n9 => ?_⟩
          have s9 := same_new (o := HO.lst []) n9
          refine ⟨.ref D7, rfl, D7, _, rfl, .inl (SqL.of (s9 _ _ e78)), _, rfl, by omega, by rw [zl]; omega, for_range (lo := 0) (n := (((inZ (plc z.cps.size cs)).length : Nat) : Int).toNat) (fun j σ H' => Same H8 H' ∧ ∃ (as : List Addr) (y11 : Option V), as.length = j ∧ j ≤ (plc z.cps.size cs).length ∧ H' D9 = some (.lst (as.map V.ref)) ∧ Prs H' as (((plc z.cps.size cs).take j).map (lossOf z o hm cs bg)) ∧
              σ = [some (.ref a), some (.ref b), some (.ref t), some (.int (z.length : Nat)), some (.int (0 + (i : Int))), some (.ref D), some (.int bg), some (.str (rd z o hm cs bg).1), some (.ref D7), some (.ref D8), some (.ref D9), y11, y12, y13, y14, y15, y16, y17, y18, none, none, none])
            ⟨s9, [], _, rfl, Nat.zero_le _, upd_same, by rw [List.take_zero]; exact True.intro, rfl⟩ (fun j σ H' hj p => ?_) (fun σ H9 p => ?_)⟩
          · obtain ⟨sm, as, y11, hal, _, e9, prs, rfl⟩ := p
            have hj : j < (plc z.cps.size cs).length := by omega
            obtain ⟨k, hk⟩ : ∃ k, (plc z.cps.size cs)[j]? = some k := ⟨_, List.getElem?_eq_getElem hj⟩
            have hin : k ∈ plc z.cps.size cs := List.mem_of_getElem? hk
            have szW := wo_size (z := z) (o := o) (hm := hm) (b := bg) hin
            have bigW : (wo z o hm cs bg k).length ≤ sizeLine := by show (wo z o hm cs bg k).cps.size ≤ _; rw [szW]; exact bigR
            have h8k : (((plc z.cps.size cs).map (wo z o hm cs bg)).map V.str)[j]? = some (.str (wo z o hm cs bg k)) := map_at (map_at hk)
            refine ⟨.ref D9, rfl, .inl ⟨rfl, _, SqL.of e9⟩, .ref D7, rfl, .int (0 + (j : Int)), rfl, D7, _, _, _, rfl, rfl, SqL.of (sm _ _ e78), at_of (by omega) (inZ_at hk), ?_⟩
            refine ⟨.str (rd z o hm cs bg).1, rfl, _, rfl, bigR, _, rfl, by omega, by show (((rd z o hm cs bg).1.cps.size : Nat) : Int) < _; omega, fun D10 n10 => ?_⟩
            refine lc_range (lo := 0) (n := (((rd z o hm cs bg).1.length : Nat) : Int).toNat) (fun e H2 => Same H' H2 ∧ e ≤ (rd z o hm cs bg).1.cps.size ∧ H2 D10 = some (.lst (inZ (unl (rd z o hm cs bg).1 (wo z o hm cs bg k) e)))) ⟨sameD (Same.refl _) n10, Nat.zero_le _, upd_same⟩ (fun e H2 he p => ?_) (fun H2 p => ?_)
            · obtain ⟨sm2, _, e10⟩ := p
              have he : e < (rd z o hm cs bg).1.cps.size := he
              refine ⟨rfl, ?_⟩
              refine ⟨.str (rd z o hm cs bg).1, rfl, .int (0 + (e : Int)), rfl, _, _, _, rfl, rfl, bigR, atI_0 (by rw [Array.length_toList]; exact he), .ref D8, rfl, .int (0 + (j : Int)), rfl, D8, _, _, _, rfl, rfl, SqL.of (sm2 _ _ (sm _ _ e8)), at_of (by omega) h8k, .int (0 + (e : Int)), rfl, _, _, _, rfl, rfl, bigW, atI_0 (by rw [Array.length_toList, szW]; exact he), rfl, _, rfl, ?_⟩
              have st := unl_succ (rd z o hm cs bg).1 (wo z o hm cs bg k) e
              have ll : (inZ (unl (rd z o hm cs bg).1 (wo z o hm cs bg k) e)).length < sizeLine := by
                unfold inZ; rw [List.length_map, unl_len]; exact small1000 (Nat.le_trans (unlikeV_le _ _ _) (by omega))
              by_cases h : (rd z o hm cs bg).1.cps.toList.getD e 0 = (wo z o hm cs bg k).cps.toList.getD e 0
              · rw [if_neg (fun q => q h), List.append_nil] at st
                refine iteNS (by rw [h]) ⟨sm2, he, ?_⟩
                rw [e10, st]
              · rw [if_pos h] at st
                rw [show decide (V.str ⟨#[(rd z o hm cs bg).1.cps.toList.getD e 0]⟩ = V.str ⟨#[(wo z o hm cs bg k).cps.toList.getD e 0]⟩) = false from decide_eq_false fun q => h (sg_inj (V.str.inj q))]
                refine iteT ⟨.int (0 + (e : Int)), rfl, _, e10, ll, sameD sm2 n10, he, ?_⟩
                rw [upd_same, st]; unfold inZ; rw [List.map_append, Int.zero_add]; rfl
            · obtain ⟨sm2, _, e10⟩ := p
              refine ⟨D10, _, rfl, .inl (SqL.of e10), by show 2 ≤ sizeLine; decide, fun u nu => ?_⟩
              have sm3 := sm2.trans (same_new (o := HO.tup [V.int ((k : Nat) : Int), V.int ((inZ (unl (rd z o hm cs bg).1 (wo z o hm cs bg k) (((rd z o hm cs bg).1.length : Nat) : Int).toNat)).length : Nat)]) nu)
              have e93 := sm3 _ _ e9
              have nuD : u ≠ D9 := fun e => by rw [e, sm2 _ _ e9] at nu; cases nu
              refine ⟨D9, _, _, rfl, rfl, e93, by rw [List.length_map, hal]; exact small1000 (by omega), sameD (sm.trans sm3) n9, as ++ [u], _, by rw [List.length_append, hal]; rfl, hj, by rw [upd_same, List.map_append]; rfl, ?_, rfl⟩
              rw [List.take_add_one, hk, List.map_append]
              refine Prs.app (prs.mono fun c xs e => ?_) ⟨?_, True.intro⟩
              · rw [upd_ne (ne_of (sm3 _ _ e) e93 fun e => nomatch e)]; exact sm3 _ _ e
              · rw [upd_ne nuD, upd_same]
                unfold inZ
                rw [List.length_map, unl_len]; rfl
          · obtain ⟨sm9, as, y11, hal, _, e9, prs, rfl⟩ := p
            rw [Int.toNat_natCast, zl, List.take_length] at prs
            have sh9 : Sh H9 t z o hm := sm9 _ _ sh8
            have tb9 := tb8.same sm9
            have bx9 := bx8.same sm9
            -- the texts
            refine ⟨.ref D8, rfl, .str (rd z o hm cs bg).1, rfl, .str (rd z o hm cs bg).1, rfl, 1, rfl, (rd z o hm cs bg).1, rfl, bigR, by show 3 ≤ sizeLine; decide, fun p11 n11 => ?_⟩
            refine ⟨D8, p11, _, _, rfl, rfl, same_new n11 _ _ (sm9 _ _ e8), upd_same, ?_, fun D12 n12 => ?_⟩
            · rw [List.length_map, List.length_map]
              exact Nat.le_of_lt (small1000 (show (plc z.cps.size cs).length + 3 ≤ 1000 by omega))
            have eT : ∀ (us : List V), us = ((plc z.cps.size cs).map (wo z o hm cs bg)).map V.str ++ [V.str (rd z o hm cs bg).1, V.str (cutS (rd z o hm cs bg).1 (some 1) none), V.str (Str.ofString "")] → ∃ xs : List Str, us = xs.map V.str ∧ 1 ≤ xs.length ∧ xs.length ≤ 1000 := fun us e =>
              ⟨(plc z.cps.size cs).map (wo z o hm cs bg) ++ [(rd z o hm cs bg).1, cutS (rd z o hm cs bg).1 (some 1) none, Str.ofString ""], by rw [e, List.map_append]; rfl, by simp, by simp; omega⟩
            obtain ⟨xs, ex, xl, xu⟩ := eT _ rfl
            have s12 := (same_new (o := HO.lst [V.str (rd z o hm cs bg).1, V.str (cutS (rd z o hm cs bg).1 (some 1) none), V.str (Str.ofString "")]) n11).trans (same_new (o := HO.lst (((plc z.cps.size cs).map (wo z o hm cs bg)).map V.str ++ [V.str (rd z o hm cs bg).1, V.str (cutS (rd z o hm cs bg).1 (some 1) none), V.str (Str.ofString "")])) n12)
            have e12 : L2.upd (L2.upd H9 p11 (HO.lst [V.str (rd z o hm cs bg).1, V.str (cutS (rd z o hm cs bg).1 (some 1) none), V.str (Str.ofString "")])) D12 (HO.lst (((plc z.cps.size cs).map (wo z o hm cs bg)).map V.str ++ [V.str (rd z o hm cs bg).1, V.str (cutS (rd z o hm cs bg).1 (some 1) none), V.str (Str.ofString "")])) D12 = some (HO.lst (xs.map V.str)) := by
              rw [upd_same, ← ex]
            have nn12 : ∀ c, L2.upd (L2.upd H9 p11 (HO.lst [V.str (rd z o hm cs bg).1, V.str (cutS (rd z o hm cs bg).1 (some 1) none), V.str (Str.ofString "")])) D12 (HO.lst (((plc z.cps.size cs).map (wo z o hm cs bg)).map V.str ++ [V.str (rd z o hm cs bg).1, V.str (cutS (rd z o hm cs bg).1 (some 1) none), V.str (Str.ofString "")])) c = none → H9 c = none := fun c h => s12.free h
            have n12' : H9 D12 = none := (same_new n11).free n12
            generalize L2.upd (L2.upd H9 p11 (HO.lst [V.str (rd z o hm cs bg).1, V.str (cutS (rd z o hm cs bg).1 (some 1) none), V.str (Str.ofString "")])) D12 (HO.lst (((plc z.cps.size cs).map (wo z o hm cs bg)).map V.str ++ [V.str (rd z o hm cs bg).1, V.str (cutS (rd z o hm cs bg).1 (some 1) none), V.str (Str.ofString "")])) = H12 at s12 e12 nn12
            have bx12 := bx9.same s12
            refine ⟨.ref D12, rfl, .ref b, rfl, .ref D12, rfl, D12, _, rfl, .inl (SqL.of e12), b, l, _, rfl, bx12, by rw [List.length_map]; omega, Nat.lt_of_le_of_lt (show (((xs.map V.str).length : Nat) : Int).natAbs ≤ 1000 by rw [List.length_map]; omega) (by decide), fun v2 H13 w0 w1 bd13 => ?_⟩
            have f12 := bx9.fresh n12'
            have e13 : H13 D12 = some (.lst (xs.map V.str)) := bd13.at' D12 _ f12.1 f12.2 e12
            obtain ⟨x, hx⟩ : ∃ x, atI (xs.map V.str) v2 = some (.str x) := by
              obtain ⟨kk, rfl⟩ := Int.eq_ofNat_of_zero_le w0
              have hkk : kk < xs.length := by rw [List.length_map] at w1; omega
              exact ⟨xs[kk], atI_nat (map_at (List.getElem?_eq_getElem hkk))⟩
            refine ⟨D12, _, v2, _, rfl, rfl, SqL.of e13, hx, ?_⟩
            have f7 := bx6.fresh n7
            have f8 := bx7.fresh n8
            have f9 := bx8.fresh n9
            have go : ∀ c o, c ≠ b → c ≠ l → H9 c = some o → H13 c = some o := fun c o h1 h2 e => bd13.at' c o h1 h2 (s12 _ _ e)
            have eD13 := go D _ nDb.1 nDb.2 (sm9 _ _ eD8)
            have e713 := go D7 _ f7.1 f7.2 (sm9 _ _ e78)
            have e813 := go D8 _ f8.1 f8.2 (sm9 _ _ e8)
            have e913 := go D9 _ f9.1 f9.2 e9
            have prs13 : Prs H13 as (losses z o hm cs bg) := prs.mono fun c us e => bd13.tup bx12 (s12 _ _ e)
            have sh13 : Sh H13 t z o hm := bd13.tup bx12 (s12 _ _ sh9)
            have tb13 := bd13.tb bx12 (tb9.same s12)
            -- lost
            refine ⟨.ref D7, rfl, D7, _, rfl, .inl (SqL.of e713), _, rfl, by omega, by rw [zl]; omega, fun D14 n14 => ?_⟩
            refine lc_range (lo := 0) (n := (((inZ (plc z.cps.size cs)).length : Nat) : Int).toNat) (fun j H' => Same H13 H' ∧ j ≤ (plc z.cps.size cs).length ∧ H' D14 = some (.lst (inZ (((plc z.cps.size cs).take j).filter fun i => decide (wo z o hm cs bg i = x)))))
              ⟨sameD (Same.refl _) n14, Nat.zero_le _, by rw [List.take_zero]; exact upd_same⟩ (fun j H' hj p => ?_) (fun H14 p => ?_)
            · obtain ⟨sm, _, e14⟩ := p
              have hj : j < (plc z.cps.size cs).length := by omega
              obtain ⟨k, hk⟩ : ∃ k, (plc z.cps.size cs)[j]? = some k := ⟨_, List.getElem?_eq_getElem hj⟩
              have h8k : (((plc z.cps.size cs).map (wo z o hm cs bg)).map V.str)[j]? = some (.str (wo z o hm cs bg k)) := map_at (map_at hk)
              refine ⟨rfl, ?_⟩
              refine ⟨.ref D8, rfl, .int (0 + (j : Int)), rfl, D8, _, _, _, rfl, rfl, SqL.of (sm _ _ e813), at_of (by omega) h8k, .str x, rfl, rfl, _, rfl, ?_⟩
              have st := filt_succ (fun i => decide (wo z o hm cs bg i = x)) hk
              by_cases e : wo z o hm cs bg k = x
              · rw [if_pos (decide_eq_true e)] at st
                rw [show decide (V.str (wo z o hm cs bg k) = V.str x) = true from decide_eq_true (congrArg V.str e)]
                refine iteT ⟨.ref D7, rfl, .int (0 + (j : Int)), rfl, D7, _, _, _, rfl, rfl, SqL.of (sm _ _ e713), at_of (by omega) (inZ_at hk), _, e14, ?_, sameD sm n14, hj, ?_⟩
                · unfold inZ; rw [List.length_map]
                  refine small1000 (Nat.le_trans (List.length_filter_le _ _) ?_)
                  rw [List.length_take]; omega
                · rw [upd_same, st]; unfold inZ; rw [List.map_append]; rfl
              · rw [if_neg (by simpa using e), List.append_nil] at st
                rw [show decide (V.str (wo z o hm cs bg k) = V.str x) = false from decide_eq_false fun h => e (V.str.inj h)]
                refine iteF ⟨sm, hj, ?_⟩
                rw [e14, st]
            · obtain ⟨s14, _, e14⟩ := p
              rw [Int.toNat_natCast, zl, List.take_length] at e14
              have bx14 := bd13.box.same s14
              -- most
              refine ⟨.ref b, rfl, b, l, 33, rfl, bx14, by decide, by decide, fun mo H15 m0 m1 bd15 => ?_⟩
              have f14 := bd13.box.fresh n14
              have e14' : H15 D14 = some (.lst (inZ (lostAt z o hm cs bg x))) := bd15.at' D14 _ f14.1 f14.2 e14
              have eD15 := bd15.at' D _ nDb.1 nDb.2 (s14 _ _ eD13)
              have e915 := bd15.at' D9 _ f9.1 f9.2 (s14 _ _ e913)
              have prs15 : Prs H15 as (losses z o hm cs bg) := prs13.mono fun c us e => bd15.tup bx14 (s14 _ _ e)
              have sh15 : Sh H15 t z o hm := bd15.tup bx14 (s14 _ _ sh13)
              have tb15 := bd15.tb bx14 (tb13.same s14)
              -- handed
              refine ⟨.ref D, rfl, D, _, rfl, .inl (SqL.of eD15), fun L nL => ?_⟩
              have s16 := same_new (o := HO.lst (cs.map V.int)) nL
              have st16 : Stays (tws T) b l t D L D7 D9 D14 z o hm cs bg x as (L2.upd H15 L (HO.lst (cs.map V.int))) :=
                ⟨bd15.box.same s16, s16 _ _ sh15, tb15.same s16, s16 _ _ eD15, upd_same, s16 _ _ e915, prs15.mono fun c us e => s16 _ _ e, s16 _ _ e14'⟩
              have lsl := losses_len z o hm cs bg
              have losl : (lostAt z o hm cs bg x).length ≤ 100 := Nat.le_trans (List.length_filter_le _ _) (by omega)
              refine ⟨2, rfl, by decide, by decide, for_range (lo := 0) (n := 2) (fun j σ H' => Stays (tws T) b l t D L D7 D9 D14 z o hm cs bg x as H' ∧ ∃ y17 y18 : Option V,
                σ = [some (.ref a), some (.ref b), some (.ref t), some (.int (z.length : Nat)), some (.int (0 + (i : Int))), some (.ref D), some (.int bg), some (.str (rd z o hm cs bg).1), some (.ref D7), some (.ref D8), some (.ref D9), y11, some (.ref D12), some (.str x), some (.ref D14), some (.int mo), some (.ref L), y17, y18, none, none, none])
                ⟨st16, _, _, rfl⟩ (fun j σ H' hj p => ?_) (fun σ H' p => ?_)⟩
              · obtain ⟨st, y17, y18, rfl⟩ := p
                refine ⟨.ref t, rfl, .ref L, rfl, .int bg, rfl, t, L, z, o, hm, cs, bg, rfl, gd, st.sh, SqL.of st.handed, hc, hl, hb, tb1 st.tb, fun q1 as1 H17 k17 nq1 eq1 prs1 _ => ?_⟩
                have k17 := kz1 st.tb k17
                have st17 := st.kz k17
                refine ⟨.ref t, rfl, .ref L, rfl, .int bg, rfl, .str x, rfl, t, L, z, o, hm, cs, bg, x, rfl, gd, st17.sh, SqL.of st17.handed, hc, hl, hb, tb1 st17.tb, fun q2 H18 k18 nq2 eq2 => ?_⟩
                have k18 := kz1 st17.tb k18
                refine ⟨by show 2 ≤ sizeLine; decide, fun F nF => ?_⟩
                have k19 := (k17.trans k18).trans (Kz.same k18.tb (same_new (o := HO.lst [V.ref q1, V.ref q2]) nF))
                have sF := same_new (o := HO.lst [V.ref q1, V.ref q2]) nF
                have eF : L2.upd H18 F (HO.lst [V.ref q1, V.ref q2]) F = some (HO.lst [V.ref q1, V.ref q2]) := upd_same
                have eq1' := sF _ _ (k18.lst eq1)
                have prs1' : Prs (L2.upd H18 F (HO.lst [V.ref q1, V.ref q2])) as1 (losses z o hm cs bg) := prs1.mono fun c us e => sF _ _ (k18.tup e)
                have eq2' := sF _ _ eq2
                have nq2' := k17.nn _ nq2
                have n12 : q1 ≠ q2 := fun e => by rw [← e, eq1] at nq2; cases nq2
                generalize L2.upd H18 F (HO.lst [V.ref q1, V.ref q2]) = H19 at k19 eF eq1' prs1' eq2'
                have st19 := st.kz k19
                refine ⟨.ref F, rfl, .ref D9, rfl, .ref D14, rfl, by show 2 ≤ sizeLine; decide, fun G nG => ?_⟩
                have sG := same_new (o := HO.lst [V.ref D9, V.ref D14]) nG
                have k20 := k19.trans (Kz.same k19.tb sG)
                have st20 := st.kz k20
                refine ⟨_, _, rfl, .lst (sG _ _ eF) upd_same rfl (by show 2 ≤ 1000; decide) (fun (jj : Nat) v v' e1 e2 => ?_), true, rfl, iteF ?_⟩
                · match jj, e1, e2 with
                  | 0, e1, e2 =>
                    cases e1; cases e2
                    exact Prs.al (sG _ _ eq1') st20.due (prs1'.mono fun c us e => sG _ _ e) st20.prs (by omega)
                  | 1, e1, e2 =>
                    cases e1; cases e2
                    exact inZ_al (sG _ _ eq2') st20.lost (by omega)
                  | jj + 2, e1, e2 => simp at e1
                · refine ⟨.ref L, rfl, .ref D, rfl, L, D, cs, cs, rfl, rfl, SqL.of st20.handed, SqL.of st20.tape, _, rfl, ?_⟩
                  rw [decide_eq_true rfl]
                  refine iteF ?_
                  refine ⟨.ref t, rfl, .ref L, rfl, .int bg, rfl, .int mo, rfl, t, L, z, o, hm, cs, bg, mo, rfl, gd, st20.sh, SqL.of st20.handed, hc, hl, hb, m0, by omega, tb1 st20.tb, fun H21 k21 => ?_⟩
                  have k21' := kz1 st20.tb k21
                  have st21 := st20.kz k21'
                  have pl := st21.prs.len
                  refine ⟨.ref D9, rfl, D9, rfl, ⟨_, SqL.of st21.due⟩, fun D22 n22 => ?_⟩
                  refine lc_list (K := K) (a := D9) (xs := as.map V.ref) (fun i H' => Same H21 H' ∧ i ≤ as.length ∧ ∃ bs : List Addr, H' D22 = some (.lst (bs.map V.ref)) ∧ Prs H' bs (((losses z o hm cs bg).take i).filter fun p => decide (mo < p.2)))
                    ⟨sameD (Same.refl _) n22, Nat.zero_le _, [], upd_same, by rw [List.take_zero]; exact True.intro⟩ (fun i H' _ p => SqL.of (p.1 _ _ st21.due)) (fun i v H' hx p => ?_) (fun H22 p => ?_)
                  · obtain ⟨sm, _, bs, e22, pb⟩ := p
                    obtain ⟨u, hu, rfl⟩ := at_map hx
                    obtain ⟨pr, hp, eu⟩ := st21.prs.get hu
                    have hul := (List.getElem?_eq_some_iff.mp hu).1
                    have bl := pb.len
                    have fl : (((losses z o hm cs bg).take i).filter fun p => decide (mo < p.2)).length ≤ 100 := Nat.le_trans (List.length_filter_le _ _) (by rw [List.length_take]; omega)
                    refine ⟨rfl, ?_⟩
                    refine ⟨.ref u, rfl, u, _, 1, _, rfl, rfl, SqT.of (sm _ _ eu), atI_nat (j := 1) rfl, .int mo, rfl, pr.2, mo, rfl, rfl, _, rfl, ?_⟩
                    have st := filt_succ (fun p : Int × Int => decide (mo < p.2)) hp
                    by_cases h : mo < pr.2
                    · rw [if_pos (decide_eq_true h)] at st
                      refine iteTd h ⟨.ref u, rfl, _, e22, by rw [List.length_map]; exact small1000 (by omega), sameD sm n22, hul, bs ++ [u], by rw [upd_same, List.map_append]; rfl, ?_⟩
                      rw [st]
                      refine Prs.app (pb.mono fun c us e => ?_) ⟨?_, True.intro⟩
                      · rw [upd_ne (ne_of e e22 fun e => nomatch e)]; exact e
                      · have e := sm _ _ eu
                        rw [upd_ne (ne_of e e22 fun e => nomatch e)]; exact e
                    · rw [if_neg (by simpa using h), List.append_nil] at st
                      refine iteFd h ⟨sm, hul, bs, e22, ?_⟩
                      rw [st]; exact pb
                  · obtain ⟨sm, _, bs, e22, pb⟩ := p
                    rw [List.length_map, pl, List.take_length] at pb
                    refine ⟨Nat.zero_le _, fun D23 n23 => ?_⟩
                    have s23 := same_new (o := HO.lst []) n23
                    refine ⟨_, .list [], .lst (SqL.of (s23 _ _ e22)) (pb.mono fun c us e => s23 _ _ e).dp, .lst (SqL.of upd_same) .nil, shaped_prs _, by decide +kernel, ?_⟩
                    rw [eqv_none]
                    have ek : ((losses z o hm cs bg).filter fun p => decide (mo < p.2)).isEmpty = kept z o hm cs bg mo := by
                      unfold kept
                      rw [Bool.eq_iff_iff, List.isEmpty_iff, List.filter_eq_nil_iff, List.all_eq_true]
                      constructor
                      · intro h p hp
                        have := h p hp
                        simp at this
                        exact decide_eq_true this
                      · intro h p hp
                        have := of_decide_eq_true (h p hp)
                        simp; exact this
                    rw [ek]
                    refine ⟨_, _, rfl, .bl _ _, true, rfl, iteF ?_⟩
                    have k23 := ((k20.trans k21').trans (Kz.same k21'.tb sm)).trans (Kz.same (k21'.tb.same sm) s23)
                    have q23 : ∀ c us, H19 c = some (.lst us) → L2.upd H22 D23 (HO.lst []) c = some (.lst us) := fun c us e => s23 _ _ (sm _ _ (k21'.lst (sG _ _ e)))
                    -- what was told is changed
                    refine ⟨.ref F, rfl, F, _, 0, _, rfl, rfl, SqL.of (q23 _ _ eF), atI_nat (j := 0) rfl, .inl ⟨rfl, _, SqL.of (q23 _ _ eq1')⟩, ?_⟩
                    refine ⟨Nat.zero_le _, fun u nu => ?_⟩
                    have sU := same_new (o := HO.tup []) nu
                    have al1 := prs1'.len
                    refine ⟨q1, _, _, rfl, rfl, sU _ _ (q23 _ _ eq1'), by rw [List.length_map]; exact small1000 (by omega), ?_⟩
                    have k24 := (k23.trans (Kz.same k23.tb sU)).upd (ys := as1.map V.ref ++ [V.ref u]) nq1 (sU _ _ (q23 _ _ eq1'))
                    have ne1 : F ≠ q1 := fun e => by
                      have := q23 _ _ eF
                      rw [e, q23 _ _ eq1'] at this
                      rw [e] at nF
                      rw [k18.lst eq1] at nF
                      cases nF
                    have q24 : ∀ c us, c ≠ q1 → H19 c = some (.lst us) → L2.upd (L2.upd (L2.upd H22 D23 (HO.lst [])) u (HO.tup [])) q1 (HO.lst (as1.map V.ref ++ [V.ref u])) c = some (.lst us) := fun c us h e => by
                      rw [upd_ne h]; exact sU _ _ (q23 _ _ e)
                    refine ⟨.ref F, rfl, F, _, 1, _, rfl, rfl, SqL.of (q24 _ _ ne1 eF), atI_nat (j := 1) rfl, .inl ⟨rfl, _, SqL.of (q24 _ _ n12.symm eq2')⟩, q2, _, _, rfl, rfl, q24 _ _ n12.symm eq2', ?_, st.kz (k24.upd nq2' (q24 _ _ n12.symm eq2')), _, _, rfl⟩
                    unfold inZ
                    rw [List.length_map]; exact small1000 (by omega)
              · obtain ⟨st, y17, y18, rfl⟩ := p
                exact ⟨st.box, st.sh, st.tb, _, _, _, _, _, _, _, _, _, _, _, _, _, _, _, rfl⟩
    · obtain ⟨bx, sh, tb, y4, y5, y6, y7, y8, y9, y10, y11, y12, y13, y14, y15, y16, y17, y18, rfl⟩ := p
      exact q H'
theorem all_ok {h : Heap} {fa : Addr} (hmg : mg "law" = some (.ref fa)) (T : Txt K mg) (hT : PySem.W.CodeHd h T.c_are_signs T.t_are_signs ∧ h.get? T.t_are_signs = some (PySem.W.tabObj #[])) (nT : K.lookup T.t_are_signs = none)
    (hb : ∀ (s : Shared) (u : Value), BindsTo s T.d_law.fd ⟨[u], []⟩ [("_law_script", u)]) :
    LamX.LawAtS PySem.Challenge.rw_shifttape_k06_what_is_spoilt w K CX0 7 63 "_law_script" mg fa h := by
  have e := hmg.symm.trans T.d_law.g
  cases e
  have one : ∀ {R : Addr × Addr → Prop}, R (T.c_are_signs, T.t_are_signs) → ∀ p ∈ [(T.c_are_signs, T.t_are_signs)], R p := fun r p hp => by
    rw [List.mem_singleton.mp hp]; exact r
  refine ⟨T.d_law.fd, [(T.c_are_signs, T.t_are_signs)], spLaw K (tws T), one hT.2, one nT, one hT.1, hb, fun H a ns hl _ hH hS => ?_, fun base k1 k2 tb => ok_law T (gx_of (tb _ List.mem_cons_self))⟩
  refine ⟨a, ns, rfl, hS, hl, ⟨fun P hP => ?_, fun p hp => nomatch hp⟩, fun _ => rfl⟩
  rw [List.mem_singleton.mp hP]
  exact ⟨#[], hH _ List.mem_cons_self, trivial⟩
end
def txt_mk {K : PySem.W.Frag} {h : Heap} {mg : Str → Option Value} {f0 tb0 f1 f2 f3 f4 f5 f6 f7 f8 f9 f10 f11 f12 f13 f14 f15 f16 f17 f18 f19 f20 f21 f22 : Addr} (X : K.In h) (G : h.Ns mainGlobals mg)
    {oc0 : Value} {od0 an0 : Option Addr} {sl0 : Array (Option Value)} {kV0 dc0 pm0 ct0 : Value} {cd0 : Addr}
    (a0 : PySem.W.nsIn K mainGlobals "are_signs" = some (some (.ref f0))) (l0 : K.lookup f0 = some ⟨oc0, od0, .func (PySem.W.fnOf "are_signs" "are_signs" (defArgs s_are_signs) (defBody s_are_signs) (defScope s_are_signs) .none kV0 dc0 pm0 an0 (.ref cd0) ct0), sl0⟩) (c0 : PySem.W.codeIn K (.ref cd0) "are_signs" = true) (k0 : PySem.W.keepIn K (.ref f0) = true)
    {oc1 : Value} {od1 an1 : Option Addr} {sl1 : Array (Option Value)} {kV1 dc1 pm1 ct1 : Value} {cd1 : Value}
    (a1 : PySem.W.nsIn K mainGlobals "_can_be_a_set" = some (some (.ref f1))) (l1 : K.lookup f1 = some ⟨oc1, od1, .func (PySem.W.fnOf "_can_be_a_set" "_can_be_a_set" (defArgs s_can_be_a_set) (defBody s_can_be_a_set) (defScope s_can_be_a_set) .none kV1 dc1 pm1 an1 cd1 ct1), sl1⟩) (c1 : PySem.W.codeIn K cd1 "_can_be_a_set" = true) (k1 : PySem.W.keepIn K (.ref f1) = true)
    {oc2 : Value} {od2 an2 : Option Addr} {sl2 : Array (Option Value)} {kV2 dc2 pm2 ct2 : Value} {cd2 : Value}
    (a2 : PySem.W.nsIn K mainGlobals "check_sheet" = some (some (.ref f2))) (l2 : K.lookup f2 = some ⟨oc2, od2, .func (PySem.W.fnOf "check_sheet" "check_sheet" (defArgs s_check_sheet) (defBody s_check_sheet) (defScope s_check_sheet) .none kV2 dc2 pm2 an2 cd2 ct2), sl2⟩) (c2 : PySem.W.codeIn K cd2 "check_sheet" = true) (k2 : PySem.W.keepIn K (.ref f2) = true)
    {oc3 : Value} {od3 an3 : Option Addr} {sl3 : Array (Option Value)} {kV3 dc3 pm3 ct3 : Value} {cd3 : Value}
    (a3 : PySem.W.nsIn K mainGlobals "check_tape" = some (some (.ref f3))) (l3 : K.lookup f3 = some ⟨oc3, od3, .func (PySem.W.fnOf "check_tape" "check_tape" (defArgs s_check_tape) (defBody s_check_tape) (defScope s_check_tape) .none kV3 dc3 pm3 an3 cd3 ct3), sl3⟩) (c3 : PySem.W.codeIn K cd3 "check_tape" = true) (k3 : PySem.W.keepIn K (.ref f3) = true)
    {oc4 : Value} {od4 an4 : Option Addr} {sl4 : Array (Option Value)} {kV4 dc4 pm4 ct4 : Value} {cd4 : Value}
    (a4 : PySem.W.nsIn K mainGlobals "check_set" = some (some (.ref f4))) (l4 : K.lookup f4 = some ⟨oc4, od4, .func (PySem.W.fnOf "check_set" "check_set" (defArgs s_check_set) (defBody s_check_set) (defScope s_check_set) .none kV4 dc4 pm4 an4 cd4 ct4), sl4⟩) (c4 : PySem.W.codeIn K cd4 "check_set" = true) (k4 : PySem.W.keepIn K (.ref f4) = true)
    {oc5 : Value} {od5 an5 : Option Addr} {sl5 : Array (Option Value)} {kV5 dc5 pm5 ct5 : Value} {cd5 : Value}
    (a5 : PySem.W.nsIn K mainGlobals "check_count" = some (some (.ref f5))) (l5 : K.lookup f5 = some ⟨oc5, od5, .func (PySem.W.fnOf "check_count" "check_count" (defArgs s_check_count) (defBody s_check_count) (defScope s_check_count) .none kV5 dc5 pm5 an5 cd5 ct5), sl5⟩) (c5 : PySem.W.codeIn K cd5 "check_count" = true) (k5 : PySem.W.keepIn K (.ref f5) = true)
    {oc6 : Value} {od6 an6 : Option Addr} {sl6 : Array (Option Value)} {kV6 dc6 pm6 ct6 : Value} {cd6 : Value}
    (a6 : PySem.W.nsIn K mainGlobals "check_begun" = some (some (.ref f6))) (l6 : K.lookup f6 = some ⟨oc6, od6, .func (PySem.W.fnOf "check_begun" "check_begun" (defArgs s_check_begun) (defBody s_check_begun) (defScope s_check_begun) .none kV6 dc6 pm6 an6 cd6 ct6), sl6⟩) (c6 : PySem.W.codeIn K cd6 "check_begun" = true) (k6 : PySem.W.keepIn K (.ref f6) = true)
    {oc7 : Value} {od7 an7 : Option Addr} {sl7 : Array (Option Value)} {kV7 dc7 pm7 ct7 : Value} {cd7 : Value}
    (a7 : PySem.W.nsIn K mainGlobals "set_behind" = some (some (.ref f7))) (l7 : K.lookup f7 = some ⟨oc7, od7, .func (PySem.W.fnOf "set_behind" "set_behind" (defArgs s_set_behind) (defBody s_set_behind) (defScope s_set_behind) .none kV7 dc7 pm7 an7 cd7 ct7), sl7⟩) (c7 : PySem.W.codeIn K cd7 "set_behind" = true) (k7 : PySem.W.keepIn K (.ref f7) = true)
    {oc8 : Value} {od8 an8 : Option Addr} {sl8 : Array (Option Value)} {kV8 dc8 pm8 ct8 : Value} {cd8 : Value}
    (a8 : PySem.W.nsIn K mainGlobals "walked" = some (some (.ref f8))) (l8 : K.lookup f8 = some ⟨oc8, od8, .func (PySem.W.fnOf "walked" "walked" (defArgs s_walked) (defBody s_walked) (defScope s_walked) .none kV8 dc8 pm8 an8 cd8 ct8), sl8⟩) (c8 : PySem.W.codeIn K cd8 "walked" = true) (k8 : PySem.W.keepIn K (.ref f8) = true)
    {oc9 : Value} {od9 an9 : Option Addr} {sl9 : Array (Option Value)} {kV9 dc9 pm9 ct9 : Value} {cd9 : Value}
    (a9 : PySem.W.nsIn K mainGlobals "_shift_places" = some (some (.ref f9))) (l9 : K.lookup f9 = some ⟨oc9, od9, .func (PySem.W.fnOf "_shift_places" "_shift_places" (defArgs s_shift_places) (defBody s_shift_places) (defScope s_shift_places) .none kV9 dc9 pm9 an9 cd9 ct9), sl9⟩) (c9 : PySem.W.codeIn K cd9 "_shift_places" = true) (k9 : PySem.W.keepIn K (.ref f9) = true)
    {oc10 : Value} {od10 an10 : Option Addr} {sl10 : Array (Option Value)} {kV10 dc10 pm10 ct10 : Value} {cd10 : Value}
    (a10 : PySem.W.nsIn K mainGlobals "_text_without" = some (some (.ref f10))) (l10 : K.lookup f10 = some ⟨oc10, od10, .func (PySem.W.fnOf "_text_without" "_text_without" (defArgs s_text_without) (defBody s_text_without) (defScope s_text_without) .none kV10 dc10 pm10 an10 cd10 ct10), sl10⟩) (c10 : PySem.W.codeIn K cd10 "_text_without" = true) (k10 : PySem.W.keepIn K (.ref f10) = true)
    {oc11 : Value} {od11 an11 : Option Addr} {sl11 : Array (Option Value)} {kV11 dc11 pm11 ct11 : Value} {cd11 : Value}
    (a11 : PySem.W.nsIn K mainGlobals "_count_unlike" = some (some (.ref f11))) (l11 : K.lookup f11 = some ⟨oc11, od11, .func (PySem.W.fnOf "_count_unlike" "_count_unlike" (defArgs s_count_unlike) (defBody s_count_unlike) (defScope s_count_unlike) .none kV11 dc11 pm11 an11 cd11 ct11), sl11⟩) (c11 : PySem.W.codeIn K cd11 "_count_unlike" = true) (k11 : PySem.W.keepIn K (.ref f11) = true)
    {oc12 : Value} {od12 an12 : Option Addr} {sl12 : Array (Option Value)} {kV12 dc12 pm12 ct12 : Value} {cd12 : Value}
    (a12 : PySem.W.nsIn K mainGlobals "spoilt" = some (some (.ref f12))) (l12 : K.lookup f12 = some ⟨oc12, od12, .func (PySem.W.fnOf "spoilt" "spoilt" (defArgs s_spoilt) (defBody s_spoilt) (defScope s_spoilt) .none kV12 dc12 pm12 an12 cd12 ct12), sl12⟩) (c12 : PySem.W.codeIn K cd12 "spoilt" = true) (k12 : PySem.W.keepIn K (.ref f12) = true)
    {oc13 : Value} {od13 an13 : Option Addr} {sl13 : Array (Option Value)} {kV13 dc13 pm13 ct13 : Value} {cd13 : Value}
    (a13 : PySem.W.nsIn K mainGlobals "lost_at" = some (some (.ref f13))) (l13 : K.lookup f13 = some ⟨oc13, od13, .func (PySem.W.fnOf "lost_at" "lost_at" (defArgs s_lost_at) (defBody s_lost_at) (defScope s_lost_at) .none kV13 dc13 pm13 an13 cd13 ct13), sl13⟩) (c13 : PySem.W.codeIn K cd13 "lost_at" = true) (k13 : PySem.W.keepIn K (.ref f13) = true)
    {oc14 : Value} {od14 an14 : Option Addr} {sl14 : Array (Option Value)} {kV14 dc14 pm14 ct14 : Value} {cd14 : Value}
    (a14 : PySem.W.nsIn K mainGlobals "is_guarded" = some (some (.ref f14))) (l14 : K.lookup f14 = some ⟨oc14, od14, .func (PySem.W.fnOf "is_guarded" "is_guarded" (defArgs s_is_guarded) (defBody s_is_guarded) (defScope s_is_guarded) .none kV14 dc14 pm14 an14 cd14 ct14), sl14⟩) (c14 : PySem.W.codeIn K cd14 "is_guarded" = true) (k14 : PySem.W.keepIn K (.ref f14) = true)
    {oc15 : Value} {od15 an15 : Option Addr} {sl15 : Array (Option Value)} {kV15 dc15 pm15 ct15 : Value} {cd15 : Value}
    (a15 : PySem.W.nsIn K mainGlobals "_law_begun" = some (some (.ref f15))) (l15 : K.lookup f15 = some ⟨oc15, od15, .func (PySem.W.fnOf "_law_begun" "_law_begun" (defArgs s_l_begun) (defBody s_l_begun) (defScope s_l_begun) .none kV15 dc15 pm15 an15 cd15 ct15), sl15⟩) (c15 : PySem.W.codeIn K cd15 "_law_begun" = true) (k15 : PySem.W.keepIn K (.ref f15) = true)
    {oc16 : Value} {od16 an16 : Option Addr} {sl16 : Array (Option Value)} {kV16 dc16 pm16 ct16 : Value} {cd16 : Value}
    (a16 : PySem.W.nsIn K mainGlobals "_law_take" = some (some (.ref f16))) (l16 : K.lookup f16 = some ⟨oc16, od16, .func (PySem.W.fnOf "_law_take" "_law_take" (defArgs s_l_take) (defBody s_l_take) (defScope s_l_take) .none kV16 dc16 pm16 an16 cd16 ct16), sl16⟩) (c16 : PySem.W.codeIn K cd16 "_law_take" = true) (k16 : PySem.W.keepIn K (.ref f16) = true)
    {oc17 : Value} {od17 an17 : Option Addr} {sl17 : Array (Option Value)} {kV17 dc17 pm17 ct17 : Value} {cd17 : Value}
    (a17 : PySem.W.nsIn K mainGlobals "_law_alike" = some (some (.ref f17))) (l17 : K.lookup f17 = some ⟨oc17, od17, .func (PySem.W.fnOf "_law_alike" "_law_alike" (defArgs s_l_alike) (defBody s_l_alike) (defScope s_l_alike) .none kV17 dc17 pm17 an17 cd17 ct17), sl17⟩) (c17 : PySem.W.codeIn K cd17 "_law_alike" = true) (k17 : PySem.W.keepIn K (.ref f17) = true)
    {oc18 : Value} {od18 an18 : Option Addr} {sl18 : Array (Option Value)} {kV18 dc18 pm18 ct18 : Value} {cd18 : Value}
    (a18 : PySem.W.nsIn K mainGlobals "_law_picked" = some (some (.ref f18))) (l18 : K.lookup f18 = some ⟨oc18, od18, .func (PySem.W.fnOf "_law_picked" "_law_picked" (defArgs s_l_picked) (defBody s_l_picked) (defScope s_l_picked) .none kV18 dc18 pm18 an18 cd18 ct18), sl18⟩) (c18 : PySem.W.codeIn K cd18 "_law_picked" = true) (k18 : PySem.W.keepIn K (.ref f18) = true)
    {oc19 : Value} {od19 an19 : Option Addr} {sl19 : Array (Option Value)} {kV19 dc19 pm19 ct19 : Value} {cd19 : Value}
    (a19 : PySem.W.nsIn K mainGlobals "_law_sheet" = some (some (.ref f19))) (l19 : K.lookup f19 = some ⟨oc19, od19, .func (PySem.W.fnOf "_law_sheet" "_law_sheet" (defArgs s_l_sheet) (defBody s_l_sheet) (defScope s_l_sheet) .none kV19 dc19 pm19 an19 cd19 ct19), sl19⟩) (c19 : PySem.W.codeIn K cd19 "_law_sheet" = true) (k19 : PySem.W.keepIn K (.ref f19) = true)
    {oc20 : Value} {od20 an20 : Option Addr} {sl20 : Array (Option Value)} {kV20 dc20 pm20 ct20 : Value} {cd20 : Value}
    (a20 : PySem.W.nsIn K mainGlobals "_law_tape" = some (some (.ref f20))) (l20 : K.lookup f20 = some ⟨oc20, od20, .func (PySem.W.fnOf "_law_tape" "_law_tape" (defArgs s_l_tape) (defBody s_l_tape) (defScope s_l_tape) .none kV20 dc20 pm20 an20 cd20 ct20), sl20⟩) (c20 : PySem.W.codeIn K cd20 "_law_tape" = true) (k20 : PySem.W.keepIn K (.ref f20) = true)
    {oc21 : Value} {od21 an21 : Option Addr} {sl21 : Array (Option Value)} {kV21 dc21 pm21 ct21 : Value} {cd21 : Value}
    (a21 : PySem.W.nsIn K mainGlobals "_law_read" = some (some (.ref f21))) (l21 : K.lookup f21 = some ⟨oc21, od21, .func (PySem.W.fnOf "_law_read" "_law_read" (defArgs s_l_read) (defBody s_l_read) (defScope s_l_read) .none kV21 dc21 pm21 an21 cd21 ct21), sl21⟩) (c21 : PySem.W.codeIn K cd21 "_law_read" = true) (k21 : PySem.W.keepIn K (.ref f21) = true)
    {oc22 : Value} {od22 an22 : Option Addr} {sl22 : Array (Option Value)} {kV22 dc22 pm22 ct22 : Value} {cd22 : Value}
    (a22 : PySem.W.nsIn K mainGlobals "law" = some (some (.ref f22))) (l22 : K.lookup f22 = some ⟨oc22, od22, .func (PySem.W.fnOf "law" "law" (defArgs s_law) (defBody s_law) (defScope s_law) .none kV22 dc22 pm22 an22 cd22 ct22), sl22⟩) (c22 : PySem.W.codeIn K cd22 "law" = true) (k22 : PySem.W.keepIn K (.ref f22) = true)
    (z_all : PySem.W.nsIn K mainGlobals "all" = some none)
    (z_bool : PySem.W.nsIn K mainGlobals "bool" = some none)
    (z_enumerate : PySem.W.nsIn K mainGlobals "enumerate" = some none)
    (z_int : PySem.W.nsIn K mainGlobals "int" = some none)
    (z_isinstance : PySem.W.nsIn K mainGlobals "isinstance" = some none)
    (z_len : PySem.W.nsIn K mainGlobals "len" = some none)
    (z_list : PySem.W.nsIn K mainGlobals "list" = some none)
    (z_range : PySem.W.nsIn K mainGlobals "range" = some none)
    (z_set : PySem.W.nsIn K mainGlobals "set" = some none)
    (z_str : PySem.W.nsIn K mainGlobals "str" = some none)
    (z_sum : PySem.W.nsIn K mainGlobals "sum" = some none)
    (z_tuple : PySem.W.nsIn K mainGlobals "tuple" = some none)
    (z_zip : PySem.W.nsIn K mainGlobals "zip" = some none)
    {t_MOST_CODES : Tok} (y_MOST_CODES : PySem.W.nsIn K mainGlobals "MOST_CODES" = some (some (.int 100 t_MOST_CODES)))
    {t_MOST_PLACES : Tok} (y_MOST_PLACES : PySem.W.nsIn K mainGlobals "MOST_PLACES" = some (some (.int 26 t_MOST_PLACES)))
    {t_MOST_SIGNS : Tok} (y_MOST_SIGNS : PySem.W.nsIn K mainGlobals "MOST_SIGNS" = some (some (.int 32 t_MOST_SIGNS))) : Txt K mg where
  d_are_signs := ⟨f0, _, fun_mk (st := s_are_signs) l0 c0 k0, (fun_mk (st := s_are_signs) l0 c0 k0).binds fun _ _ _ _ _ _ us hl => match us, hl with | [_], _ => rfl, PySem.W.mg_of X G a0⟩
  c_are_signs := cd0
  t_are_signs := tb0
  k_are_signs := ⟨⟨oc0, od0, kV0, dc0, pm0, an0, ct0, sl0, rfl, l0, c0⟩⟩
  d_can_be_a_set := ⟨f1, _, fun_mk (st := s_can_be_a_set) l1 c1 k1, (fun_mk (st := s_can_be_a_set) l1 c1 k1).binds fun _ _ _ _ _ _ us hl => match us, hl with | [_], _ => rfl, PySem.W.mg_of X G a1⟩
  d_check_sheet := ⟨f2, _, fun_mk (st := s_check_sheet) l2 c2 k2, (fun_mk (st := s_check_sheet) l2 c2 k2).binds fun _ _ _ _ _ _ us hl => match us, hl with | [_], _ => rfl, PySem.W.mg_of X G a2⟩
  d_check_tape := ⟨f3, _, fun_mk (st := s_check_tape) l3 c3 k3, (fun_mk (st := s_check_tape) l3 c3 k3).binds fun _ _ _ _ _ _ us hl => match us, hl with | [_, _], _ => rfl, PySem.W.mg_of X G a3⟩
  d_check_set := ⟨f4, _, fun_mk (st := s_check_set) l4 c4 k4, (fun_mk (st := s_check_set) l4 c4 k4).binds fun _ _ _ _ _ _ us hl => match us, hl with | [_], _ => rfl, PySem.W.mg_of X G a4⟩
  d_check_count := ⟨f5, _, fun_mk (st := s_check_count) l5 c5 k5, (fun_mk (st := s_check_count) l5 c5 k5).binds fun _ _ _ _ _ _ us hl => match us, hl with | [_, _], _ => rfl, PySem.W.mg_of X G a5⟩
  d_check_begun := ⟨f6, _, fun_mk (st := s_check_begun) l6 c6 k6, (fun_mk (st := s_check_begun) l6 c6 k6).binds fun _ _ _ _ _ _ us hl => match us, hl with | [_, _, _], _ => rfl, PySem.W.mg_of X G a6⟩
  d_set_behind := ⟨f7, _, fun_mk (st := s_set_behind) l7 c7 k7, (fun_mk (st := s_set_behind) l7 c7 k7).binds fun _ _ _ _ _ _ us hl => match us, hl with | [_, _, _], _ => rfl, PySem.W.mg_of X G a7⟩
  d_walked := ⟨f8, _, fun_mk (st := s_walked) l8 c8 k8, (fun_mk (st := s_walked) l8 c8 k8).binds fun _ _ _ _ _ _ us hl => match us, hl with | [_, _, _], _ => rfl, PySem.W.mg_of X G a8⟩
  d_shift_places := ⟨f9, _, fun_mk (st := s_shift_places) l9 c9 k9, (fun_mk (st := s_shift_places) l9 c9 k9).binds fun _ _ _ _ _ _ us hl => match us, hl with | [_, _], _ => rfl, PySem.W.mg_of X G a9⟩
  d_text_without := ⟨f10, _, fun_mk (st := s_text_without) l10 c10 k10, (fun_mk (st := s_text_without) l10 c10 k10).binds fun _ _ _ _ _ _ us hl => match us, hl with | [_, _, _, _], _ => rfl, PySem.W.mg_of X G a10⟩
  d_count_unlike := ⟨f11, _, fun_mk (st := s_count_unlike) l11 c11 k11, (fun_mk (st := s_count_unlike) l11 c11 k11).binds fun _ _ _ _ _ _ us hl => match us, hl with | [_, _], _ => rfl, PySem.W.mg_of X G a11⟩
  d_spoilt := ⟨f12, _, fun_mk (st := s_spoilt) l12 c12 k12, (fun_mk (st := s_spoilt) l12 c12 k12).binds fun _ _ _ _ _ _ us hl => match us, hl with | [_, _, _], _ => rfl, PySem.W.mg_of X G a12⟩
  d_lost_at := ⟨f13, _, fun_mk (st := s_lost_at) l13 c13 k13, (fun_mk (st := s_lost_at) l13 c13 k13).binds fun _ _ _ _ _ _ us hl => match us, hl with | [_, _, _, _], _ => rfl, PySem.W.mg_of X G a13⟩
  d_is_guarded := ⟨f14, _, fun_mk (st := s_is_guarded) l14 c14 k14, (fun_mk (st := s_is_guarded) l14 c14 k14).binds fun _ _ _ _ _ _ us hl => match us, hl with | [_, _, _, _], _ => rfl, PySem.W.mg_of X G a14⟩
  d_l_begun := ⟨f15, _, fun_mk (st := s_l_begun) l15 c15 k15, (fun_mk (st := s_l_begun) l15 c15 k15).binds fun _ _ _ _ _ _ us hl => match us, hl with | [_], _ => rfl, PySem.W.mg_of X G a15⟩
  d_l_take := ⟨f16, _, fun_mk (st := s_l_take) l16 c16 k16, (fun_mk (st := s_l_take) l16 c16 k16).binds fun _ _ _ _ _ _ us hl => match us, hl with | [_, _], _ => rfl, PySem.W.mg_of X G a16⟩
  d_l_alike := ⟨f17, _, fun_mk (st := s_l_alike) l17 c17 k17, (fun_mk (st := s_l_alike) l17 c17 k17).binds fun _ _ _ _ _ _ us hl => match us, hl with | [_, _], _ => rfl, PySem.W.mg_of X G a17⟩
  d_l_picked := ⟨f18, _, fun_mk (st := s_l_picked) l18 c18 k18, (fun_mk (st := s_l_picked) l18 c18 k18).binds fun _ _ _ _ _ _ us hl => match us, hl with | [_, _, _], _ => rfl, PySem.W.mg_of X G a18⟩
  d_l_sheet := ⟨f19, _, fun_mk (st := s_l_sheet) l19 c19 k19, (fun_mk (st := s_l_sheet) l19 c19 k19).binds fun _ _ _ _ _ _ us hl => match us, hl with | [_, _], _ => rfl, PySem.W.mg_of X G a19⟩
  d_l_tape := ⟨f20, _, fun_mk (st := s_l_tape) l20 c20 k20, (fun_mk (st := s_l_tape) l20 c20 k20).binds fun _ _ _ _ _ _ us hl => match us, hl with | [_, _, _], _ => rfl, PySem.W.mg_of X G a20⟩
  d_l_read := ⟨f21, _, fun_mk (st := s_l_read) l21 c21 k21, (fun_mk (st := s_l_read) l21 c21 k21).binds fun _ _ _ _ _ _ us hl => match us, hl with | [_, _, _], _ => rfl, PySem.W.mg_of X G a21⟩
  d_law := ⟨f22, _, fun_mk (st := s_law) l22 c22 k22, (fun_mk (st := s_law) l22 c22 k22).binds fun _ _ _ _ _ _ us hl => match us, hl with | [_], _ => rfl, PySem.W.mg_of X G a22⟩
  n_all := PySem.W.mg_none_of X G z_all
  n_bool := PySem.W.mg_none_of X G z_bool
  n_enumerate := PySem.W.mg_none_of X G z_enumerate
  n_int := PySem.W.mg_none_of X G z_int
  n_isinstance := PySem.W.mg_none_of X G z_isinstance
  n_len := PySem.W.mg_none_of X G z_len
  n_list := PySem.W.mg_none_of X G z_list
  n_range := PySem.W.mg_none_of X G z_range
  n_set := PySem.W.mg_none_of X G z_set
  n_str := PySem.W.mg_none_of X G z_str
  n_sum := PySem.W.mg_none_of X G z_sum
  n_tuple := PySem.W.mg_none_of X G z_tuple
  n_zip := PySem.W.mg_none_of X G z_zip
  c_MOST_CODES := ⟨_, PySem.W.mg_of X G y_MOST_CODES⟩
  c_MOST_PLACES := ⟨_, PySem.W.mg_of X G y_MOST_PLACES⟩
  c_MOST_SIGNS := ⟨_, PySem.W.mg_of X G y_MOST_SIGNS⟩
theorem law_at {w : World} {K : PySem.W.Frag} {h : Heap} {mg : Str → Option Value} {q : Program} {fa f0 tb0 f1 f2 f3 f4 f5 f6 f7 f8 f9 f10 f11 f12 f13 f14 f15 f16 f17 f18 f19 f20 f21 f22 : Addr} (X : K.In h) (G : h.Ns mainGlobals mg) (hmg : mg "law" = some (.ref fa))
    (tabs : ∀ (y : Str) (c P : Addr), ((recsOf q).any fun r => r.name == y) = true → PySem.W.tabIn K y = some (c, P) → PySem.W.CodeHd h c P ∧ h.get? P = some (PySem.W.tabObj #[]))
    {oc0 : Value} {od0 an0 : Option Addr} {sl0 : Array (Option Value)} {kV0 dc0 pm0 ct0 : Value} {cd0 : Addr}
    (a0 : PySem.W.nsIn K mainGlobals "are_signs" = some (some (.ref f0))) (l0 : K.lookup f0 = some ⟨oc0, od0, .func (PySem.W.fnOf "are_signs" "are_signs" (defArgs s_are_signs) (defBody s_are_signs) (defScope s_are_signs) .none kV0 dc0 pm0 an0 (.ref cd0) ct0), sl0⟩) (c0 : PySem.W.codeIn K (.ref cd0) "are_signs" = true) (k0 : PySem.W.keepIn K (.ref f0) = true)
    {oc1 : Value} {od1 an1 : Option Addr} {sl1 : Array (Option Value)} {kV1 dc1 pm1 ct1 : Value} {cd1 : Value}
    (a1 : PySem.W.nsIn K mainGlobals "_can_be_a_set" = some (some (.ref f1))) (l1 : K.lookup f1 = some ⟨oc1, od1, .func (PySem.W.fnOf "_can_be_a_set" "_can_be_a_set" (defArgs s_can_be_a_set) (defBody s_can_be_a_set) (defScope s_can_be_a_set) .none kV1 dc1 pm1 an1 cd1 ct1), sl1⟩) (c1 : PySem.W.codeIn K cd1 "_can_be_a_set" = true) (k1 : PySem.W.keepIn K (.ref f1) = true)
    {oc2 : Value} {od2 an2 : Option Addr} {sl2 : Array (Option Value)} {kV2 dc2 pm2 ct2 : Value} {cd2 : Value}
    (a2 : PySem.W.nsIn K mainGlobals "check_sheet" = some (some (.ref f2))) (l2 : K.lookup f2 = some ⟨oc2, od2, .func (PySem.W.fnOf "check_sheet" "check_sheet" (defArgs s_check_sheet) (defBody s_check_sheet) (defScope s_check_sheet) .none kV2 dc2 pm2 an2 cd2 ct2), sl2⟩) (c2 : PySem.W.codeIn K cd2 "check_sheet" = true) (k2 : PySem.W.keepIn K (.ref f2) = true)
    {oc3 : Value} {od3 an3 : Option Addr} {sl3 : Array (Option Value)} {kV3 dc3 pm3 ct3 : Value} {cd3 : Value}
    (a3 : PySem.W.nsIn K mainGlobals "check_tape" = some (some (.ref f3))) (l3 : K.lookup f3 = some ⟨oc3, od3, .func (PySem.W.fnOf "check_tape" "check_tape" (defArgs s_check_tape) (defBody s_check_tape) (defScope s_check_tape) .none kV3 dc3 pm3 an3 cd3 ct3), sl3⟩) (c3 : PySem.W.codeIn K cd3 "check_tape" = true) (k3 : PySem.W.keepIn K (.ref f3) = true)
    {oc4 : Value} {od4 an4 : Option Addr} {sl4 : Array (Option Value)} {kV4 dc4 pm4 ct4 : Value} {cd4 : Value}
    (a4 : PySem.W.nsIn K mainGlobals "check_set" = some (some (.ref f4))) (l4 : K.lookup f4 = some ⟨oc4, od4, .func (PySem.W.fnOf "check_set" "check_set" (defArgs s_check_set) (defBody s_check_set) (defScope s_check_set) .none kV4 dc4 pm4 an4 cd4 ct4), sl4⟩) (c4 : PySem.W.codeIn K cd4 "check_set" = true) (k4 : PySem.W.keepIn K (.ref f4) = true)
    {oc5 : Value} {od5 an5 : Option Addr} {sl5 : Array (Option Value)} {kV5 dc5 pm5 ct5 : Value} {cd5 : Value}
    (a5 : PySem.W.nsIn K mainGlobals "check_count" = some (some (.ref f5))) (l5 : K.lookup f5 = some ⟨oc5, od5, .func (PySem.W.fnOf "check_count" "check_count" (defArgs s_check_count) (defBody s_check_count) (defScope s_check_count) .none kV5 dc5 pm5 an5 cd5 ct5), sl5⟩) (c5 : PySem.W.codeIn K cd5 "check_count" = true) (k5 : PySem.W.keepIn K (.ref f5) = true)
    {oc6 : Value} {od6 an6 : Option Addr} {sl6 : Array (Option Value)} {kV6 dc6 pm6 ct6 : Value} {cd6 : Value}
    (a6 : PySem.W.nsIn K mainGlobals "check_begun" = some (some (.ref f6))) (l6 : K.lookup f6 = some ⟨oc6, od6, .func (PySem.W.fnOf "check_begun" "check_begun" (defArgs s_check_begun) (defBody s_check_begun) (defScope s_check_begun) .none kV6 dc6 pm6 an6 cd6 ct6), sl6⟩) (c6 : PySem.W.codeIn K cd6 "check_begun" = true) (k6 : PySem.W.keepIn K (.ref f6) = true)
    {oc7 : Value} {od7 an7 : Option Addr} {sl7 : Array (Option Value)} {kV7 dc7 pm7 ct7 : Value} {cd7 : Value}
    (a7 : PySem.W.nsIn K mainGlobals "set_behind" = some (some (.ref f7))) (l7 : K.lookup f7 = some ⟨oc7, od7, .func (PySem.W.fnOf "set_behind" "set_behind" (defArgs s_set_behind) (defBody s_set_behind) (defScope s_set_behind) .none kV7 dc7 pm7 an7 cd7 ct7), sl7⟩) (c7 : PySem.W.codeIn K cd7 "set_behind" = true) (k7 : PySem.W.keepIn K (.ref f7) = true)
    {oc8 : Value} {od8 an8 : Option Addr} {sl8 : Array (Option Value)} {kV8 dc8 pm8 ct8 : Value} {cd8 : Value}
    (a8 : PySem.W.nsIn K mainGlobals "walked" = some (some (.ref f8))) (l8 : K.lookup f8 = some ⟨oc8, od8, .func (PySem.W.fnOf "walked" "walked" (defArgs s_walked) (defBody s_walked) (defScope s_walked) .none kV8 dc8 pm8 an8 cd8 ct8), sl8⟩) (c8 : PySem.W.codeIn K cd8 "walked" = true) (k8 : PySem.W.keepIn K (.ref f8) = true)
    {oc9 : Value} {od9 an9 : Option Addr} {sl9 : Array (Option Value)} {kV9 dc9 pm9 ct9 : Value} {cd9 : Value}
    (a9 : PySem.W.nsIn K mainGlobals "_shift_places" = some (some (.ref f9))) (l9 : K.lookup f9 = some ⟨oc9, od9, .func (PySem.W.fnOf "_shift_places" "_shift_places" (defArgs s_shift_places) (defBody s_shift_places) (defScope s_shift_places) .none kV9 dc9 pm9 an9 cd9 ct9), sl9⟩) (c9 : PySem.W.codeIn K cd9 "_shift_places" = true) (k9 : PySem.W.keepIn K (.ref f9) = true)
    {oc10 : Value} {od10 an10 : Option Addr} {sl10 : Array (Option Value)} {kV10 dc10 pm10 ct10 : Value} {cd10 : Value}
    (a10 : PySem.W.nsIn K mainGlobals "_text_without" = some (some (.ref f10))) (l10 : K.lookup f10 = some ⟨oc10, od10, .func (PySem.W.fnOf "_text_without" "_text_without" (defArgs s_text_without) (defBody s_text_without) (defScope s_text_without) .none kV10 dc10 pm10 an10 cd10 ct10), sl10⟩) (c10 : PySem.W.codeIn K cd10 "_text_without" = true) (k10 : PySem.W.keepIn K (.ref f10) = true)
    {oc11 : Value} {od11 an11 : Option Addr} {sl11 : Array (Option Value)} {kV11 dc11 pm11 ct11 : Value} {cd11 : Value}
    (a11 : PySem.W.nsIn K mainGlobals "_count_unlike" = some (some (.ref f11))) (l11 : K.lookup f11 = some ⟨oc11, od11, .func (PySem.W.fnOf "_count_unlike" "_count_unlike" (defArgs s_count_unlike) (defBody s_count_unlike) (defScope s_count_unlike) .none kV11 dc11 pm11 an11 cd11 ct11), sl11⟩) (c11 : PySem.W.codeIn K cd11 "_count_unlike" = true) (k11 : PySem.W.keepIn K (.ref f11) = true)
    {oc12 : Value} {od12 an12 : Option Addr} {sl12 : Array (Option Value)} {kV12 dc12 pm12 ct12 : Value} {cd12 : Value}
    (a12 : PySem.W.nsIn K mainGlobals "spoilt" = some (some (.ref f12))) (l12 : K.lookup f12 = some ⟨oc12, od12, .func (PySem.W.fnOf "spoilt" "spoilt" (defArgs s_spoilt) (defBody s_spoilt) (defScope s_spoilt) .none kV12 dc12 pm12 an12 cd12 ct12), sl12⟩) (c12 : PySem.W.codeIn K cd12 "spoilt" = true) (k12 : PySem.W.keepIn K (.ref f12) = true)
    {oc13 : Value} {od13 an13 : Option Addr} {sl13 : Array (Option Value)} {kV13 dc13 pm13 ct13 : Value} {cd13 : Value}
    (a13 : PySem.W.nsIn K mainGlobals "lost_at" = some (some (.ref f13))) (l13 : K.lookup f13 = some ⟨oc13, od13, .func (PySem.W.fnOf "lost_at" "lost_at" (defArgs s_lost_at) (defBody s_lost_at) (defScope s_lost_at) .none kV13 dc13 pm13 an13 cd13 ct13), sl13⟩) (c13 : PySem.W.codeIn K cd13 "lost_at" = true) (k13 : PySem.W.keepIn K (.ref f13) = true)
    {oc14 : Value} {od14 an14 : Option Addr} {sl14 : Array (Option Value)} {kV14 dc14 pm14 ct14 : Value} {cd14 : Value}
    (a14 : PySem.W.nsIn K mainGlobals "is_guarded" = some (some (.ref f14))) (l14 : K.lookup f14 = some ⟨oc14, od14, .func (PySem.W.fnOf "is_guarded" "is_guarded" (defArgs s_is_guarded) (defBody s_is_guarded) (defScope s_is_guarded) .none kV14 dc14 pm14 an14 cd14 ct14), sl14⟩) (c14 : PySem.W.codeIn K cd14 "is_guarded" = true) (k14 : PySem.W.keepIn K (.ref f14) = true)
    {oc15 : Value} {od15 an15 : Option Addr} {sl15 : Array (Option Value)} {kV15 dc15 pm15 ct15 : Value} {cd15 : Value}
    (a15 : PySem.W.nsIn K mainGlobals "_law_begun" = some (some (.ref f15))) (l15 : K.lookup f15 = some ⟨oc15, od15, .func (PySem.W.fnOf "_law_begun" "_law_begun" (defArgs s_l_begun) (defBody s_l_begun) (defScope s_l_begun) .none kV15 dc15 pm15 an15 cd15 ct15), sl15⟩) (c15 : PySem.W.codeIn K cd15 "_law_begun" = true) (k15 : PySem.W.keepIn K (.ref f15) = true)
    {oc16 : Value} {od16 an16 : Option Addr} {sl16 : Array (Option Value)} {kV16 dc16 pm16 ct16 : Value} {cd16 : Value}
    (a16 : PySem.W.nsIn K mainGlobals "_law_take" = some (some (.ref f16))) (l16 : K.lookup f16 = some ⟨oc16, od16, .func (PySem.W.fnOf "_law_take" "_law_take" (defArgs s_l_take) (defBody s_l_take) (defScope s_l_take) .none kV16 dc16 pm16 an16 cd16 ct16), sl16⟩) (c16 : PySem.W.codeIn K cd16 "_law_take" = true) (k16 : PySem.W.keepIn K (.ref f16) = true)
    {oc17 : Value} {od17 an17 : Option Addr} {sl17 : Array (Option Value)} {kV17 dc17 pm17 ct17 : Value} {cd17 : Value}
    (a17 : PySem.W.nsIn K mainGlobals "_law_alike" = some (some (.ref f17))) (l17 : K.lookup f17 = some ⟨oc17, od17, .func (PySem.W.fnOf "_law_alike" "_law_alike" (defArgs s_l_alike) (defBody s_l_alike) (defScope s_l_alike) .none kV17 dc17 pm17 an17 cd17 ct17), sl17⟩) (c17 : PySem.W.codeIn K cd17 "_law_alike" = true) (k17 : PySem.W.keepIn K (.ref f17) = true)
    {oc18 : Value} {od18 an18 : Option Addr} {sl18 : Array (Option Value)} {kV18 dc18 pm18 ct18 : Value} {cd18 : Value}
    (a18 : PySem.W.nsIn K mainGlobals "_law_picked" = some (some (.ref f18))) (l18 : K.lookup f18 = some ⟨oc18, od18, .func (PySem.W.fnOf "_law_picked" "_law_picked" (defArgs s_l_picked) (defBody s_l_picked) (defScope s_l_picked) .none kV18 dc18 pm18 an18 cd18 ct18), sl18⟩) (c18 : PySem.W.codeIn K cd18 "_law_picked" = true) (k18 : PySem.W.keepIn K (.ref f18) = true)
    {oc19 : Value} {od19 an19 : Option Addr} {sl19 : Array (Option Value)} {kV19 dc19 pm19 ct19 : Value} {cd19 : Value}
    (a19 : PySem.W.nsIn K mainGlobals "_law_sheet" = some (some (.ref f19))) (l19 : K.lookup f19 = some ⟨oc19, od19, .func (PySem.W.fnOf "_law_sheet" "_law_sheet" (defArgs s_l_sheet) (defBody s_l_sheet) (defScope s_l_sheet) .none kV19 dc19 pm19 an19 cd19 ct19), sl19⟩) (c19 : PySem.W.codeIn K cd19 "_law_sheet" = true) (k19 : PySem.W.keepIn K (.ref f19) = true)
    {oc20 : Value} {od20 an20 : Option Addr} {sl20 : Array (Option Value)} {kV20 dc20 pm20 ct20 : Value} {cd20 : Value}
    (a20 : PySem.W.nsIn K mainGlobals "_law_tape" = some (some (.ref f20))) (l20 : K.lookup f20 = some ⟨oc20, od20, .func (PySem.W.fnOf "_law_tape" "_law_tape" (defArgs s_l_tape) (defBody s_l_tape) (defScope s_l_tape) .none kV20 dc20 pm20 an20 cd20 ct20), sl20⟩) (c20 : PySem.W.codeIn K cd20 "_law_tape" = true) (k20 : PySem.W.keepIn K (.ref f20) = true)
    {oc21 : Value} {od21 an21 : Option Addr} {sl21 : Array (Option Value)} {kV21 dc21 pm21 ct21 : Value} {cd21 : Value}
    (a21 : PySem.W.nsIn K mainGlobals "_law_read" = some (some (.ref f21))) (l21 : K.lookup f21 = some ⟨oc21, od21, .func (PySem.W.fnOf "_law_read" "_law_read" (defArgs s_l_read) (defBody s_l_read) (defScope s_l_read) .none kV21 dc21 pm21 an21 cd21 ct21), sl21⟩) (c21 : PySem.W.codeIn K cd21 "_law_read" = true) (k21 : PySem.W.keepIn K (.ref f21) = true)
    {oc22 : Value} {od22 an22 : Option Addr} {sl22 : Array (Option Value)} {kV22 dc22 pm22 ct22 : Value} {cd22 : Value}
    (a22 : PySem.W.nsIn K mainGlobals "law" = some (some (.ref f22))) (l22 : K.lookup f22 = some ⟨oc22, od22, .func (PySem.W.fnOf "law" "law" (defArgs s_law) (defBody s_law) (defScope s_law) .none kV22 dc22 pm22 an22 cd22 ct22), sl22⟩) (c22 : PySem.W.codeIn K cd22 "law" = true) (k22 : PySem.W.keepIn K (.ref f22) = true)
    (z_all : PySem.W.nsIn K mainGlobals "all" = some none)
    (z_bool : PySem.W.nsIn K mainGlobals "bool" = some none)
    (z_enumerate : PySem.W.nsIn K mainGlobals "enumerate" = some none)
    (z_int : PySem.W.nsIn K mainGlobals "int" = some none)
    (z_isinstance : PySem.W.nsIn K mainGlobals "isinstance" = some none)
    (z_len : PySem.W.nsIn K mainGlobals "len" = some none)
    (z_list : PySem.W.nsIn K mainGlobals "list" = some none)
    (z_range : PySem.W.nsIn K mainGlobals "range" = some none)
    (z_set : PySem.W.nsIn K mainGlobals "set" = some none)
    (z_str : PySem.W.nsIn K mainGlobals "str" = some none)
    (z_sum : PySem.W.nsIn K mainGlobals "sum" = some none)
    (z_tuple : PySem.W.nsIn K mainGlobals "tuple" = some none)
    (z_zip : PySem.W.nsIn K mainGlobals "zip" = some none)
    {t_MOST_CODES : Tok} (y_MOST_CODES : PySem.W.nsIn K mainGlobals "MOST_CODES" = some (some (.int 100 t_MOST_CODES)))
    {t_MOST_PLACES : Tok} (y_MOST_PLACES : PySem.W.nsIn K mainGlobals "MOST_PLACES" = some (some (.int 26 t_MOST_PLACES)))
    {t_MOST_SIGNS : Tok} (y_MOST_SIGNS : PySem.W.nsIn K mainGlobals "MOST_SIGNS" = some (some (.int 32 t_MOST_SIGNS)))
    {xc0 : Value} {xd0 : Option Addr} {vs0 : Array Value} {xs0 : Array (Option Value)} (lc0 : K.lookup cd0 = some ⟨xc0, xd0, .fields vs0, xs0⟩) (hv0 : (vs0[11]? : Option Value) = some (.ref tb0)) (nt0 : K.lookup tb0 = none)
    (rc0 : ((recsOf q).any fun r => r.name == "are_signs") = true) : LamX.LawAtS PySem.Challenge.rw_shifttape_k06_what_is_spoilt w K CX0 7 63 "_law_script" mg fa h :=
  all_ok hmg (txt_mk X G (tb0 := tb0) a0 l0 c0 k0 a1 l1 c1 k1 a2 l2 c2 k2 a3 l3 c3 k3 a4 l4 c4 k4 a5 l5 c5 k5 a6 l6 c6 k6 a7 l7 c7 k7 a8 l8 c8 k8 a9 l9 c9 k9 a10 l10 c10 k10 a11 l11 c11 k11 a12 l12 c12 k12 a13 l13 c13 k13 a14 l14 c14 k14 a15 l15 c15 k15 a16 l16 c16 k16 a17 l17 c17 k17 a18 l18 c18 k18 a19 l19 c19 k19 a20 l20 c20 k20 a21 l21 c21 k21 a22 l22 c22 k22 z_all z_bool z_enumerate z_int z_isinstance z_len z_list z_range z_set z_str z_sum z_tuple z_zip y_MOST_CODES y_MOST_PLACES y_MOST_SIGNS) (tabs "are_signs" _ _ rc0 (Kt.tabIn_of a0 l0 rfl lc0 hv0)) nt0 fun s u => .of_eq rfl
end K06
open PySem PySem.W PyProof.Rows
set_option pp.maxSteps 400 in
set_option maxHeartbeats 0 in
theorem PySem.Challenge.cw_shifttape_k06_what_is_spoilt_holds : PySem.Challenge.rw_shifttape_k06_what_is_spoilt.Holds := by
  w_on; o_law; k_head; (case hw => w_witness2)
  k_fill
  refine Kt.end_tab (l := PySem.Challenge.rw_shifttape_k06_what_is_spoilt) (n := 63) (k := 7) (x := "_law_script") (CX := fun _ => L2.CX0) rfl (by decide) rfl ⟨rfl, by decide, by decide⟩ (by first | exact fun w h Y => PySem.W.kIn_of Y | exact fun w h Y => PySem.W.km_in_of Y) ?F (fun _ _ _ _ _ h => h)
  case F =>
    intro w mg fa h Y KX G hmg0 tabs
    have hmg : mg ("law" : PySem.Str) = some (.ref fa) := hmg0
    clear hmg0
    refine' K06.law_at KX G hmg tabs ?a0 ?l0 ?c0 ?k0 ?a1 ?l1 ?c1 ?k1 ?a2 ?l2 ?c2 ?k2 ?a3 ?l3 ?c3 ?k3 ?a4 ?l4 ?c4 ?k4 ?a5 ?l5 ?c5 ?k5 ?a6 ?l6 ?c6 ?k6 ?a7 ?l7 ?c7 ?k7 ?a8 ?l8 ?c8 ?k8 ?a9 ?l9 ?c9 ?k9 ?a10 ?l10 ?c10 ?k10 ?a11 ?l11 ?c11 ?k11 ?a12 ?l12 ?c12 ?k12 ?a13 ?l13 ?c13 ?k13 ?a14 ?l14 ?c14 ?k14 ?a15 ?l15 ?c15 ?k15 ?a16 ?l16 ?c16 ?k16 ?a17 ?l17 ?c17 ?k17 ?a18 ?l18 ?c18 ?k18 ?a19 ?l19 ?c19 ?k19 ?a20 ?l20 ?c20 ?k20 ?a21 ?l21 ?c21 ?k21 ?a22 ?l22 ?c22 ?k22 ?z_all ?z_bool ?z_enumerate ?z_int ?z_isinstance ?z_len ?z_list ?z_range ?z_set ?z_str ?z_sum ?z_tuple ?z_zip ?y_MOST_CODES ?y_MOST_PLACES ?y_MOST_SIGNS ?lc0 ?hv0 ?nt0 ?rc0
    (case a0 => k_is); (case l0 => k_is); (case c0 => k_is); (case k0 => k_is); (case a1 => k_is); (case l1 => k_is); (case c1 => k_is); (case k1 => k_is); (case a2 => k_is); (case l2 => k_is); (case c2 => k_is); (case k2 => k_is); (case a3 => k_is); (case l3 => k_is); (case c3 => k_is); (case k3 => k_is); (case a4 => k_is); (case l4 => k_is); (case c4 => k_is); (case k4 => k_is); (case a5 => k_is); (case l5 => k_is); (case c5 => k_is); (case k5 => k_is); (case a6 => k_is); (case l6 => k_is); (case c6 => k_is); (case k6 => k_is); (case a7 => k_is); (case l7 => k_is); (case c7 => k_is); (case k7 => k_is); (case a8 => k_is); (case l8 => k_is); (case c8 => k_is); (case k8 => k_is); (case a9 => k_is); (case l9 => k_is); (case c9 => k_is); (case k9 => k_is); (case a10 => k_is); (case l10 => k_is); (case c10 => k_is); (case k10 => k_is); (case a11 => k_is); (case l11 => k_is); (case c11 => k_is); (case k11 => k_is); (case a12 => k_is); (case l12 => k_is); (case c12 => k_is); (case k12 => k_is); (case a13 => k_is); (case l13 => k_is); (case c13 => k_is); (case k13 => k_is); (case a14 => k_is); (case l14 => k_is); (case c14 => k_is); (case k14 => k_is); (case a15 => k_is); (case l15 => k_is); (case c15 => k_is); (case k15 => k_is); (case a16 => k_is); (case l16 => k_is); (case c16 => k_is); (case k16 => k_is); (case a17 => k_is); (case l17 => k_is); (case c17 => k_is); (case k17 => k_is); (case a18 => k_is); (case l18 => k_is); (case c18 => k_is); (case k18 => k_is); (case a19 => k_is); (case l19 => k_is); (case c19 => k_is); (case k19 => k_is); (case a20 => k_is); (case l20 => k_is); (case c20 => k_is); (case k20 => k_is); (case a21 => k_is); (case l21 => k_is); (case c21 => k_is); (case k21 => k_is); (case a22 => k_is); (case l22 => k_is); (case c22 => k_is); (case k22 => k_is); (case z_all => k_is); (case z_bool => k_is); (case z_enumerate => k_is); (case z_int => k_is); (case z_isinstance => k_is); (case z_len => k_is); (case z_list => k_is); (case z_range => k_is); (case z_set => k_is); (case z_str => k_is); (case z_sum => k_is); (case z_tuple => k_is); (case z_zip => k_is); (case y_MOST_CODES => k_is); (case y_MOST_PLACES => k_is); (case y_MOST_SIGNS => k_is)
    (case lc0 => k_is); (case hv0 => rfl); (case nt0 => kernel_rfl); (case rc0 => decide +kernel)
