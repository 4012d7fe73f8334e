import PyProof.Rows.All
import Wide.All
import OpenK.AllK
import Wide.FinOn
import HandS.ForMost
import HandS.Walk
import HandS.IsInst
import HandS.DictComp
import HandS.SortInts
import HandS.NoneIn
import HandS.Replace
import HandS.TupAny
import HandS.TupLe
import PyProof.ListStr
import PyProof.TupleOfStr
import KE.GoesNew
import HandS.Zip
import HandS.More
import PyProof.StrLawsFirst
import HandS.Conv
import KE.KSortedM
import HandS.AnyAll
import HandS.EndTab
import PyProof.TupleOfGen
import HandS.EndOwn
import KE.KDictPairs
import KE.SortData
import KE.DataCmp
import PyProof.DictWalks
import KE.KDictWalk
import HandS.Style
import PyProof.CollectStr
import PyProof.SliceStr2
import PyProof.TupleOfSeq
import HandS.Star
import HandS.Wide
import KE.DataMinMax
import HandS.GenOver
import HandS.GenList
import KE.DatumIndex
import PyProof.ConsumeWalk
import PySem.Challenge.RW_stretchkeep_k05_what_is_a_question
set_option Elab.async false
set_option linter.all false
set_option maxRecDepth 100000
namespace My
open PySem PySem.Spec PyProof.Rows L2
/-! ### heaps -/
/-- all but r is as it was -/
def Kp (r : Addr) (H H' : Hp) : Prop := ∀ b o, b ≠ r → H b = some o → H' b = some o
theorem Kp.rfl' {r : Addr} {H : Hp} : Kp r H H := fun _ _ _ h => h
theorem Kp.trans {r : Addr} {H H1 H2 : Hp} (a : Kp r H H1) (b : Kp r H1 H2) : Kp r H H2 := fun c o n h => b c o n (a c o n h)
theorem Kp.new {r p : Addr} {H H1 : Hp} {o : HO} (a : Kp r H H1) (n : H1 p = none) : Kp r H (upd H1 p o) := fun b x nb h => by
  have h1 := a b x nb h
  rw [upd_ne (ne_of_none h1 n)]
  exact h1
theorem Kp.own {r : Addr} {H H1 : Hp} {o : HO} (a : Kp r H H1) : Kp r H (upd H1 r o) := fun b x nb h => by
  rw [upd_ne nb]
  exact a b x nb h
/-- an object that H does not know is written -/
theorem Kp.mut {r p : Addr} {H H1 : Hp} {o : HO} (a : Kp r H H1) (n : H p = none) : Kp r H (upd H1 p o) := fun b x nb h => by
  rw [upd_ne (ne_of_none h n)]
  exact a b x nb h
theorem Same.kp {r : Addr} {H H' : Hp} (s : Same H H') : Kp r H H' := fun b o _ h => s b o h
theorem Same.new {p : Addr} {H H1 : Hp} {o : HO} (a : Same H H1) (n : H1 p = none) : Same H (upd H1 p o) := fun b x h => by
  have h1 := a b x h
  rw [upd_ne (ne_of_none h1 n)]
  exact h1
theorem Same.mut {p : Addr} {H H1 : Hp} {o : HO} (a : Same H H1) (n : H p = none) : Same H (upd H1 p o) := fun b x h => by
  rw [upd_ne (ne_of_none h n)]
  exact a b x h
theorem Same.tup {K : PySem.W.Frag} {H H' : Hp} {a : Addr} {xs : List V} (e : Same H H') (h : SqT K H a xs) : SqT K H' a xs := by
  rcases h with (h | ⟨o, h⟩) | h
  · exact .inl (.inl (e _ _ h))
  · exact .inl (.inr ⟨o, e _ _ h⟩)
  · exact .inr h
/-- a list, a tuple that stands there stays, if it is not at r -/
theorem Kp.seqL {K : PySem.W.Frag} {r a : Addr} {H H' : Hp} {xs : List V} (e : Kp r H H') (n : a ≠ r) (h : SqL K H a xs) : SqL K H' a xs := by
  rcases h with (h | ⟨o, h⟩) | h
  · exact .inl (.inl (e _ _ n h))
  · exact .inl (.inr ⟨o, e _ _ n h⟩)
  · exact .inr h
theorem Same.kpN {r : Addr} {H H1 H2 : Hp} (s : Same H H1) (n : H r = Option.none) (k : Kp r H1 H2) : Same H H2 := fun b o h => k b o (ne_of_none h n) (s b o h)
theorem Kp.none {r p : Addr} {H H' : Hp} (e : Kp r H H') (n : p ≠ r) (h : H' p = Option.none) : H p = Option.none := by
  cases q : H p with
  | none => rfl
  | some o =>
    rw [e p o n q] at h
    cases h
theorem keep_new {H : Hp} {p b : Addr} {o x : HO} (h : H b = some x) (n : H p = Option.none) : (upd H p o) b = some x := by
  rw [upd_ne (ne_of_none h n)]
  exact h
theorem keep_ne {H : Hp} {p b : Addr} {o x : HO} (h : H b = some x) (n : b ≠ p) : (upd H p o) b = some x := by
  rw [upd_ne n]
  exact h
/-! ### a word between a statement and the rest -/
def tMid (t u : TS) : TS := fun D σ H => ∃ M : L2.St → Hp → Prop, t { D with nx := M } σ H ∧ ∀ σ1 H1, M σ1 H1 → u D σ1 H1
theorem pss_mid {X : Cx} {st : Stmt} {r : List Stmt} {t u : TS} (a : PS X st t) (b : PSs X r u) : PSs X (st :: r) (tMid t u) := ⟨fun pins s σ H D I h => by
  obtain ⟨M, hm, hu⟩ := h
  refine wpAny_execs_cons (thn (a.run pins s σ H { D with nx := M } I hm) fun f s1 q => ?_)
  cases f
  case next =>
    obtain ⟨σ1, H1, I1, q1⟩ := q
    exact b.run pins s1 σ1 H1 D I1 (hu σ1 H1 q1)
  all_goals exact q⟩
/-! ### texts -/
/-- a text of these codes; one sign -/
abbrev tx (l : List Nat) : V := .str ⟨l.toArray⟩
abbrev sg (c : Nat) : V := .str ⟨#[c]⟩
theorem signs_vals {x : Str} {acc : Array Value} (h : ItemsOf (SignAt x) acc x.cps.size) : Vals (x.cps.toList.map sg) acc.toList := by
  obtain ⟨hz, hi⟩ := h
  have key : ∀ (l : List Nat) (us : List Value), l.length = us.length → (∀ (j : Nat) (c : Nat) (v : Value), l[j]? = some c → us[j]? = some v → ∃ t, v = Value.str ⟨#[c]⟩ t) → Vals (l.map sg) us := by
    intro l
    induction l with
    | nil =>
      intro us hl _
      cases us with
      | nil => exact .nil
      | cons a b => cases hl
    | cons c l ih =>
      intro us hl hh
      cases us with
      | nil => cases hl
      | cons u us =>
        refine .cons ?_ (ih us (Nat.succ.inj hl) fun j c v h1 h2 => hh (j + 1) c v h1 h2)
        obtain ⟨t, e⟩ := hh 0 c u rfl rfl
        exact ⟨t, e⟩
  refine key _ _ (by rw [Array.length_toList, Array.length_toList, hz]) fun j c v h1 h2 => ?_
  obtain ⟨cc, t, e1, e2⟩ := hi j v (by rw [← Array.getElem?_toList]; exact h2)
  rw [Array.getElem?_toList] at h1
  rw [h1] at e1
  cases e1
  exact ⟨t, e2⟩
/-- the text of one sign -/
abbrev sS (c : Nat) : Str := ⟨#[c]⟩
theorem str_empty : (Str.ofString "").cps = #[] := by decide +kernel
theorem join_signs : ∀ l : List Nat, Txt.join (Str.ofString "") (l.map sS) = ⟨l.toArray⟩ := by
  intro l
  show PySem.Builtin.Str.glued (Str.ofString "") (l.map sS) = _
  rw [PySem.StrLaws.glued_eq_join]
  induction l with
  | nil => rfl
  | cons c l ih =>
    cases l with
    | nil => rfl
    | cons d l =>
      show sS c ++ Str.ofString "" ++ Str.join (Str.ofString "") ((d :: l).map sS) = _
      rw [ih]
      show (⟨(#[c] ++ (Str.ofString "").cps) ++ (d :: l).toArray⟩ : Str) = _
      rw [str_empty]
      simp
theorem ltCps_one {a b : Nat} (h : ltCps [a] [b] = false) : b ≤ a := by
  simp [ltCps] at h
  exact h
theorem rising_signs : ∀ (l : List Nat) (c : Nat), risingS (sS c) (l.map sS) = true → (c :: l).Pairwise (· ≤ ·)
  | [], c, _ => List.pairwise_singleton _ _
  | d :: l, c, h => by
    have h' : (!ltCps [d] [c] && risingS (sS d) (l.map sS)) = true := h
    rw [Bool.and_eq_true, Bool.not_eq_true'] at h'
    have hd := ltCps_one h'.1
    have ih := rising_signs l d h'.2
    refine List.Pairwise.cons (fun x hx => ?_) ih
    rcases List.mem_cons.mp hx with e | hx
    · rw [e]
      exact hd
    · exact Nat.le_trans hd ((List.pairwise_cons.mp ih).1 x hx)
theorem sorted_signs : ∀ (l : List Nat), sortedS (l.map sS) = true → l.Pairwise (· ≤ ·)
  | [], _ => List.Pairwise.nil
  | c :: l, h => rising_signs l c h
theorem perm_signs {ys : List Str} {l : List Nat} (h : ys.Perm (l.map sS)) : ∃ l' : List Nat, ys = l'.map sS ∧ l'.Perm l := by
  let hd : Str → Nat := fun z => z.cps.toList.headD 0
  refine ⟨ys.map hd, ?_, ?_⟩
  · rw [List.map_map]
    have e : ∀ y ∈ ys, (sS ∘ hd) y = y := fun y hy => by
      obtain ⟨c, _, rfl⟩ := List.mem_map.mp (h.mem_iff.mp hy)
      rfl
    conv => lhs; rw [← List.map_id ys]
    exact (List.map_congr_left e).symm
  · have e := h.map hd
    rw [List.map_map] at e
    have e2 : l.map (hd ∘ sS) = l := by
      conv => rhs; rw [← List.map_id l]
      exact List.map_congr_left fun c _ => rfl
    rw [e2] at e
    exact e
theorem strict_of {l : List Nat} (h : l.Pairwise (· ≤ ·)) (n : l.Nodup) : l.Pairwise (· < ·) := by
  refine (h.and n).imp fun {a b} q => ?_
  have h1 := q.1
  have h2 : a ≠ b := q.2
  omega
theorem map_sg (l : List Nat) : l.map sg = (l.map sS).map V.str := by
  rw [List.map_map]
  rfl
theorem erase_map {α β : Type} (f : α → β) : ∀ (l : List α) (k : Nat), (l.map f).eraseIdx k = (l.eraseIdx k).map f
  | [], _ => rfl
  | _ :: _, 0 => rfl
  | a :: l, k + 1 => by
    show f a :: (l.map f).eraseIdx k = f a :: (l.eraseIdx k).map f
    rw [erase_map f l k]
theorem pop_perm : ∀ {l : List Nat} {k : Nat} {y : Nat}, l[k]? = some y → (y :: l.eraseIdx k).Perm l
  | [], k, y, h => by simp at h
  | a :: l, 0, y, h => by
    have e : a = y := Option.some.inj h
    rw [e]
    exact List.Perm.refl _
  | a :: l, k + 1, y, h => by
    have ih := pop_perm (l := l) (k := k) (y := y) h
    exact (List.Perm.swap a y (l.eraseIdx k)).trans (ih.cons a)
theorem popped {l : List Nat} {k : Nat} {y : Nat} (h : l[k]? = some y) (f : List Nat) : (l.eraseIdx k ++ (f ++ [y])).Perm (l ++ f) := by
  have p := pop_perm h
  have p1 : (l.eraseIdx k ++ (f ++ [y])).Perm ([y] ++ (l.eraseIdx k ++ f)) := by
    rw [← List.append_assoc]
    exact List.perm_append_comm
  refine p1.trans ?_
  rw [← List.append_assoc]
  exact p.append_right f
section
variable {X : Cx}
theorem call_list_txt (hc : X.calm = true := by rfl) : CallR X (.type "list") (fun xs H Q => ∃ z : Str, xs = [.str z] ∧ z.length ≤ sizeLine ∧ ∀ l, H l = none → Q (.ref l) (upd H l (.lst (z.cps.toList.map sg)))) := by
  intro pins s σ H xs us Q I r h
  obtain ⟨z, rfl, hz, q⟩ := h
  obtain ⟨u, rfl, rx⟩ := vals1 r
  obtain ⟨t, rfl⟩ := rx
  refine PySem.call_list_str (I.ok.hd hc) z t (fun h' tk acc c kp e hi => ?_) hz
  have hv := signs_vals hi
  exact ⟨.ref s.heap.objs.size, _, I.laid (t' := tk) kp (Nat.le_refl _) (show ObjOk X.prog X.w _ h' _ (.lst (z.cps.toList.map sg)) from ⟨by rw [List.length_map, Array.length_toList]; exact hz, acc.toList, c, hv, by rw [Array.toArray_toList]; exact e⟩), rfl, q _ (I.hok.fresh (Nat.le_refl _))⟩
end
end My

set_option Elab.async false
set_option linter.all false
set_option maxRecDepth 100000
set_option maxHeartbeats 1000000
namespace My
open PySem PySem.Spec PyProof.Rows L2
/-! ### enumerate over a text, over a tuple -/
def ItEg (go : Nat → Hp → Prop) (val : Nat → Hp → V → Prop) (stop : Nat → Hp → Prop) : It :=
  ⟨go, fun i H v H' => ∃ T x, v = .ref T ∧ H T = none ∧ H' = upd H T (.tup [.int (i : Nat), x]) ∧ val i H x, stop⟩
theorem turn_eg {P : Program} {w : World} {K : PySem.W.Frag} {elts : List Expr} {kk : Nat} {tpos : Pos} {e it : Addr} {Sub : Nat → Heap → Prop} {go stop : Nat → Hp → Prop} {val : Nat → Hp → V → Prop} (hne : e ≠ it)
    (obj : ∀ i h, Sub i h → ∃ o, h.get? it = some o ∧ ∀ v, o.data ≠ .cell v)
    (keep : ∀ i h h', Sub i h → (∀ o, h.get? it = some o → h'.get? it = some o) → Sub i h')
    (draw : ∀ (X : Cx) (pins : List (Addr × Obj)) (σ : L2.St) (H : Hp) (s : Shared) (i : Nat), X.prog = P → X.w = w → X.K = K → X.calm = true → Inv X pins σ H s → (∃ old, IsEnum s.heap e it ((i : Nat) : Int) old) → Sub i s.heap → go i H ∨ stop i H →
      ∃ (fp : List Addr) (n : Nat) (Pd : Nat → Value → Prop) (St : Nat → Heap → Prop), Draws P w X.A.in1 it fp n Pd St ∧ St i s.heap ∧ (∀ j h, St j h → Sub j h) ∧ e ∉ fp ∧ (go i H → i < n) ∧ (stop i H → i = n) ∧ (go i H → ∀ u, Pd i u → ∃ x, RelV x u ∧ val i H x)) :
    Turn P w K (.Tuple elts kk tpos) (ItEg go val stop) [e, it] e (fun i h => (∃ old, IsEnum h e it ((i : Nat) : Int) old) ∧ Sub i h) where
  mem := by simp
  obj := fun i h st b hb => by
    obtain ⟨⟨old, he⟩, hs⟩ := st
    have hb2 : b = e ∨ b = it := by simpa using hb
    rcases hb2 with z | z
    · rw [z]
      exact ⟨_, he, fun v q => nomatch q⟩
    · rw [z]
      exact obj i h hs
  keep := fun i h h' st k => by
    obtain ⟨⟨old, he⟩, hs⟩ := st
    exact ⟨⟨old, k e (by simp) _ he⟩, keep i h h' hs fun o q => k it (by simp) o q⟩
  item := by
    intro X hP hw hK hc i pins s σ H E I hf st hg
    obtain ⟨fp, n, Pd, St, D, hst, hsub, hef, hlt, _, hval⟩ := draw X pins σ H s i hP hw hK hc I st.1 st.2 (.inl hg)
    obtain ⟨⟨old, he⟩, hs⟩ := st
    subst hP hw hK
    have hel : e < s.heap.objs.size := Heap.lt_size he
    have hil : it < s.heap.objs.size := by
      obtain ⟨o, q, _⟩ := obj i _ hs
      exact Heap.lt_size q
    refine wpAny_pyNext_enum_itemC D he hst (hlt hg) hne hef fun u h' tk hu ho hst' hT hsz hk => ?_
    obtain ⟨x, ru, hv⟩ := hval hg u hu
    refine ⟨_, rfl, wpAny_letOwnedTupleGo_enum (s := { s with heap := h', toks := tk + 1 }) ho fun h'' he' sb => ?_⟩
    have hT2 : h''.get? s.heap.objs.size = some { cls := .type "tuple", data := .seq #[.int i tk, u] } := (sb.2 _ (Nat.ne_of_gt hel)).trans hT
    have new : ObjOk X.prog X.w (upd H s.heap.objs.size (.tup [.int (i : Nat), x])) h'' s.heap.objs.size (.tup [.int (i : Nat), x]) := ⟨by show 2 ≤ sizeLine; decide, [.int i tk, u], .cons ⟨_, rfl⟩ (.cons ru .nil), ⟨_, hT2, rfl, _, rfl⟩⟩
    have I1 : Inv X pins σ (upd H s.heap.objs.size (.tup [.int (i : Nat), x])) { s with heap := h'', toks := tk + 1 } :=
      I.turnedNew (ch := [e, it]) (fun b ob hb q => (sb.2 b fun z => hb (by simp [z])).trans (hk b ob (fun z => hb (by simp [z])) (fun z => hb (by simp [z])) q)) hf (Nat.le_refl _) new
    refine ⟨.ref s.heap.objs.size, _, I1, rfl, ⟨_, x, rfl, I.hok.fresh (Nat.le_refl _), rfl, hv⟩, ⟨⟨u, ?_⟩, keep _ _ _ (hsub _ _ hst') fun o q => (sb.2 it (Ne.symm hne)).trans q⟩, fun b hb => ?_⟩
    · have e1 : ((i + 1 : Nat) : Int) = (i : Int) + 1 := by omega
      rw [e1]
      exact he'
    · have hb2 : b = e ∨ b = it := by simpa using hb
      have hb' : b < s.heap.objs.size := by
        rcases hb2 with z | z
        · rw [z]
          exact hel
        · rw [z]
          exact hil
      rw [upd_ne (Nat.ne_of_lt hb')]
      exact (hf b hb).1
  done := by
    intro X hP hw hK hc i pins s σ H E I hf st hg
    obtain ⟨fp, n, Pd, St, D, hst, hsub, hef, _, heq, _⟩ := draw X pins σ H s i hP hw hK hc I st.1 st.2 (.inr hg)
    obtain ⟨⟨old, he⟩, hs⟩ := st
    subst hP hw hK
    have ei := heq hg
    subst ei
    obtain ⟨f0, f1, f2, f3, f4, f5⟩ := hf it (by simp)
    exact wpAny_pyNext_enum_endD D he hst fun h' eb => ⟨rfl, I.turned (t' := s.toks) (fun b o hb q => eb b o hb q) f0 f1 f3 f4 f5⟩
  self := fun A i s Q E st h => by
    obtain ⟨⟨old, he⟩, _⟩ := st
    exact wpAny_pyIter_enum he h
/-- the signs of a text with their places -/
def Ites (z : Str) : It := ItEg (fun i _ => i < z.cps.size) (fun i _ x => ∃ c, z.cps[i]? = some c ∧ x = sg c) (fun i _ => i = z.cps.size)
theorem turn_es {P : Program} {w : World} {K : PySem.W.Frag} {elts : List Expr} {kk : Nat} {tpos : Pos} {e it : Addr} (z : Str) (t : Tok) (hne : e ≠ it) :
    Turn P w K (.Tuple elts kk tpos) (Ites z) [e, it] e (fun i h => (∃ old, IsEnum h e it ((i : Nat) : Int) old) ∧ h.IsStrIter it (strIterType z) z t i) := by
  refine turn_eg hne (fun i h st => ?_) (fun i h h' st k => ?_) (fun X pins σ H s i hP hw hK hc I hen st hg => ?_)
  · obtain ⟨o, e1, c, d⟩ := st
    exact ⟨o, e1, fun v q => by rw [d] at q; cases q⟩
  · obtain ⟨o, ho, r⟩ := st
    exact ⟨o, k o ho, r⟩
  · have hh : X.A.in1.handled = none := I.ok.hd hc
    subst hP hw hK
    refine ⟨_, _, _, _, Draws.text hh it z t, st, fun _ _ q => q, fun q => hne (by simpa using q), fun q => q, fun q => q, fun _ u hu => ?_⟩
    obtain ⟨c, tk, e1, e2⟩ := hu
    exact ⟨sg c, ⟨tk, e2⟩, c, e1, rfl⟩
section
variable {X : Cx}
def iEnumS (ta : TA) : TI := fun σ H R => ta σ H fun vs H1 => ∃ z, vs = [.str z] ∧ R (Ites z) H1
theorem fresh2 {pins : List (Addr × Obj)} {σ : L2.St} {H : Hp} {s : Shared} (I : Inv X pins σ H s) : ∀ b ∈ [s.heap.objs.size + 1, s.heap.objs.size], FpOk X pins H b := fun b hb => by
  have hb2 : b = s.heap.objs.size + 1 ∨ b = s.heap.objs.size := by simpa using hb
  have hle : s.heap.objs.size ≤ b := by
    rcases hb2 with z | z
    · rw [z]
      exact Nat.le_succ _
    · rw [z]
      exact Nat.le_refl _
  exact I.fpOk hle (I.hok.fresh hle)
theorem pi_enumS {e : Expr} {ta : TA} {p pos tpos : Pos} {elts : List Expr} {kk : Nat} (hg : Gl X "enumerate") (hm : X.mg "enumerate" = none) (ha : PA X [e] ta) (hs : starEach [e] X.env = [(false, eval e X.env)] := by rfl) :
    PI X (.Tuple elts kk tpos) (.Call (.Name "enumerate" p) [e] [] pos) (iEnumS ta) := by
  refine ⟨fun pins s σ H R I h => ?_⟩
  refine Call_ (ld_blt I hg hm boot_enumerate (PyProof.Rows.callWith_type1 (thn (ha.run pos pins s σ H _ I h) fun us s1 ⟨vs, H1, I1, r1, q1⟩ => ?_) hs rfl))
  obtain ⟨z, rfl, q⟩ := q1
  obtain ⟨u, rfl, ru⟩ := vals1 r1
  obtain ⟨t, rfl⟩ := ru
  refine call_enumerate_str fun h' he hit hsz hk => wpAny_pyIter_enum he ?_
  exact ⟨s1.heap.objs.size + 1, [s1.heap.objs.size + 1, s1.heap.objs.size], _, _, H1, rfl, I1.kept (t' := s1.toks) hk, turn_es z t (Nat.succ_ne_self _), ⟨⟨.none, he⟩, hit⟩, fresh2 I1, q⟩
end
theorem walk_es {z : Str} : Walk (Ites z) z.cps.size (fun _ => True) (YPair (fun i => some (.int (i : Nat))) (fun i => z.cps[i]?.map sg)) := by
  refine ⟨fun _ _ hi _ => hi, fun _ _ => rfl, fun i H v H' hi _ y => ?_⟩
  obtain ⟨T, x, h1, h2, h3, c, h4, h5⟩ := y
  exact ⟨T, .int (i : Nat), x, h1, h2, h3, rfl, by show Option.map sg z.cps[i]? = some x; rw [h4, h5]; rfl⟩
end My

set_option Elab.async false
set_option linter.all false
set_option maxRecDepth 100000
set_option maxHeartbeats 1000000
namespace My
open PySem PySem.Spec PyProof.Rows L2
/-! ### calls by named readings -/
def rLenSq (K : PySem.W.Frag) : List V → Hp → VK → Prop := fun xs H Q => ∃ p ys, xs = [.ref p] ∧ (SqL K H p ys ∨ SqT K H p ys) ∧ Q (.int (ys.length : Nat)) H
def rListSq (K : PySem.W.Frag) : List V → Hp → VK → Prop := fun xs H Q => ∃ p ys, xs = [.ref p] ∧ (SqL K H p ys ∨ SqT K H p ys) ∧ ∀ l, H l = none → Q (.ref l) (upd H l (.lst ys))
def rTupSq (K : PySem.W.Frag) : List V → Hp → VK → Prop := fun xs H Q => ∃ p ys, xs = [.ref p] ∧ ((SqL K H p ys ∧ ∀ l, H l = none → Q (.ref l) (upd H l (.tup ys))) ∨ (SqT K H p ys ∧ Q (.ref p) H))
def rDictSq (K : PySem.W.Frag) : List V → Hp → VK → Prop := fun xs H Q => ∃ (a : Addr) (ps : List Addr) (kvs : List (Key × V)), xs = [.ref a] ∧ SqL K H a (ps.map V.ref) ∧ Paired (fun p kv => SqT K H p [kV kv.1, kv.2]) ps kvs ∧ ∀ p, H p = none → Q (.ref p) (upd H p (.dK (mergeK [] kvs)))
section
variable (K : PySem.W.Frag) {X : Cx}
theorem cLenSq (hK : X.K = K := by rfl) : CallR X (.builtin "len") (rLenSq K) := by
  subst hK
  exact call_len_seq
theorem cListSq (hK : X.K = K := by rfl) : CallR X (.type "list") (rListSq K) := by
  subst hK
  exact call_list_of
theorem cTupSq (hK : X.K = K := by rfl) : CallR X (.type "tuple") (rTupSq K) := by
  subst hK
  exact call_tuple_of
theorem cDictSq (hK : X.K = K := by rfl) (hc : X.calm = true := by rfl) : CallR X (.type "dict") (rDictSq K) := by
  subst hK
  exact call_dictP hc
theorem ixL (hK : X.K = K := by rfl) : IxR X (rIxL K) := by
  subst hK
  exact ix_list
theorem ixT (hK : X.K = K := by rfl) : IxR X (rIxT K) := by
  subst hK
  exact ix_tup
theorem piL {tg l : Expr} {tl : TE} (hl : PE X l tl) (hK : X.K = K := by rfl) : PI X tg l (iList K tl) := by
  subst hK
  exact pi_list hl
theorem piT {tg l : Expr} {tl : TE} (hl : PE X l tl) (hK : X.K = K := by rfl) : PI X tg l (iTup K tl) := by
  subst hK
  exact pi_tup hl
theorem pgT {es : List Expr} {k : Nat} {t : TGs} {n : Nat} {pos : Pos} (h : PGs X es t) (hK : X.K = K := by rfl) (hc : X.calm = true := by rfl) (hn : (assignEach es X.env).length = n := by rfl) (hst : (assignEach es X.env).findIdx? (·.1) = none := by rfl) : PG X (.Tuple es k pos) (gTup K n t) := by
  subst hK
  exact pg_tup hc h hn hst
theorem pgU {es : List Expr} {k : Nat} {t : TGs} {n : Nat} {pos : Pos} (h : PGs X es t) (hK : X.K = K := by rfl) (hc : X.calm = true := by rfl) (hn : (assignEach es X.env).length = n := by rfl) (hst : (assignEach es X.env).findIdx? (·.1) = none := by rfl) : PG X (.Tuple es k pos) (gUnl K n t) := by
  subst hK
  exact pg_unl hc h hn hst
theorem inSq (hK : X.K = K := by rfl) : OpR X (compareOp .In) (rIn K false) := by
  subst hK
  exact op_in_seq
theorem notInSq (hK : X.K = K := by rfl) : OpR X (compareOp .NotIn) (rIn K true) := by
  subst hK
  exact op_notIn_seq
theorem eqDK (hu : X.A.units + 64 < cLine) (hK : X.K = K := by rfl) : OpR X (compareOp .Eq) (rEqD K) := by
  subst hK
  exact op_eqD hu
theorem neDK (hu : X.A.units + 64 < cLine) (hK : X.K = K := by rfl) : OpR X (compareOp .NotEq) (rNeD K) := by
  subst hK
  exact op_neD hu
theorem bmK {T id : String} {name : Str} {r : V → List V → Hp → VK → Prop} {o e : Expr} {es : List Expr} {to : TE} {t : TA} {apos cpos : Pos} (pa : PlainAttrs T) (slot : Slot T name id) (hty : typeOf (.builtin id) = pure (.type "method_descriptor")) (hm : MtR X id r) (ho : PE X o to) (ha : PA X (e :: es) t) (hK : X.K = K := by rfl)
    (hbase : attributeBase o name X.env (eval o X.env) = eval o X.env := by rfl)
    (hfew : ((backTo cpos (starEach (e :: es) X.env)).all (fun x => !x.1) && (backToKw cpos (keywordEach [] X.env)).all (fun x => x.1.isSome) && decide ((e :: es).length + ([] : List Keyword).length + (if ([] : List Keyword).isEmpty then 0 else 1) < 30)) = true := by rfl)
    (hline : (apos.endLine == cpos.line) = true := by rfl) (hs : starEach (e :: es) X.env = (false, eval e X.env) :: starEach es X.env := by rfl) (hplain : (backTo cpos (starEach es X.env)).any (·.1) = false := by rfl) :
    PE X (.Call (.Attribute o name apos) (e :: es) [] cpos) (tBM K T r to t) := by
  subst hK
  exact pe_bm pa slot hty hm ho ha hbase hfew hline hs hplain
theorem isiK (hK : X.K = K := by rfl) : CallR X (.builtin "isinstance") (rIsi K) := by
  subst hK
  exact call_isi
end
/-! ### frozen data: numbers, texts, None, truths, tuples of these -/
mutual
inductive Fz (H : Hp) : V → PyData → Prop
  | non : Fz H .non .none
  | bl (b : Bool) : Fz H (.bl b) (.bool b)
  | int (i : Int) : Fz H (.int i) (.int i)
  | str (x : Str) : Fz H (.str x) (.str x)
  | tup {a : Addr} {xs : List V} {ds : List PyData} : H a = some (.tup xs) → FzA H xs ds → Fz H (.ref a) (.tuple ds)
inductive FzA (H : Hp) : List V → List PyData → Prop
  | nil : FzA H [] []
  | cons {v : V} {vs : List V} {d : PyData} {ds : List PyData} : Fz H v d → FzA H vs ds → FzA H (v :: vs) (d :: ds)
end
/-- tuples stay -/
def Kt (H H' : Hp) : Prop := ∀ b xs, H b = some (.tup xs) → H' b = some (.tup xs)
theorem Kt.rfl' {H : Hp} : Kt H H := fun _ _ h => h
theorem Kt.trans {H H1 H2 : Hp} (a : Kt H H1) (b : Kt H1 H2) : Kt H H2 := fun c o h => b c o (a c o h)
theorem Kt.new {H : Hp} {p : Addr} {o : HO} (n : H p = none) : Kt H (upd H p o) := fun b xs h => by
  rw [upd_ne (ne_of_none h n)]
  exact h
theorem Kt.lst {H : Hp} {p : Addr} {xs : List V} {o : HO} (n : H p = some (.lst xs)) : Kt H (upd H p o) := fun b ys h => by
  have e : b ≠ p := fun z => by
    rw [z, n] at h
    cases h
  rw [upd_ne e]
  exact h
theorem Kp.kt {r : Addr} {H H' : Hp} {xs : List V} (k : Kp r H H') (h : H r = some (.lst xs)) : Kt H H' := fun b ys e => k b _ (fun z => by
  rw [z, h] at e
  cases e) e
theorem Same.kt {H H' : Hp} (k : Same H H') : Kt H H' := fun b ys e => k b _ e
mutual
theorem Fz.mono {H H' : Hp} (k : Kt H H') : ∀ (d : PyData) (v : V), Fz H v d → Fz H' v d
  | .none, _, .non => .non
  | .bool _, _, .bl b => .bl b
  | .int _, _, .int i => .int i
  | .str _, _, .str x => .str x
  | .tuple ds, _, .tup h a => .tup (k _ _ h) (FzA.mono k ds _ a)
theorem FzA.mono {H H' : Hp} (k : Kt H H') : ∀ (ds : List PyData) (vs : List V), FzA H vs ds → FzA H' vs ds
  | [], _, .nil => .nil
  | d :: ds, _, .cons h a => .cons (Fz.mono k d _ h) (FzA.mono k ds _ a)
end
theorem Fz.kt {H H' : Hp} {v : V} {d : PyData} (h : Fz H v d) (k : Kt H H') : Fz H' v d := Fz.mono k d v h
theorem FzA.kt {H H' : Hp} {vs : List V} {ds : List PyData} (h : FzA H vs ds) (k : Kt H H') : FzA H' vs ds := FzA.mono k ds vs h
mutual
theorem Fz.dp {K : PySem.W.Frag} {H : Hp} : ∀ (d : PyData) (v : V), Fz H v d → Dp K H v d
  | .none, _, .non => .non
  | .bool _, _, .bl b => .bl b
  | .int _, _, .int i => .int i
  | .str _, _, .str x => .str x
  | .tuple ds, _, .tup h a => .tup (.inl (.inl h)) (FzA.dp ds _ a)
theorem FzA.dp {K : PySem.W.Frag} {H : Hp} : ∀ (ds : List PyData) (vs : List V), FzA H vs ds → DpAll K H vs ds
  | [], _, .nil => .nil
  | d :: ds, _, .cons h a => .cons (Fz.dp d _ h) (FzA.dp ds _ a)
end
theorem Fz.to {K : PySem.W.Frag} {H : Hp} {v : V} {d : PyData} (h : Fz H v d) : Dp K H v d := Fz.dp d v h
theorem FzA.len : ∀ {H : Hp} {vs : List V} {ds : List PyData}, FzA H vs ds → vs.length = ds.length
  | _, _, _, .nil => rfl
  | _, _, _, .cons _ a => by
    rw [List.length_cons, List.length_cons, FzA.len a]
theorem FzA.get : ∀ {H : Hp} {vs : List V} {ds : List PyData} {i : Nat} {d : PyData}, FzA H vs ds → ds[i]? = some d → ∃ v, vs[i]? = some v ∧ Fz H v d
  | _, _, _, _, _, .nil, h => by simp at h
  | _, _, _, 0, _, .cons a _, h => ⟨_, rfl, Option.some.inj h ▸ a⟩
  | _, _, _, i + 1, _, .cons _ a, h => FzA.get (i := i) a h
theorem FzA.getV : ∀ {H : Hp} {vs : List V} {ds : List PyData} {i : Nat} {v : V}, FzA H vs ds → vs[i]? = some v → ∃ d, ds[i]? = some d ∧ Fz H v d
  | _, _, _, _, _, .nil, h => by simp at h
  | _, _, _, 0, _, .cons a _, h => ⟨_, rfl, Option.some.inj h ▸ a⟩
  | _, _, _, i + 1, _, .cons _ a, h => FzA.getV (i := i) a h
theorem FzA.app : ∀ {H : Hp} {vs ws : List V} {ds es : List PyData}, FzA H vs ds → FzA H ws es → FzA H (vs ++ ws) (ds ++ es)
  | _, _, _, _, _, .nil, b => b
  | _, _, _, _, _, .cons a r, b => .cons a (FzA.app r b)
theorem FzA.snoc {H : Hp} {vs : List V} {ds : List PyData} {v : V} {d : PyData} (a : FzA H vs ds) (b : Fz H v d) : FzA H (vs ++ [v]) (ds ++ [d]) := a.app (.cons b .nil)
theorem FzA.ints : ∀ {H : Hp} {ns : List Int} {vs : List V}, FzA H vs (ns.map PyData.int) → vs = ns.map V.int
  | _, [], _, .nil => rfl
  | _, n :: ns, _, .cons (.int _) a => by
    rw [FzA.ints (ns := ns) a]
    rfl
theorem FzA.ofInts : ∀ {H : Hp} {ns : List Int}, FzA H (ns.map V.int) (ns.map PyData.int)
  | _, [] => .nil
  | _, n :: ns => .cons (.int n) (FzA.ofInts (ns := ns))
/-- a tuple, opened -/
theorem Fz.open {H : Hp} {v : V} {ds : List PyData} (h : Fz H v (.tuple ds)) : ∃ (a : Addr) (xs : List V), v = .ref a ∧ H a = some (.tup xs) ∧ FzA H xs ds := by
  cases h with
  | tup h a => exact ⟨_, _, rfl, h, a⟩
theorem FzA.one {H : Hp} {vs : List V} {d : PyData} (h : FzA H vs [d]) : ∃ x, vs = [x] ∧ Fz H x d := by
  cases h with
  | cons a r =>
    cases r
    exact ⟨_, rfl, a⟩
theorem FzA.two {H : Hp} {vs : List V} {d e : PyData} (h : FzA H vs [d, e]) : ∃ x y, vs = [x, y] ∧ Fz H x d ∧ Fz H y e := by
  cases h with
  | cons a r =>
    obtain ⟨y, rfl, b⟩ := r.one
    exact ⟨_, y, rfl, a, b⟩
theorem FzA.three {H : Hp} {vs : List V} {d e f : PyData} (h : FzA H vs [d, e, f]) : ∃ x y z, vs = [x, y, z] ∧ Fz H x d ∧ Fz H y e ∧ Fz H z f := by
  cases h with
  | cons a r =>
    obtain ⟨y, z, rfl, b, c⟩ := r.two
    exact ⟨_, y, z, rfl, a, b, c⟩
theorem Fz.isStr {H : Hp} {v : V} {x : Str} (h : Fz H v (.str x)) : v = .str x := by
  cases h
  rfl
theorem Fz.isInt {H : Hp} {v : V} {i : Int} (h : Fz H v (.int i)) : v = .int i := by
  cases h
  rfl
/-- a tuple just made -/
theorem Fz.made {H : Hp} {p : Addr} {xs : List V} {ds : List PyData} (n : H p = Option.none) (h : FzA H xs ds) : Fz (upd H p (.tup xs)) (.ref p) (.tuple ds) := .tup upd_same (h.kt (.new n))
theorem at_ints {ns : List Int} {d : Int} (h0 : 0 ≤ d) (h1 : d < (ns.length : Nat)) : ∃ t ∈ ns, atI (ns.map V.int) d = some (.int t) := by
  have hd : d.toNat < ns.length := by omega
  refine ⟨ns[d.toNat], List.getElem_mem hd, L2.at_of (j := d.toNat) (by omega) ?_⟩
  rw [List.getElem?_map, List.getElem?_eq_getElem hd]
  rfl
/-! ### tables -/
abbrev rowD (row : List Int) : PyData := .tuple (row.map PyData.int)
abbrev rowsD (rows : List (List Int)) : PyData := .tuple (rows.map rowD)
abbrev tabD (cols : List Nat) (rows : List (List Int)) : PyData := .tuple [.str ⟨cols.toArray⟩, rowsD rows]
/-- rising unlike letters -/
structure Cols (l : List Nat) : Prop where
  up : l.Pairwise (· < ·)
  az : ∀ c ∈ l, 97 ≤ c ∧ c ≤ 122
theorem Cols.nd {l : List Nat} (c : Cols l) : l.Nodup := c.up.imp fun {a b} h => by
  have : a < b := h
  omega
def RowOk (n : Nat) (row : List Int) : Prop := row.length = n ∧ ∀ x ∈ row, 0 ≤ x ∧ x < 1000
def RowsOk (n : Nat) (rows : List (List Int)) : Prop := ∀ row ∈ rows, RowOk n row
theorem row_open {H : Hp} {v : V} {row : List Int} (h : Fz H v (rowD row)) : ∃ a, v = .ref a ∧ H a = some (.tup (row.map V.int)) := by
  obtain ⟨a, xs, rfl, ha, f⟩ := h.open
  rw [FzA.ints f] at ha
  exact ⟨a, rfl, ha⟩
theorem row_made {H : Hp} {p : Addr} {row : List Int} (n : H p = none) : Fz (upd H p (.tup (row.map V.int))) (.ref p) (rowD row) := Fz.made n FzA.ofInts
theorem tab_open {H : Hp} {v : V} {cols : List Nat} {rows : List (List Int)} (h : Fz H v (tabD cols rows)) : ∃ (t R : Addr) (vs : List V), v = .ref t ∧ H t = some (.tup [tx cols, .ref R]) ∧ H R = some (.tup vs) ∧ FzA H vs (rows.map rowD) := by
  obtain ⟨t, xs, rfl, ht, f⟩ := h.open
  obtain ⟨x, y, rfl, fx, fy⟩ := f.two
  obtain ⟨R, vs, rfl, hR, fv⟩ := fy.open
  rw [fx.isStr] at ht
  exact ⟨t, R, vs, rfl, ht, hR, fv⟩
theorem can_row (row : List Int) : PyData.canLay0 (rowD row) = true := by
  show PyData.canLayAll0 (row.map PyData.int) = true
  induction row with
  | nil => rfl
  | cons a r ih =>
    show (PyData.canLay0 (.int a) && PyData.canLayAll0 (r.map PyData.int)) = true
    rw [ih]
    rfl
theorem can_rows (rows : List (List Int)) : PyData.canLay0 (rowsD rows) = true := by
  show PyData.canLayAll0 (rows.map rowD) = true
  induction rows with
  | nil => rfl
  | cons a r ih =>
    show (PyData.canLay0 (rowD a) && PyData.canLayAll0 (r.map rowD)) = true
    rw [ih, can_row]
    rfl
theorem dep_row (row : List Int) : PyData.depth (rowD row) ≤ 1 := by
  show PyData.depthAll (row.map PyData.int) + 1 ≤ 1
  induction row with
  | nil => exact Nat.le_refl _
  | cons a r ih =>
    show max (PyData.depth (.int a)) (PyData.depthAll (r.map PyData.int)) + 1 ≤ 1
    have e : PyData.depth (.int a) = 0 := rfl
    rw [e]
    omega
theorem dep_rows (rows : List (List Int)) : PyData.depth (rowsD rows) ≤ 2 := by
  show PyData.depthAll (rows.map rowD) + 1 ≤ 2
  induction rows with
  | nil => decide
  | cons a r ih =>
    show max (PyData.depth (rowD a)) (PyData.depthAll (r.map rowD)) + 1 ≤ 2
    have := dep_row a
    omega
theorem shaped_rows (rows : List (List Int)) : SeqAt.shaped (rowsD rows) = true := by
  unfold SeqAt.shaped
  rw [can_rows, Bool.true_and]
  have := dep_rows rows
  exact decide_eq_true (by omega)
/-! ### questions -/
abbrev eqD (p : Nat × Int) : PyData := .tuple [.str ⟨#[p.1]⟩, .int p.2]
abbrev eqsD (es : List (Nat × Int)) : PyData := .tuple (es.map eqD)
abbrev rchD : Option (Nat × Int × Int) → PyData
  | none => .none
  | some (c, lo, hi) => .tuple [.str ⟨#[c]⟩, .int lo, .int hi]
abbrev qD (es : List (Nat × Int)) (rc : Option (Nat × Int × Int)) : PyData := .tuple [eqsD es, rchD rc]
structure QOk (cols : List Nat) (es : List (Nat × Int)) (rc : Option (Nat × Int × Int)) : Prop where
  up : (es.map (·.1)).Pairwise (· < ·)
  ok : ∀ p ∈ es, p.1 ∈ cols ∧ 0 ≤ p.2 ∧ p.2 < 1000
  len : es.length ≤ cols.length
  rc : ∀ c lo hi, rc = some (c, lo, hi) → c ∈ cols ∧ c ∉ es.map (·.1) ∧ 0 ≤ lo ∧ lo ≤ hi ∧ hi < 1000
theorem idx_first : ∀ {l : List Nat} {c i : Nat}, l[i]? = some c → (∀ k, k < i → l[k]? ≠ some c) → l.idxOf c = i
  | [], c, i, h, _ => by simp at h
  | a :: l, c, 0, h, _ => by
    have e : a = c := Option.some.inj h
    rw [e]
    simp
  | a :: l, c, i + 1, h, hn => by
    have e : a ≠ c := fun z => hn 0 (Nat.succ_pos _) (by rw [z]; rfl)
    have ih := idx_first (l := l) (c := c) (i := i) h fun k hk => hn (k + 1) (Nat.succ_lt_succ hk)
    rw [List.idxOf_cons, ih]
    have eb : (a == c) = false := by simp [e]
    rw [eb]
    rfl
/-- pairs as a dict's entries -/
abbrev kvI (p : Nat × Int) : Key × V := (Sum.inr (sS p.1), .int p.2)
theorem pairs_of {K : PySem.W.Frag} {H : Hp} : ∀ {es : List (Nat × Int)} {vs : List V}, FzA H vs (es.map eqD) → ∃ ps : List Addr, vs = ps.map V.ref ∧ Paired (fun p kv => SqT K H p [kV kv.1, kv.2]) ps (es.map kvI)
  | [], _, .nil => ⟨[], rfl, .nil⟩
  | e :: es, _, .cons a r => by
    obtain ⟨p, xs, rfl, hp, f⟩ := a.open
    obtain ⟨x, y, rfl, fx, fy⟩ := f.two
    obtain ⟨ps, rfl, hps⟩ := pairs_of (K := K) (es := es) r
    rw [fx.isStr, fy.isInt] at hp
    exact ⟨p :: ps, rfl, .cons (.inl (.inl hp)) hps⟩
theorem merge_new : ∀ (more acc : List (Key × V)), ((acc ++ more).map (·.1)).Nodup → mergeK acc more = acc ++ more
  | [], acc, _ => by
    rw [List.append_nil]
    rfl
  | kv :: more, acc, h => by
    have h2 : ((acc ++ [kv]) ++ more).map (·.1) = (acc ++ kv :: more).map (·.1) := by
      rw [List.append_assoc]
      rfl
    have nk : valV acc kv.1 = none := by
      cases e : valV acc kv.1 with
      | none => rfl
      | some v =>
        exfalso
        have hm : kv.1 ∈ acc.map (·.1) := valV_in e
        rw [List.map_append] at h
        have := (List.nodup_append.mp h).2.2
        exact this _ hm _ (by simp) rfl
    show mergeK (putK acc kv.1 kv.2) more = _
    rw [putK_new kv.2 nk]
    have e := merge_new more (acc ++ [(kv.1, kv.2)]) (by
      show (((acc ++ [kv]) ++ more).map (·.1)).Nodup
      rw [h2]
      exact h)
    rw [e, List.append_assoc]
    rfl
theorem keys_nd {es : List (Nat × Int)} (h : (es.map (·.1)).Nodup) : ((es.map kvI).map (·.1)).Nodup := by
  rw [List.map_map]
  have e : es.map ((fun kv : Key × V => kv.1) ∘ kvI) = (es.map (·.1)).map fun c => (Sum.inr (sS c) : Key) := by
    rw [List.map_map]
    rfl
  rw [e]
  refine List.Pairwise.map _ (fun a b hab z => hab ?_) h
  have z2 : sS a = sS b := Sum.inr.inj z
  have z3 : (#[a] : Array Nat) = #[b] := congrArg Str.cps z2
  simpa using z3
theorem merge_es {es : List (Nat × Int)} (h : (es.map (·.1)).Nodup) : mergeK [] (es.map kvI) = es.map kvI := merge_new _ [] (keys_nd h)
theorem val_es (c : Nat) : ∀ es : List (Nat × Int), (valV (es.map kvI) (Sum.inr (sS c))).isSome = decide (c ∈ es.map (·.1))
  | [] => rfl
  | e :: es => by
    by_cases h : e.1 = c
    · rw [List.map_cons, valV_pos (by show Sum.inr (sS e.1) = Sum.inr (sS c); rw [h])]
      simp [h]
    · rw [List.map_cons, valV_neg (fun z => h ?_), val_es c es]
      · have h2 : ¬ c = e.1 := fun z => h z.symm
        simp [h2]
      · have z2 : sS e.1 = sS c := Sum.inr.inj z
        have z3 : (#[e.1] : Array Nat) = #[c] := congrArg Str.cps z2
        simpa using z3
theorem dp_signs {K : PySem.W.Frag} {H : Hp} : ∀ l : List Nat, DpAll K H (l.map sg) (l.map fun c => PyData.str (sS c))
  | [] => .nil
  | c :: l => .cons (.str _) (dp_signs l)
theorem shaped_signs {l : List Nat} (h : ∀ c ∈ l, c ≤ 122) : SeqAt.shaped (.list (l.map fun c => PyData.str (sS c))) = true := by
  have e1 : PyData.canLayAll0 (l.map fun c => PyData.str (sS c)) = true := by
    induction l with
    | nil => rfl
    | cons c l ih =>
      show (PyData.canLay0 (.str (sS c)) && PyData.canLayAll0 (l.map fun c => PyData.str (sS c))) = true
      rw [ih fun d hd => h d (List.mem_cons_of_mem _ hd), Bool.and_true]
      have hc := h c (List.mem_cons_self ..)
      show (#[c] : Array Nat).all (· < 0x110000) = true
      simp
      omega
  have e2 : PyData.depthAll (l.map fun c => PyData.str (sS c)) = 0 := by
    clear h e1
    induction l with
    | nil => rfl
    | cons c l ih =>
      show max (PyData.depth (.str (sS c))) (PyData.depthAll (l.map fun c => PyData.str (sS c))) = 0
      rw [ih]
      rfl
  unfold SeqAt.shaped
  show (PyData.canLayAll0 _ && decide (PyData.depthAll _ + 1 ≤ 64)) = true
  rw [e1, e2]
  rfl
/-- the place of a letter -/
theorem ix_one {l : List Nat} {c : Nat} (h : c ∈ l) : ∃ r, Builtin.Str.occurrences (⟨l.toArray⟩ : Str) ⟨#[c]⟩ 0 (⟨l.toArray⟩ : Str).length 1 = l.idxOf c :: r := by
  have hx : (⟨l.toArray⟩ : Str).cps.toList = l := by simp
  rcases PySem.StrLaws.occ_head (⟨l.toArray⟩ : Str) ⟨#[c]⟩ 1 (Nat.le_refl 1) with ⟨h0, hn⟩ | ⟨i, r, h0, ha, hn⟩
  · exfalso
    obtain ⟨i, hi⟩ := List.mem_iff_getElem?.mp h
    exact hn i ((PySem.StrLaws.subAt_one _ c i).mpr (by rw [hx]; exact hi))
  · refine ⟨r, ?_⟩
    rw [h0]
    have e1 : l[i]? = some c := by
      have := (PySem.StrLaws.subAt_one _ c i).mp ha
      rw [hx] at this
      exact this
    have e3 : l.idxOf c = i := idx_first e1 fun k hk z => hn k hk ((PySem.StrLaws.subAt_one _ c k).mpr (by rw [hx]; exact z))
    rw [e3]
end My

set_option Elab.async false
set_option linter.all false
set_option maxRecDepth 100000
set_option maxHeartbeats 1000000
namespace My
open PySem PySem.Spec PyProof.Rows L2
/-! ### name = {.. for ..} on one line -/
section
variable {X : Cx} {pins : List (Addr × Obj)} {σ : L2.St} {H : Hp} {s : Shared}
end
/-! ### spans: letters with their bounds -/
theorem sS_inj {a b : Nat} (h : sS a = sS b) : a = b := by
  have z3 : (#[a] : Array Nat) = #[b] := congrArg Str.cps h
  simpa using z3
/-! ### what fits -/
/-! ### data with lists -/
mutual
inductive Ft (H : Hp) : V → PyData → Prop
  | non : Ft H .non .none
  | bl (b : Bool) : Ft H (.bl b) (.bool b)
  | int (i : Int) : Ft H (.int i) (.int i)
  | str (x : Str) : Ft H (.str x) (.str x)
  | lst {a : Addr} {xs : List V} {ds : List PyData} : H a = some (.lst xs) → FtA H xs ds → Ft H (.ref a) (.list ds)
  | tup {a : Addr} {xs : List V} {ds : List PyData} : H a = some (.tup xs) → FtA H xs ds → Ft H (.ref a) (.tuple ds)
inductive FtA (H : Hp) : List V → List PyData → Prop
  | nil : FtA H [] []
  | cons {v : V} {vs : List V} {d : PyData} {ds : List PyData} : Ft H v d → FtA H vs ds → FtA H (v :: vs) (d :: ds)
end
mutual
theorem Ft.mono {H H' : Hp} (k : Same H H') : ∀ (d : PyData) (v : V), Ft H v d → Ft H' v d
  | .none, _, .non => .non
  | .bool _, _, .bl b => .bl b
  | .int _, _, .int i => .int i
  | .str _, _, .str x => .str x
  | .list ds, _, .lst h a => .lst (k _ _ h) (FtA.mono k ds _ a)
  | .tuple ds, _, .tup h a => .tup (k _ _ h) (FtA.mono k ds _ a)
theorem FtA.mono {H H' : Hp} (k : Same H H') : ∀ (ds : List PyData) (vs : List V), FtA H vs ds → FtA H' vs ds
  | [], _, .nil => .nil
  | d :: ds, _, .cons h a => .cons (Ft.mono k d _ h) (FtA.mono k ds _ a)
end
theorem FtA.len : ∀ {H : Hp} {vs : List V} {ds : List PyData}, FtA H vs ds → vs.length = ds.length
  | _, _, _, .nil => rfl
  | _, _, _, .cons _ a => by
    rw [List.length_cons, List.length_cons, FtA.len a]
theorem FtA.getV : ∀ {H : Hp} {vs : List V} {ds : List PyData} {i : Nat} {v : V}, FtA H vs ds → vs[i]? = some v → ∃ d, ds[i]? = some d ∧ Ft H v d
  | _, _, _, _, _, .nil, h => by simp at h
  | _, _, _, 0, _, .cons a _, h => ⟨_, rfl, Option.some.inj h ▸ a⟩
  | _, _, _, i + 1, _, .cons _ a, h => FtA.getV (i := i) a h
theorem FtA.ofInts : ∀ {H : Hp} (ns : List Int), FtA H (ns.map V.int) (ns.map PyData.int)
  | _, [] => .nil
  | _, n :: ns => .cons (.int n) (FtA.ofInts ns)
mutual
def wd : PyData → Nat
  | .list xs => max xs.length (wdA xs)
  | .tuple xs => max xs.length (wdA xs)
  | _ => 0
def wdA : List PyData → Nat
  | [] => 0
  | x :: xs => max (wd x) (wdA xs)
end
/-! ### what isinstance tells of data -/
def tyN : PyData → String
  | .none => "NoneType"
  | .bool _ => "bool"
  | .int _ => "int"
  | .str _ => "str"
  | .list _ => "list"
  | .tuple _ => "tuple"
  | .dict _ => "dict"
def isTp : PyData → Bool
  | .tuple _ => true
  | _ => false
def isBl : PyData → Bool
  | .bool _ => true
  | _ => false
def isSt : PyData → Bool
  | .str _ => true
  | _ => false
theorem ty_ft {K : PySem.W.Frag} {H : Hp} {v : V} {d : PyData} (h : Ft H v d) : TyX K H v (.type (tyN d)) := by
  cases h with
  | non => exact .base .non
  | bl b => exact .base (.bl b)
  | int i => exact .base (.int i)
  | str x => exact .base (.str x)
  | lst h _ => exact .base (.lst h)
  | tup h _ => exact .base (.tup h)
theorem kit_tp {K : PySem.W.Frag} (d : PyData) : PySem.W.kitOne K (.type (tyN d)) (.type "tuple") = some (isTp d) := by
  cases d <;> exact kit_ty (by kernel_rfl)
theorem kit_bl {K : PySem.W.Frag} (d : PyData) : PySem.W.kitOne K (.type (tyN d)) (.type "bool") = some (isBl d) := by
  cases d <;> exact kit_ty (by kernel_rfl)
theorem kit_st {K : PySem.W.Frag} (d : PyData) : PySem.W.kitOne K (.type (tyN d)) (.type "str") = some (isSt d) := by
  cases d <;> exact kit_ty (by kernel_rfl)
end My

set_option Elab.async false
set_option linter.all false
set_option maxRecDepth 100000
set_option maxHeartbeats 1000000
namespace My
open PySem PySem.Spec PyProof.Rows L2
/-! ### lists of numbers compared -/
/-! ### questions and what fits -/
theorem QOk.sub {cols : List Nat} {es es' : List (Nat × Int)} {rc : Option (Nat × Int × Int)} (h : QOk cols es rc) (s : es'.Sublist es) : QOk cols es' none :=
  ⟨h.up.sublist (s.map _), fun p hp => h.ok p (s.subset hp), Nat.le_trans s.length_le h.len, fun _ _ _ z => nomatch z⟩
theorem QOk.reach {cols : List Nat} {es : List (Nat × Int)} {rc : Option (Nat × Int × Int)} (h : QOk cols es rc) {c : Nat} {lo hi : Int} (h1 : c ∈ cols) (h2 : c ∉ es.map (·.1)) (h3 : 0 ≤ lo) (h4 : lo ≤ hi) (h5 : hi < 1000) : QOk cols es (some (c, lo, hi)) :=
  ⟨h.up, h.ok, h.len, fun c' lo' hi' z => by
    have z2 := Option.some.inj z
    have e1 : c = c' := congrArg (·.1) z2
    have e2 : lo = lo' := congrArg (·.2.1) z2
    have e3 : hi = hi' := congrArg (·.2.2) z2
    rw [← e1, ← e2, ← e3]
    exact ⟨h1, h2, h3, h4, h5⟩⟩
end My

set_option Elab.async false
set_option linter.all false
set_option maxRecDepth 100000
set_option maxHeartbeats 2000000
namespace My
open PySem PySem.Spec PyProof.Rows L2
/-! ### generator expressions whose element changes nothing -/
section
variable {X : Cx} {pins : List (Addr × Obj)} {σ : L2.St} {H : Hp} {s : Shared}
/-- the code object of a generator expression comes out of its maker's table, or is made and written into it; then the built-ins are looked up -/
theorem gen_code {c P : Addr} {gpos : Pos} {qn : Str} {scope : Scope} {R : Value → Addr → Shared → Prop} (I : Inv X pins σ H s) (TB : LamX.TabB X.base X.mg c P) (hcode : X.env.code = .ref c) (hT : GxR.TabG H P)
    (h : ∀ (code : Value) (H2 : Hp) (s2 : Shared), GxR.Tabbed P H H2 → Inv X pins σ H2 s2 → (∀ b u, b ≠ P → s.heap.get? b = some u → s2.heap.get? b = some u) → s.heap.objs.size ≤ s2.heap.objs.size → R code builtinsNs s2) :
    wpAny (model X.prog X.w) X.A (genexprCode X.env gpos qn scope) (fun code s3 => wpAny (model X.prog X.w) X.A (builtinsFor X.env.globals X.env.builtins) (R code) X.xe s3) X.xe s := by
  obtain ⟨ps, hP, tri⟩ := hT
  have rawP := I.hok P _ hP
  have hd : PySem.W.CodeHd s.heap c P := TB.code.keeps I.bk
  have go : ∀ (code : Value) (g : Heap) (tk : Nat) (more : Array Value), Heap.ExtBut P s.heap g → s.heap.objs.size ≤ g.objs.size → g.get? P = some { cls := .none, data := .fields (ps ++ more) } → TriplesOk (ps ++ more).toList →
      wpAny (model X.prog X.w) X.A (builtinsFor X.env.globals X.env.builtins) (R code) X.xe { s with heap := g, toks := tk } := fun code g tk more ext le tab tri' => by
    have J : Inv X pins σ (upd H P (.tbl (ps ++ more))) { s with heap := g, toks := tk } := GxR.inv_tab (g' := s.gens) (d' := s.drawn) I hP ext tab I.bare
    obtain ⟨bm, ob, b1, b2, _, _, b5, b6, b7, b8⟩ := TB.bm
    refine wpAny_builtinsFor (m := X.mg) ?_ b1 b2 (J.bk _ _ b5) b6 b7 b8 (h code _ _ ⟨⟨_, upd_same, tri'⟩, fun b ne => upd_ne ne⟩ J ext le)
    rw [J.ok.glob]
    exact J.mod.glob.keeps J.bk
  match hf : codeAmong gpos ps.toList with
  | some cv => exact wpAny_genexprCode_hit hcode (hd.code rawP tri) hf (go cv s.heap s.toks #[] (Heap.ExtBut.refl _ _) (Nat.le_refl _) (by rw [Array.append_empty]; exact rawP) (by rw [Array.append_empty]; exact tri))
  | none =>
    refine wpAny_genexprCodeX hcode (hd.code rawP tri) (hd.tab rawP) hf fun c' g tk ext ge lt isC _ isT _ => go _ g tk _ ext (Nat.le_trans ge (Nat.le_of_lt lt)) isT.2 ?_
    obtain ⟨_, _, _, _, _, _, _, _, _, _, _, _, _, _, _, _, _, _, _, z, _⟩ := isC
    exact z
/-! tuple(elt for x in text): numbers -/
/-! all(elt for x in ..) -/
/-! ### what a captured name holds -/
/-! x in y, y a captured text -/
/-! r[y.index(x)], r a captured tuple of numbers, y a captured text -/
end
end My

set_option Elab.async false
set_option linter.all false
set_option maxRecDepth 100000
set_option maxHeartbeats 2000000
namespace My
open PySem PySem.Spec PyProof.Rows L2
/-! ### tables of code objects: they may grow, all else stays -/
def TG (Ps : List Addr) (H : Hp) : Prop := ∀ P ∈ Ps, GxR.TabG H P
def Sx (Ps : List Addr) (H H' : Hp) : Prop := ∀ b o, b ∉ Ps → H b = some o → H' b = some o
theorem Sx.rfl' {Ps : List Addr} {H : Hp} : Sx Ps H H := fun _ _ _ h => h
theorem Sx.trans {Ps : List Addr} {H H1 H2 : Hp} (a : Sx Ps H H1) (b : Sx Ps H1 H2) : Sx Ps H H2 := fun c o n h => b c o n (a c o n h)
theorem Same.sx {Ps : List Addr} {H H' : Hp} (s : Same H H') : Sx Ps H H' := fun b o _ h => s b o h
theorem TG.same {Ps : List Addr} {H H' : Hp} (t : TG Ps H) (s : Same H H') : TG Ps H' := fun P hP => by
  obtain ⟨ps, h, r⟩ := t P hP
  exact ⟨ps, s _ _ h, r⟩
theorem TG.not {Ps : List Addr} {H : Hp} {b : Addr} {o : HO} (t : TG Ps H) (h : H b = some o) (ho : ∀ q, o ≠ .tbl q) : b ∉ Ps := fun hb => by
  obtain ⟨ps, h2, _⟩ := t b hb
  rw [h2] at h
  exact ho ps (Option.some.inj h).symm
theorem TG.kp {Ps : List Addr} {H H' : Hp} {r : Addr} {xs : List V} (t : TG Ps H) (hr : H r = some (.lst xs)) (k : Kp r H H') : TG Ps H' := fun P hP => by
  obtain ⟨ps, h, q⟩ := t P hP
  refine ⟨ps, k _ _ (fun z => ?_) h, q⟩
  rw [z, hr] at h
  cases h
theorem TG.new {Ps : List Addr} {H : Hp} {p : Addr} {o : HO} (t : TG Ps H) (n : H p = none) : TG Ps (upd H p o) := t.same (Same.new (Same.refl H) n)
theorem Sx.kt {Ps : List Addr} {H H' : Hp} (t : TG Ps H) (s : Sx Ps H H') : Kt H H' := fun b xs h => s b _ (t.not h fun q z => nomatch z) h
theorem Sx.lst {Ps : List Addr} {H H' : Hp} {b : Addr} {xs : List V} (t : TG Ps H) (s : Sx Ps H H') (h : H b = some (.lst xs)) : H' b = some (.lst xs) := s b _ (t.not h fun q z => nomatch z) h
theorem Sx.new {Ps : List Addr} {H H1 : Hp} {p : Addr} {o : HO} (s : Sx Ps H H1) (n : H1 p = none) : Sx Ps H (upd H1 p o) := fun b x nb h => keep_new (s b x nb h) n
theorem Sx.mut {Ps : List Addr} {H H1 : Hp} {p : Addr} {o : HO} (s : Sx Ps H H1) (n : H p = none) : Sx Ps H (upd H1 p o) := fun b x nb h => keep_ne (s b x nb h) (ne_of_none h n)
theorem Sx.free {Ps : List Addr} {H H' : Hp} {p : Addr} (t : TG Ps H') (s : Sx Ps H H') (h : H' p = none) : H p = none := by
  cases q : H p with
  | none => rfl
  | some o =>
    by_cases hp : p ∈ Ps
    · obtain ⟨ps, h2, _⟩ := t p hp
      rw [h] at h2
      cases h2
    · rw [s p o hp q] at h
      cases h
theorem Sx.seqL {K : PySem.W.Frag} {Ps : List Addr} {H H' : Hp} {a : Addr} {xs : List V} (t : TG Ps H) (s : Sx Ps H H') (h : SqL K H a xs) : SqL K H' a xs := by
  rcases h with (h | ⟨o, h⟩) | h
  · exact .inl (.inl (s.lst t h))
  · exact .inl (.inr ⟨o, s _ _ (t.not h fun q z => nomatch z) h⟩)
  · exact .inr h
/-- one table of them has grown -/
theorem Tabbed.sx {Ps : List Addr} {P : Addr} {H H' : Hp} (hP : P ∈ Ps) (t : GxR.Tabbed P H H') : Sx Ps H H' := fun b o nb h => by
  rw [t.2 b fun z => nb (z ▸ hP)]
  exact h
theorem Tabbed.tg {Ps : List Addr} {P : Addr} {H H' : Hp} (g : TG Ps H) (t : GxR.Tabbed P H H') : TG Ps H' := fun P' hP' => by
  by_cases e : P' = P
  · rw [e]
    exact t.1
  · obtain ⟨ps, h, q⟩ := g P' hP'
    exact ⟨ps, (t.2 P' e).trans h, q⟩
/-! ### a def whose code object is told -/
def FunC (K : PySem.W.Frag) (x qual : Str) (st : Stmt) (f : Addr) (fd : FuncData) (c : Addr) : Prop :=
  ∃ (oc : Value) (od : Option Addr) (kV doc pm : Value) (an : Option Addr) (ct : Value) (osl : Array (Option Value)), fd = PySem.W.fnOf x qual (defArgs st) (defBody st) (defScope st) .none kV doc pm an (.ref c) ct ∧ K.lookup f = some ⟨oc, od, .func fd, osl⟩ ∧ PySem.W.codeIn K (.ref c) qual = true
theorem FunC.ok {P : Program} {w : World} {K : PySem.W.Frag} {mg : Str → Option Value} {base : Heap} {x qual : Str} {st : Stmt} {f c : Addr} {fd : FuncData} {N ps : List Str} {k : Nat} {sp : Sp} (F : FunC K x qual st f fd c) (S : FnScope N ps (defScope st)) (len : ∀ vs H Q E, sp vs H Q E → vs.length = ps.length)
    (hbody : ∀ (A : Around) (outer : List Env) (s : Shared) (H : Hp) (vs : List V) (Q : VK) (E : XK), Room k (A.deeper (envOfC qual (defScope st) s.heap.objs.size f (.ref c))) → sp vs H Q E →
      ∃ t, PSs (cxOf CX0 P w K mg base N qual (defScope st) f (.ref c) A outer s H E).nox (defBody st) t ∧ t { nx := fun _ H' => Q .non H', rt := Q } (start N vs) H) : FnOk P w K mg base CX0 (k + 1) f fd ps sp := by
  obtain ⟨oc, od, kV, doc, pm, an, ct, osl, rfl, lk, hcd⟩ := F
  refine fn_of lk hcd S len fun A outer s H vs Q E hr hsp => ?_
  obtain ⟨t, h, q⟩ := hbody A outer s H vs Q E hr hsp
  exact ⟨t, h.nox, q⟩
theorem FunC.fn {K : PySem.W.Frag} {x qual : Str} {st : Stmt} {f c : Addr} {fd : FuncData} (F : FunC K x qual st f fd c) (k : PySem.W.keepIn K (.ref f) = true) : Fun K x qual st f fd := by
  obtain ⟨oc, od, kV, doc, pm, an, ct, osl, e, lk, hcd⟩ := F
  exact ⟨⟨oc, od, kV, doc, pm, an, .ref c, ct, osl, e, lk, hcd⟩, k⟩
/-! ### the generator expressions that we met -/
/-! ### the end: the tables of all defs are empty -/
def OwnTC (K : PySem.W.Frag) (fa : Addr) (h : Heap) : Prop := ∀ (c P : Addr) (o : Obj) (fd : FuncData) (e : Value) (dd : Option Addr) (vs : Array Value) (sl : Array (Option Value)), K.lookup fa = some o → o.data = .func fd → fd.code = .ref c → K.lookup c = some ⟨e, dd, .fields vs, sl⟩ → vs[11]? = some (.ref P) →
  h.get? P = some { cls := .none, data := .fields #[] } ∧ PySem.W.CodeHd h c P
end My

set_option Elab.async false
set_option linter.all false
set_option maxRecDepth 100000
set_option maxHeartbeats 2000000
namespace My
open PySem PySem.Spec PyProof.Rows L2
/-! ### texts by their codes -/
theorem inV_signs (c : Nat) : ∀ l : List Nat, inV (sg c) (l.map sg) = decide (c ∈ l)
  | [] => rfl
  | d :: l => by
    have ih := inV_signs c l
    show (((sS d) == (sS c)) || inV (sg c) (l.map sg)) = decide (c ∈ d :: l)
    rw [ih]
    by_cases e : d = c
    · rw [e]
      simp
    · have e2 : ((sS d) == (sS c)) = false := by
        rw [Bool.eq_false_iff]
        intro z
        exact e (sS_inj (by simpa using z))
      have e3 : ¬ c = d := fun z => e z.symm
      rw [e2]
      simp [e3]
theorem cut_take (l : List Nat) (k : Nat) : cutS ⟨l.toArray⟩ none (some (k : Int)) = ⟨(l.take k).toArray⟩ := by
  unfold cutS
  rw [HT.sIx_none, HT.sIx_nat]
  show (⟨((l.toArray.toList.drop 0).take (min k l.toArray.size - 0)).toArray⟩ : Str) = _
  have e1 : l.toArray.toList = l := by simp
  have e2 : l.toArray.size = l.length := by simp
  rw [e1, e2, List.drop_zero, Nat.sub_zero]
  congr 2
  rw [List.take_eq_take_iff]
  omega
/-! ### the letters that a question uses -/
section
variable (K : PySem.W.Frag) {X : Cx}
end
/-! ### the bounds that a question asks of a letter -/
theorem TG.mut {Ps : List Addr} {H : Hp} {p : Addr} {xs : List V} {o : HO} (t : TG Ps H) (h : H p = some (.lst xs)) : TG Ps (upd H p o) := fun P hP => by
  obtain ⟨ps, h2, q⟩ := t P hP
  refine ⟨ps, ?_, q⟩
  rw [upd_ne (fun z => ?_)]
  · exact h2
  · rw [z, h] at h2
    cases h2
/-! ### stretches -/
end My

set_option Elab.async false
set_option linter.all false
set_option maxRecDepth 100000
set_option maxHeartbeats 2000000
namespace My
open PySem PySem.Spec PyProof.Rows L2
/-! ### tuples whose own object is told: without a dict of its own -/
section
variable (K : PySem.W.Frag) {X : Cx}
end
/-! ### questions: their equals are such a tuple -/
def KT (H H' : Hp) : Prop := Kt H H' ∧ ∀ b o xs, H b = some (.frz o (.tup xs)) → H' b = some (.frz o (.tup xs))
theorem KT.rfl' {H : Hp} : KT H H := ⟨Kt.rfl', fun _ _ _ h => h⟩
theorem KT.trans {H H1 H2 : Hp} (a : KT H H1) (b : KT H1 H2) : KT H H2 := ⟨a.1.trans b.1, fun c o xs h => b.2 c o xs (a.2 c o xs h)⟩
theorem Same.kT {H H' : Hp} (s : Same H H') : KT H H' := ⟨Same.kt s, fun b o xs h => s b _ h⟩
theorem Kp.kT {r : Addr} {H H' : Hp} {xs : List V} (k : Kp r H H') (hr : H r = some (.lst xs)) : KT H H' := ⟨k.kt hr, fun b o ys h => k b _ (fun z => by
  rw [z, hr] at h
  cases h) h⟩
theorem Sx.kT {Ps : List Addr} {H H' : Hp} (t : TG Ps H) (s : Sx Ps H H') : KT H H' := ⟨s.kt t, fun b o xs h => s b _ (t.not h fun q z => nomatch z) h⟩
theorem KT.new {H : Hp} {p : Addr} {o : HO} (n : H p = none) : KT H (upd H p o) := ⟨Kt.new n, fun b u xs h => keep_new h n⟩
theorem KT.lst {H : Hp} {p : Addr} {xs : List V} {o : HO} (n : H p = some (.lst xs)) : KT H (upd H p o) := ⟨Kt.lst n, fun b u ys h => keep_ne h fun z => by
  rw [z, n] at h
  cases h⟩
end My

set_option Elab.async false
set_option linter.all false
set_option maxRecDepth 100000
set_option maxHeartbeats 2000000
namespace My
open PySem PySem.Spec PyProof.Rows L2
section
variable {X : Cx}
/-! ### text[::-1] -/
/-- the slice ::-1 as it stands behind its making -/
theorem ev_back {pins : List (Addr × Obj)} {σ : L2.St} {H : Hp} {s : Shared} {k : Nat} {p1 p2 p3 : Pos} {Q' : Value → Shared → Prop} (I : Inv X pins σ H s)
    (goal : ∀ (tk : Tok) (s2 : Shared), Inv X pins σ H s2 → Q' (.ref s2.heap.objs.size) { s2 with heap := s2.heap.push { cls := .type "slice", data := .fields #[.none, .none, .int (-1) tk] } }) :
    wpAny (model X.prog X.w) X.A (eval (.Slice none none (some (.UnaryOp .USub (.Constant (.int 1) k p1) p2)) p3) X.env) Q' X.xe s := by
  refine wpAny_Slice ?_
  rw [evalPart_none, evalPart_some]
  refine wpAny_pure (wpAny_pure (thn ((pe_un un_neg pe_int).run pins s σ H (fun x G => x = .int (-1) ∧ G = H) I ⟨1, rfl, rfl, rfl⟩) ?_))
  rintro u s2 ⟨x, G, I2, r, rfl, rfl⟩
  obtain ⟨tk, rfl⟩ := r
  exact goal tk s2 I2
end
section
variable {prog : Program} {w : World} {A : Around} {E : Value → Shared → Prop} {s : Shared}
end
section
variable {X : Cx}
/-! ### sorted(text) -/
end
end My

set_option Elab.async false
set_option linter.all false
set_option maxRecDepth 100000
set_option maxHeartbeats 2000000
namespace My
open PySem PySem.Spec PyProof.Rows L2
section
variable (K : PySem.W.Frag) {X : Cx}
/-! ### the least of a list -/
end
/-! ### keys of a merged dict -/
/-! ### choices: texts in a row -/
abbrev txS (l : List Nat) : Str := ⟨l.toArray⟩
/-! ### prices -/
end My

set_option Elab.async false
set_option linter.all false
set_option maxRecDepth 100000
set_option maxHeartbeats 2000000
namespace My
open PySem PySem.Spec PyProof.Rows L2
/-! ### sorted again -/
/-! ### rows of lists of numbers -/
mutual
theorem Ft.dp {K : PySem.W.Frag} {H : Hp} : ∀ (d : PyData) (v : V), Ft H v d → Dp K H v d
  | .none, _, .non => .non
  | .bool _, _, .bl b => .bl b
  | .int _, _, .int i => .int i
  | .str _, _, .str z => .str z
  | .list ds, _, .lst h a => .lst (.inl (.inl h)) (FtA.dp ds _ a)
  | .tuple ds, _, .tup h a => .tup (.inl (.inl h)) (FtA.dp ds _ a)
theorem FtA.dp {K : PySem.W.Frag} {H : Hp} : ∀ (ds : List PyData) (vs : List V), FtA H vs ds → DpAll K H vs ds
  | [], _, .nil => .nil
  | d :: ds, _, .cons h a => .cons (Ft.dp d _ h) (FtA.dp ds _ a)
end
theorem FtA.snoc {H : Hp} : ∀ {vs : List V} {ds : List PyData} {v : V} {d : PyData}, FtA H vs ds → Ft H v d → FtA H (vs ++ [v]) (ds ++ [d])
  | _, _, _, _, .nil, h => .cons h .nil
  | _, _, _, _, .cons a r, h => .cons a (r.snoc h)
end My
namespace My
open PySem PySem.Spec PyProof.Rows L2
end My

set_option Elab.async false
set_option linter.all false
set_option maxRecDepth 100000
set_option maxHeartbeats 2000000
namespace My
open PySem PySem.Spec PyProof.Rows L2
/-! ### generator expressions whose element calls defs -/
/-- the context of a generator expression's own frame -/
abbrev gxC (X : Cx) (A : Around) (s : Shared) (H : Hp) (cenv : Env) (fp : List Addr) (pn : List (Addr × Obj)) : Cx :=
  { X with A := A, s_0 := s, H_0 := H, env := cenv, outer := X.stack, stack := cenv :: X.stack, ex := fp, fn := fun _ => false, pn := pn, xe := fun _ _ => False }
theorem over_gen {A : Around} {elt : Expr} {gs : List Comprehension} {scope : Scope} {pos : Pos} {it acc : Value} {env : Env} : A.over (.compLoop (.GeneratorExp elt gs scope pos) 0 it acc env) [] = A.deeper env := rfl
section
variable {X : Cx} {pins : List (Addr × Obj)} {σ : L2.St} {H : Hp} {s : Shared}
/-- what its consumer wrote at S while it slept -/
theorem woke {S : Addr} {o o' : Obj} {pins0 : List (Addr × Obj)} {s' : Shared} (I : Inv X ((S, o) :: pins0) σ H s) (h0 : X.s_0.heap.objs.size ≤ S) (hc : ∀ x c, X.env.cells.lookup x = some c → c ≠ S) (hpn : ∀ p ∈ X.pn ++ pins0, p.1 ≠ S)
    (os : s'.os = s.os) (bare : AllBare s'.gens) (keep : ∀ b u, b ≠ S → s.heap.get? b = some u → s'.heap.get? b = some u) (own : s'.heap.get? S = some o') (hd : ∀ v, o'.data ≠ .cell v) : Inv X ((S, o') :: pins0) σ H s' := by
  obtain ⟨p1, p2, p3, p4, p5⟩ := I.pin (S, o) (List.mem_append_right _ List.mem_cons_self)
  have I0 : Inv X pins0 σ H s := I.pins_of fun p hp => I.pin p (List.mem_append_right _ (List.mem_cons_of_mem _ hp))
  have J : Inv X pins0 σ H { s with heap := s'.heap, toks := s.toks } := I0.turned (t' := s.toks) keep p2 p3 (.inr h0) hc hpn
  have J2 : Inv X pins0 σ H s' := J.call' (ch := []) os (Un.kept fun b o e => e) J.hok bare (fun b hb => absurd hb (by simp))
  refine J2.pins_of fun p hp => ?_
  rcases List.mem_cons.mp hp with z | z
  · rw [z]
    exact ⟨own, p2, p3, p4, hd⟩
  · exact J2.pin p (List.mem_append_right _ z)
/-- a scope without cells makes none -/
theorem none_made : ∀ {names : List (Str × NameKind)}, (∀ y ∈ names, y.2 ≠ .cell) → (∀ n acc, cellsFrom n names acc = acc) ∧ ∀ h, pushCells h names = h
  | [], _ => ⟨fun _ _ => rfl, fun _ => rfl⟩
  | y :: r, no => by
    have hy : (y.2 == NameKind.cell) = false := beq_eq_false_iff_ne.mpr (no y List.mem_cons_self)
    have ⟨p, q⟩ := none_made (names := r) fun z hz => no z (List.mem_cons_of_mem y hz)
    exact ⟨fun n acc => by rw [cellsFrom, hy]; exact p n acc, fun h => by rw [pushCells, hy]; exact q h⟩
/-- names keep their places when only their kinds change -/
theorem lookup_kinds {f : Str × NameKind → Str × NameKind} (same : ∀ p, (f p).1 = p.1) {x : Str} {k : NameKind} : ∀ {names : List (Str × NameKind)}, names.lookup x = some k → (names.map f).lookup x = some (f (x, k)).2
  | [], e => nomatch e
  | (n, j) :: r, e => by
    rw [List.map_cons, show f (n, j) = (n, (f (n, j)).2) from Prod.ext (same _) rfl]
    cases hx : x == n with
    | true =>
      rw [List.lookup_cons, hx] at e ⊢
      obtain rfl : j = k := Option.some.inj e
      rw [eq_of_beq hx]
    | false =>
      rw [List.lookup_cons, hx] at e ⊢
      exact lookup_kinds same e
/-- a free name stays free or is a cell in the block's scope -/
theorem relab_free {env : Env} {scope : Scope} {x : Str} (e : scope.names.lookup x = some .free) : (relabel scope env).names.lookup x = some .cell ∨ (relabel scope env).names.lookup x = some .free := by
  unfold relabel
  rw [lookup_kinds (fun p => ?_) e]
  · dsimp only
    split
    · exact .inl rfl
    · exact .inr rfl
  · dsimp only
    split <;> rfl
/-- the generator's frame as it begins: what a block's frame would know, with the iterator under its own name -/
theorem gx_start {scope : Scope} {own : List (Str × Nat)} {fp : List Addr} {A : Around} {code : Value} {it : Value} {h' : Heap} {go : Obj} {G : Array GenState} {tk : Nat} (I : Inv X pins σ H s) (ok : BlkOk X.N X.env.scope scope own) (hcell : ∀ y ∈ scope.names, y.2 ≠ .cell) (hN : X.N.Nodup)
    (hfp : ∀ b ∈ fp, FpOk X pins H b ∧ b < s.heap.objs.size) (hA : A.handled = none) (hfr : A.frames = some X.stack) (hn : h'.Ns s.heap.objs.size (fun y => if y = ".0" then some it else none))
    (hs : Heap.SameBut s.heap.objs.size (s.heap.push { cls := .type "frame", data := .dict #[] }) h') (hG : AllBare G) (hgp : (h'.push go).get? h'.objs.size = some go) (hgd : ∀ v, go.data ≠ .cell v) :
    Inv (gxC X (A.deeper (genEnv scope (cloFrom X.env.cells scope.names []) s.heap.objs.size code builtinsNs X.env)) s H (genEnv scope (cloFrom X.env.cells scope.names []) s.heap.objs.size code builtinsNs X.env) fp [(h'.objs.size, go)]) [] (wipe σ (own.map (·.2))) H
      { s with gens := G, toks := tk, heap := h'.push go } := by
  have J := block_start I ok hN hfp
  rw [(none_made hcell).1, (none_made hcell).2] at J
  have lt : s.heap.objs.size < h'.objs.size := hn.lt
  have kp : ∀ b o, s.heap.get? b = some o → (h'.push go).get? b = some o := fun b o e => Heap.get?_push_of_some _ (hs.extBut b o (Nat.ne_of_lt (Heap.lt_size e)) (Heap.get?_push_of_some _ e))
  have cells : ∀ {c : Addr} {v : Option Value}, (s.heap.push { cls := .type "dict", data := .dict #[] }).IsCell c v → (h'.push go).IsCell c v := by
    rintro c v ⟨o, e, d⟩
    have ne : c ≠ s.heap.objs.size := fun z => by
      rw [z, Heap.get?_push_size _ rfl] at e
      rw [← Option.some.inj e] at d
      cases d
    exact ⟨o, kp c o (Heap.get?_push_ne _ _ _ ne ▸ e), d⟩
  have outside : ∀ {y : Str}, scope.names.lookup y = some .cell ∨ scope.names.lookup y = some .free → (relabel scope X.env).names.lookup y = some .cell ∨ (relabel scope X.env).names.lookup y = some .free := fun z => z.elim (fun e => absurd rfl (hcell _ (PySem.mem_of_lookup e))) relab_free
  refine { ok := { mod := J.ok.mod, kind := ok.kind, glob := J.ok.glob, blt := rfl, above := Nat.le_refl _, inj := J.ok.inj, has := fun y z => J.ok.has y (outside z), cab := (fun _ _ z => nomatch z), hd := fun _ => hA, frames := Around.frames_deeper hfr, stk := .inr ⟨rfl, rfl⟩,
                   exf := J.ok.exf, bs := J.ok.bs, bsz := J.ok.bsz, noex := J.ok.noex, exfs := J.ok.exfs, funs := J.ok.funs, frf := J.ok.frf }
           os := rfl, bare := hG, base := Un.kept kp, loc := ⟨_, hn.push go, fun i y v hy hv vis => ?_⟩, cell := fun y c e => (J.cell y c e).imp fun _ => cells, free := J.free, freeC := J.freeC, pin := ?_, hok := I.hok.kept kp, len := J.len }
  · obtain ⟨m, hm, all⟩ := J.loc
    have blank : m y = none := hm.agree (Heap.Ns.new s.heap (.type "dict")) y
    have get := all i y v hy hv
    rcases vis with l | l
    · have l2 : (relabel scope X.env).names.lookup y = some .local := lookup_relabel_local l
      obtain ⟨u, _, z | z⟩ := get (.inl l2)
      · rw [blank] at z
        exact nomatch z.2
      · rcases z.1 with z | z <;> exact nomatch l2.symm.trans z
    · obtain ⟨u, r, z | ⟨_, c, e, k⟩⟩ := get (.inr (outside l))
      · rw [blank] at z
        exact nomatch z.2
      · exact ⟨u, r, .inr ⟨l, c, e, cells k⟩⟩
  · intro p hp
    obtain rfl : p = (h'.objs.size, go) := by simpa using hp
    refine ⟨hgp, I.hok.fresh (Nat.le_of_lt lt), Nat.ne_of_gt lt, fun z => ?_, hgd⟩
    rcases List.mem_cons.mp (I.stkSub _ z) with e | e
    · exact Nat.lt_irrefl _ (Nat.lt_trans lt (show h'.objs.size < _ from (show h'.objs.size = X.env.locals from e) ▸ I.lt))
    · exact I.nofs (Nat.le_of_lt lt) e
end
end My

set_option Elab.async false
set_option linter.all false
set_option maxRecDepth 100000
set_option maxHeartbeats 2000000
namespace My
open PySem PySem.Spec PyProof.Rows L2
/-- where such a generator stands: i items are out; S: what its consumer keeps -/
structure GxAt (X : Cx) (fp : List Addr) (tn : Nat → Heap → Prop) (σ0 : L2.St) (W : Nat → Hp → Prop) (S : Addr) (i : Nat) (o : Obj) (H : Hp) (s : Shared) : Prop where
  inv : Inv X [(S, o)] σ0 H s
  st : tn i s.heap
  nfp : ∀ b ∈ fp, H b = none
  w : W i H
/-- the consumer wrote at S alone -/
structure Wrote (S : Addr) (s s' : Shared) (o' : Obj) : Prop where
  os : s'.os = s.os
  bare : AllBare s'.gens
  keep : ∀ b u, b ≠ S → s.heap.get? b = some u → s'.heap.get? b = some u
  own : s'.heap.get? S = some o'
  nc : ∀ v, o'.data ≠ .cell v
def gxY (X : Cx) (fp : List Addr) (tn : Nat → Heap → Prop) (σ0 : L2.St) (W : Nat → Hp → Prop) (S : Addr) (n : Nat) (F : Nat → V) : Protocol := fun m s₀ v s kap =>
  ∃ i o H, m + i + 1 = n ∧ RelV (F i) v ∧ s₀.heap.get? S = some o ∧ GxAt X fp tn σ0 W S (i + 1) o H s ∧ ∀ s'' o', Wrote S s s'' o' → kap (.send .none) s''
def gxP (X : Cx) (σ0 : L2.St) (W : Nat → Hp → Prop) (S : Addr) (n : Nat) : Nat → Shared → Shared → Prop := fun m s₀ s₁ => m = 0 ∧ ∃ o H, Inv X [(S, o)] σ0 H s₁ ∧ W n H
section
variable {X : Cx}
/-- one item's reading -/
def gxStep (J : It) (g : L2.TG) (te : TE) (vs : List Nat) (σ0 : L2.St) (W : Nat → Hp → Prop) (n : Nat) (F : Nat → V) : Prop :=
  ∀ i H, W i H → (i < n → J.go i H ∧ ∀ x H', J.yld i H x H' → g x σ0 H' fun σ2 H2 => wipe σ2 vs = σ0 ∧ te σ2 H2 fun y H3 => y = F i ∧ W (i + 1) H3) ∧ (i = n → J.stop i H)
theorem gx_loop {A : Around} {elt tg iter : Expr} {scope : Scope} {pos : Pos} {J : It} {fp : List Addr} {it : Addr} {tn : Nat → Heap → Prop} {g : L2.TG} {te : TE} {vs : List Nat} {σ0 : L2.St} {W : Nat → Hp → Prop} {n : Nat} {F : Nat → V} {S : Addr}
    (hA : A.deeper X.env = X.A) (T : Turn X.prog X.w X.K tg J fp it tn) (hc : X.calm = true) (hex : X.ex = fp) (hSf : S ∉ fp) (hpf : ∀ p ∈ X.pn, p.1 ∉ fp) (hxe : ∀ e s, X.xe e s → False) (hco : X.env.scope.isCoroutine = false)
    (h0 : X.s_0.heap.objs.size ≤ S) (hcs : ∀ x c, X.env.cells.lookup x = some c → c ≠ S) (hpS : ∀ p ∈ X.pn, p.1 ≠ S)
    (pg : PG X tg g) (pe : PE X elt te) (step : gxStep J g te vs σ0 W n F) :
    ∀ (k i : Nat) (s₀ s : Shared) (o : Obj) (H : Hp), i + k = n → s₀.heap.get? S = some o → GxAt X fp tn σ0 W S i o H s →
      Seg (model X.prog X.w) A (fun m s₀ r s₁ => r = .ok .next ∧ gxP X σ0 W S n m s₀ s₁) (gxY X fp tn σ0 W S n F) k s₀
        (.compLoop (.GeneratorExp elt [⟨tg, iter, [], 0⟩] scope pos) 0 (.ref it) .none X.env)
        ((model X.prog X.w).den (.compLoop (.GeneratorExp elt [⟨tg, iter, [], 0⟩] scope pos) 0 (.ref it) .none X.env)) [] s := by
  have stat : ∀ {o : Obj} {σ' : L2.St} {H' : Hp} {s' : Shared}, Inv X [(S, o)] σ' H' s' → (∀ b ∈ fp, H' b = none) → ∀ b ∈ fp, FpOk X [(S, o)] H' b := fun {o σ' H' s'} I' hn b hb =>
    ⟨hn b hb, (I'.ok.exf b (hex ▸ hb)).1, I'.ok.exfs b (hex ▸ hb), .inl (hex ▸ hb), fun x c e => (I'.ok.exf b (hex ▸ hb)).2 x c e, fun p hp z => by
      rcases List.mem_append.mp hp with q | q
      · exact hpf p q (z ▸ hb)
      · have e : p = (S, o) := by simpa using q
        rw [e] at z
        exact hSf (by rw [show S = b from z]; exact hb)⟩
  intro k
  induction k with
  | zero =>
    intro i s₀ s o H hk hs0 G
    have hin : i = n := by omega
    subst hin
    show Seg _ A _ _ _ s₀ _ ((compTurn (.GeneratorExp elt [⟨tg, iter, [], 0⟩] scope pos) 0 (.ref it) .none X.env).onRaise (leaving X.env)) [] s
    rw [compTurn_gen, Sem.onRaise_eq_wrap]
    refine seg_bind_wrap (wpAny_standAt ?_)
    refine seg_bind_wrap ?_
    rw [over_gen, hA]
    refine thnF (T.done X rfl rfl rfl hc i [(S, o)] s σ0 H (fun _ _ => False) G.inv (stat G.inv G.nfp) G.st ((step i H G.w).2 rfl)) fun r s6 ⟨hr, I6⟩ => ?_
    subst hr
    exact seg_end (.ok .next) ⟨rfl, rfl, o, H, I6, G.w⟩
  | succ k ih =>
    intro i s₀ s o H hk hs0 G
    have hlt : i < n := by omega
    obtain ⟨go, st⟩ := (step i H G.w).1 hlt
    show Seg _ A _ _ _ s₀ _ ((compTurn (.GeneratorExp elt [⟨tg, iter, [], 0⟩] scope pos) 0 (.ref it) .none X.env).onRaise (leaving X.env)) [] s
    rw [compTurn_gen, Sem.onRaise_eq_wrap]
    refine seg_bind_wrap (wpAny_standAt ?_)
    refine seg_bind_wrap ?_
    rw [over_gen, hA]
    refine thnF (T.item X rfl rfl rfl hc i [(S, o)] s σ0 H (fun _ _ => False) G.inv (stat G.inv G.nfp) G.st go) fun r s6 ⟨u, hr, h6⟩ => ?_
    subst hr
    refine seg_bind_wrap ?_
    rw [over_gen, hA]
    refine thnF h6 fun _ s7 ⟨x, H7, I7, r7, y7, st7, n7⟩ => ?_
    have I7' := I7.pinned (stat I7 n7) (T.obj _ _ st7)
    refine seg_bind_wrap ?_
    rw [over_gen, hA]
    refine wpAny_mono (pg.run _ s7 _ H7 x u _ I7' r7 (st x H7 y7)) (fun _ s8 h8 => ?_) (fun e s' z => (hxe e s' z).elim)
    obtain ⟨σ8, H8, I8, hw8, q8⟩ := h8
    refine seg_bind_wrap (wpAny_tests_nil ?_)
    simp only [if_true]
    have hy : ∀ v, yieldOut X.env v = yieldValue v := fun v => by simp only [yieldOut, hco, Bool.false_eq_true, if_false]
    simp only [hy]
    rw [Sem.bind_eq_wrap', Sem.bind_eq_wrap', Sem.wrap_wrap, Sem.wrap_wrap]
    refine seg_wrap ?_
    rw [over_gen, hA]
    refine wpAny_mono (pe.run _ s8 σ8 H8 _ I8 q8) (fun yv s10 h10 => ?_) (fun e s' z => (hxe e s' z).elim)
    obtain ⟨y, H10, I10, r10, ey, w10⟩ := h10
    have pin' : ∀ b ∈ fp, ∀ ob, s7.heap.get? b = some ob → s10.heap.get? b = some ob ∧ H10 b = none := fun b hb ob e =>
      let z := I10.pin (b, ob) (List.mem_append_right _ (List.mem_append_right _ (mem_pinsAt hb e)))
      ⟨z.1, z.2.1⟩
    have hl : σ0.length = σ8.length := by rw [← hw8, wipe_length]
    have I11 : Inv X [(S, o)] σ0 H10 s10 := (I10.unpinned (pins := [(S, o)])).weak hl fun j v e => by
      rw [← hw8] at e
      exact (wipe_some e).1
    have G11 : GxAt X fp tn σ0 W S (i + 1) o H10 s10 := ⟨I11, T.keep _ _ _ st7 fun b hb ob e => (pin' b hb ob e).1, fun b hb => by
      obtain ⟨ob, e, _⟩ := T.obj _ _ st7 b hb
      exact (pin' b hb ob e).2, w10⟩
    refine seg_at (seg_yield rfl rfl rfl ⟨i, o, H10, by omega, by rw [← ey]; exact r10, hs0, G11, fun s'' o' z => ?_⟩)
    refine seg_again rfl (ih (i + 1) s'' s'' o' H10 (by omega) z.own ⟨woke G11.inv h0 hcs (fun p hp => hpS p (by simpa using hp)) z.os z.bare z.keep z.own z.nc, T.keep _ _ _ G11.st fun b hb ob e => z.keep b ob (fun q => hSf (q ▸ hb)) e, G11.nfp, G11.w⟩)
/-- from its beginning -/
theorem gx_begin {A : Around} {elt tg iter : Expr} {scope : Scope} {pos : Pos} {J : It} {fp : List Addr} {it : Addr} {tn : Nat → Heap → Prop} {R : GenEnd} {Y : Protocol} {k : Nat} {s₀ s : Shared} (T : Turn X.prog X.w X.K tg J fp it tn) (st : tn 0 s.heap)
    (loop : Seg (model X.prog X.w) A R Y k s₀ (.compLoop (.GeneratorExp elt [⟨tg, iter, [], 0⟩] scope pos) 0 (.ref it) .none X.env)
        ((model X.prog X.w).den (.compLoop (.GeneratorExp elt [⟨tg, iter, [], 0⟩] scope pos) 0 (.ref it) .none X.env)) [] s) :
    Seg (model X.prog X.w) A R Y k s₀ (.compStart (.GeneratorExp elt [⟨tg, iter, [], 0⟩] scope pos) 0 (.ref it) .none X.env)
        ((model X.prog X.w).den (.compStart (.GeneratorExp elt [⟨tg, iter, [], 0⟩] scope pos) 0 (.ref it) .none X.env)) [] s := by
  show Seg _ A _ _ _ s₀ _ ((compStart (.GeneratorExp elt [⟨tg, iter, [], 0⟩] scope pos) 0 (.ref it) .none X.env).onRaise (leaving X.env)) [] s
  unfold compStart
  rw [Sem.onRaise_eq_wrap]
  show Seg _ A _ _ _ s₀ _ ((ask >>= _).wrap _ _ _ _) [] s
  refine seg_bind_wrap (wpAny_askSetting ?_)
  split
  · exact seg_again rfl loop
  · refine seg_bind_wrap (wpAny_rule ?_)
    show Seg _ A _ _ _ s₀ _ ((standAt iter.pos >>= _).wrap _ _ _ _) [] s
    exact seg_bind_wrap (wpAny_standAt (seg_bind_wrap (T.self _ 0 s _ _ st (seg_again rfl loop))))
end
end My

set_option Elab.async false
set_option linter.all false
set_option maxRecDepth 100000
set_option maxHeartbeats 2000000
namespace My
open PySem PySem.Spec PyProof.Rows L2
section
variable {X : Cx}
/-- what sum() walks: the generator at a sleeps, k items are still to come -/
structure GxSt (X : Cx) (A : Around) (fp : List Addr) (tn : Nat → Heap → Prop) (σ0 : L2.St) (W : Nat → Hp → Prop) (S : Addr) (n : Nat) (F : Nat → V) (a : Addr) (g k : Nat) (s : Shared) : Prop where
  gen : s.heap.IsGen a g
  lim : s.heap.NoLimit
  bare : AllBare s.gens
  go : ∃ gs, s.gens[g]? = some gs ∧ ∀ s'' o', Wrote S s s'' o' → gs.Goes (model X.prog X.w) A (fun m s₀ r s₁ => r = .ok .next ∧ gxP X σ0 W S n m s₀ s₁) (gxY X fp tn σ0 W S n F) k (.send .none) s''
end
end My

set_option Elab.async false
set_option linter.all false
set_option maxRecDepth 100000
set_option maxHeartbeats 2000000
namespace My
open PySem PySem.Spec PyProof.Rows L2
section
variable {X : Cx} {pins : List (Addr × Obj)} {σ : L2.St} {H : Hp} {s : Shared}
/-- the generator expression's scope -/
structure GxS (X : Cx) (scope : Scope) (own : List (Str × Nat)) : Prop where
  blk : BlkOk X.N X.env.scope scope own
  co : scope.isCoroutine = false
  cell : ∀ y ∈ scope.names, y.2 ≠ .cell
  dot : scope.names.lookup (".0" : Str) = some NameKind.local
/-- the generator at a, as it was made -/
def GxNew (X : Cx) (pins : List (Addr × Obj)) (σ : L2.St) (elt tg iter : Expr) (scope : Scope) (pos : Pos) (own : List (Str × Nat)) (J : It) (H2 : Hp) (a : Addr) (s5 : Shared) : Prop :=
  ∃ (s4 : Shared) (code : Value) (cenv : Env) (fp : List Addr) (it : Addr) (tn : Nat → Heap → Prop) (go : Obj),
    cenv = genEnv scope (cloFrom X.env.cells scope.names []) s4.heap.objs.size code builtinsNs X.env ∧ Inv X pins σ H2 s4 ∧ (∀ b ∈ fp, FpOk X pins H2 b ∧ b < s4.heap.objs.size) ∧ Turn X.prog X.w X.K tg J fp it tn ∧ tn 0 s5.heap ∧
    s5.gens = s4.gens.push (.fresh (.compStart (.GeneratorExp elt [⟨tg, iter, [], 0⟩] scope pos) 0 (.ref it) .none cenv)) ∧ (∀ h : Heap, h.get? a = some go → h.IsGen a s4.gens.size) ∧ s5.heap.get? a = some go ∧ s4.heap.objs.size < a ∧
    (∀ A : Around, A.handled = none → A.frames = some X.stack → Inv (gxC X (A.deeper cenv) s4 H2 cenv fp [(a, go)]) [] (wipe σ (own.map (·.2))) H2 s5)
theorem gx_make {c P : Addr} {elt tg iter : Expr} {gpos : Pos} {scope : Scope} {own : List (Str × Nat)} {wi : TI} {k : Nat} {Q' : Value → Shared → Prop} {R : It → Hp → Prop}
    (hr : Room k X.A) (TB : LamX.TabB X.base X.mg c P) (hcode : X.env.code = .ref c) (S : GxS X scope own) (hN : X.N.Nodup) (hi : PI X tg iter wi)
    (hs : ∀ v, genFold iter X.env v = pure v) (I : Inv X pins σ H s) (h : wi σ H fun J H1 => GxR.TabG H1 P ∧ R J H1)
    (hQ : ∀ J H1 H2 a s5, R J H1 → GxR.Tabbed P H1 H2 → GxNew X pins σ elt tg iter scope gpos own J H2 a s5 → Q' (.ref a) s5) :
    wpAny (model X.prog X.w) X.A (eval (.GeneratorExp elt [⟨tg, iter, [], 0⟩] scope gpos) X.env) Q' X.xe s := by
  have caught : ∀ y ∈ scope.names, y.2 = .free → ∃ c, X.env.cells.lookup y.1 = some c := fun y hy e => I.ok.has _ (S.blk.free y hy e)
  have deep : X.A.depth < recursionLimit := by
    have := hr.dp
    omega
  refine wpAny_GeneratorExp_make S.co (closure_ok caught) S.cell S.dot S.blk.kind deep (thn (hi.run pins s σ H _ I h) fun xv s1 hx => thn hx fun itv s2 h2 => ?_) hs
  obtain ⟨it, fp, tn, J, H1, rfl, I2, T, st2, f2, hT, hR⟩ := h2
  refine ⟨I2.nolimit, gen_code I2 TB hcode hT fun code H2 s4 tab I4 kp _ h' hn' hs' => ?_⟩
  have apart : ∀ b ∈ fp, b ≠ P := fun b hb z => by
    obtain ⟨_, e, _⟩ := hT
    rw [← z, (f2 b hb).1] at e
    cases e
  have kp5 : ∀ (go : Obj) b u, s4.heap.get? b = some u → (h'.push go).get? b = some u := fun go b u e => Heap.get?_push_of_some _ (hs'.extBut b u (Nat.ne_of_lt (Heap.lt_size e)) (Heap.get?_push_of_some _ e))
  have f4 : ∀ b ∈ fp, FpOk X pins H2 b ∧ b < s4.heap.objs.size := fun b hb => by
    obtain ⟨o, e, _⟩ := T.obj _ _ st2 b hb
    exact ⟨⟨(tab.2 b (apart b hb)).trans (f2 b hb).1, (f2 b hb).2⟩, Heap.lt_size (kp b o (apart b hb) e)⟩
  generalize hgo : ({ cls := .type "generator", data := .fields #[.int s4.gens.size 0, .str "<genexpr>" (s4.toks + 1), .str (X.env.qual ++ "<genexpr>") (s4.toks + 1 + 1)] } : Obj) = go
  have hgp : (h'.push go).get? h'.objs.size = some go := Heap.get?_push_size _ (by rw [← hgo]; rfl)
  have hgd : ∀ v, go.data ≠ .cell v := fun v z => by
    rw [← hgo] at z
    cases z
  exact hQ J H1 H2 h'.objs.size _ hR tab ⟨s4, code, _, fp, it, tn, go, rfl, I4, f4, T, T.keep _ _ _ st2 fun b hb u e => kp5 go b u (kp b u (apart b hb) e), rfl, fun hh e => ⟨go, _, _, e, by rw [← hgo], by rw [← hgo], by rw [← hgo]⟩, hgp, hn'.lt,
    fun A hA hfr => gx_start I4 S.blk S.cell hN f4 hA hfr hn' hs' (I4.bare.push rfl) hgp hgd⟩
end
end My

set_option Elab.async false
set_option linter.all false
set_option maxRecDepth 100000
set_option maxHeartbeats 2000000
namespace My
open PySem PySem.Spec PyProof.Rows L2
def gxCk (scope : Scope) : Bool := !scope.isCoroutine && (scope.names.all fun y => match y.2 with | .cell => false | _ => true) && (match scope.names.lookup (".0" : Str) with | some .local => true | _ => false)
theorem gxS_by {X : Cx} {scope : Scope} {own : List (Str × Nat)} (b : BlkOk X.N X.env.scope scope own) (h : gxCk scope = true) : GxS X scope own := by
  unfold gxCk at h
  simp only [Bool.and_eq_true] at h
  obtain ⟨⟨h1, h2⟩, h3⟩ := h
  rw [List.all_eq_true] at h2
  refine ⟨b, by simpa using h1, fun y hy z => ?_, ?_⟩
  · have q := h2 y hy
    rw [z] at q
    cases q
  · revert h3
    cases scope.names.lookup (".0" : Str) with
    | none => simp
    | some k => cases k <;> simp
/-! sums -/
/-! works -/
end My

set_option Elab.async false
set_option linter.all false
set_option maxRecDepth 100000
set_option maxHeartbeats 2000000
namespace My
open PySem PySem.Spec PyProof.Rows L2
/-! ### slices of a tuple of its own, sorted(tuple of texts) -/
theorem cut_to (xs : List V) (b : Nat) : cutV xs none (some (b : Int)) = xs.take b := by
  unfold cutV
  rw [HT.sIx_nat, HT.sIx_none, List.drop_zero, Nat.sub_zero]
  by_cases h : b ≤ xs.length
  · rw [Nat.min_eq_left h]
  · rw [Nat.min_eq_right (by omega), List.take_length, List.take_of_length_le (by omega)]
/-! ### prices of more lists -/
end My

set_option Elab.async false
set_option linter.all false
set_option maxRecDepth 100000
set_option maxHeartbeats 2000000
namespace My
open PySem PySem.Spec PyProof.Rows L2
/-! ### a promise where no repr is under way -/
structure FnG (P : Program) (w : World) (K : PySem.W.Frag) (mg : Str → Option Value) (base : Heap) (k : Nat) (f : Addr) (fd : FuncData) (ps : List Str) (sp : Sp) : Prop where
  ln : ∀ vs H Q E, sp vs H Q E → vs.length = ps.length
  go : ∀ (A : Around), A.guards = some [] → Room k A → ∀ (outer : List Env) (s : Shared) (H : Hp) (args : Args) (us : List Value) (vs : List V) (Q : VK) (E : XK), Env0 P w K mg base A outer s H → BindsTo s fd args (ps.zip us) → Vals vs us → sp vs H Q E → codeAny (model P w) A (.call (.ref f) args) (CR CX0 outer P w H s Q E) s
theorem okG {P : Program} {w : World} {K : PySem.W.Frag} {mg : Str → Option Value} {base : Heap} {x qual : Str} {st : Stmt} {f : Addr} {fd : FuncData} {N ps : List Str} {k : Nat} {sp : Sp} (F : Fun K x qual st f fd) (S : FnScope N ps (defScope st)) (ln : ∀ vs H Q E, sp vs H Q E → vs.length = ps.length)
    (body : ∀ (cdv : Value) (A : Around) (outer : List Env) (s : Shared) (H : Hp) (vs : List V) (Q : VK) (E : XK), A.guards = some [] → Room k (A.deeper (envOfC qual (defScope st) s.heap.objs.size f cdv)) → sp vs H Q E →
      ∃ t, PSs (cxOf CX0 P w K mg base N qual (defScope st) f cdv A outer s H E).nox (defBody st) t ∧ t { nx := fun _ G => Q .non G, rt := Q } (start N vs) H) : FnG P w K mg base (k + 1) f fd ps sp := by
  obtain ⟨oc, od, kV, dcv, pm, an, cdv, ct, osl, rfl, look, hcode⟩ := F.ex
  refine ⟨ln, fun A hgd hr outer s H args us vs Q E e0 hbd rel hsp => ?_⟩
  obtain ⟨t, ht, hq⟩ := body cdv A outer s H vs Q E hgd (hr.deeper _) hsp
  have inK : K.In s.heap := e0.mod.kin.keeps fun c o z => (e0.bs c o z).1
  have nlm : s.heap.NoLimit := e0.mod.nolimit.keeps fun c o z => (e0.bs c o z).1
  refine codeAny_call_function hr.depth (inK _ _ look) rfl S.co S.gen rfl (PySem.W.codeRec_of inK hcode) (hbd _ _ _ _ (wpAny_newFunctionEnv_cells S.kind (fun y hy => ?_) fun env he s1 begun => ?_))
  · rcases S.par y.1 (List.of_mem_zip (show (y.1, y.2) ∈ ps.zip us from hy)).1 with z | z
    · exact .inl z
    · exact .inr ⟨z, PySem.W.cellsFrom_some _ _ _ (.inl z)⟩
  subst he
  refine ⟨nlm.keeps begun.toInCall.keep, codeAny_func (wpAny_mono (ht.nox.run [] s1 _ H _ (inv_start S hr.hd e0 (ln _ _ _ _ hsp) rel begun) hq) (fun fl s' hs => ?_) fun e s' hs => hs)⟩
  cases fl with
  | ret u =>
    obtain ⟨v, σ', G, J, rv, qv⟩ := hs
    exact ⟨v, G, J.os, J.bare, J.base, J.hok, rv, qv⟩
  | next =>
    obtain ⟨σ', G, J, qv⟩ := hs
    exact ⟨V.non, G, J.os, J.bare, J.base, J.hok, rfl, qv⟩
  | brk =>
    obtain ⟨_, _, _, z⟩ := hs
    exact False.elim z
  | cont =>
    obtain ⟨_, _, _, z⟩ := hs
    exact False.elim z
/-! ### repr of data -/
structure Sh (n m : Nat) (d : PyData) : Prop where
  ok : d.showable = true
  nd : d.hasDict = false
  sh : d.leavesShort 100 = true
  dp : d.depth ≤ n
  wt : d.weight ≤ m
  ly : d.canLay0 = true
theorem Sh.mono {n n' m m' : Nat} {d : PyData} (h : Sh n m d) (h1 : n ≤ n') (h2 : m ≤ m') : Sh n' m' d := ⟨h.ok, h.nd, h.sh, Nat.le_trans h.dp h1, Nat.le_trans h.wt h2, h.ly⟩
theorem Sh.none {n m : Nat} : Sh n m .none := ⟨rfl, rfl, rfl, Nat.zero_le _, Nat.zero_le _, rfl⟩
theorem Sh.bool {n m : Nat} (b : Bool) : Sh n m (.bool b) := ⟨rfl, rfl, rfl, Nat.zero_le _, Nat.zero_le _, rfl⟩
theorem Sh.str {n m : Nat} {l : List Nat} (h : ∀ c ∈ l, c < 1000) (hl : l.length ≤ m) : Sh n m (.str (txS l)) := by
  refine ⟨rfl, rfl, ?_, Nat.zero_le _, ?_, ?_⟩
  · have e : l.toArray.toList = l := by simp
    simp only [PyData.leavesShort, List.all_eq_true, decide_eq_true_eq]
    intro c hc
    have := h c hc
    omega
  · show l.toArray.size ≤ m
    simpa using hl
  · show (txS l).cps.all (· < 0x110000) = true
    rw [Array.all_eq_true']
    intro c hc
    have hc2 : c ∈ l := by simpa using hc
    have := h c hc2
    exact decide_eq_true (by omega)
theorem log2_small {i : Int} (h : i.natAbs < 10 ^ 60) : i.natAbs.log2 < 200 := by
  by_cases e : i.natAbs = 0
  · rw [e]
    decide
  · rw [Nat.log2_lt e]
    exact Nat.lt_of_lt_of_le h (by decide)
theorem Sh.int {n m : Nat} {i : Int} (h : i.natAbs < 10 ^ 60) (hm : 200 ≤ m) : Sh n m (.int i) := by
  have h1 := log2_small h
  refine ⟨?_, rfl, ?_, Nat.zero_le _, ?_, rfl⟩
  · simp only [PyData.showable, decide_eq_true_eq]
    omega
  · simp only [PyData.leavesShort, decide_eq_true_eq]
    show (Str.ofString (toString i)).length ≤ 100
    have h2 := int_text_length_le10 (a := i) (k := 60) (by decide) h
    rw [PySem.ofString_length]
    omega
  · simp only [PyData.weight]
    split <;> omega
theorem sh_all {n m : Nat} : ∀ {xs : List PyData}, (∀ x ∈ xs, Sh n m x) → PyData.showableAll xs = true ∧ PyData.hasDictAll xs = false ∧ PyData.leavesShortAll 100 xs = true ∧ PyData.depthAll xs ≤ n ∧ PyData.weightAll xs ≤ (m + 1) * xs.length ∧ PyData.canLayAll0 xs = true
  | [], _ => ⟨rfl, rfl, rfl, Nat.zero_le _, Nat.zero_le _, rfl⟩
  | x :: xs, h => by
    obtain ⟨a1, a2, a3, a4, a5, a6⟩ := sh_all (xs := xs) fun y hy => h y (List.mem_cons_of_mem _ hy)
    have b := h x (List.mem_cons_self ..)
    refine ⟨by simp only [PyData.showableAll, b.ok, a1, Bool.and_self], by simp only [PyData.hasDictAll, b.nd, a2, Bool.or_self], by simp only [PyData.leavesShortAll, b.sh, a3, Bool.and_self], ?_, ?_, by simp only [PyData.canLayAll0, b.ly, a6, Bool.and_self]⟩
    · have := b.dp
      simp only [PyData.depthAll]
      omega
    · have := b.wt
      simp only [PyData.weightAll, List.length_cons, Nat.mul_add, Nat.mul_one]
      omega
theorem Sh.lst {n m : Nat} {xs : List PyData} (h : ∀ x ∈ xs, Sh n m x) : Sh (n + 1) ((m + 1) * xs.length) (.list xs) := by
  obtain ⟨a1, a2, a3, a4, a5, a6⟩ := sh_all h
  exact ⟨a1, a2, a3, Nat.succ_le_succ a4, a5, a6⟩
theorem Sh.tup {n m : Nat} {xs : List PyData} (h : ∀ x ∈ xs, Sh n m x) : Sh (n + 1) ((m + 1) * xs.length) (.tuple xs) := by
  obtain ⟨a1, a2, a3, a4, a5, a6⟩ := sh_all h
  exact ⟨a1, a2, a3, Nat.succ_le_succ a4, a5, a6⟩
theorem Sh.fits {d : PyData} (h : Sh 20 100000 d) : d.shown.length ≤ sizeLine := by
  have h1 := PyData.shown_le 100 (by decide) d h.sh
  have h2 := h.wt
  rw [sizeLine_eq]
  omega
def rRepr (K : PySem.W.Frag) : List V → Hp → VK → Prop := fun xs H Q => ∃ (v : V) (d : PyData), xs = [v] ∧ Dp K H v d ∧ Sh 20 100000 d ∧ Q (.str d.shown) H
theorem cReprK (K : PySem.W.Frag) {X : Cx} {k : Nat} (hgd : X.A.guards = some []) (hr : Room k X.A) (hK : X.K = K := by rfl) : CallR X (.builtin "repr") (rRepr K) := by
  subst hK
  intro pins s σ H xs us Q I r h
  obtain ⟨v, d, rfl, hd, hs, q⟩ := h
  obtain ⟨u, rfl, rx⟩ := vals1 r
  obtain ⟨as, rd⟩ := Dp.reads I _ _ _ hd rx
  have hz := hs.fits
  cases u with
  | ref a =>
    refine repr_of_reads' rd hs.ok (PyData.noDict_hsm hs.nd) hgd ?_ (fun _ _ e => e) (fun h' u tk hk => ⟨.str d.shown, H, I.kept hk, ⟨_, rfl⟩, q⟩) hz
    have h1 := hs.dp
    have h2 := hr.un
    omega
  | none =>
    cases rd
    exact PySem.P.repr_of_none ⟨.str _, H, I.tok _, ⟨_, rfl⟩, q⟩
  | bool b =>
    cases rd
    exact PySem.P.repr_of_bool ⟨.str _, H, I.tok _, ⟨_, rfl⟩, q⟩
  | int i t =>
    cases rd
    refine PySem.P.repr_of_int ?_ ⟨.str _, H, I.tok _, ⟨_, rfl⟩, q⟩
    have := hs.ok
    simpa only [PyData.showable, decide_eq_true_eq] using this
  | str x t =>
    cases rd
    exact PySem.P.repr_of_str ⟨.str _, H, I.tok _, ⟨_, rfl⟩, q⟩ hz
  | _ => cases rd
/-! ### the law's own call -/
section
variable {P : Program} {w : World} {K : PySem.W.Frag} {mg mb : Str → Option Value} {cs : List (Addr × Addr)} {a : Addr} {vs : List Value} {ns : List Int} {s : Shared} {H : Hp}
/-- told of at the beginning: the script, where it is no part of what is written, and the tables of code -/
structure Begun (P : Program) (w : World) (K : PySem.W.Frag) (cs : List (Addr × Addr)) (a : Addr) (vs : List Value) (ns : List Int) (s : Shared) (H : Hp) : Prop where
  tb : ∀ p ∈ cs, H p.2 = some (.tbl #[])
  only : ∀ b u, H b = some u → (b ∈ cs.map (·.2) ∧ u = .tbl #[]) ∨ (b = a ∧ K.lookup a = Option.none ∧ u = .frz { cls := .type "list", data := .seq vs.toArray } (.lst (ns.map V.int)))
  sc : SqL K H a (ns.map V.int)
  hok : HOk P w H s.heap
open Classical in
theorem begun (inK : K.In s.heap) (hT : ∀ p ∈ cs, s.heap.get? p.2 = some { cls := .none, data := .fields #[] }) (ha : s.heap.get? a = some { cls := .type "list", data := .seq vs.toArray }) (hi : IntsAre vs ns) (hl : ns.length ≤ sizeLine) : ∃ H, Begun P w K cs a vs ns s H := by
  have tabs : ∀ b, b ∈ cs.map (·.2) → s.heap.get? b = some { cls := .none, data := .fields #[] } := fun b z => by
    obtain ⟨p, hp, rfl⟩ := List.mem_map.mp z
    exact hT p hp
  have far : a ∉ cs.map (·.2) := fun z => by
    have z1 := (tabs a z).symm.trans ha
    cases congrArg Obj.data (Option.some.inj z1)
  refine ⟨fun b => if b ∈ cs.map (·.2) then some (.tbl #[]) else if b = a ∧ K.lookup a = Option.none then some (.frz { cls := .type "list", data := .seq vs.toArray } (.lst (ns.map V.int))) else Option.none, fun p hp => if_pos (List.mem_map.mpr ⟨p, hp, rfl⟩), fun b u hu => ?_, ?_, fun b u hu => ?_⟩
  · split at hu
    · rename_i z
      exact .inl ⟨z, (Option.some.inj hu).symm⟩
    · split at hu
      · rename_i z
        exact .inr ⟨z.1, z.2, (Option.some.inj hu).symm⟩
      · cases hu
  · cases hk : K.lookup a with
    | some o =>
      have z := (inK a o hk).symm.trans ha
      cases z
      exact .inr ⟨_, vs.toArray, _, hk, rfl, rfl, rfl, by rw [List.size_toArray, hi.length]; exact hl, by simpa using vals_ints hi⟩
    | none => exact .inl (.inr ⟨{ cls := .type "list", data := .seq vs.toArray }, (if_neg far).trans (if_pos ⟨rfl, rfl⟩)⟩)
  · split at hu
    · rename_i z
      cases hu
      exact tabs b z
    · split at hu
      · rename_i z
        cases hu
        rw [z.1]
        exact ⟨ha, by rw [List.length_map]; exact hl, vs, _, vals_ints hi, ha⟩
      · cases hu
/-- what is no list and no empty table is not told of -/
theorem Begun.bare (B : Begun P w K cs a vs ns s H) {b : Addr} {o : Obj} (hT : ∀ p ∈ cs, s.heap.get? p.2 = some { cls := .none, data := .fields #[] }) (ha : s.heap.get? a = some { cls := .type "list", data := .seq vs.toArray }) (e : s.heap.get? b = some o) (h1 : ∀ us n, o.data ≠ .seq us n) (h2 : o.data ≠ .fields #[]) : (hidT s.heap H).get? b = some o := by
  refine hidT_get e ?_
  cases hb : H b with
  | none => rfl
  | some u =>
    rcases B.only b u hb with ⟨z, _⟩ | ⟨z, _⟩
    · obtain ⟨p, hp, rfl⟩ := List.mem_map.mp z
      have z1 := Option.some.inj ((hT p hp).symm.trans e)
      exact absurd (congrArg Obj.data z1).symm h2
    · subst z
      have z1 := Option.some.inj (ha.symm.trans e)
      exact absurd (congrArg Obj.data z1).symm (h1 _ _)
/-- the law's call -/
theorem callG {k : Nat} {fa : Addr} {fd : FuncData} {x : Str} {sp : Sp} (inK : K.In s.heap) (hns : s.heap.Ns mainGlobals mg) (hb : s.heap.Ns builtinsNs mb) (hbb : ∀ y : Str, y ≠ "__name__" → mb y = bootBuiltins y) (hlim : s.heap.NoLimit) (hg : s.gens = #[])
    (hT : ∀ p ∈ cs, s.heap.get? p.2 = some { cls := .none, data := .fields #[] }) (nT : ∀ p ∈ cs, K.lookup p.2 = Option.none) (C : ∀ p ∈ cs, PySem.W.CodeHd s.heap p.1 p.2)
    (hbm : ∃ (m : Addr) (o : Obj), mg "__builtins__" = some (.ref m) ∧ m ≠ builtinsNs ∧ s.heap.get? m = some o ∧ o.cls = .type "module" ∧ o.dict = some builtinsNs ∧ o.data = .plain)
    (ha : s.heap.get? a = some { cls := .type "list", data := .seq vs.toArray }) (hi : IntsAre vs ns) (hl : ns.length ≤ sizeLine) (hr : Room k callerA)
    (F : ∀ base : Heap, K.In base → base.Ns mainGlobals mg → (∀ p ∈ cs, LamX.TabB base mg p.1 p.2) → FnG P w K mg base k fa fd [x] sp) (hbind : ∀ (t : Shared) (u : Value), BindsTo t fd ⟨[u], []⟩ [(x, u)])
    (hsp : ∀ G : Hp, (∀ p ∈ cs, G p.2 = some (.tbl #[])) → SqL K G a (ns.map V.int) → sp [.ref a] G (fun v _ => v = .bl true) fun _ _ _ => False) :
    codeAny (model P w) callerA (.call (.ref fa) ⟨[.ref a], []⟩) (fun r t => r = .ok (.ret (.bool true)) ∧ OldK s.heap t.heap ∧ t.os = s.os ∧ AllBare t.gens) s := by
  obtain ⟨H, B⟩ := begun (P := P) (w := w) inK hT ha hi hl
  have stays : ∀ {b : Addr} {o : Obj}, s.heap.get? b = some o → (∀ us n, o.data ≠ .seq us n) → o.data ≠ .fields #[] → (hidT s.heap H).get? b = some o := fun e h1 h2 => B.bare hT ha e h1 h2
  have names : ∀ {b : Addr} {m : Str → Option Value}, s.heap.Ns b m → (hidT s.heap H).Ns b m := fun ⟨o, es, ep, e, d, r⟩ => ⟨o, es, ep, stays e (fun us n z => by rw [d] at z; cases z) (fun z => by rw [d] at z; cases z), d, r⟩
  have inB : K.In (hidT s.heap H) := fun b o e => hidT_get (inK b o e) (by
    cases hbb : H b with
    | none => rfl
    | some u =>
      exfalso
      rcases B.only b u hbb with ⟨z, _⟩ | ⟨z, z2, _⟩
      · obtain ⟨p, hp, rfl⟩ := List.mem_map.mp z
        cases (nT p hp).symm.trans e
      · subst z
        cases z2.symm.trans e)
  have TB : ∀ p ∈ cs, LamX.TabB (hidT s.heap H) mg p.1 p.2 := fun p hp => by
    have hTp := hT p hp
    refine ⟨?_, ?_, fun z => ?_⟩
    · obtain ⟨o, us, fl, tf, fg, tg, inF, tx, tt, e1, r1, r2, r3, r4⟩ := C p hp
      exact ⟨o, us, fl, tf, fg, tg, inF, tx, tt, stays e1 (fun us n z => by rw [r2] at z; cases z) (fun z => by
        rw [r2] at z
        cases z
        simp at r3), r1, r2, r3, r4⟩
    · obtain ⟨m, o, b1, b2, b3, b4, b5, b6⟩ := hbm
      refine ⟨m, o, b1, b2, fun z => ?_, fun z => ?_, stays b3 (fun us n z => by rw [b6] at z; cases z) (fun z => by rw [b6] at z; cases z), b4, b5, b6⟩
      · obtain ⟨o2, es, ep, e, d, _⟩ := hns
        rw [z] at b3
        cases e.symm.trans b3
        rw [d] at b6
        cases b6
      · rw [z] at b3
        cases hTp.symm.trans b3
        cases b6
    · obtain ⟨o2, es, ep, e, d, _⟩ := hns
      rw [z] at e
      cases hTp.symm.trans e
      cases d
  have hM : L2.Mod K mg (hidT s.heap H) := ⟨inB, names hns, ⟨mb, names hb, hbb⟩, let ⟨mc, h1, h2⟩ := hlim; ⟨mc, names h1, h2⟩⟩
  have e0 : Env0 P w K mg (hidT s.heap H) callerA [] s H := ⟨rfl, hM, fun b o e => of_hidT e, Nat.le_of_eq (hidT_size _ _), trivial, fun b z => absurd z List.not_mem_nil, B.hok, .of_eq hg⟩
  refine codeAny_mono ((F _ inB (names hns) TB).go callerA rfl hr [] s H ⟨[.ref a], []⟩ [.ref a] [.ref a] _ _ e0 (hbind s (.ref a)) (.cons rfl .nil) (hsp H B.tb B.sc)) fun r t h => ?_
  cases r with
  | error e => exact False.elim h
  | ok fl =>
    cases fl with
    | ret u =>
      obtain ⟨v, G, hos, hbare, un, hokG, rel, hv⟩ := h
      have hv2 : v = .bl true := hv
      subst hv2
      obtain rfl : u = Value.bool true := rel
      have more : ∀ p ∈ cs, ∃ m : Array Value, t.heap.get? p.2 = some { cls := .none, data := .fields m } := fun p hp => by
        obtain ⟨m, z⟩ := un.tbls p.2 #[] (B.tb p hp)
        exact ⟨_, hokG p.2 _ z⟩
      have rest : ∀ b o, b ∉ cs.map (·.2) → s.heap.get? b = some o → t.heap.get? b = some o := fun b o nb e => by
        cases hbH : H b with
        | none => exact un.keep b o e hbH (fun z => absurd z List.not_mem_nil) List.not_mem_nil
        | some y =>
          rcases B.only b y hbH with ⟨z, _⟩ | ⟨_, _, rfl⟩
          · exact absurd z nb
          · obtain ⟨g1, _⟩ := B.hok b _ hbH
            obtain ⟨g2, _⟩ := hokG b _ (un.frzs b _ _ hbH)
            cases g1.symm.trans e
            exact g2
      refine ⟨rfl, ⟨fun b o e => ?_, fun b o e => ?_⟩, hos, hbare⟩
      · by_cases z : b ∈ cs.map (·.2)
        · obtain ⟨p, hp, rfl⟩ := List.mem_map.mp z
          obtain ⟨m, hm⟩ := more p hp
          cases (hT p hp).symm.trans e
          exact .inr (.inl ⟨((C p hp).tab (hT p hp)).isCodeTable, rfl, #[], m, rfl, by rw [Array.empty_append]; exact hm⟩)
        · exact .inl (rest b o z e)
      · by_cases z : b ∈ cs.map (·.2)
        · obtain ⟨p, hp, rfl⟩ := List.mem_map.mp z
          obtain ⟨m, hm⟩ := more p hp
          exact ⟨_, hm⟩
        · exact ⟨o, rest b o z e⟩
    | _ => exact False.elim h
end
/-- what is known of the law at the head's heap -/
def LawAtG (l : PySem.W.OpenLaw) (w : World) (K : PySem.W.Frag) (k n : Nat) (x : Str) (mg : Str → Option Value) (fa : Addr) (h : Heap) : Prop :=
  ∃ (fd : FuncData) (cs : List (Addr × Addr)) (sp : Sp), (∀ p ∈ cs, h.get? p.2 = some { cls := .none, data := .fields #[] }) ∧ (∀ p ∈ cs, K.lookup p.2 = none) ∧ (∀ p ∈ cs, PySem.W.CodeHd h p.1 p.2) ∧ (∀ (t : Shared) (u : Value), BindsTo t fd ⟨[u], []⟩ [(x, u)]) ∧
    (∀ (G : Hp) (sc : Addr) (ns : List Int), ns.length ≤ n → (∀ z ∈ ns, Builtin.Int.intBits z ≤ 1048576) → (∀ p ∈ cs, G p.2 = some (.tbl #[])) → SqL K G sc (ns.map V.int) → sp [.ref sc] G (fun v _ => v = .bl true) fun _ _ _ => False) ∧
    ∀ base : Heap, K.In base → base.Ns mainGlobals mg → (∀ p ∈ cs, LamX.TabB base mg p.1 p.2) → FnG l.prog w K mg base k fa fd [x] sp
theorem walk_ofG {l : PySem.W.OpenLaw} {n k : Nat} {q : Program} {loose : List Str} {XP : (Str → Option Value) → Heap → Prop} {YP : World → Heap → Prop} {d : DefRec} {K : Params → PySem.W.Frag} {x : Str}
    (hn : l.most = some n) (hz : n ≤ sizeLine) (hdf : d.params.defaults = []) (hr : Room k callerA) (hY : ∀ (v : World) (h : Heap), YP v h → (K v.params).In h)
    (F : ∀ (w : World) (mg : Str → Option Value) (fl : Addr) (h : Heap), YP w h → (K w.params).In h → h.Ns mainGlobals mg → mg d.name = some (.ref fl) →
      (∀ (nm : Str) (fb : Addr), ((recsOf q).any fun e => e.name == nm) = true → mg nm = some (.ref fb) → OwnTC (K w.params) fb h) → LawAtG l w (K w.params) k n x mg fl h) :
    PySem.W.WalkO q loose XP YP l.row.toRowW d [] (fun f vs => PySem.call f vs) := by
  refine Att.attach_callB hn hdf fun w s₀ s₁ mg mb fa o pm cd dc a vs ns G Y ho hd hcd hmg hobj hints hlen hbits hg => ?_
  have KX := hY w _ Y
  obtain ⟨fd, cs, sp, hT, nT, C, hb, hsp, hF⟩ := F w mg fa _ Y KX G.T.g hmg fun nm fb hrec hnm c P o1 fd1 e dd vs1 sl k1 k2 k3 k4 k5 => by
    obtain ⟨dL, hm, hn1⟩ := List.any_eq_true.mp hrec
    have hn3 : dL.name = nm := beq_iff_eq.mp hn1
    obtain ⟨a', o', fd', c', P', g1, g2, g3, g4, g5, g6⟩ := G.T.tab dL hm
    rw [hn3, hnm] at g1
    cases g1
    rw [KX _ _ k1] at g2
    cases g2
    rw [k2] at g3
    cases g3
    rw [k3] at g4
    cases g4
    have g7 := g6
    obtain ⟨⟨oc, vc, e1, _, e3, e4⟩, hP⟩ := g7
    rw [KX _ _ k4] at e1
    cases e1
    cases e3
    rw [k5] at e4
    cases e4
    exact ⟨hP, PySem.W.CodeHd.of g5 g6⟩
  exact callG KX G.T.g G.T.b G.T.builtins G.T.nolimit hg hT nT C G.T.bmain hobj hints (Nat.le_trans hlen hz) hr hF hb fun H hH hS => hsp H a ns hlen hbits hH hS
end My

set_option Elab.async false
set_option linter.all false
set_option maxRecDepth 100000
set_option maxHeartbeats 2000000
namespace My
open PySem PySem.Spec PyProof.Rows L2
/-! ### all(elt for target in iter), any(..), the element of any kind -/
section
variable {X : Cx}
theorem repin {A : Around} {s s' : Shared} {H H' : Hp} {cenv : Env} {fp : List Addr} {pn pins : List (Addr × Obj)} {σ : L2.St} (I : Inv (gxC X A s H cenv fp pn) pins σ H' s') : Inv (gxC X A s H cenv fp []) (pn ++ pins) σ H' s' :=
  ⟨⟨I.ok.mod, I.ok.kind, I.ok.glob, I.ok.blt, I.ok.above, I.ok.inj, I.ok.has, I.ok.cab, I.ok.hd, I.ok.frames, I.ok.stk, I.ok.exf, I.ok.bs, I.ok.bsz, I.ok.noex, I.ok.exfs, I.ok.funs, I.ok.frf⟩, I.os, I.bare, I.base, I.loc, I.cell, I.free, I.freeC, I.pin, I.hok, I.len⟩
theorem all_loopC {A : Around} {fp : List Addr} {tn : Nat → Heap → Prop} {σ0 : L2.St} {W : Nat → Hp → Prop} {n : Nat} {tr : Nat → Bool} {a : Addr} {g : Nat} {go : Obj} {R : Result → Shared → Prop}
    (hh : A.handled = none) (hd : A.depth < recursionLimit) (hgo : ∀ h : Heap, h.get? a = some go → h.IsGen a g) (hnc : ∀ v, go.data ≠ .cell v)
    (hR1 : ∀ s' o H, (∀ j, j < n → tr j = true) → Inv X [(a, o)] σ0 H s' → W n H → R (.ok (.ret (.bool true))) s')
    (hR0 : ∀ s' o H j, j < n → tr j = false → (∀ i, i < j → tr i = true) → Inv X [(a, o)] σ0 H s' → W (j + 1) H → R (.ok (.ret (.bool false))) s') :
    ∀ (k i : Nat) (s : Shared), i + k = n → (∀ j, j < i → tr j = true) → GxSt X A.in1.in1 fp tn σ0 W a n (fun i => .bl (tr i)) a g k s → s.heap.get? a = some go →
      codeAny (model X.prog X.w) A (.builtin "all.loop" ⟨[.ref a], []⟩) R s := by
  intro k
  induction k with
  | zero =>
    intro i s hk hall Z hS
    have hin : i = n := by omega
    subst hin
    obtain ⟨hg, hl, hb, gs, hgs, hgoes⟩ := Z
    refine codeAny_builtin F.entry_all_loop ?_
    rw [Around.under_plainId F.plain_all_loop _]
    show wpAny _ A.in1 (pyNext (.ref a) >>= _) _ _ s
    refine wpAny_bind (wpAny_pyNext_genexpQ (A := A.in1) hh hl hd hg hgs (hgoes (s.setGen g .running) _ ⟨rfl, allBare_setGen hb rfl, fun b u _ e => e, hS, hnc⟩) (fun v s₁ gs' hbare hv => ?_) fun s₁ hp h' hk' => ?_)
    · obtain ⟨i', o, H, _, _, _, G, hkap⟩ := hv
      obtain ⟨p1, _, _, _, p5⟩ := G.inv.pin (a, o) (List.mem_append_right _ List.mem_cons_self)
      exact (hkap s₁ o ⟨rfl, G.inv.bare, fun b u _ e => e, p1, p5⟩).elim
    · obtain ⟨_, o, H, I, w⟩ := hp
      refine wpAny_bind (wpAny_rule (wpAny_pure (hR1 _ o H hall ?_ w)))
      exact I.call' (ch := []) rfl (Un.kept hk') (I.hok.kept hk') (allBare_setGen I.bare rfl) (fun b hb => absurd hb (by simp))
  | succ k ih =>
    intro i s hk hall Z hS
    have hlt : i < n := by omega
    obtain ⟨hg, hl, hb, gs, hgs, hgoes⟩ := Z
    have hgl : g < s.gens.size := (Array.getElem?_eq_some_iff.mp hgs).1
    refine codeAny_builtin F.entry_all_loop ?_
    rw [Around.under_plainId F.plain_all_loop _]
    show wpAny _ A.in1 (pyNext (.ref a) >>= _) _ _ s
    refine wpAny_bind (GenW.wpAny_gsz (n := g + 1) hgl (wpAny_pyNext_genexpQ (A := A.in1) hh hl hd hg hgs (hgoes (s.setGen g .running) _ ⟨rfl, allBare_setGen hb rfl, fun b u _ e => e, hS, hnc⟩) (fun v s₁ gs' hbare hv => ?_) fun s₁ hp h' hk' => ?_))
    · intro hsz
      obtain ⟨i', o, H, hi', hrel, hs0, G, hkap⟩ := hv
      have ei : i' = i := by omega
      subst ei
      obtain rfl : v = .bool (tr i') := hrel
      have eo : o = go := by
        have h1 : s.heap.get? a = some o := hs0
        rw [hS] at h1
        exact (Option.some.inj h1).symm
      subst eo
      obtain ⟨p1, _, _, _, p5⟩ := G.inv.pin (a, o) (List.mem_append_right _ List.mem_cons_self)
      refine wpAny_bind (wpAny_holding (wpAny_truthy_bool (wpAny_bind (wpAny_letGo ?_))))
      cases hb : tr i' with
      | true =>
        simp only [if_true]
        have hsz1 : g < s₁.gens.size := by
          have q : (s₁.setGen g gs').gens.size = s₁.gens.size := GenW.setGen_size _ _ _
          have hsz' : g + 1 ≤ (s₁.setGen g gs').gens.size := hsz
          omega
        refine wpAny_pure ⟨plainId_quiet F.plain_all_loop _, ih (i' + 1) _ (by omega) (fun j hj => ?_) ⟨hgo _ p1, G.inv.nolimit, allBare_setGen (s := s₁) G.inv.bare hbare, gs', setGen_at (s := s₁) hsz1, fun s'' o'' z => ?_⟩ p1⟩
        · by_cases e : j = i'
          · rw [e]
            exact hb
          · exact hall j (by omega)
        · exact hkap s'' o'' ⟨z.os, z.bare, z.keep, z.own, z.nc⟩
      | false =>
        simp only [Bool.false_eq_true, if_false]
        refine wpAny_bind (wpAny_rule (wpAny_pure (hR0 _ o H i' hlt hb hall ?_ G.w)))
        exact G.inv.call' (ch := []) rfl (Un.kept fun b u e => e) G.inv.hok (allBare_setGen G.inv.bare hbare) (fun b hb => absurd hb (by simp))
    · exact absurd hp.1 (Nat.succ_ne_zero k)
/-- all(..) -/
def tAllC (P : Addr) (wi : TI) (g : L2.TG) (te : TE) (vs : List Nat) : TE := fun σ H Q => wi σ H fun J H1 => GxR.TabG H1 P ∧ ∀ H2, GxR.Tabbed P H1 H2 →
  ∃ (n : Nat) (tr : Nat → Bool) (W : Nat → Hp → Prop), W 0 H2 ∧ gxStep J g te vs (wipe σ vs) W n (fun i => .bl (tr i)) ∧ (∀ H3, W n H3 → (∀ j, j < n → tr j = true) → Q (.bl true) H3) ∧ ∀ j H3, j < n → tr j = false → (∀ i, i < j → tr i = true) → W (j + 1) H3 → Q (.bl false) H3
theorem pe_allC {c P : Addr} {elt tg iter : Expr} {p pos gpos : Pos} {scope : Scope} {own : List (Str × Nat)} {wi : TI} {g : L2.TG} {te : TE} {k : Nat}
    (hr : Room (k + 3) X.A) (hg : Gl X "all") (hm : X.mg "all" = none) (TB : LamX.TabB X.base X.mg c P) (hcode : X.env.code = .ref c) (S : GxS X scope own) (hN : X.N.Nodup) (hc : X.calm = true) (hi : PI X tg iter wi)
    (pg : ∀ (A : Around) (s : Shared) (H : Hp) (C : Addr) (cl : List (Str × Addr)) (code : Value) (fp : List Addr) (pn : List (Addr × Obj)), PG (gxC X A s H (genEnv scope cl C code builtinsNs X.env) fp pn) tg g)
    (pe : ∀ (A : Around) (s : Shared) (H : Hp) (C : Addr) (cl : List (Str × Addr)) (code : Value) (fp : List Addr) (pn : List (Addr × Obj)), Room k A → PE (gxC X A s H (genEnv scope cl C code builtinsNs X.env) fp pn) elt te)
    (hb : bootBuiltins "all" = some (.builtin "all") := by decide +kernel) (hs : ∀ v, genFold iter X.env v = pure v := by intro _; rfl)
    (he : starEach [.GeneratorExp elt [⟨tg, iter, [], 0⟩] scope gpos] X.env = (false, eval (.GeneratorExp elt [⟨tg, iter, [], 0⟩] scope gpos) X.env) :: starEach [] X.env := by rfl) :
    PE X (.Call (.Name "all" p) [.GeneratorExp elt [⟨tg, iter, [], 0⟩] scope gpos] [] pos) (tAllC P wi g te (own.map (·.2))) := by
  refine ⟨fun pins s σ H Q I h => ?_⟩
  refine wpAny_Call_Name_kw (ld_blt I hg hm hb (PyProof.Rows.callWith_builtin1 ?_ he (by rfl)))
  rw [he]
  refine Calls.spliced_cons (gx_make hr TB hcode S hN hi hs I h fun J H1 H2 a s5 hR hTb hG => ?_)
  refine Calls.spliced_nil ?_
  obtain ⟨n, tr, W, w0, step, hend1, hend0⟩ := hR H2 hTb
  obtain ⟨s4, code, cenv, fp, it, tn, go, ec, I4, f4, T, st5, egs, hgen, hga, hlt, hInv⟩ := hG
  have I5 := repin (hInv X.A.in1.in1 hr.hd I4.ok.frames)
  have hroom : Room k (X.A.in1.in1.deeper cenv) := hr.in1.in1.deeper cenv
  have pg' := pg (X.A.in1.in1.deeper cenv) s4 H2 s4.heap.objs.size (cloFrom X.env.cells scope.names []) code fp []
  have pe' := pe (X.A.in1.in1.deeper cenv) s4 H2 s4.heap.objs.size (cloFrom X.env.cells scope.names []) code fp [] hroom
  rw [← ec] at pg' pe'
  have hgen5 : s5.heap.IsGen a s4.gens.size := hgen _ hga
  obtain ⟨_, ga, gb, gc, hnc⟩ := I5.pin (a, go) (by simp)
  have haf : a ∉ fp := fun hb => Nat.lt_irrefl _ (Nat.lt_trans (f4 a hb).2 hlt)
  have hcl : ∀ x c, cenv.cells.lookup x = some c → c ≠ a := fun x c e z => by
    obtain ⟨v, o, e1, e2⟩ := I5.cell x c e
    rw [z, hga] at e1
    cases e1
    exact hnc _ e2
  refine call_function_tree F.kind_all F.plain_all F.entry_all (F.args_all1 _) ?_
  unfold Builtin.«all»
  refine wpAny_bind (m := oneArg "all" _) (wpAny_pure ?_)
  refine wpAny_bind (wpAny_pyIter_gen hgen5 ?_)
  refine wpAny_pure ⟨plainId_quiet F.plain_all_loop _, all_loopC (X := gxC X (X.A.in1.in1.deeper cenv) s4 H2 cenv fp []) (A := X.A) (fp := fp) (tn := tn) (σ0 := wipe σ (own.map (·.2))) (W := W) (n := n) (tr := tr) (a := a) (g := s4.gens.size) (go := go)
    hr.hd (by have := hr.dp; omega) hgen hnc (fun s' o H3 hdone I' w' => ?_) (fun s' o H3 j hj hsj hal I' w' => ?_) n 0 _ (Nat.zero_add n) (fun j hj => absurd hj (Nat.not_lt_zero j)) ⟨hgen5, I5.nolimit, I5.bare, .fresh (.compStart (.GeneratorExp elt [⟨tg, iter, [], 0⟩] scope gpos) 0 (.ref it) .none cenv), ?_, fun s'' o' z => ⟨rfl, ?_⟩⟩ hga⟩
  · refine ⟨.bl true, H3, ?_, rfl, hend1 H3 w' hdone⟩
    exact I4.call' (ch := fp) I'.os I'.base I'.hok I'.bare fun b hb => ⟨(f4 b hb).1.2.2.2.1, (f4 b hb).1.2.1, (f4 b hb).1.2.2.2.2.1, (f4 b hb).1.2.2.2.2.2⟩
  · refine ⟨.bl false, H3, ?_, rfl, hend0 j H3 hj hsj hal w'⟩
    exact I4.call' (ch := fp) I'.os I'.base I'.hok I'.bare fun b hb => ⟨(f4 b hb).1.2.2.2.1, (f4 b hb).1.2.1, (f4 b hb).1.2.2.2.2.1, (f4 b hb).1.2.2.2.2.2⟩
  · show s5.gens[s4.gens.size]? = _
    rw [egs]
    exact Array.getElem?_push_size ..
  · have Iz : Inv (gxC X (X.A.in1.in1.deeper cenv) s4 H2 cenv fp []) [(a, o')] (wipe σ (own.map (·.2))) H2 s'' := woke I5 (Nat.le_of_lt hlt) hcl (fun p hp => absurd hp (by simp)) z.os z.bare z.keep z.own z.nc
    have stz : tn 0 s''.heap := T.keep _ _ _ st5 fun b hb u e => z.keep b u (fun q => haf (q ▸ hb)) e
    exact gx_begin (X := gxC X (X.A.in1.in1.deeper cenv) s4 H2 cenv fp []) T stz (gx_loop (X := gxC X (X.A.in1.in1.deeper cenv) s4 H2 cenv fp []) rfl T hc rfl haf (fun p hp => absurd hp List.not_mem_nil) (fun _ _ q => q) (by rw [ec]; exact S.co) (Nat.le_of_lt hlt) hcl (fun p hp => absurd hp List.not_mem_nil) pg' pe' step n 0 s'' s'' o' H2 (Nat.zero_add n) z.own ⟨Iz, stz, fun b hb => (f4 b hb).1.1, w0⟩)
end
end My

set_option Elab.async false
set_option linter.all false
set_option maxRecDepth 100000
set_option maxHeartbeats 2000000
namespace My
open PySem PySem.Spec PyProof.Rows L2
theorem gx_step {J : It} {n : Nat} {G : Hp → Prop} {Y : Nat → Hp → V → Hp → Prop} (w : Walk J n G Y) {g : L2.TG} {te : TE} {vs : List Nat} {σ0 : L2.St} {F : Nat → V} {Pv : Nat → Hp → Prop}
    (hG : ∀ i H, i ≤ n → Pv i H → G H) (hs : ∀ i x H H', i < n → Pv i H → Y i H x H' → g x σ0 H' fun σ2 H2 => wipe σ2 vs = σ0 ∧ te σ2 H2 fun y H3 => y = F i ∧ i + 1 ≤ n ∧ Pv (i + 1) H3) :
    gxStep J g te vs σ0 (fun i H => i ≤ n ∧ Pv i H) n F := fun i H hW => ⟨fun hi => ⟨w.goes i H hi (hG i H hW.1 hW.2), fun x H' y => hs i x H H' hi hW.2 (w.yields i H x H' hi (hG i H hW.1 hW.2) y)⟩, fun e => by
    subst e
    exact w.stops H (hG i H hW.1 hW.2)⟩
/-! ### data that lies away from some places -/
def hidS (L : List Addr) (H : Hp) : Hp := fun b => if b ∈ L then none else H b
theorem hid_some {L : List Addr} {H : Hp} {b : Addr} {o : HO} : hidS L H b = some o ↔ b ∉ L ∧ H b = some o := by
  unfold hidS
  split
  · rename_i h
    exact ⟨(fun z => nomatch z), (fun z => absurd h z.1)⟩
  · rename_i h
    exact ⟨fun z => ⟨h, z⟩, fun z => z.2⟩
abbrev Fl (L : List Addr) (H : Hp) (v : V) (d : PyData) : Prop := Ft (hidS L H) v d
abbrev FlA (L : List Addr) (H : Hp) (vs : List V) (ds : List PyData) : Prop := FtA (hidS L H) vs ds
theorem hid_same {L : List Addr} {H : Hp} : Same (hidS L H) H := fun _ _ e => (hid_some.mp e).2
theorem hid_keep {L : List Addr} {H H' : Hp} (k : ∀ b o, b ∉ L → H b = some o → H' b = some o) : Same (hidS L H) (hidS L H') := fun b o e => hid_some.mpr ⟨(hid_some.mp e).1, k b o (hid_some.mp e).1 (hid_some.mp e).2⟩
theorem hid_sub {L L' : List Addr} {H : Hp} (h : ∀ b ∈ L', b ∈ L) : Same (hidS L H) (hidS L' H) := fun b o e => hid_some.mpr ⟨fun z => (hid_some.mp e).1 (h b z), (hid_some.mp e).2⟩
theorem Fl.to {L : List Addr} {H : Hp} {v : V} {d : PyData} (h : Fl L H v d) : Ft H v d := Ft.mono hid_same _ _ h
theorem FlA.to {L : List Addr} {H : Hp} {vs : List V} {ds : List PyData} (h : FlA L H vs ds) : FtA H vs ds := FtA.mono hid_same _ _ h
theorem Fl.keep {L : List Addr} {H H' : Hp} {v : V} {d : PyData} (h : Fl L H v d) (k : ∀ b o, b ∉ L → H b = some o → H' b = some o) : Fl L H' v d := Ft.mono (hid_keep k) _ _ h
theorem FlA.keep {L : List Addr} {H H' : Hp} {vs : List V} {ds : List PyData} (h : FlA L H vs ds) (k : ∀ b o, b ∉ L → H b = some o → H' b = some o) : FlA L H' vs ds := FtA.mono (hid_keep k) _ _ h
theorem Fl.sub {L L' : List Addr} {H : Hp} {v : V} {d : PyData} (h : Fl L H v d) (hs : ∀ b ∈ L', b ∈ L) : Fl L' H v d := Ft.mono (hid_sub hs) _ _ h
theorem FlA.sub {L L' : List Addr} {H : Hp} {vs : List V} {ds : List PyData} (h : FlA L H vs ds) (hs : ∀ b ∈ L', b ∈ L) : FlA L' H vs ds := FtA.mono (hid_sub hs) _ _ h
theorem Fl.same {L : List Addr} {H H' : Hp} {v : V} {d : PyData} (h : Fl L H v d) (k : Same H H') : Fl L H' v d := h.keep fun b o _ e => k b o e
theorem FlA.same {L : List Addr} {H H' : Hp} {vs : List V} {ds : List PyData} (h : FlA L H vs ds) (k : Same H H') : FlA L H' vs ds := h.keep fun b o _ e => k b o e
theorem Fl.sx {Ps L : List Addr} {H H' : Hp} {v : V} {d : PyData} (h : Fl L H v d) (k : Sx Ps H H') (hs : ∀ b ∈ Ps, b ∈ L) : Fl L H' v d := h.keep fun b o nb e => k b o (fun z => nb (hs b z)) e
theorem FlA.sx {Ps L : List Addr} {H H' : Hp} {vs : List V} {ds : List PyData} (h : FlA L H vs ds) (k : Sx Ps H H') (hs : ∀ b ∈ Ps, b ∈ L) : FlA L H' vs ds := h.keep fun b o nb e => k b o (fun z => nb (hs b z)) e
theorem Fl.kp {r : Addr} {L : List Addr} {H H' : Hp} {v : V} {d : PyData} (h : Fl L H v d) (k : Kp r H H') (hs : r ∈ L) : Fl L H' v d := h.keep fun b o nb e => k b o (fun z => nb (z ▸ hs)) e
theorem FlA.kp {r : Addr} {L : List Addr} {H H' : Hp} {vs : List V} {ds : List PyData} (h : FlA L H vs ds) (k : Kp r H H') (hs : r ∈ L) : FlA L H' vs ds := h.keep fun b o nb e => k b o (fun z => nb (z ▸ hs)) e
theorem Fl.tup {L : List Addr} {H : Hp} {p : Addr} {xs : List V} {ds : List PyData} (n : p ∉ L) (h : H p = some (.tup xs)) (a : FlA L H xs ds) : Fl L H (.ref p) (.tuple ds) := Ft.tup (hid_some.mpr ⟨n, h⟩) a
theorem Fl.lst {L : List Addr} {H : Hp} {p : Addr} {xs : List V} {ds : List PyData} (n : p ∉ L) (h : H p = some (.lst xs)) (a : FlA L H xs ds) : Fl L H (.ref p) (.list ds) := Ft.lst (hid_some.mpr ⟨n, h⟩) a
theorem Fl.openT {L : List Addr} {H : Hp} {v : V} {ds : List PyData} (h : Fl L H v (.tuple ds)) : ∃ (a : Addr) (xs : List V), v = .ref a ∧ a ∉ L ∧ H a = some (.tup xs) ∧ FlA L H xs ds := by
  cases h with
  | tup e a => exact ⟨_, _, rfl, (hid_some.mp e).1, (hid_some.mp e).2, a⟩
theorem Fl.isStr {L : List Addr} {H : Hp} {v : V} {z : Str} (h : Fl L H v (.str z)) : v = .str z := by
  cases h
  rfl
theorem Fl.isInt {L : List Addr} {H : Hp} {v : V} {i : Int} (h : Fl L H v (.int i)) : v = .int i := by
  cases h
  rfl
theorem FlA.one {L : List Addr} {H : Hp} {vs : List V} {a : PyData} (h : FlA L H vs [a]) : ∃ x, vs = [x] ∧ Fl L H x a := by
  cases h with
  | cons f g =>
    cases g
    exact ⟨_, rfl, f⟩
theorem FlA.two {L : List Addr} {H : Hp} {vs : List V} {a b : PyData} (h : FlA L H vs [a, b]) : ∃ x y, vs = [x, y] ∧ Fl L H x a ∧ Fl L H y b := by
  cases h with
  | cons f g =>
    obtain ⟨y, rfl, fy⟩ := FlA.one g
    exact ⟨_, y, rfl, f, fy⟩
theorem FlA.three {L : List Addr} {H : Hp} {vs : List V} {a b c : PyData} (h : FlA L H vs [a, b, c]) : ∃ x y z, vs = [x, y, z] ∧ Fl L H x a ∧ Fl L H y b ∧ Fl L H z c := by
  cases h with
  | cons f g =>
    obtain ⟨y, z, rfl, fy, fz⟩ := FlA.two g
    exact ⟨_, y, z, rfl, f, fy, fz⟩
theorem FlA.at {L : List Addr} {H : Hp} {vs : List V} {ds : List PyData} (h : FlA L H vs ds) {i : Int} (h0 : 0 ≤ i) (h1 : i < ds.length) : ∃ v d, atI vs i = some v ∧ ds[i.toNat]? = some d ∧ Fl L H v d := by
  have hl := FtA.len h
  have hi : i.toNat < vs.length := by omega
  obtain ⟨d, e, f⟩ := FtA.getV h (List.getElem?_eq_getElem hi)
  refine ⟨_, d, ?_, e, f⟩
  have e2 := atI_nat (List.getElem?_eq_getElem hi)
  rw [show ((i.toNat : Nat) : Int) = i by omega] at e2
  exact e2
theorem FlA.app {L : List Addr} {H : Hp} : ∀ {vs us : List V} {ds es : List PyData}, FlA L H vs ds → FlA L H us es → FlA L H (vs ++ us) (ds ++ es)
  | _, _, _, _, .nil, h => h
  | _, _, _, _, .cons a r, h => .cons a (FlA.app r h)
theorem FlA.take {L : List Addr} {H : Hp} : ∀ (n : Nat) {vs : List V} {ds : List PyData}, FlA L H vs ds → FlA L H (vs.take n) (ds.take n)
  | 0, _, _, _ => .nil
  | _ + 1, _, _, .nil => .nil
  | n + 1, _, _, .cons a r => .cons a (FlA.take n r)
theorem FlA.drop {L : List Addr} {H : Hp} : ∀ (n : Nat) {vs : List V} {ds : List PyData}, FlA L H vs ds → FlA L H (vs.drop n) (ds.drop n)
  | 0, _, _, h => h
  | _ + 1, _, _, .nil => .nil
  | n + 1, _, _, .cons _ r => FlA.drop n r
/-! ### what isinstance tells of data, more -/
def isIn : PyData → Bool
  | .int _ => true
  | .bool _ => true
  | _ => false
theorem kit_in {K : PySem.W.Frag} (d : PyData) : PySem.W.kitOne K (.type (tyN d)) (.type "int") = some (isIn d) := by
  cases d <;> exact kit_ty (by kernel_rfl)
/-! ### questions, of any data -/
def isNumD : PyData → Bool
  | .int i => decide (0 ≤ i) && decide (i ≤ 999)
  | _ => false
def sgD : PyData → Option Nat
  | .str z => match z.cps.toList with
    | [c] => some c
    | _ => none
  | _ => none
def isLetD (cols : List Nat) (d : PyData) : Bool := match sgD d with
  | some c => decide (c ∈ cols)
  | none => false
def leD : PyData → PyData → Bool
  | .int i, .int j => decide (i ≤ j)
  | _, _ => false
def isEqD (cols : List Nat) : PyData → Bool
  | .tuple [a, b] => isLetD cols a && isNumD b
  | _ => false
def letD : PyData → Nat
  | .tuple (a :: _) => (sgD a).getD 0
  | _ => 0
def risB : List Nat → Bool
  | a :: b :: l => decide (a < b) && risB (b :: l)
  | _ => true
def isEqsD (cols : List Nat) : PyData → Bool
  | .tuple ps => ps.all (isEqD cols) && risB (ps.map letD)
  | _ => false
def isReD (cols : List Nat) : PyData → Bool
  | .tuple [a, b, c] => isLetD cols a && isNumD b && isNumD c && leD b c
  | _ => false
def letsD : PyData → List Nat
  | .tuple ps => ps.map letD
  | _ => []
def isQD (cols : List Nat) : PyData → Bool
  | .tuple [e, r] => isEqsD cols e && (match r with
    | .none => true
    | r => isReD cols r && !decide (letD r ∈ letsD e))
  | _ => false
theorem sg_of {z : Str} (h : z.length = 1) : ∃ c, z = sS c := by
  obtain ⟨⟨l⟩⟩ := z
  have h1 : l.length = 1 := h
  match l, h1 with
  | [c], _ => exact ⟨c, rfl⟩
theorem sg_none {z : Str} (h : z.length ≠ 1) : sgD (.str z) = none := by
  obtain ⟨⟨l⟩⟩ := z
  have h1 : l.length ≠ 1 := h
  match l, h1 with
  | [], _ => rfl
  | [c], h1 => exact absurd rfl h1
  | _ :: _ :: _, _ => rfl
theorem isLet_open {cols : List Nat} {d : PyData} (h : isLetD cols d = true) : ∃ c, d = .str (sS c) ∧ c ∈ cols ∧ sgD d = some c := by
  cases d with
  | str z =>
    by_cases e : z.length = 1
    · obtain ⟨c, rfl⟩ := sg_of e
      exact ⟨c, rfl, by simpa [isLetD, sgD, sS] using h, rfl⟩
    · unfold isLetD at h
      rw [sg_none e] at h
      cases h
  | _ => cases h
theorem isNum_open {d : PyData} (h : isNumD d = true) : ∃ i, d = .int i ∧ 0 ≤ i ∧ i ≤ 999 := by
  cases d with
  | int i =>
    unfold isNumD at h
    rw [Bool.and_eq_true, decide_eq_true_eq, decide_eq_true_eq] at h
    exact ⟨i, rfl, h.1, h.2⟩
  | _ => cases h
theorem isEq_open {cols : List Nat} {d : PyData} (h : isEqD cols d = true) : ∃ c i, d = .tuple [.str (sS c), .int i] ∧ c ∈ cols ∧ 0 ≤ i ∧ i ≤ 999 ∧ letD d = c := by
  unfold isEqD at h
  split at h
  · rw [Bool.and_eq_true] at h
    obtain ⟨c, rfl, hc, _⟩ := isLet_open h.1
    obtain ⟨i, rfl, h0, h1⟩ := isNum_open h.2
    exact ⟨c, i, rfl, hc, h0, h1, rfl⟩
  · cases h
theorem ris_get : ∀ (l : List Nat), risB l = true ↔ ∀ i, i + 1 < l.length → l.getD i 0 < l.getD (i + 1) 0
  | [] => by simp [risB]
  | [a] => by simp [risB]
  | a :: b :: l => by
    have ih := ris_get (b :: l)
    unfold risB
    rw [Bool.and_eq_true, decide_eq_true_eq, ih]
    constructor
    · rintro ⟨h1, h2⟩ i hi
      cases i with
      | zero => exact h1
      | succ i => exact h2 i (by simpa using hi)
    · intro h
      exact ⟨h 0 (by simp), fun i hi => h (i + 1) (by simpa using hi)⟩
end My
namespace My
open PySem PySem.Spec PyProof.Rows L2
theorem shA_mem {n m : Nat} : ∀ {ds : List PyData}, PyData.showableAll ds = true → PyData.hasDictAll ds = false → PyData.leavesShortAll 100 ds = true → PyData.depthAll ds ≤ n → PyData.weightAll ds ≤ m → PyData.canLayAll0 ds = true → ∀ d ∈ ds, Sh n m d
  | [], _, _, _, _, _, _, d, h => nomatch h
  | x :: xs, h1, h2, h3, h4, h5, h6, d, h => by
    simp only [PyData.canLayAll0, Bool.and_eq_true] at h6
    simp only [PyData.showableAll, Bool.and_eq_true] at h1
    simp only [PyData.hasDictAll, Bool.or_eq_false_iff] at h2
    simp only [PyData.leavesShortAll, Bool.and_eq_true] at h3
    simp only [PyData.depthAll] at h4
    simp only [PyData.weightAll] at h5
    rcases List.mem_cons.mp h with e | e
    · rw [e]
      exact ⟨h1.1, h2.1, h3.1, by omega, by omega, h6.1⟩
    · exact shA_mem h1.2 h2.2 h3.2 (by omega) (by omega) h6.2 d e
theorem Sh.memT {n m : Nat} {ds : List PyData} (h : Sh n m (.tuple ds)) : ∀ d ∈ ds, Sh n m d := by
  have h4 : PyData.depthAll ds + 1 ≤ n := h.dp
  exact shA_mem h.ok h.nd h.sh (by omega) h.wt h.ly
theorem Sh.len {n m : Nat} {z : Str} (h : Sh n m (.str z)) (hm : m ≤ 100000) : z.length ≤ sizeLine := by
  have h1 : z.cps.size ≤ m := h.wt
  have h2 : z.length = z.cps.size := rfl
  rw [sizeLine_eq, h2]
  omega
theorem tp_open {d : PyData} (h : isTp d = true) : ∃ ds, d = .tuple ds := by
  cases d with
  | tuple ds => exact ⟨ds, rfl⟩
  | _ => cases h
theorem st_open {d : PyData} (h : isSt d = true) : ∃ z, d = .str z := by
  cases d with
  | str z => exact ⟨z, rfl⟩
  | _ => cases h
theorem int_open {d : PyData} (h : (isIn d && !isBl d) = true) : ∃ i, d = .int i := by
  cases d with
  | int i => exact ⟨i, rfl⟩
  | bool b => cases h
  | _ => cases h
theorem lets_get : ∀ {ps : List PyData} (i : Nat), i < ps.length → (ps.map letD).getD i 0 = letD (ps.getD i .none)
  | [], i, h => nomatch h
  | p :: ps, 0, _ => rfl
  | p :: ps, i + 1, h => lets_get (ps := ps) i (by simpa using h)
theorem cps_lt (a b : Nat) : decide ((sS a).cps.toList < (sS b).cps.toList) = decide (a < b) := by
  refine decide_eq_decide.mpr ?_
  show [a] < [b] ↔ a < b
  constructor
  · intro h
    cases h with
    | rel h => exact h
    | cons h => cases h
  · exact fun h => List.Lex.rel h
/-- a frozen thing among data away from places that hold no tuple -/
theorem Fz.fl {L : List Addr} {H : Hp} (hL : ∀ b ∈ L, ∀ xs, H b ≠ some (.tup xs)) : ∀ {d : PyData} {v : V}, Fz H v d → Fl L H v d := by
  have key : ∀ n, ∀ (d : PyData) (v : V), d.depth < n → Fz H v d → Fl L H v d := by
    intro n
    induction n with
    | zero => exact fun d v h => absurd h (Nat.not_lt_zero _)
    | succ n ih =>
      intro d v hd f
      have all : ∀ (ds : List PyData) (vs : List V), PyData.depthAll ds < n → FzA H vs ds → FlA L H vs ds := by
        intro ds
        induction ds with
        | nil =>
          intro vs _ g
          cases g
          exact .nil
        | cons d ds ih2 =>
          intro vs hn g
          simp only [PyData.depthAll] at hn
          cases g with
          | cons a r => exact .cons (ih d _ (by omega) a) (ih2 _ (by omega) r)
      cases f with
      | non => exact .non
      | bl b => exact .bl b
      | int i => exact .int i
      | str x => exact .str x
      | tup h a =>
        have h4 : PyData.depthAll _ + 1 < n + 1 := hd
        exact Fl.tup (fun z => hL _ z _ h) h (all _ _ (by omega) a)
  exact fun {d v} f => key (d.depth + 1) d v (Nat.lt_succ_self _) f
end My

set_option Elab.async false
set_option linter.all false
set_option maxRecDepth 100000
set_option maxHeartbeats 2000000
namespace My
open PySem PySem.Spec PyProof.Rows L2 HT
/-! ### t[::-1] of a tuple -/
theorem back_pick (xs : List Value) : ((List.range xs.length).filterMap fun (k : Nat) => xs.toArray[((xs.length : Int) - 1 + (k : Int) * -1).toNat]?) = xs.reverse := by
  apply List.ext_getElem?
  intro i
  have e : (List.range xs.length).filterMap (fun (k : Nat) => xs.toArray[((xs.length : Int) - 1 + (k : Int) * -1).toNat]?) = (List.range xs.length).map fun k => xs.getD (xs.length - 1 - k) .none := by
    have key : ∀ (l : List Nat) (f : Nat → Option Value) (g : Nat → Value), (∀ k ∈ l, f k = some (g k)) → l.filterMap f = l.map g := by
      intro l f g
      induction l with
      | nil => exact fun _ => rfl
      | cons k l ih =>
        intro h
        rw [List.filterMap_cons, h k (List.mem_cons_self ..), List.map_cons, ih fun j hj => h j (List.mem_cons_of_mem _ hj)]
    refine key _ _ _ fun k hk => ?_
    have hk2 : k < xs.length := List.mem_range.mp hk
    have e2 : ((xs.length : Int) - 1 + (k : Int) * -1).toNat = xs.length - 1 - k := by omega
    have h3 : xs.length - 1 - k < xs.length := by omega
    rw [e2, List.getElem?_toArray, List.getElem?_eq_getElem h3]
    show _ = some (xs.getD (xs.length - 1 - k) .none)
    rw [List.getD_eq_getElem?_getD, List.getElem?_eq_getElem h3]
    rfl
  rw [e, List.getElem?_map]
  by_cases hi : i < xs.length
  · have h3 : xs.length - 1 - i < xs.length := by omega
    rw [List.getElem?_range hi, List.getElem?_reverse hi, List.getElem?_eq_getElem h3]
    show some (xs.getD (xs.length - 1 - i) .none) = _
    rw [List.getD_eq_getElem?_getD, List.getElem?_eq_getElem h3]
    rfl
  · rw [List.getElem?_eq_none (by simp; omega), List.getElem?_eq_none (by simp; omega)]
    rfl
section
variable {X : Cx}
def tRevT (te : TE) : TE := fun σ H Q => te σ H fun x H1 => ∃ (a : Addr) (xs : List V), x = .ref a ∧ H1 a = some (.tup xs) ∧ ∀ p, H1 p = none → Q (.ref p) (upd H1 p (.tup xs.reverse))
theorem pe_revT {e : Expr} {te : TE} {k : Nat} {p1 p2 p3 pos : Pos} (he : PE X e te) : PE X (.Subscript e (.Slice none none (some (.UnaryOp .USub (.Constant (.int 1) k p1) p2)) p3) pos) (tRevT te) := by
  refine ⟨fun pins s σ H Q I h => Subscript_ (thn (he.run pins s σ H _ I h) ?_)⟩
  rintro _ s1 ⟨_, H1, I1, r1, a, xs, rfl, hx, q⟩
  cases r1
  refine ev_back I1 fun tk s4 I4 => ?_
  have I5 : Inv X pins σ H1 { s4 with heap := s4.heap.push { cls := .type "slice", data := .fields #[.none, .none, .int (-1) tk] } } := I4.kept fun _ _ => Heap.get?_push_of_some _
  obtain ⟨its, r, ht, hz⟩ := I5.tuple (.inl (.inl hx))
  have hs : Heap.IsSliceOf (s4.heap.push { cls := .type "slice", data := .fields #[.none, .none, .int (-1) tk] }) s4.heap.objs.size .none .none (.int (-1) tk) := Heap.IsSliceOf.new ..
  obtain ⟨os, hos, hcs, hds⟩ := id hs
  have hTs : Shared.TypeIs { s4 with heap := s4.heap.push { cls := .type "slice", data := .fields #[.none, .none, .int (-1) tk] } } (.ref s4.heap.objs.size) "slice" := ⟨os, hos, hcs⟩
  refine tail_any (ops := [.ref a, .ref s4.heap.objs.size]) ht.typeIs (PyProof.Rows.slot_tuple_getitem.lookup) ?_ (by with_unfolding_all rfl)
  unfold getItem
  try with_reducible refine wpAny_holding ?_
  first | refine wpAny_bind (wpAny_pure ?_) | skip
  refine wpAny_bind (wpAny_sequenceKey ht.typeIs (by decide) ?_)
  refine wpAny_bind (wpAny_callSpecial?_slot (name := Str.ofString "__getitem__") ht.typeIs PyProof.Rows.slot_tuple_getitem (wpAny_call_entry PyProof.Rows.slot_tuple_getitem ht.typeIs entry_tuple_getitem ?_ (args_tuple_getitem _ _)))
  show wpAny _ _ (Builtin.Tuple.tupleItemsOf (.ref a) >>= _) _ _ _
  refine wpAny_bind (tupleItemsOf_ ht ?_)
  refine wpAny_bind (wpAny_typeOf hTs ?_)
  rw [if_pos (by decide)]
  have hsz : its.toArray.size = its.length := List.size_toArray
  have hpl : Builtin.Slice.sliceAdjust none none (-1) (its.toArray.size : Int) = ((its.toArray.size : Int) - 1, -1) := rfl
  have hpc : Builtin.Slice.slicePlaces ((its.toArray.size : Int) - 1) (-1) (-1) = its.toArray.size := by
    unfold Builtin.Slice.slicePlaces
    rw [if_neg (by decide)]
    split
    · rw [show (-(-1 : Int)) = 1 by decide, Int.ediv_one]
      omega
    · omega
  refine wpAny_bind ?_
  unfold Builtin.Slice.sliceApplied Builtin.Slice.sliceFields
  refine wpAny_bind (wpAny_bind (wpAny_field hos hds (x := .none) rfl (wpAny_bind (wpAny_field hos hds (x := .none) rfl (wpAny_bind (wpAny_field hos hds (x := .int (-1) tk) rfl (wpAny_pure ?_)))))))
  refine wpAny_bind (slicePart_ (.int (-1) tk) ?_)
  show wpAny _ _ (if ((-1 : Int) == 0) = true then _ else _) _ _ _
  rw [if_neg (by decide)]
  refine wpAny_bind (slicePart_ .none (wpAny_bind (slicePart_ .none (wpAny_bind (wpAny_pure ?_)))))
  show wpAny _ _ (match Builtin.Slice.sliceAdjust none none (-1) (its.toArray.size : Int) with | (lo, hi) => pure (lo, (-1 : Int), Builtin.Slice.slicePlaces lo hi (-1))) _ _ _
  rw [hpl]
  show wpAny _ _ (pure ((its.toArray.size : Int) - 1, (-1 : Int), Builtin.Slice.slicePlaces ((its.toArray.size : Int) - 1) (-1) (-1))) _ _ _
  rw [hpc]
  refine wpAny_pure ?_
  show wpAny _ _ (if ((((its.toArray.size : Int) - 1) == 0 && (-1 : Int) == 1 && its.toArray.size == its.toArray.size) = true) then _ else _) _ _ _
  rw [if_neg (by rw [show ((-1 : Int) == 1) = false by decide, Bool.and_false, Bool.false_and]; decide)]
  have hl := r.length
  have ep : ((List.range its.toArray.size).filterMap fun (k : Nat) => its.toArray[((its.toArray.size : Int) - 1 + (k : Int) * -1).toNat]?).toArray = its.reverse.toArray := by
    rw [hsz, back_pick]
  refine wpAny_bind (m := Builtin.Tuple.tupleExact _) ?_
  rw [ep]
  refine wpAny_newObj_type (wpAny_pure ⟨_, rfl, wpAny_pure ?_⟩) (by show its.reverse.toArray.size ≤ sizeLine; rw [List.size_toArray, List.length_reverse]; omega)
  refine ⟨.ref _, upd H1 _ (.tup xs.reverse), I5.laid (t' := s4.toks) (o := .tup xs.reverse) (fun b ob z => Heap.get?_push_of_some _ z) (Nat.le_refl _) ?_, rfl, q _ (I5.hok.fresh (Nat.le_refl _))⟩
  exact ⟨by rw [List.length_reverse]; exact hz, _, r.reverse, IsTup.new _ _⟩
end
end My
namespace My
open PySem PySem.Spec PyProof.Rows L2
/-! ### tuple + tuple, both of one's own -/
def rCatW (K : PySem.W.Frag) : R2 := fun x y H Q => ∃ (a b : Addr) (xs ys : List V), x = .ref a ∧ y = .ref b ∧ H a = some (.tup xs) ∧ H b = some (.tup ys) ∧ xs.length + ys.length ≤ sizeLine ∧ ∀ (p : Addr) (H' : Hp), Same H H' → (H p = none ∨ p = a ∨ p = b) → H' p = some (.tup (xs ++ ys)) → Q (.ref p) H'
theorem catWK (K : PySem.W.Frag) {X : Cx} (hK : X.K = K := by rfl) : OpR X (binaryOp .Add) (rCatW K) := by
  subst hK
  intro pins s σ H x y v u Q I rx ry h
  obtain ⟨a, b, xs, ys, rfl, rfl, ha, hb, hz, q⟩ := h
  exact op_catA pins s σ H _ _ v u Q I rx ry ⟨a, b, xs, ys, rfl, rfl, .inl (.inl ha), .inl (.inl hb), hz, (fun e => q b H (Same.refl H) (.inr (.inr rfl)) (by rw [e, List.nil_append]; exact hb)), (fun _ e => q a H (Same.refl H) (.inr (.inl rfl)) (by rw [e, List.append_nil]; exact ha)), (fun _ _ p np => q p _ (Same.new (Same.refl H) np) (.inl np) upd_same)⟩
def rSlW (K : PySem.W.Frag) : V → Option Int → Option Int → Hp → VK → Prop := fun x lo hi H Q => ∃ (a : Addr) (xs : List V), x = .ref a ∧ H a = some (.tup xs) ∧ ∀ (p : Addr) (H' : Hp), Same H H' → (H p = none ∨ p = a) → H' p = some (.tup (cutV xs lo hi)) → Q (.ref p) H'
theorem slWK (K : PySem.W.Frag) {X : Cx} (hK : X.K = K := by rfl) : SlR X (rSlW K) := by
  subst hK
  intro pins s σ H x v vl vu lo hi sl Q I rx hs pl pu h
  obtain ⟨a, xs, rfl, ha, q⟩ := h
  refine sl_tupA pins s σ H _ v vl vu lo hi sl Q I rx hs pl pu ⟨a, xs, rfl, .inl (.inl ha), fun hw => q a H (Same.refl H) (.inr rfl) ?_, fun _ p np => q p _ (Same.new (Same.refl H) np) (.inl np) upd_same⟩
  rw [ha]
  unfold cutV
  rw [hw.1, hw.2, List.drop_zero, Nat.sub_zero, List.take_length]
/-! ### some data -/
def Th (L : List Addr) (H : Hp) (n m : Nat) (v : V) : Prop := ∃ d, Fl L H v d ∧ Sh n m d ∧ wd d ≤ m
theorem Th.mono {L : List Addr} {H : Hp} {n n' m m' : Nat} {v : V} (h : Th L H n m v) (h1 : n ≤ n') (h2 : m ≤ m') : Th L H n' m' v := by
  obtain ⟨d, f, s, w⟩ := h
  exact ⟨d, f, s.mono h1 h2, Nat.le_trans w h2⟩
theorem Th.keep {L : List Addr} {H H' : Hp} {n m : Nat} {v : V} (h : Th L H n m v) (k : ∀ b o, b ∉ L → H b = some o → H' b = some o) : Th L H' n m v := by
  obtain ⟨d, f, s, w⟩ := h
  exact ⟨d, f.keep k, s, w⟩
theorem Th.same {L : List Addr} {H H' : Hp} {n m : Nat} {v : V} (h : Th L H n m v) (k : Same H H') : Th L H' n m v := h.keep fun b o _ e => k b o e
theorem Th.kp {r : Addr} {L : List Addr} {H H' : Hp} {n m : Nat} {v : V} (h : Th L H n m v) (k : Kp r H H') (hr : r ∈ L) : Th L H' n m v := h.keep fun b o nb e => k b o (fun z => nb (z ▸ hr)) e
theorem Th.sx {Ps L : List Addr} {H H' : Hp} {n m : Nat} {v : V} (h : Th L H n m v) (k : Sx Ps H H') (hs : ∀ b ∈ Ps, b ∈ L) : Th L H' n m v := h.keep fun b o nb e => k b o (fun z => nb (hs b z)) e
theorem Th.non {L : List Addr} {H : Hp} {n m : Nat} : Th L H n m .non := ⟨.none, .non, Sh.none, Nat.zero_le _⟩
theorem Th.bl {L : List Addr} {H : Hp} {n m : Nat} (b : Bool) : Th L H n m (.bl b) := ⟨.bool b, .bl b, Sh.bool b, Nat.zero_le _⟩
theorem Th.int {L : List Addr} {H : Hp} {n m : Nat} {i : Int} (h : i.natAbs < 10 ^ 60) (hm : 200 ≤ m) : Th L H n m (.int i) := ⟨.int i, .int i, Sh.int h hm, Nat.zero_le _⟩
theorem Th.tx {L : List Addr} {H : Hp} {n m : Nat} {l : List Nat} (h : ∀ c ∈ l, c < 1000) (hl : l.length ≤ m) : Th L H n m (tx l) := ⟨.str (txS l), .str _, Sh.str h hl, Nat.zero_le _⟩
theorem th_all {L : List Addr} {H : Hp} {n m : Nat} : ∀ {vs : List V}, (∀ v ∈ vs, Th L H n m v) → ∃ ds, FlA L H vs ds ∧ (∀ d ∈ ds, Sh n m d) ∧ wdA ds ≤ m
  | [], _ => ⟨[], .nil, (fun d h => nomatch h), Nat.zero_le _⟩
  | v :: vs, h => by
    obtain ⟨d, f, s, w⟩ := h v (List.mem_cons_self ..)
    obtain ⟨ds, fs, ss, ws⟩ := th_all (vs := vs) fun u hu => h u (List.mem_cons_of_mem _ hu)
    refine ⟨d :: ds, .cons f fs, fun e he => ?_, ?_⟩
    · rcases List.mem_cons.mp he with z | z
      · rw [z]
        exact s
      · exact ss e z
    · show max (wd d) (wdA ds) ≤ m
      omega
theorem wd_fit {m k w : Nat} (h : w ≤ m) (h0 : k = 0 → w = 0) : max k w ≤ (m + 1) * k := by
  cases k with
  | zero =>
    rw [h0 rfl]
    exact Nat.le_refl _
  | succ k =>
    have e : (m + 1) * (k + 1) = m * k + m + (k + 1) := by
      rw [Nat.add_mul, Nat.one_mul, Nat.mul_add, Nat.mul_one]
    omega
theorem Th.tup {L : List Addr} {H : Hp} {n m : Nat} {p : Addr} {vs : List V} (np : p ∉ L) (hp : H p = some (.tup vs)) (h : ∀ v ∈ vs, Th L H n m v) : Th L H (n + 1) ((m + 1) * vs.length) (.ref p) := by
  obtain ⟨ds, fs, ss, ws⟩ := th_all h
  have hl := FtA.len fs
  refine ⟨.tuple ds, Fl.tup np hp fs, hl ▸ Sh.tup ss, ?_⟩
  rw [hl]
  exact wd_fit ws fun z => by
    rw [List.length_eq_zero_iff.mp z]
    rfl
theorem Th.lst {L : List Addr} {H : Hp} {n m : Nat} {p : Addr} {vs : List V} (np : p ∉ L) (hp : H p = some (.lst vs)) (h : ∀ v ∈ vs, Th L H n m v) : Th L H (n + 1) ((m + 1) * vs.length) (.ref p) := by
  obtain ⟨ds, fs, ss, ws⟩ := th_all h
  have hl := FtA.len fs
  refine ⟨.list ds, Fl.lst np hp fs, hl ▸ Sh.lst ss, ?_⟩
  rw [hl]
  exact wd_fit ws fun z => by
    rw [List.length_eq_zero_iff.mp z]
    rfl
theorem at_mem {vs : List V} {i : Int} (h0 : 0 ≤ i) (h1 : i < vs.length) : ∃ v ∈ vs, atI vs i = some v := by
  have hi : i.toNat < vs.length := by omega
  refine ⟨vs[i.toNat], List.getElem_mem hi, ?_⟩
  have e2 := atI_nat (List.getElem?_eq_getElem hi)
  rw [show ((i.toNat : Nat) : Int) = i by omega] at e2
  exact e2
theorem all1 {α : Type} {p : α → Prop} {a : α} (ha : p a) : ∀ x ∈ [a], p x := fun x h => by
  rw [List.mem_singleton.mp h]
  exact ha
theorem allC {α : Type} {p : α → Prop} {a : α} {l : List α} (ha : p a) (hl : ∀ x ∈ l, p x) : ∀ x ∈ a :: l, p x := fun x h => by
  rcases List.mem_cons.mp h with z | z
  · rw [z]
    exact ha
  · exact hl x z
theorem all0 {α : Type} {p : α → Prop} : ∀ x ∈ ([] : List α), p x := fun x h => nomatch h
theorem allApp {α : Type} {p : α → Prop} {l k : List α} (hl : ∀ x ∈ l, p x) (hk : ∀ x ∈ k, p x) : ∀ x ∈ l ++ k, p x := fun x h => by
  rcases List.mem_append.mp h with z | z
  · exact hl x z
  · exact hk x z
theorem inV_txt (z : Str) : ∀ cols : List Nat, inV (.str z) (cols.map sg) = isLetD cols (.str z) := by
  intro cols
  by_cases e : z.length = 1
  · obtain ⟨c, rfl⟩ := sg_of e
    exact inV_signs c cols
  · have h1 : isLetD cols (.str z) = false := by
      unfold isLetD
      rw [sg_none e]
    rw [h1]
    induction cols with
    | nil => rfl
    | cons d l ih =>
      show ((sS d == z) || inV (.str z) (l.map sg)) = false
      have h2 : isLetD l (.str z) = false := by
        unfold isLetD
        rw [sg_none e]
      rw [ih h2, Bool.or_false]
      refine eq_false_of_ne_true fun h => e ?_
      rw [← eq_of_beq h]
      rfl
end My
namespace My
open PySem PySem.Spec PyProof.Rows L2
theorem cps_nil (c : Nat) : decide ((⟨([] : List Nat).toArray⟩ : Str).cps.toList < (sS c).cps.toList) = true := decide_eq_true (show ([] : List Nat) < [c] from List.Lex.nil)
theorem isQ_none {cols : List Nat} {ps : List PyData} (h1 : ps.all (isEqD cols) = true) (h2 : risB (ps.map letD) = true) : isQD cols (.tuple [.tuple ps, .none]) = true := by
  show (ps.all (isEqD cols) && risB (ps.map letD) && true) = true
  rw [h1, h2]
  rfl
theorem isQ_some {cols : List Nat} {ps : List PyData} {d2 : PyData} (h1 : ps.all (isEqD cols) = true) (h2 : risB (ps.map letD) = true) (hd : d2 ≠ .none) : isQD cols (.tuple [.tuple ps, d2]) = (isReD cols d2 && !decide (letD d2 ∈ ps.map letD)) := by
  cases d2 with
  | none => exact absurd rfl hd
  | _ =>
    show (ps.all (isEqD cols) && risB (ps.map letD) && _) = _
    rw [h1, h2, Bool.true_and, Bool.true_and]
    rfl
end My
namespace My
open PySem PySem.Spec PyProof.Rows L2
theorem new_all {L : List Addr} {H : Hp} {p : Addr} {o : HO} (h : ∀ b ∈ L, H b ≠ none) : ∀ b ∈ L, (upd H p o) b ≠ none := fun b hb => by
  by_cases e : b = p
  · rw [e, upd_same]
    simp
  · rw [upd_ne e]
    exact h b hb
theorem same_all {L : List Addr} {H H' : Hp} (h : ∀ b ∈ L, H b ≠ none) (s : Same H H') : ∀ b ∈ L, H' b ≠ none := fun b hb => by
  cases e : H b with
  | none => exact absurd e (h b hb)
  | some o =>
    rw [s b o e]
    simp
theorem ne_in {L : List Addr} {p r : Addr} (h : p ∉ L) (hr : r ∈ L) : p ≠ r := fun z => h (z ▸ hr)
theorem Th.at {L : List Addr} {H : Hp} {n m : Nat} {vs : List V} (h : ∀ v ∈ vs, Th L H n m v) {i : Int} (h0 : 0 ≤ i) (h1 : i < vs.length) : ∃ v, atI vs i = some v ∧ Th L H n m v := by
  obtain ⟨v, hv, e⟩ := at_mem h0 h1
  exact ⟨v, e, h v hv⟩
end My
namespace My
open PySem PySem.Spec PyProof.Rows L2
theorem one_len (cols : List Nat) (oc : Nat) : (⟨#[oc]⟩ : Str).length + (⟨(cols.take 1).toArray⟩ : Str).length ≤ sizeLine := by
  have h1 : (⟨(cols.take 1).toArray⟩ : Str).length = (cols.take 1).length := by simp [Str.length]
  have h2 : (⟨#[oc]⟩ : Str).length = 1 := rfl
  have h3 := List.length_take_le 1 cols
  rw [h1, h2, sizeLine_eq]
  omega
theorem th_cat {L : List Addr} {H : Hp} {n m : Nat} {l k : List Nat} (h : ∀ c ∈ l ++ k, c < 1000) (hl : (l ++ k).length ≤ m) : Th L H n m (.str ((⟨l.toArray⟩ : Str) ++ ⟨k.toArray⟩)) := by
  have e : ((⟨l.toArray⟩ : Str) ++ (⟨k.toArray⟩ : Str)) = ⟨(l ++ k).toArray⟩ := by
    show (⟨l.toArray ++ k.toArray⟩ : Str) = _
    simp
  rw [e]
  exact Th.tx h hl
theorem pair_th {L : List Addr} {H : Hp} {p : Addr} {v u : V} {d e : PyData} (np : p ∉ L) (hp : H p = some (.tup [v, u])) (f : Fl L H v d) (s : Sh 3 61000 d) (w : wd d ≤ 61000) (g : Fl L H u e) (t : Sh 2 1000 e) (x : wd e ≤ 1000) : Th L H 10 90000 (.ref p) := by
  refine ⟨.tuple [d, e], Fl.tup np hp (.cons f (.cons g .nil)), ⟨?_, ?_, ?_, ?_, ?_, ?_⟩, ?_⟩
  · simp [PyData.showable, PyData.showableAll, s.ok, t.ok]
  · simp [PyData.hasDict, PyData.hasDictAll, s.nd, t.nd]
  · simp [PyData.leavesShort, PyData.leavesShortAll, s.sh, t.sh]
  · have h1 := s.dp
    have h2 := t.dp
    simp only [PyData.depth, PyData.depthAll]
    omega
  · have h1 := s.wt
    have h2 := t.wt
    simp only [PyData.weight, PyData.weightAll]
    omega
  · simp [PyData.canLay0, PyData.canLayAll0, s.ly, t.ly]
  · show max 2 (max (wd d) (max (wd e) 0)) ≤ 90000
    omega
end My

set_option Elab.async false
set_option linter.all false
set_option maxRecDepth 100000
set_option maxHeartbeats 2000000
namespace My
open PySem PySem.Spec PyProof.Rows L2
theorem let_eqs (es : List (Nat × Int)) : (es.map eqD).map letD = es.map (·.1) := by
  rw [List.map_map]
  rfl
theorem isQ_drawn {cols : List Nat} {es : List (Nat × Int)} {rc : Option (Nat × Int × Int)} (h : QOk cols es rc) : isQD cols (qD es rc) = true := by
  have h1 : (es.map eqD).all (isEqD cols) = true := by
    rw [List.all_map, List.all_eq_true]
    intro p hp
    obtain ⟨a1, a2, a3⟩ := h.ok p hp
    show (decide (p.1 ∈ cols) && (decide (0 ≤ p.2) && decide (p.2 ≤ 999))) = true
    rw [decide_eq_true a1, decide_eq_true a2, decide_eq_true (by omega)]
    rfl
  have h2 : risB ((es.map eqD).map letD) = true := by
    rw [let_eqs]
    refine (ris_get _).mpr fun i hi => ?_
    have := List.pairwise_iff_getElem.mp h.up i (i + 1) (by omega) hi (by omega)
    rw [List.getD_eq_getElem?_getD, List.getD_eq_getElem?_getD, List.getElem?_eq_getElem (by omega), List.getElem?_eq_getElem hi]
    exact this
  cases rc with
  | none => exact isQ_none h1 h2
  | some t =>
    obtain ⟨c, lo, hi⟩ := t
    obtain ⟨b1, b2, b3, b4, b5⟩ := h.rc c lo hi rfl
    have h3 := isQ_some (d2 := rchD (some (c, lo, hi))) h1 h2 (fun z => nomatch z)
    rw [let_eqs] at h3
    show isQD cols (.tuple [.tuple (es.map eqD), rchD (some (c, lo, hi))]) = true
    rw [h3]
    show ((decide (c ∈ cols) && (decide (0 ≤ lo) && decide (lo ≤ 999)) && (decide (0 ≤ hi) && decide (hi ≤ 999)) && decide (lo ≤ hi)) && !decide (c ∈ es.map (·.1))) = true
    rw [decide_eq_true b1, decide_eq_true b3, decide_eq_true (show lo ≤ 999 by omega), decide_eq_true (show 0 ≤ hi by omega), decide_eq_true (show hi ≤ 999 by omega), decide_eq_true b4, decide_eq_false b2]
    rfl
theorem sh_eq {cols : List Nat} {p : Nat × Int} (h1 : p.1 < 1000) (h2 : 0 ≤ p.2) (h3 : p.2 < 1000) : Sh 2 1000 (eqD p) ∧ wd (eqD p) ≤ 1000 := by
  refine ⟨(Sh.tup (n := 1) (m := 240) (allC (Sh.str (l := [p.1]) (all1 h1) (Nat.le_of_ble_eq_true rfl)) (all1 (Sh.int (by omega) (by decide))))).mono (by decide) (Nat.le_of_ble_eq_true rfl), ?_⟩
  show max 2 (max 0 (max 0 0)) ≤ 1000
  decide
theorem sh_rc {cols : List Nat} {es : List (Nat × Int)} {rc : Option (Nat × Int × Int)} (h : QOk cols es rc) (hc : ∀ c ∈ cols, c < 1000) : Sh 2 1000 (rchD rc) ∧ wd (rchD rc) ≤ 1000 := by
  cases rc with
  | none => exact ⟨Sh.none, Nat.zero_le _⟩
  | some t =>
    obtain ⟨c, lo, hi⟩ := t
    obtain ⟨b1, b2, b3, b4, b5⟩ := h.rc c lo hi rfl
    have hc9 := hc c b1
    refine ⟨(Sh.tup (n := 1) (m := 240) (allC (Sh.str (l := [c]) (all1 hc9) (Nat.le_of_ble_eq_true rfl)) (allC (Sh.int (by omega) (by decide)) (all1 (Sh.int (by omega) (by decide)))))).mono (by decide) (Nat.le_of_ble_eq_true rfl), ?_⟩
    show max 3 (max 0 (max 0 (max 0 0))) ≤ 1000
    decide
/-- a drawn question among the data away from L -/
theorem quest_th {L : List Addr} {H : Hp} {cols : List Nat} {v : V} {es : List (Nat × Int)} {rc : Option (Nat × Int × Int)} (hq : QOk cols es rc) (hc : ∀ c ∈ cols, c < 1000) (f : Fl L H v (qD es rc)) :
    ∃ (qa ea : Addr) (us : List V) (rv : V), v = .ref qa ∧ qa ∉ L ∧ ea ∉ L ∧ H qa = some (.tup [.ref ea, rv]) ∧ H ea = some (.tup us) ∧ us.length = es.length ∧ (∀ u ∈ us, Th L H 2 1000 u) ∧ Th L H 2 1000 rv := by
  obtain ⟨qa, xs, rfl, nqa, hqa, fx⟩ := f.openT
  obtain ⟨x1, rv, rfl, f1, f2⟩ := fx.two
  obtain ⟨ea, us, rfl, nea, hea, fu⟩ := f1.openT
  have hl := FtA.len fu
  rw [List.length_map] at hl
  refine ⟨qa, ea, us, rv, rfl, nqa, nea, hqa, hea, hl, fun u hu => ?_, ?_⟩
  · obtain ⟨i, hi, rfl⟩ := List.getElem_of_mem hu
    obtain ⟨d, hd, fd⟩ := FtA.getV fu (List.getElem?_eq_getElem hi)
    rw [List.getElem?_map] at hd
    obtain ⟨p, hp, rfl⟩ := Option.map_eq_some_iff.mp hd
    obtain ⟨a1, a2, a3⟩ := hq.ok p (List.mem_of_getElem? hp)
    obtain ⟨b1, b2⟩ := sh_eq (cols := cols) (hc _ a1) a2 a3
    exact ⟨_, fd, b1, b2⟩
  · obtain ⟨b1, b2⟩ := sh_rc hq hc
    exact ⟨_, f2, b1, b2⟩
/-- away from L all is kept -/
def Kx (L : List Addr) (H H' : Hp) : Prop := ∀ b o, b ∉ L → H b = some o → H' b = some o
theorem Kx.rfl' {L : List Addr} {H : Hp} : Kx L H H := fun _ _ _ h => h
theorem Kx.trans {L : List Addr} {H H1 H2 : Hp} (a : Kx L H H1) (b : Kx L H1 H2) : Kx L H H2 := fun c o n h => b c o n (a c o n h)
theorem Kx.same {L : List Addr} {H H' : Hp} (a : Same H H') : Kx L H H' := fun c o _ h => a c o h
theorem Kx.kp {r : Addr} {L : List Addr} {H H' : Hp} (a : Kp r H H') (h : r ∈ L) : Kx L H H' := fun c o n e => a c o (fun z => n (z ▸ h)) e
theorem Kx.sx {Ps L : List Addr} {H H' : Hp} (a : Sx Ps H H') (h : ∀ b ∈ Ps, b ∈ L) : Kx L H H' := fun c o n e => a c o (fun z => n (h c z)) e
end My
namespace My
open PySem PySem.Spec PyProof.Rows L2
theorem quest_sh {cols : List Nat} {es : List (Nat × Int)} {rc : Option (Nat × Int × Int)} (h : QOk cols es rc) (hc : ∀ c ∈ cols, c < 1000) (hl : cols.length ≤ 26) : Sh 20 100000 (qD es rc) ∧ wd (qD es rc) ≤ 100000 := by
  have hel : es.length ≤ 26 := Nat.le_trans h.len hl
  have key : ∀ d ∈ es.map eqD, Sh 2 1000 d ∧ wd d ≤ 1000 := fun d hd => by
    obtain ⟨p, hp, rfl⟩ := List.mem_map.mp hd
    obtain ⟨a1, a2, a3⟩ := h.ok p hp
    exact sh_eq (cols := cols) (hc _ a1) a2 a3
  have s := Sh.tup fun d hd => (key d hd).1
  obtain ⟨t, x⟩ := sh_rc h hc
  have hw : ∀ ds : List PyData, (∀ d ∈ ds, wd d ≤ 1000) → wdA ds ≤ 1000 := by
    intro ds
    induction ds with
    | nil => exact fun _ => Nat.zero_le _
    | cons d ds ih =>
      intro g
      show max (wd d) (wdA ds) ≤ 1000
      have h1 := g d (List.mem_cons_self ..)
      have h2 := ih fun e he => g e (List.mem_cons_of_mem _ he)
      omega
  have hw2 := hw _ fun d hd => (key d hd).2
  have hml : (es.map eqD).length = es.length := List.length_map ..
  refine ⟨⟨?_, ?_, ?_, ?_, ?_, ?_⟩, ?_⟩
  · have h1 := s.ok
    simp only [PyData.showable, PyData.showableAll] at h1 ⊢
    rw [h1, t.ok]
    rfl
  · have h1 := s.nd
    simp only [PyData.hasDict, PyData.hasDictAll] at h1 ⊢
    rw [h1, t.nd]
    rfl
  · have h1 := s.sh
    simp only [PyData.leavesShort, PyData.leavesShortAll] at h1 ⊢
    rw [h1, t.sh]
    rfl
  · have h1 := s.dp
    have h2 := t.dp
    simp only [PyData.depth, PyData.depthAll] at h1 ⊢
    omega
  · have h1 := s.wt
    have h2 := t.wt
    rw [hml] at h1
    simp only [PyData.weight, PyData.weightAll] at h1 ⊢
    omega
  · have h1 := s.ly
    simp only [PyData.canLay0, PyData.canLayAll0] at h1 ⊢
    rw [h1, t.ly]
    rfl
  · show max 2 (max (max (es.map eqD).length (wdA (es.map eqD))) (max (wd (rchD rc)) 0)) ≤ 100000
    omega
theorem held_all {r : Addr} {Ps : List Addr} {H : Hp} {o : HO} (h : H r = some o) (tg : TG Ps H) : ∀ b ∈ r :: Ps, H b ≠ none := fun b hb => by
  rcases List.mem_cons.mp hb with z | z
  · rw [z, h]
    simp
  · obtain ⟨ps, hp, _⟩ := tg b z
    rw [hp]
    simp
theorem notup_all {r : Addr} {Ps : List Addr} {H : Hp} {xs : List V} (h : H r = some (.lst xs)) (tg : TG Ps H) : ∀ b ∈ r :: Ps, ∀ ys, H b ≠ some (.tup ys) := fun b hb ys z => by
  rcases List.mem_cons.mp hb with e | e
  · rw [e, h] at z
    cases z
  · obtain ⟨ps, hp, _⟩ := tg b e
    rw [hp] at z
    cases z
theorem fresh_same {L : List Addr} {H : Hp} {D : Addr} {o : HO} (n : H D = none) : Same (hidS L H) (hidS (D :: L) (upd H D o)) := fun b x e => by
  obtain ⟨h1, h2⟩ := hid_some.mp e
  have hb : b ≠ D := ne_of_none h2 n
  exact hid_some.mpr ⟨fun z => (List.mem_cons.mp z).elim hb h1, keep_ne h2 hb⟩
theorem Th.fresh {L : List Addr} {H : Hp} {D : Addr} {o : HO} {n m : Nat} {v : V} (h : Th L H n m v) (nD : H D = none) : Th (D :: L) (upd H D o) n m v := by
  obtain ⟨d, f, s, w⟩ := h
  exact ⟨d, Ft.mono (fresh_same nD) _ _ f, s, w⟩
theorem Th.kx {L : List Addr} {H H' : Hp} {n m : Nat} {v : V} (h : Th L H n m v) (k : Kx L H H') : Th L H' n m v := h.keep k
theorem cons_all {L : List Addr} {D : Addr} {H : Hp} {o : HO} (h : H D = some o) (hl : ∀ b ∈ L, H b ≠ none) : ∀ b ∈ D :: L, H b ≠ none := allC (by rw [h]; simp) hl
end My

set_option Elab.async false
set_option linter.all false
set_option maxRecDepth 100000
set_option maxHeartbeats 1000000
namespace My
open PySem PySem.Spec PyProof.Rows L2
def topS (i : Nat) : Stmt := PySem.Challenge.pw_stretchkeep_k05_what_is_a_question.main.body.getD i (.Pass ⟨0, 0, 0, 0⟩)
abbrev s_is_whole : Stmt := topS 2
theorem sc_is_whole : FnScope ["thing"] ["thing"] (defScope s_is_whole) := ⟨rfl, rfl, rfl, by decide +kernel, rfl, by decide +kernel, by decide +kernel⟩
abbrev s_is_number : Stmt := topS 3
theorem sc_is_number : FnScope ["thing"] ["thing"] (defScope s_is_number) := ⟨rfl, rfl, rfl, by decide +kernel, rfl, by decide +kernel, by decide +kernel⟩
abbrev s_is_rising : Stmt := topS 4
theorem sc_is_rising : FnScope ["things", "at"] ["things"] (defScope s_is_rising) := ⟨rfl, rfl, rfl, by decide +kernel, rfl, by decide +kernel, by decide +kernel⟩
abbrev s_is_letter : Stmt := topS 6
theorem sc_is_letter : FnScope ["columns", "thing"] ["columns", "thing"] (defScope s_is_letter) := ⟨rfl, rfl, rfl, by decide +kernel, rfl, by decide +kernel, by decide +kernel⟩
abbrev s_is_equal : Stmt := topS 7
theorem sc_is_equal : FnScope ["columns", "thing", "letter", "number"] ["columns", "thing"] (defScope s_is_equal) := ⟨rfl, rfl, rfl, by decide +kernel, rfl, by decide +kernel, by decide +kernel⟩
abbrev s_letters_of : Stmt := topS 8
theorem sc_letters_of : FnScope ["equals", "letter", "number"] ["equals"] (defScope s_letters_of) := ⟨rfl, rfl, rfl, by decide +kernel, rfl, by decide +kernel, by decide +kernel⟩
abbrev s_is_equals : Stmt := topS 9
theorem sc_is_equals : FnScope ["columns", "thing", "part"] ["columns", "thing"] (defScope s_is_equals) := ⟨rfl, rfl, rfl, by decide +kernel, rfl, by decide +kernel, by decide +kernel⟩
abbrev s_is_reach : Stmt := topS 10
theorem sc_is_reach : FnScope ["columns", "thing", "letter", "low", "high"] ["columns", "thing"] (defScope s_is_reach) := ⟨rfl, rfl, rfl, by decide +kernel, rfl, by decide +kernel, by decide +kernel⟩
abbrev s_is_question : Stmt := topS 11
theorem sc_is_question : FnScope ["columns", "thing", "equals", "reach"] ["columns", "thing"] (defScope s_is_question) := ⟨rfl, rfl, rfl, by decide +kernel, rfl, by decide +kernel, by decide +kernel⟩
abbrev s_l_reel : Stmt := topS 13
theorem sc_l_reel : FnScope ["script", "k", "number", "stir", "found", "turn"] ["script", "k"] (defScope s_l_reel) := ⟨rfl, rfl, rfl, by decide +kernel, rfl, by decide +kernel, by decide +kernel⟩
abbrev s_l_pick : Stmt := topS 14
theorem sc_l_pick : FnScope ["reel", "many", "digit"] ["reel", "many"] (defScope s_l_pick) := ⟨rfl, rfl, rfl, by decide +kernel, rfl, by decide +kernel, by decide +kernel⟩
abbrev s_l_columns : Stmt := topS 15
theorem sc_l_columns : FnScope ["reel", "many", "left", "found", "k"] ["reel", "many"] (defScope s_l_columns) := ⟨rfl, rfl, rfl, by decide +kernel, rfl, by decide +kernel, by decide +kernel⟩
abbrev s_l_table : Stmt := topS 16
theorem sc_l_table : FnScope ["reel", "most", "rows", "columns", "tops", "many", "letter", "k", "top"] ["reel", "most", "rows"] (defScope s_l_table) := ⟨rfl, rfl, rfl, by decide +kernel, rfl, by decide +kernel, by decide +kernel⟩
abbrev s_l_near : Stmt := topS 17
theorem sc_l_near : FnScope ["reel", "rows", "at", "row", "way", "number"] ["reel", "rows", "at", "row"] (defScope s_l_near) := ⟨rfl, rfl, rfl, by decide +kernel, rfl, by decide +kernel, by decide +kernel⟩
abbrev s_l_question : Stmt := topS 18
theorem sc_l_question : FnScope ["reel", "table", "columns", "rows", "letter", "row", "equals", "k", "left", "at", "low", "high"] ["reel", "table"] (defScope s_l_question) := ⟨rfl, rfl, rfl, by decide +kernel, rfl, by decide +kernel, by decide +kernel⟩
abbrev s_l_is_number : Stmt := topS 19
theorem sc_l_is_number : FnScope ["thing"] ["thing"] (defScope s_l_is_number) := ⟨rfl, rfl, rfl, by decide +kernel, rfl, by decide +kernel, by decide +kernel⟩
abbrev s_l_is_letter : Stmt := topS 20
theorem sc_l_is_letter : FnScope ["columns", "thing"] ["columns", "thing"] (defScope s_l_is_letter) := ⟨rfl, rfl, rfl, by decide +kernel, rfl, by decide +kernel, by decide +kernel⟩
abbrev s_l_is_question : Stmt := topS 21
theorem sc_l_is_question : FnScope ["columns", "thing", "last", "pair", "reach"] ["columns", "thing"] (defScope s_l_is_question) := ⟨rfl, rfl, rfl, by decide +kernel, rfl, by decide +kernel, by decide +kernel⟩
abbrev s_l_bent : Stmt := topS 22
theorem sc_l_bent : FnScope ["reel", "columns", "question", "equals", "reach", "letter", "odd", "number", "pairs", "reaches", "way", "at"] ["reel", "columns", "question"] (defScope s_l_bent) := ⟨rfl, rfl, rfl, by decide +kernel, rfl, by decide +kernel, by decide +kernel⟩
abbrev s_l_bent_more : Stmt := topS 23
theorem sc_l_bent_more : FnScope ["reel", "columns", "question", "equals", "reach", "other", "letter", "pairs", "reaches", "way", "at"] ["reel", "columns", "question"] (defScope s_l_bent_more) := ⟨rfl, rfl, rfl, by decide +kernel, rfl, by decide +kernel, by decide +kernel⟩
abbrev s_law : Stmt := topS 24
theorem sc_law : FnScope ["script", "k", "reel", "table", "question", "turn", "things", "thing", "kept", "found"] ["script"] (defScope s_law) := ⟨rfl, rfl, rfl, by decide +kernel, rfl, by decide +kernel, by decide +kernel⟩
structure Ad where
  f_is_whole : Addr
  d_is_whole : FuncData
  f_is_number : Addr
  d_is_number : FuncData
  f_is_rising : Addr
  d_is_rising : FuncData
  c_is_rising : Addr
  P_is_rising : Addr
  f_is_letter : Addr
  d_is_letter : FuncData
  f_is_equal : Addr
  d_is_equal : FuncData
  f_letters_of : Addr
  d_letters_of : FuncData
  f_is_equals : Addr
  d_is_equals : FuncData
  c_is_equals : Addr
  P_is_equals : Addr
  f_is_reach : Addr
  d_is_reach : FuncData
  f_is_question : Addr
  d_is_question : FuncData
  f_l_reel : Addr
  d_l_reel : FuncData
  f_l_pick : Addr
  d_l_pick : FuncData
  f_l_columns : Addr
  d_l_columns : FuncData
  f_l_table : Addr
  d_l_table : FuncData
  f_l_near : Addr
  d_l_near : FuncData
  f_l_question : Addr
  d_l_question : FuncData
  f_l_is_number : Addr
  d_l_is_number : FuncData
  f_l_is_letter : Addr
  d_l_is_letter : FuncData
  f_l_is_question : Addr
  d_l_is_question : FuncData
  f_l_bent : Addr
  d_l_bent : FuncData
  f_l_bent_more : Addr
  d_l_bent_more : FuncData
  f_law : Addr
  d_law : FuncData
  k_GREATEST : Tok
abbrev Ad.Ps (Z : Ad) : List Addr := [Z.P_is_rising, Z.P_is_equals]
structure Tb (base : Heap) (mg : Str → Option Value) (Z : Ad) : Prop where
  t_is_rising : LamX.TabB base mg Z.c_is_rising Z.P_is_rising
  t_is_equals : LamX.TabB base mg Z.c_is_equals Z.P_is_equals
structure Tx (K : PySem.W.Frag) (mg : Str → Option Value) (Z : Ad) : Prop where
  F_is_whole : Fun K "is_whole" "is_whole" s_is_whole Z.f_is_whole Z.d_is_whole
  b_is_whole : Binds K Z.d_is_whole ["thing"] []
  g_is_whole : mg "is_whole" = some (.ref Z.f_is_whole)
  F_is_number : Fun K "is_number" "is_number" s_is_number Z.f_is_number Z.d_is_number
  b_is_number : Binds K Z.d_is_number ["thing"] []
  g_is_number : mg "is_number" = some (.ref Z.f_is_number)
  F_is_rising : Fun K "is_rising" "is_rising" s_is_rising Z.f_is_rising Z.d_is_rising
  C_is_rising : FunC K "is_rising" "is_rising" s_is_rising Z.f_is_rising Z.d_is_rising Z.c_is_rising
  b_is_rising : Binds K Z.d_is_rising ["things"] []
  g_is_rising : mg "is_rising" = some (.ref Z.f_is_rising)
  F_is_letter : Fun K "is_letter" "is_letter" s_is_letter Z.f_is_letter Z.d_is_letter
  b_is_letter : Binds K Z.d_is_letter ["columns", "thing"] []
  g_is_letter : mg "is_letter" = some (.ref Z.f_is_letter)
  F_is_equal : Fun K "is_equal" "is_equal" s_is_equal Z.f_is_equal Z.d_is_equal
  b_is_equal : Binds K Z.d_is_equal ["columns", "thing"] []
  g_is_equal : mg "is_equal" = some (.ref Z.f_is_equal)
  F_letters_of : Fun K "letters_of" "letters_of" s_letters_of Z.f_letters_of Z.d_letters_of
  b_letters_of : Binds K Z.d_letters_of ["equals"] []
  g_letters_of : mg "letters_of" = some (.ref Z.f_letters_of)
  F_is_equals : Fun K "is_equals" "is_equals" s_is_equals Z.f_is_equals Z.d_is_equals
  C_is_equals : FunC K "is_equals" "is_equals" s_is_equals Z.f_is_equals Z.d_is_equals Z.c_is_equals
  b_is_equals : Binds K Z.d_is_equals ["columns", "thing"] []
  g_is_equals : mg "is_equals" = some (.ref Z.f_is_equals)
  F_is_reach : Fun K "is_reach" "is_reach" s_is_reach Z.f_is_reach Z.d_is_reach
  b_is_reach : Binds K Z.d_is_reach ["columns", "thing"] []
  g_is_reach : mg "is_reach" = some (.ref Z.f_is_reach)
  F_is_question : Fun K "is_question" "is_question" s_is_question Z.f_is_question Z.d_is_question
  b_is_question : Binds K Z.d_is_question ["columns", "thing"] []
  g_is_question : mg "is_question" = some (.ref Z.f_is_question)
  F_l_reel : Fun K "_law_reel" "_law_reel" s_l_reel Z.f_l_reel Z.d_l_reel
  b_l_reel : Binds K Z.d_l_reel ["script", "k"] []
  g_l_reel : mg "_law_reel" = some (.ref Z.f_l_reel)
  F_l_pick : Fun K "_law_pick" "_law_pick" s_l_pick Z.f_l_pick Z.d_l_pick
  b_l_pick : Binds K Z.d_l_pick ["reel", "many"] []
  g_l_pick : mg "_law_pick" = some (.ref Z.f_l_pick)
  F_l_columns : Fun K "_law_columns" "_law_columns" s_l_columns Z.f_l_columns Z.d_l_columns
  b_l_columns : Binds K Z.d_l_columns ["reel", "many"] []
  g_l_columns : mg "_law_columns" = some (.ref Z.f_l_columns)
  F_l_table : Fun K "_law_table" "_law_table" s_l_table Z.f_l_table Z.d_l_table
  b_l_table : Binds K Z.d_l_table ["reel", "most", "rows"] []
  g_l_table : mg "_law_table" = some (.ref Z.f_l_table)
  F_l_near : Fun K "_law_near" "_law_near" s_l_near Z.f_l_near Z.d_l_near
  b_l_near : Binds K Z.d_l_near ["reel", "rows", "at", "row"] []
  g_l_near : mg "_law_near" = some (.ref Z.f_l_near)
  F_l_question : Fun K "_law_question" "_law_question" s_l_question Z.f_l_question Z.d_l_question
  b_l_question : Binds K Z.d_l_question ["reel", "table"] []
  g_l_question : mg "_law_question" = some (.ref Z.f_l_question)
  F_l_is_number : Fun K "_law_is_number" "_law_is_number" s_l_is_number Z.f_l_is_number Z.d_l_is_number
  b_l_is_number : Binds K Z.d_l_is_number ["thing"] []
  g_l_is_number : mg "_law_is_number" = some (.ref Z.f_l_is_number)
  F_l_is_letter : Fun K "_law_is_letter" "_law_is_letter" s_l_is_letter Z.f_l_is_letter Z.d_l_is_letter
  b_l_is_letter : Binds K Z.d_l_is_letter ["columns", "thing"] []
  g_l_is_letter : mg "_law_is_letter" = some (.ref Z.f_l_is_letter)
  F_l_is_question : Fun K "_law_is_question" "_law_is_question" s_l_is_question Z.f_l_is_question Z.d_l_is_question
  b_l_is_question : Binds K Z.d_l_is_question ["columns", "thing"] []
  g_l_is_question : mg "_law_is_question" = some (.ref Z.f_l_is_question)
  F_l_bent : Fun K "_law_bent" "_law_bent" s_l_bent Z.f_l_bent Z.d_l_bent
  b_l_bent : Binds K Z.d_l_bent ["reel", "columns", "question"] []
  g_l_bent : mg "_law_bent" = some (.ref Z.f_l_bent)
  F_l_bent_more : Fun K "_law_bent_more" "_law_bent_more" s_l_bent_more Z.f_l_bent_more Z.d_l_bent_more
  b_l_bent_more : Binds K Z.d_l_bent_more ["reel", "columns", "question"] []
  g_l_bent_more : mg "_law_bent_more" = some (.ref Z.f_l_bent_more)
  F_law : Fun K "law" "law" s_law Z.f_law Z.d_law
  b_law : Binds K Z.d_law ["script"] []
  g_law : mg "law" = some (.ref Z.f_law)
  m_len : mg "len" = none
  m_range : mg "range" = none
  m_list : mg "list" = none
  m_sorted : mg "sorted" = none
  m_tuple : mg "tuple" = none
  m_min : mg "min" = none
  m_max : mg "max" = none
  m_enumerate : mg "enumerate" = none
  m_dict : mg "dict" = none
  m_isinstance : mg "isinstance" = none
  m_all : mg "all" = none
  m_bool : mg "bool" = none
  m_str : mg "str" = none
  m_int : mg "int" = none
  m_repr : mg "repr" = none
  c_GREATEST : mg "GREATEST" = some (.int 999 Z.k_GREATEST)
section
variable {P : Program} {w : World} {K : PySem.W.Frag} {mg : Str → Option Value} {base : Heap} {Z : Ad}
/-! ### _law_reel -/
def spReel (K : PySem.W.Frag) : Sp := fun vs H Q _ => ∃ (a : Addr) (ns : List Int) (k : Nat), vs = [.ref a, .int k] ∧ SqL K H a (ns.map V.int) ∧ k < 1000 ∧ ∀ (n : Int) p, H p = none → Q (.ref p) (upd H p (.lst [.int n]))
theorem ok_reel (T : Tx K mg Z) : FnOk P w K mg base CX0 1 Z.f_l_reel Z.d_l_reel ["script", "k"] (spReel K) := by
  refine T.F_l_reel.ok sc_l_reel (fun vs H Q E h => ?_) (fun cdv A outer s H vs Q E hr h => ?_)
  · obtain ⟨a, ns, k, rfl, _⟩ := h
    rfl
  · obtain ⟨a, ns, k, rfl, hS, hk, q⟩ := h
    refine ⟨_, (pss_cons (ps_set (i := 2) sc_l_reel.nd rfl (.inl rfl) (pe_op op_add (pe_op op_mul pe_int (pv 1)) pe_int))
      (pss_mid (ps_if (pt_cmpR op_lt (pv 1) (pe_callB (cLenSq K) (by rfl) T.m_len (by decide +kernel) (pa_cons (pv 0) pa_nil)) (nomark _)) (pss_one (ps_set (i := 2) sc_l_reel.nd rfl (.inl rfl) (pe_ix (ixL K) (pv 0) (pv 1) (fun _ _ => rfl)))) pss_nil)
      (pss_cons (ps_if (pt_cmpR op_eq (pe_op op_mod (pv 2) pe_int) pe_int (nomark _)) (pss_one (ps_ret (pe_lst (pa_cons (pe_op op_fdiv (pv 2) pe_int) pa_nil)))) pss_nil)
      (pss_cons (ps_set (i := 3) sc_l_reel.nd rfl (.inl rfl) (pe_op op_mod (pe_op op_add (pe_op op_add (pe_op op_mul (pe_op op_mod (pv 2) pe_int) pe_int) (pe_op op_mul pe_int (pv 1))) pe_int) pe_int))
      (pss_cons (ps_set (i := 4) sc_l_reel.nd rfl (.inl rfl) pe_int)
      (pss_cons (ps_for PassesOwn.never rfl (pi_range1 (by rfl) T.m_range (pa_cons pe_int pa_nil)) (pg_name (i := 5) sc_l_reel.nd rfl (.inl rfl)) (pss_cons (ps_set (i := 3) sc_l_reel.nd rfl (.inl rfl) (pe_op op_mod (pe_op op_add (pe_op op_add (pe_op op_add (pe_op op_mul (pv 3) (pv 3)) (pe_op op_mul pe_int (pv 3))) (pe_op op_mul pe_int (pv 5))) pe_int) pe_int))
      (pss_one (ps_set (i := 4) sc_l_reel.nd rfl (.inl rfl) (pe_op op_add (pe_op op_mul (pv 4) pe_int) (pv 3))))))
      (pss_one (ps_ret (pe_lst (pa_cons (pv 4) pa_nil)))))))))), ?_⟩
    have b64 : ∀ x : Int, 0 ≤ x → x < 2147483399 → -(2 ^ 64) < x ∧ x < 2 ^ 64 := fun x h0 h1 => ⟨by omega, by omega⟩
    have em : ∀ x : Int, 0 ≤ x % 2147483399 ∧ x % 2147483399 < 2147483399 := fun x => ⟨Int.emod_nonneg _ (by decide), Int.emod_lt_of_pos _ (by decide)⟩
    refine ⟨.int k, rfl, 7, k, rfl, rfl, .inl ⟨by decide, by decide⟩, _, 4, rfl, rfl, ?_⟩
    refine ⟨fun σ H' => ∃ num : Int, σ = [some (.ref a), some (.int k), some (.int num), none, none, none] ∧ H' = H, ?_, ?_⟩
    · refine ⟨.int k, rfl, .ref a, rfl, a, _, rfl, .inl hS, _, _, rfl, rfl, _, rfl, ite2 (fun e => ?_) (fun e => ?_)⟩
      · have e1 : (k : Int) < ((ns.map V.int).length : Nat) := of_decide_eq_true e
        have e2 : k < ns.length := by
          rw [List.length_map] at e1
          omega
        refine ⟨.ref a, rfl, .int k, rfl, a, _, _, .int ns[k], rfl, rfl, hS, atI_nat (by rw [List.getElem?_map, List.getElem?_eq_getElem e2]; rfl), ?_⟩
        exact ⟨_, rfl, rfl⟩
      · exact ⟨_, rfl, rfl⟩
    · intro σ1 H1 hM
      obtain ⟨num, rfl, rfl⟩ := hM
      refine ⟨.int num, rfl, num, 5, rfl, rfl, (by show (0 : Int) < 5; decide), rfl, _, rfl, ite2 (fun e => ?_) (fun e => ?_)⟩
      · refine ⟨.int num, rfl, num, 5, rfl, rfl, ⟨by decide, by decide⟩, (by show 1 ≤ sizeLine; decide), fun p np => ?_⟩
        exact q _ p np
      · refine ⟨.int num, rfl, num, 2147483399, rfl, rfl, (by show (0 : Int) < 2147483399; decide), _, 50021, rfl, rfl, .inl (b64 _ (em _).1 (em _).2), .int k, rfl, 977, k, rfl, rfl, .inl ⟨by decide, by decide⟩, _, _, rfl, rfl, _, 31, rfl, rfl, _, 2147483399, rfl, rfl, (by show (0 : Int) < 2147483399; decide), ?_⟩
        refine ⟨60, rfl, by decide, by decide, for_range (fun i σ H' => ∃ (st fo : Int) (y : Option V), σ = [some (.ref a), some (.int k), some (.int num), some (.int st), some (.int fo), y] ∧ 0 ≤ st ∧ st < 2147483399 ∧ H' = H1) ⟨_, 0, none, rfl, (em _).1, (em _).2, rfl⟩ (fun i σ H' hi hP => ?_) (fun σ H' hP => ?_)⟩
        · obtain ⟨st, fo, y, rfl, s0, s1, rfl⟩ := hP
          refine ⟨.int st, rfl, .int st, rfl, st, st, rfl, rfl, .inl (b64 _ s0 s1), .int st, rfl, 60013, st, rfl, rfl, .inl ⟨by decide, by decide⟩, _, _, rfl, rfl, _, rfl, 29, _, rfl, rfl, .inl ⟨by decide, by decide⟩, _, _, rfl, rfl, _, 5, rfl, rfl, _, 2147483399, rfl, rfl, (by show (0 : Int) < 2147483399; decide), ?_⟩
          refine ⟨.int fo, rfl, fo, 2147483399, rfl, rfl, .inr ⟨by decide, by decide⟩, _, rfl, _, _, rfl, rfl, ?_⟩
          exact ⟨_, _, _, rfl, (em _).1, (em _).2, rfl⟩
        · obtain ⟨st, fo, y, rfl, s0, s1, rfl⟩ := hP
          refine ⟨.int fo, rfl, (by show 1 ≤ sizeLine; decide), fun p np => ?_⟩
          exact q _ p np
/-! ### _law_pick -/
def spPick (K : PySem.W.Frag) : Sp := fun vs H Q _ => ∃ (r : Addr) (n m : Int), vs = [.ref r, .int m] ∧ H r = some (.lst [.int n]) ∧ 0 < m ∧ m < 1073741824 ∧ ∀ (d n' : Int), 0 ≤ d → d < m → Q (.int d) (upd H r (.lst [.int n']))
theorem ok_pick (T : Tx K mg Z) : FnOk P w K mg base CX0 1 Z.f_l_pick Z.d_l_pick ["reel", "many"] (spPick K) := by
  refine T.F_l_pick.ok sc_l_pick (fun vs H Q E h => ?_) (fun cdv A outer s H vs Q E hr h => ?_)
  · obtain ⟨a, n, m, rfl, _⟩ := h
    rfl
  · obtain ⟨r, n, m, rfl, hS, h0, h1, q⟩ := h
    refine ⟨_, (pss_cons (ps_set (i := 2) sc_l_pick.nd rfl (.inl rfl) (pe_op op_mod (pe_ix (ixL K) (pv 0) pe_int (fun _ _ => rfl)) (pv 1)))
      (pss_cons (ps_asg (pe_op op_fdiv (pe_ix (ixL K) (pv 0) pe_int (fun _ _ => rfl)) (pv 1)) (pg_sub (pv 0) pe_int set_list))
      (pss_one (ps_ret (pv 2))))), ?_⟩
    refine ⟨.ref r, rfl, r, [.int n], 0, .int n, rfl, rfl, .inl (.inl hS), rfl, .int m, rfl, n, m, rfl, rfl, h0, ?_⟩
    refine ⟨.ref r, rfl, r, [.int n], 0, .int n, rfl, rfl, .inl (.inl hS), rfl, .int m, rfl, n, m, rfl, rfl, ⟨h0, h1⟩, ?_⟩
    refine ⟨.ref r, rfl, r, [.int n], 0, 0, rfl, rfl, hS, rfl, _, rfl, ?_⟩
    exact q _ _ (Int.emod_nonneg _ (by omega)) (Int.emod_lt_of_pos _ h0)
/-! ### _law_columns -/
def alpha : List Nat := [97, 98, 99, 100, 101, 102, 103, 104, 105, 106, 107, 108, 109, 110, 111, 112, 113, 114, 115, 116, 117, 118, 119, 120, 121, 122]
def spColumns (K : PySem.W.Frag) : Sp := fun vs H Q _ => ∃ (r : Addr) (n : Int) (m : Nat), vs = [.ref r, .int m] ∧ H r = some (.lst [.int n]) ∧ m ≤ 26 ∧ ∀ (l : List Nat) (n' : Int) (H' : Hp), Kp r H H' → H' r = some (.lst [.int n']) → Cols l → l.length = m → Q (tx l) H'
theorem ok_columns (T : Tx K mg Z) : FnOk P w K mg base CX0 2 Z.f_l_columns Z.d_l_columns ["reel", "many"] (spColumns K) := by
  have G_l_pick : FnOk P w K mg base CX0 1 Z.f_l_pick Z.d_l_pick ["reel", "many"] (spPick K) := ok_pick T
  refine T.F_l_columns.ok sc_l_columns (fun vs H Q E h => ?_) (fun cdv A outer s H vs Q E hr h => ?_)
  · obtain ⟨r, n, m, rfl, _⟩ := h
    rfl
  · obtain ⟨r, n, m, rfl, hR, hm, q⟩ := h
    refine ⟨_, (pss_cons (ps_set (i := 2) sc_l_columns.nd rfl (.inl rfl) (pe_callTy call_list_txt (by rfl) T.m_list (by decide +kernel) (pa_cons pe_str pa_nil)))
      (pss_cons (ps_set (i := 3) sc_l_columns.nd rfl (.inl rfl) (pe_lst pa_nil))
      (pss_cons (ps_for PassesOwn.never rfl (pi_range1 (by rfl) T.m_range (pa_cons (pv 1) pa_nil)) (pg_name (i := 4) sc_l_columns.nd rfl (.inl rfl)) (pss_one (ps_expr (bmK K PySem.F.plainAttrs_list PySem.F.slot_list_append PySem.F.type_list_append mt_append (pv 3) (pa_cons (bmK K PySem.F.plainAttrs_list PySem.F.slot_list_pop PySem.F.type_list_pop mt_popAt (pv 2) (pa_cons (pe_call G_l_pick (hr.mono (by omega)) (by rfl) T.g_l_pick T.F_l_pick.kp T.b_l_pick .nil pass0 (pa_cons (pv 0) (pa_cons (pe_callB (cLenSq K) (by rfl) T.m_len (by decide +kernel) (pa_cons (pv 2) pa_nil)) pa_nil))) pa_nil)) pa_nil)))))
      (pss_one (ps_ret (pe_join pe_str (pe_callB cr_sortedS (by rfl) T.m_sorted (by decide +kernel) (pa_cons (pv 3) pa_nil)))))))), ?_⟩
    have ea : (Str.ofString "abcdefghijklmnopqrstuvwxyz").cps.toList = alpha := by decide +kernel
    refine ⟨_, rfl, (by decide +kernel), fun L nL => ?_⟩
    rw [ea]
    refine ⟨Nat.zero_le _, fun F nF => ?_⟩
    have nFL : F ≠ L := fun e => by
      rw [e, upd_same] at nF
      cases nF
    have nF0 : H F = none := by
      rw [upd_ne nFL] at nF
      exact nF
    have nLr : L ≠ r := (ne_of_none hR nL).symm
    have nFr : F ≠ r := (ne_of_none hR nF0).symm
    refine ⟨.int m, rfl, m, rfl, by omega, by omega, for_range (fun i σ H' => ∃ (ll ff : List Nat) (n' : Int) (y : Option V), σ = [some (.ref r), some (.int m), some (.ref L), some (.ref F), y] ∧ Kp r H H' ∧ H' r = some (.lst [.int n']) ∧ H' L = some (.lst (ll.map sg)) ∧ H' F = some (.lst (ff.map sg)) ∧ (ll ++ ff).Perm alpha ∧ ff.length = i)
      ⟨alpha, [], n, none, rfl, ?_, ?_, ?_, ?_, ?_, rfl⟩ (fun i σ H' hi hP => ?_) (fun σ H' hP => ?_)⟩
    · exact (Kp.new Kp.rfl' nL).new nF
    · rw [upd_ne nFr.symm, upd_ne nLr.symm]
      exact hR
    · rw [upd_ne nFL.symm, upd_same]
    · rw [upd_same]
      rfl
    · rw [List.append_nil]
    · obtain ⟨ll, ff, n1, y, rfl, kp, hR1, hL, hF, hp, hl⟩ := hP
      have hlen : ll.length + ff.length = 26 := by
        have := hp.length_eq
        rw [List.length_append] at this
        exact this
      have hll : 0 < ll.length := by
        have : i < m := by omega
        omega
      refine ⟨.ref F, rfl, .inl ⟨rfl, _, .inl (.inl hF)⟩, .ref L, rfl, .inl ⟨rfl, _, .inl (.inl hL)⟩, .ref r, rfl, .ref L, rfl, L, _, rfl, .inl (.inl (.inl hL)), r, n1, _, rfl, hR1, ?_, ?_, fun d n2 d0 d1 => ?_⟩
      · rw [List.length_map]
        omega
      · rw [List.length_map]
        omega
      · rw [List.length_map] at d1
        have hd : d.toNat < ll.length := by omega
        have hL2 : (upd H' r (.lst [.int n2])) L = some (.lst (ll.map sg)) := by
          rw [upd_ne nLr]
          exact hL
        have hF2 : (upd (upd H' r (.lst [.int n2])) L (.lst ((ll.map sg).eraseIdx d.toNat))) F = some (.lst (ff.map sg)) := by
          rw [upd_ne nFL, upd_ne nFr]
          exact hF
        have hy : ll[d.toNat]? = some ll[d.toNat] := List.getElem?_eq_getElem hd
        refine ⟨L, _, d, d.toNat, sg ll[d.toNat], rfl, rfl, hL2, by omega, by omega, PySem.seqIndex_of d0 (by rw [List.length_map]; exact d1), ?_, F, _, _, rfl, rfl, hF2, ?_, ?_⟩
        · rw [List.getElem?_map, hy]
          rfl
        · rw [List.length_map]
          exact small1000 (by omega)
        · refine ⟨ll.eraseIdx d.toNat, ff ++ [ll[d.toNat]], n2, _, rfl, ?_, ?_, ?_, ?_, (popped hy ff).trans hp, by rw [List.length_append, hl]; rfl⟩
          · exact ((Kp.own kp).mut nL).mut nF0
          · rw [upd_ne nFr.symm, upd_ne nLr.symm, upd_same]
          · rw [upd_ne nFL.symm, upd_same, erase_map]
          · rw [upd_same, List.map_append]
            rfl
    · obtain ⟨ll, ff, n1, y, rfl, kp, hR1, hL, hF, hp, hl⟩ := hP
      have hm2 : ff.length = m := by
        rw [hl]
        omega
      refine ⟨⟨_, rfl⟩, .ref F, rfl, F, ff.map sS, rfl, .inl (.inl (by rw [← map_sg]; exact hF)), by rw [List.length_map]; omega, fun ys p hys hso np => ?_⟩
      obtain ⟨l, rfl, pl⟩ := perm_signs hys
      have ndA : (ll ++ ff).Nodup := hp.nodup_iff.mpr (by decide)
      have ndf : ff.Nodup := (List.nodup_append.mp ndA).2.1
      have ndl : l.Nodup := pl.nodup_iff.mpr ndf
      refine ⟨_, p, _, rfl, rfl, .inl (.inl (.inl upd_same)), ?_, ?_⟩
      · have e1 : (Str.ofString "").length = 0 := by decide +kernel
        rw [e1, Nat.mul_zero, Nat.add_zero, List.map_map]
        have e2 : ∀ k : List Nat, (k.map ((fun x : Str => x.length) ∘ sS)).sum = k.length := fun k => by
          induction k with
          | nil => rfl
          | cons a k ih =>
            rw [List.map_cons, List.sum_cons, ih, List.length_cons]
            show 1 + k.length = k.length + 1
            omega
        rw [e2, pl.length_eq]
        omega
      · rw [join_signs]
        refine q l n1 _ (kp.new np) ?_ ⟨strict_of (sorted_signs l hso) ndl, fun c hc => ?_⟩ (by rw [pl.length_eq]; exact hm2)
        · rw [upd_ne (ne_of_none hR1 np)]
          exact hR1
        · have hc2 : c ∈ alpha := hp.mem_iff.mp (List.mem_append_right _ (pl.mem_iff.mp hc))
          have : ∀ c ∈ alpha, 97 ≤ c ∧ c ≤ 122 := by decide
          exact this c hc2

/-! ### _law_table -/
def spTable (K : PySem.W.Frag) : Sp := fun vs H Q _ => ∃ (r : Addr) (n : Int) (most rn : Nat), vs = [.ref r, .int most, .int rn] ∧ H r = some (.lst [.int n]) ∧ 1 ≤ most ∧ most ≤ 26 ∧ rn ≤ 1000 ∧
  ∀ (cols : List Nat) (rows : List (List Int)) (v : V) (n' : Int) (H' : Hp), Kp r H H' → H' r = some (.lst [.int n']) → Fz H' v (tabD cols rows) → Cols cols → 1 ≤ cols.length → cols.length ≤ most → RowsOk cols.length rows → rows.length ≤ rn → Q v H'
theorem ok_table (T : Tx K mg Z) : FnOk P w K mg base CX0 3 Z.f_l_table Z.d_l_table ["reel", "most", "rows"] (spTable K) := by
  have G_l_pick : FnOk P w K mg base CX0 1 Z.f_l_pick Z.d_l_pick ["reel", "many"] (spPick K) := ok_pick T
  have G_l_columns : FnOk P w K mg base CX0 2 Z.f_l_columns Z.d_l_columns ["reel", "many"] (spColumns K) := ok_columns T
  refine T.F_l_table.ok sc_l_table (fun vs H Q E h => ?_) (fun cdv A outer s H vs Q E hr h => ?_)
  · obtain ⟨r, n, most, rn, rfl, _⟩ := h
    rfl
  · obtain ⟨r, n, most, rn, rfl, hR, hm1, hm2, hrn, q⟩ := h
    refine ⟨_, (pss_cons (ps_set (i := 3) sc_l_table.nd rfl (.inl rfl) (pe_call G_l_columns (hr.mono (by omega)) (by rfl) T.g_l_columns T.F_l_columns.kp T.b_l_columns .nil pass0 (pa_cons (pv 0) (pa_cons (pe_op op_add pe_int (pe_call G_l_pick (hr.mono (by omega)) (by rfl) T.g_l_pick T.F_l_pick.kp T.b_l_pick .nil pass0 (pa_cons (pv 0) (pa_cons (pv 1) pa_nil)))) pa_nil))))
      (pss_cons (ps_set (i := 4) sc_l_table.nd rfl (.inr rfl) (pe_lc (own := [("letter", 6)]) (tt := tYes) (by rfl) sc_l_table.nd (pi_str (pv 3)) (blkOk_by (own := [("letter", 6)]) (by kernel_rfl)) (fun _ _ _ _ _ => (pg_name (i := 6) sc_l_table.nd rfl (.inl rfl))) (fun _ _ _ _ _ => pts_nil) (fun _ _ _ _ _ => (pe_ix (ixL K) (pe_lst (pa_cons pe_int (pa_cons pe_int (pa_cons pe_int (pa_cons pe_int pa_nil))))) (pe_call G_l_pick (hr.mono (by omega)) (by rfl) T.g_l_pick T.F_l_pick.kp T.b_l_pick .nil pass0 (pa_cons (pv 0) (pa_cons pe_int pa_nil))) (fun _ _ => rfl)))))
      (pss_cons (ps_set (i := 5) sc_l_table.nd rfl (.inl rfl) (pe_call G_l_pick (hr.mono (by omega)) (by rfl) T.g_l_pick T.F_l_pick.kp T.b_l_pick .nil pass0 (pa_cons (pv 0) (pa_cons (pe_op op_add (pv 2) pe_int) pa_nil))))
      (pss_one (ps_ret (pe_tup (pa_cons (pv 3) (pa_cons (pe_callTy (cTupSq K) (by rfl) T.m_tuple (by decide +kernel) (pa_cons (pe_lc (own := [("k", 7)]) (tt := tYes) (by rfl) sc_l_table.nd (pi_range1 (by rfl) T.m_range (pa_cons (pv 5) pa_nil)) (blkOk_by (own := [("k", 7)]) (by kernel_rfl)) (fun _ _ _ _ _ => (pg_name (i := 7) sc_l_table.nd rfl (.inl rfl))) (fun _ _ _ _ _ => pts_nil) (fun _ _ _ _ _ => (pe_callTy (cTupSq K) (by rfl) T.m_tuple (by decide +kernel) (pa_cons (pe_lc (own := [("top", 8)]) (tt := tYes) (by rfl) sc_l_table.nd (piL K (pv 4)) (blkOk_by (own := [("top", 8)]) (by kernel_rfl)) (fun _ _ _ _ _ => (pg_name (i := 8) sc_l_table.nd rfl (.inl rfl))) (fun _ _ _ _ _ => pts_nil) (fun _ _ _ _ _ => (pe_call G_l_pick (hr.mono (by omega)) (by rfl) T.g_l_pick T.F_l_pick.kp T.b_l_pick .nil pass0 (pa_cons (pv 0) (pa_cons (pv 8) pa_nil))))) pa_nil)))) pa_nil)) pa_nil)))))))), ?_⟩
    -- columns
    refine ⟨.ref r, rfl, .ref r, rfl, .int most, rfl, r, n, most, rfl, hR, by omega, by omega, fun d n1 d0 d1 => ?_⟩
    have hR1 : (upd H r (.lst [.int n1])) r = some (.lst [.int n1]) := upd_same
    refine ⟨1, d, rfl, rfl, r, n1, (1 + d).toNat, by rw [Int.toNat_of_nonneg (by omega)]; rfl, hR1, by omega, fun cols n2 H2 kp2 hR2 hc hl => ?_⟩
    have hkp2 : Kp r H H2 := (Kp.own Kp.rfl').trans kp2
    -- tops
    refine ⟨tx cols, rfl, _, rfl, fun D nD => lc_it walk_str (fun i H' => ∃ (ts : List Int) (n3 : Int), Kp r H2 H' ∧ H' r = some (.lst [.int n3]) ∧ H' D = some (.lst (ts.map V.int)) ∧ ts.length = i ∧ ∀ t ∈ ts, 0 < t ∧ t ≤ 1000)
      ⟨[], n2, Kp.rfl'.new nD, by rw [upd_ne (ne_of_none hR2 nD)]; exact hR2, upd_same, rfl, fun t ht => nomatch ht⟩ (fun _ _ _ _ => trivial) (fun i x H3 H4 hi hP hY => ?_) (fun H3 hP => ?_)⟩
    · obtain ⟨ts, n3, kp3, hR3, hD3, hl3, ht3⟩ := hP
      obtain ⟨rfl, c, hc4, rfl⟩ := hY
      have nDr : D ≠ r := (ne_of_none hR2 nD).symm
      refine ⟨rfl, (by show 4 ≤ sizeLine; decide), fun L nL => ?_⟩
      have nLr : L ≠ r := (ne_of_none hR3 nL).symm
      have nLD : L ≠ D := (ne_of_none hD3 nL).symm
      have hR4 : (upd H4 L (.lst [.int 2, .int 2, .int 4, .int 1000])) r = some (.lst [.int n3]) := by
        rw [upd_ne nLr.symm]
        exact hR3
      refine ⟨.ref r, rfl, r, n3, 4, rfl, hR4, by decide, by decide, fun e n4 e0 e1 => ?_⟩
      obtain ⟨t, ht, hat⟩ := at_ints (ns := [2, 2, 4, 1000]) e0 e1
      refine ⟨L, [2, 2, 4, 1000].map V.int, e, .int t, rfl, rfl, .inl (.inl ?_), hat, ts.map V.int, ?_, ?_, ts ++ [t], n4, ?_, ?_, ?_, ?_, ?_⟩
      · rw [upd_ne nLr, upd_same]
        rfl
      · rw [upd_ne nDr, upd_ne nLD.symm]
        exact hD3
      · rw [List.length_map, hl3]
        have hi2 : i < cols.length := hi
        exact small1000 (by omega)
      · exact ((kp3.new nL).own).mut nD
      · rw [upd_ne nDr.symm, upd_same]
      · rw [upd_same, List.map_append]
        rfl
      · rw [List.length_append, hl3]
        rfl
      · intro u hu
        rcases List.mem_append.mp hu with hu | hu
        · exact ht3 u hu
        · have : ∀ z ∈ ([2, 2, 4, 1000] : List Int), 0 < z ∧ z ≤ 1000 := by decide
          rw [List.mem_singleton.mp hu]
          exact this t ht
    · obtain ⟨ts, n3, kp3, hR3, hD3, hl3, ht3⟩ := hP
      have hlt : ts.length = cols.length := hl3
      -- many
      refine ⟨.ref r, rfl, .int rn, rfl, rn, 1, rfl, rfl, r, n3, _, rfl, hR3, by omega, by omega, fun m n4 m0 m1 => ?_⟩
      have nDr : D ≠ r := (ne_of_none hR2 nD).symm
      have hD4 : (upd H3 r (.lst [.int n4])) D = some (.lst (ts.map V.int)) := by
        rw [upd_ne nDr]
        exact hD3
      have kp4 : Kp r H (upd H3 r (.lst [.int n4])) := (hkp2.trans kp3).own
      -- the rows
      refine ⟨tx cols, rfl, .int m, rfl, m, rfl, by omega, by omega, fun D2 nD2 => lc_range (fun i H' => ∃ (rows : List (List Int)) (vs : List V) (n5 : Int), Kp r H H' ∧ H' r = some (.lst [.int n5]) ∧ H' D = some (.lst (ts.map V.int)) ∧ H' D2 = some (.lst vs) ∧ FzA H' vs (rows.map rowD) ∧ RowsOk cols.length rows ∧ rows.length = i)
        ⟨[], [], n4, kp4.new nD2, ?_, ?_, upd_same, .nil, (fun _ h => nomatch h), rfl⟩ (fun i H5 hi hP => ?_) (fun H5 hP => ?_)⟩
      · rw [upd_ne (ne_of_none upd_same nD2)]
        exact upd_same
      · rw [upd_ne (ne_of_none hD4 nD2)]
        exact hD4
      · obtain ⟨rows, vs, n5, kp5, hR5, hD5, hD25, hF5, hok, hln⟩ := hP
        have nD2r : D2 ≠ r := (ne_of_none (upd_same (H := H3)) nD2).symm
        have nD2D : D2 ≠ D := (ne_of_none hD4 nD2).symm
        have nD2H : H D2 = none := Kp.none kp4 nD2r nD2
        have nDH : H D = none := Kp.none hkp2 nDr nD
        -- one row
        refine ⟨rfl, .ref D, rfl, D, rfl, ⟨_, .inl (.inl hD5)⟩, fun D3 nD3 => lc_list (xs := ts.map V.int) (fun j H' => ∃ (row : List Int) (n6 : Int), Kp r H5 H' ∧ H' r = some (.lst [.int n6]) ∧ H' D3 = some (.lst (row.map V.int)) ∧ row.length = j ∧ ∀ x ∈ row, 0 ≤ x ∧ x < 1000)
          ⟨[], n5, Kp.rfl'.new nD3, ?_, upd_same, rfl, fun _ h => nomatch h⟩ (fun j H' _ hP => ?_) (fun j x H6 hx hP => ?_) (fun H6 hP => ?_)⟩
        · rw [upd_ne (ne_of_none hR5 nD3)]
          exact hR5
        · obtain ⟨row, n6, kp6, _⟩ := hP
          exact .inl (.inl (kp6 D _ nDr hD5))
        · obtain ⟨row, n6, kp6, hR6, hD6, hl6, hx6⟩ := hP
          have nD3r : D3 ≠ r := (ne_of_none hR5 nD3).symm
          rw [List.getElem?_map] at hx
          obtain ⟨t, ht, rfl⟩ := Option.map_eq_some_iff.mp hx
          have tm : t ∈ ts := List.mem_of_getElem? ht
          have hj : j < ts.length := (List.getElem?_eq_some_iff.mp ht).1
          refine ⟨rfl, .ref r, rfl, .int t, rfl, r, n6, t, rfl, hR6, (ht3 t tm).1, by have := (ht3 t tm).2; omega, fun e n7 e0 e1 => ?_⟩
          refine ⟨row.map V.int, ?_, ?_, row ++ [e], n7, (kp6.own).mut nD3, ?_, ?_, ?_, ?_⟩
          · rw [upd_ne nD3r]
            exact hD6
          · rw [List.length_map]
            exact small1000 (by omega)
          · rw [upd_ne nD3r.symm, upd_same]
          · rw [upd_same, List.map_append]
            rfl
          · rw [List.length_append, hl6]
            rfl
          · intro u hu
            rcases List.mem_append.mp hu with hu | hu
            · exact hx6 u hu
            · rw [List.mem_singleton.mp hu]
              have := (ht3 t tm).2
              exact ⟨e0, by omega⟩
        · obtain ⟨row, n6, kp6, hR6, hD6, hl6, hx6⟩ := hP
          rw [List.length_map] at hl6
          refine ⟨D3, row.map V.int, rfl, .inl ⟨.inl (.inl hD6), fun t nt => ?_⟩⟩
          have hD26 : H6 D2 = some (.lst vs) := kp6 D2 _ nD2r hD25
          have hD62 : H6 D = some (.lst (ts.map V.int)) := kp6 D _ nDr hD5
          have ntD2 : t ≠ D2 := (ne_of_none hD26 nt).symm
          have kt : Kt H5 H6 := kp6.kt hR5
          have kt2 : Kt H6 (upd H6 t (.tup (row.map V.int))) := .new nt
          have hD27 : (upd H6 t (.tup (row.map V.int))) D2 = some (.lst vs) := by
            rw [upd_ne ntD2.symm]
            exact hD26
          refine ⟨vs, hD27, ?_, rows ++ [row], vs ++ [.ref t], n6, ?_, ?_, ?_, upd_same, ?_, ?_, by rw [List.length_append, hln]; rfl⟩
          · rw [hF5.len, List.length_map]
            exact small1000 (by omega)
          · exact ((kp5.trans kp6).new nt).mut nD2H
          · rw [upd_ne nD2r.symm, upd_ne (ne_of_none hR6 nt)]
            exact hR6
          · rw [upd_ne nD2D.symm, upd_ne (ne_of_none hD62 nt)]
            exact hD62
          · rw [List.map_append]
            exact (FzA.snoc ((hF5.kt kt).kt kt2) (row_made nt)).kt (.lst hD27)
          · intro x hx
            rcases List.mem_append.mp hx with hx | hx
            · exact hok x hx
            · rw [List.mem_singleton.mp hx]
              exact ⟨hl6.trans hlt, hx6⟩
      · obtain ⟨rows, vs, n5, kp5, hR5, hD5, hD25, hF5, hok, hln⟩ := hP
        refine ⟨D2, vs, rfl, .inl ⟨.inl (.inl hD25), fun R nR => ⟨(by show 2 ≤ sizeLine; decide), fun t nt => ?_⟩⟩⟩
        have f1 : Fz (upd H5 R (.tup vs)) (.ref R) (rowsD rows) := Fz.made nR hF5
        refine q cols rows (.ref t) n5 _ ((kp5.new nR).new nt) ?_ (Fz.made nt (.cons (.str _) (.cons f1 .nil))) hc (by omega) (by omega) hok (by omega)
        rw [upd_ne (ne_of_none (by rw [upd_ne (ne_of_none hR5 nR)]; exact hR5) nt), upd_ne (ne_of_none hR5 nR)]
        exact hR5

/-! ### _law_near -/
def spNear (K : PySem.W.Frag) : Sp := fun vs H Q _ => ∃ (r : Addr) (n : Int) (rs : V) (rows : List (List Int)) (at_ : Nat) (rw_ : V) (row : List Int) (k : Nat), vs = [.ref r, rs, .int at_, rw_] ∧ H r = some (.lst [.int n]) ∧ Fz H rs (rowsD rows) ∧ Fz H rw_ (rowD row) ∧ RowsOk k rows ∧ RowOk k row ∧ at_ < k ∧ rows.length ≤ 1000 ∧
  ∀ (x n' : Int) (H' : Hp), Kp r H H' → H' r = some (.lst [.int n']) → 0 ≤ x → x < 1000 → Q (.int x) H'
theorem ok_near (T : Tx K mg Z) : FnOk P w K mg base CX0 2 Z.f_l_near Z.d_l_near ["reel", "rows", "at", "row"] (spNear K) := by
  have G_l_pick : FnOk P w K mg base CX0 1 Z.f_l_pick Z.d_l_pick ["reel", "many"] (spPick K) := ok_pick T
  refine T.F_l_near.ok sc_l_near (fun vs H Q E h => ?_) (fun cdv A outer s H vs Q E hr h => ?_)
  · obtain ⟨r, n, rs, rows, at_, rw_, row, k, rfl, _⟩ := h
    rfl
  · obtain ⟨r, n, rs, rows, at_, rw_, row, k, rfl, hR, fR, fr, hrs, hro, hat, hlen, q⟩ := h
    obtain ⟨R, vs, rfl, hRR, fvs⟩ := fR.open
    obtain ⟨ra, rfl, hra⟩ := row_open fr
    have nRr : R ≠ r := fun z => by
      rw [z, hR] at hRR
      cases hRR
    have nrar : ra ≠ r := fun z => by
      rw [z, hR] at hra
      cases hra
    refine ⟨_, (pss_cons (ps_set (i := 4) sc_l_near.nd rfl (.inl rfl) (pe_call G_l_pick (hr.mono (by omega)) (by rfl) T.g_l_pick T.F_l_pick.kp T.b_l_pick .nil pass0 (pa_cons (pv 0) (pa_cons pe_int pa_nil))))
      (pss_cons (ps_if (pt_cmpR op_lt (pv 4) pe_int (nomark _)) (pss_one (ps_ret (pe_ix (ixT K) (pv 3) (pv 2) (fun _ _ => rfl)))) pss_nil)
      (pss_cons (ps_if (PW.pt (pw_or (pt_cmpR op_eq (pv 4) pe_int (nomark _)) (pw_or1 (pt_cmpR (eqDK K hr.units) (pv 1) (pe_tup pa_nil) (nomark _))))) (pss_one (ps_ret (pe_call G_l_pick (hr.mono (by omega)) (by rfl) T.g_l_pick T.F_l_pick.kp T.b_l_pick .nil pass0 (pa_cons (pv 0) (pa_cons (pe_ix (ixL K) (pe_lst (pa_cons pe_int (pa_cons pe_int pa_nil))) (pe_call G_l_pick (hr.mono (by omega)) (by rfl) T.g_l_pick T.F_l_pick.kp T.b_l_pick .nil pass0 (pa_cons (pv 0) (pa_cons pe_int pa_nil))) (fun _ _ => rfl)) pa_nil))))) pss_nil)
      (pss_cons (ps_set (i := 5) sc_l_near.nd rfl (.inl rfl) (pe_ix (ixT K) (pe_ix (ixT K) (pv 1) (pe_call G_l_pick (hr.mono (by omega)) (by rfl) T.g_l_pick T.F_l_pick.kp T.b_l_pick .nil pass0 (pa_cons (pv 0) (pa_cons (pe_callB (cLenSq K) (by rfl) T.m_len (by decide +kernel) (pa_cons (pv 1) pa_nil)) pa_nil))) (fun _ _ => rfl)) (pv 2) (fun _ _ => rfl)))
      (pss_one (ps_ret (pe_callB (call_min2 rfl) (by rfl) T.m_min (by decide +kernel) (pa_cons pe_int (pa_cons (pe_callB (call_max2 rfl) (by rfl) T.m_max (by decide +kernel) (pa_cons pe_int (pa_cons (pe_op op_add (pv 5) (pe_ix (ixL K) (pe_lst (pa_cons pe_int (pa_cons pe_int (pa_cons (pe_un un_neg pe_int) pa_nil)))) (pe_op op_mul (pe_op op_sub (pv 4) pe_int) (pe_op op_add pe_int (pe_call G_l_pick (hr.mono (by omega)) (by rfl) T.g_l_pick T.F_l_pick.kp T.b_l_pick .nil pass0 (pa_cons (pv 0) (pa_cons pe_int pa_nil))))) (fun _ _ => rfl))) pa_nil))) pa_nil))))))))), ?_⟩
    refine ⟨.ref r, rfl, r, n, 8, rfl, hR, by decide, by decide, fun way n1 w0 w1 => ?_⟩
    have hR1 : (upd H r (.lst [.int n1])) r = some (.lst [.int n1]) := upd_same
    have hRR1 : (upd H r (.lst [.int n1])) R = some (.tup vs) := by
      rw [upd_ne nRr]
      exact hRR
    have hra1 : (upd H r (.lst [.int n1])) ra = some (.tup (row.map V.int)) := by
      rw [upd_ne nrar]
      exact hra
    have fvs1 : FzA (upd H r (.lst [.int n1])) vs (rows.map rowD) := fvs.kt (.lst hR)
    have kp1 : Kp r H (upd H r (.lst [.int n1])) := Kp.own Kp.rfl'
    generalize upd H r (.lst [.int n1]) = H1 at hR1 hRR1 hra1 fvs1 kp1 ⊢
    have hal : at_ < row.length := by
      rw [hro.1]
      exact hat
    -- if way < 5
    refine ⟨.int way, rfl, _, _, rfl, rfl, _, rfl, ite2 (fun e => ?_) (fun e => ?_)⟩
    · refine ⟨.ref ra, rfl, .int at_, rfl, ra, _, _, .int row[at_], rfl, rfl, .inl (.inl hra1), atI_nat (by rw [List.getElem?_map, List.getElem?_eq_getElem hal]; rfl), ?_⟩
      have := hro.2 row[at_] (List.getElem_mem hal)
      exact q _ n1 _ kp1 hR1 this.1 this.2
    · have w5 : ¬ way < 5 := fun z => e (decide_eq_true z)
      -- what follows where one more is picked
      have pick2 : ∀ (H2 : Hp) (n2 : Int), Kp r H H2 → H2 r = some (.lst [.int n2]) → tRet (tCall (spPick K) [] E0 (tCons (tVar 0) (tCons (tOp (rIxL K) (tLst (tCons (tC (V.int 5)) (tCons (tC (V.int 1000)) tNil))) (tCall (spPick K) [] E0 (tCons (tVar 0) (tCons (tC (V.int 2)) tNil)))) tNil))) { nx := fun x H' => Q V.non H', rt := Q } [some (.ref r), some (.ref R), some (.int at_), some (.ref ra), some (.int way), none] H2 := by
        intro H2 n2 kp2 hR2
        refine ⟨.ref r, rfl, (by show 2 ≤ sizeLine; decide), fun L nL => ?_⟩
        have nLr : L ≠ r := (ne_of_none hR2 nL).symm
        refine ⟨.ref r, rfl, r, n2, 2, rfl, by rw [upd_ne nLr.symm]; exact hR2, by decide, by decide, fun d n3 d0 d1 => ?_⟩
        obtain ⟨t, ht, hat⟩ := at_ints (ns := [5, 1000]) d0 d1
        have ht2 : ∀ z ∈ ([5, 1000] : List Int), 0 < z ∧ z ≤ 1000 := by decide
        refine ⟨L, [5, 1000].map V.int, d, .int t, rfl, rfl, .inl (.inl (by rw [upd_ne nLr, upd_same]; rfl)), hat, r, n3, t, rfl, upd_same, (ht2 t ht).1, by have := (ht2 t ht).2; omega, fun x n4 x0 x1 => ?_⟩
        exact q x n4 _ (((kp2.new nL).own).own) upd_same x0 (by have := (ht2 t ht).2; omega)
      -- way == 5 or rows == ()
      refine ⟨.int way, rfl, rfl, _, rfl, ite2 (fun e5 => ?_) (fun e5 => ?_)⟩
      · exact pick2 H1 n1 kp1 hR1
      · refine ⟨.ref R, rfl, (by show 0 ≤ sizeLine; decide), fun p np => ?_⟩
        have hp : Fz (upd H1 p (.tup [])) (.ref p) (.tuple []) := Fz.made np .nil
        have hRp : Fz (upd H1 p (.tup [])) (.ref R) (rowsD rows) := (Fz.tup hRR1 fvs1).kt (.new np)
        refine ⟨_, _, hRp.to, hp.to, shaped_rows rows, shaped_rows [], _, rfl, ite2 (fun ee => ?_) (fun ee => ?_)⟩
        · exact pick2 _ n1 (kp1.new np) (by rw [upd_ne (ne_of_none hR1 np)]; exact hR1)
        · have ne : rows ≠ [] := fun z => by
            rw [z] at ee
            exact ee rfl
          have hpos : 0 < rows.length := List.length_pos_iff.mpr ne
          have kp2 : Kp r H (upd H1 p (.tup [])) := kp1.new np
          have hR2 : (upd H1 p (.tup [])) r = some (.lst [.int n1]) := by
            rw [upd_ne (ne_of_none hR1 np)]
            exact hR1
          have hRR2 : (upd H1 p (.tup [])) R = some (.tup vs) := by
            rw [upd_ne (ne_of_none hRR1 np)]
            exact hRR1
          have fvs2 : FzA (upd H1 p (.tup [])) vs (rows.map rowD) := fvs1.kt (.new np)
          generalize upd H1 p (.tup []) = H2 at kp2 hR2 hRR2 fvs2 ⊢
          have hvl : vs.length = rows.length := by
            rw [fvs2.len, List.length_map]
          refine ⟨.ref R, rfl, .ref r, rfl, .ref R, rfl, R, vs, rfl, .inr (.inl (.inl hRR2)), r, n1, _, rfl, hR2, by omega, by omega, fun d n3 d0 d1 => ?_⟩
          have hd : d.toNat < rows.length := by omega
          obtain ⟨v, hv, fv⟩ := fvs2.get (i := d.toNat) (d := rowD rows[d.toNat]) (by rw [List.getElem?_map, List.getElem?_eq_getElem hd]; rfl)
          have rok := hrs rows[d.toNat] (List.getElem_mem hd)
          obtain ⟨rb, rfl, hrb⟩ := row_open (fv.kt (Kt.lst hR2 (o := .lst [.int n3])))
          have hal2 : at_ < rows[d.toNat].length := by
            rw [rok.1]
            exact hat
          refine ⟨R, vs, d, .ref rb, rfl, rfl, .inl (.inl (by rw [upd_ne nRr]; exact hRR2)), L2.at_of (j := d.toNat) (by omega) hv, .int at_, rfl, rb, _, _, .int rows[d.toNat][at_], rfl, rfl, .inl (.inl hrb), atI_nat (by rw [List.getElem?_map, List.getElem?_eq_getElem hal2]; rfl), ?_⟩
          -- min(999, max(0, number + [0, 1, -1][(way - 6) * (1 + pick)]))
          refine ⟨_, rfl, 1, rfl, (by show 3 ≤ sizeLine; decide), fun L nL => ?_⟩
          have hR3 : (upd H2 r (.lst [.int n3])) r = some (.lst [.int n3]) := upd_same
          have kp3 : Kp r H (upd H2 r (.lst [.int n3])) := kp2.own
          have nLr : L ≠ r := (ne_of_none hR3 nL).symm
          refine ⟨.int way, rfl, way, 6, rfl, rfl, .ref r, rfl, r, n3, 2, rfl, by rw [upd_ne nLr.symm]; exact hR3, by decide, by decide, fun f n4 f0 f1 => ?_⟩
          have e52 : way ≠ 5 := fun z => e5 (decide_eq_true (by rw [z]))
          have hw : way = 6 ∨ way = 7 := by omega
          have hi0 : 0 ≤ (way - 6) * (1 + f) := Int.mul_nonneg (by omega) (by omega)
          have hi1 : (way - 6) * (1 + f) < 3 := by
            rcases hw with z | z <;> subst z <;> omega
          obtain ⟨t, ht, hti⟩ := at_ints (ns := [0, 1, -1]) hi0 hi1
          refine ⟨1, f, rfl, rfl, way - 6, 1 + f, rfl, rfl, .inl ⟨by omega, by omega⟩, L, [0, 1, -1].map V.int, _, .int t, rfl, rfl, .inl (.inl (by rw [upd_ne nLr, upd_same]; rfl)), hti, _, t, rfl, rfl, 0, _, rfl, 999, _, rfl, ?_⟩
          refine q _ n4 _ ((kp3.new nL).own) upd_same ?_ ?_
          · have m0 : (0 : Int) ≤ (if rows[d.toNat][at_] + t > 0 then rows[d.toNat][at_] + t else 0) := by
              split <;> omega
            split <;> omega
          · split <;> omega

/-! ### _law_question -/
def spQuestion (K : PySem.W.Frag) : Sp := fun vs H Q _ => ∃ (r : Addr) (n : Int) (tb : V) (cols : List Nat) (rows : List (List Int)), vs = [.ref r, tb] ∧ H r = some (.lst [.int n]) ∧ Fz H tb (tabD cols rows) ∧ Cols cols ∧ 1 ≤ cols.length ∧ cols.length ≤ 26 ∧ RowsOk cols.length rows ∧ rows.length ≤ 1000 ∧
  ∀ (es : List (Nat × Int)) (rc : Option (Nat × Int × Int)) (v : V) (n' : Int) (H' : Hp), Kp r H H' → H' r = some (.lst [.int n']) → Fz H' v (qD es rc) → QOk cols es rc → Q v H'
theorem ok_question (T : Tx K mg Z) : FnOk P w K mg base CX0 3 Z.f_l_question Z.d_l_question ["reel", "table"] (spQuestion K) := by
  have G_l_pick : FnOk P w K mg base CX0 1 Z.f_l_pick Z.d_l_pick ["reel", "many"] (spPick K) := ok_pick T
  have G_l_near : FnOk P w K mg base CX0 2 Z.f_l_near Z.d_l_near ["reel", "rows", "at", "row"] (spNear K) := ok_near T
  refine T.F_l_question.ok sc_l_question (fun vs H Q E h => ?_) (fun cdv A outer s H vs Q E hr h => ?_)
  · obtain ⟨r, n, tb, cols, rows, rfl, _⟩ := h
    rfl
  · obtain ⟨r, n, tb, cols, rows, rfl, hR, fT, hc, hc1, hc2, hrs, hrn, q⟩ := h
    obtain ⟨t, R, vs, rfl, ht, hRR, fvs⟩ := tab_open fT
    refine ⟨_, (pss_cons (ps_asg (pv 1) (pgT K (n := 2) (pgs_cons (pg_name (i := 2) sc_l_question.nd rfl (.inl rfl)) (pgs_cons (pg_name (i := 3) sc_l_question.nd rfl (.inl rfl)) pgs_nil))))
      (pss_cons (ps_set (i := 5) sc_l_question.nd rfl (.inl rfl) (pe_callTy (cTupSq K) (by rfl) T.m_tuple (by decide +kernel) (pa_cons (pe_lc (own := [("letter", 4)]) (tt := tYes) (by rfl) sc_l_question.nd (pi_str (pv 2)) (blkOk_by (own := [("letter", 4)]) (by kernel_rfl)) (fun _ _ _ _ _ => (pg_name (i := 4) sc_l_question.nd rfl (.inl rfl))) (fun _ _ _ _ _ => pts_nil) (fun _ _ _ _ _ => (pe_call G_l_pick (hr.mono (by omega)) (by rfl) T.g_l_pick T.F_l_pick.kp T.b_l_pick .nil pass0 (pa_cons (pv 0) (pa_cons pe_int pa_nil))))) pa_nil)))
      (pss_mid (ps_if (PW.pt (pw_and (pt_cmpR (neDK K hr.units) (pv 3) (pe_tup pa_nil) (nomark _)) (pw_and1 (pt_cmpR op_gt (pe_call G_l_pick (hr.mono (by omega)) (by rfl) T.g_l_pick T.F_l_pick.kp T.b_l_pick .nil pass0 (pa_cons (pv 0) (pa_cons pe_int pa_nil))) pe_int (nomark _))))) (pss_one (ps_set (i := 5) sc_l_question.nd rfl (.inl rfl) (pe_ix (ixT K) (pv 3) (pe_call G_l_pick (hr.mono (by omega)) (by rfl) T.g_l_pick T.F_l_pick.kp T.b_l_pick .nil pass0 (pa_cons (pv 0) (pa_cons (pe_callB (cLenSq K) (by rfl) T.m_len (by decide +kernel) (pa_cons (pv 3) pa_nil)) pa_nil))) (fun _ _ => rfl)))) pss_nil)
      (pss_cons (ps_set (i := 6) sc_l_question.nd rfl (.inr rfl) (pe_lst pa_nil))
      (pss_cons (ps_for PassesOwn.never rfl (pi_enumS (by rfl) T.m_enumerate (pa_cons (pv 2) pa_nil)) (pgT K (n := 2) (pgs_cons (pg_name (i := 7) sc_l_question.nd rfl (.inl rfl)) (pgs_cons (pg_name (i := 4) sc_l_question.nd rfl (.inl rfl)) pgs_nil))) (pss_one (ps_if (pt_cmpR op_lt (pe_call G_l_pick (hr.mono (by omega)) (by rfl) T.g_l_pick T.F_l_pick.kp T.b_l_pick .nil pass0 (pa_cons (pv 0) (pa_cons pe_int pa_nil))) pe_int (nomark _)) (pss_one (ps_expr (bmK K PySem.F.plainAttrs_list PySem.F.slot_list_append PySem.F.type_list_append mt_append (pv 6) (pa_cons (pe_tup (pa_cons (pv 4) (pa_cons (pe_call G_l_near (hr.mono (by omega)) (by rfl) T.g_l_near T.F_l_near.kp T.b_l_near .nil pass0 (pa_cons (pv 0) (pa_cons (pv 3) (pa_cons (pv 7) (pa_cons (pv 5) pa_nil))))) pa_nil))) pa_nil)))) pss_nil)))
      (pss_cons (ps_setLc (i := 8) (own := [("letter", 4)]) (tt := _) (by rfl) sc_l_question.nd rfl rfl (sw_true rfl rfl rfl (by decide +kernel)) (pi_str (pv 2)) (blkOk_by (own := [("letter", 4)]) (by kernel_rfl)) (fun _ _ _ _ _ => (pg_name (i := 4) sc_l_question.nd rfl (.inl rfl))) (fun _ _ _ _ _ => (pts_one (pt_cmp (pc_dnotin (hu_of hr) (pv 4) (pe_callTy (cDictSq K) (by rfl) T.m_dict (by decide +kernel) (pa_cons (pv 6) pa_nil)))))) (fun _ _ _ _ _ => (pv 4)))
      (pss_cons (ps_if (PW.pt (pw_or (pt_cmpR (eqDK K hr.units) (pv 8) (pe_lst pa_nil) (nomark _)) (pw_or1 (pt_cmpR op_eq (pe_call G_l_pick (hr.mono (by omega)) (by rfl) T.g_l_pick T.F_l_pick.kp T.b_l_pick .nil pass0 (pa_cons (pv 0) (pa_cons pe_int pa_nil))) pe_int (nomark _))))) (pss_one (ps_ret (pe_tup (pa_cons (pe_callTy (cTupSq K) (by rfl) T.m_tuple (by decide +kernel) (pa_cons (pv 6) pa_nil)) (pa_cons pe_non pa_nil))))) pss_nil)
      (pss_cons (ps_set (i := 4) sc_l_question.nd rfl (.inl rfl) (pe_ix (ixL K) (pv 8) (pe_call G_l_pick (hr.mono (by omega)) (by rfl) T.g_l_pick T.F_l_pick.kp T.b_l_pick .nil pass0 (pa_cons (pv 0) (pa_cons (pe_callB (cLenSq K) (by rfl) T.m_len (by decide +kernel) (pa_cons (pv 8) pa_nil)) pa_nil))) (fun _ _ => rfl)))
      (pss_cons (ps_set (i := 9) sc_l_question.nd rfl (.inl rfl) (bmK K PySem.F.plainAttrs_str PySem.F.slot_str_index PySem.F.type_str_index mt_sindex (pv 2) (pa_cons (pv 4) pa_nil)))
      (pss_cons (ps_asg (pe_callB cr_sortedI (by rfl) T.m_sorted (by decide +kernel) (pa_cons (pe_lst (pa_cons (pe_call G_l_near (hr.mono (by omega)) (by rfl) T.g_l_near T.F_l_near.kp T.b_l_near .nil pass0 (pa_cons (pv 0) (pa_cons (pv 3) (pa_cons (pv 9) (pa_cons (pv 5) pa_nil))))) (pa_cons (pe_call G_l_near (hr.mono (by omega)) (by rfl) T.g_l_near T.F_l_near.kp T.b_l_near .nil pass0 (pa_cons (pv 0) (pa_cons (pv 3) (pa_cons (pv 9) (pa_cons (pv 5) pa_nil))))) pa_nil))) pa_nil)) (pgU K (n := 2) (pgs_cons (pg_name (i := 10) sc_l_question.nd rfl (.inl rfl)) (pgs_cons (pg_name (i := 11) sc_l_question.nd rfl (.inl rfl)) pgs_nil))))
      (pss_one (ps_ret (pe_tup (pa_cons (pe_callTy (cTupSq K) (by rfl) T.m_tuple (by decide +kernel) (pa_cons (pv 6) pa_nil)) (pa_cons (pe_tup (pa_cons (pv 4) (pa_cons (pv 10) (pa_cons (pe_callB (call_min2 rfl) (by rfl) T.m_min (by decide +kernel) (pa_cons pe_int (pa_cons (pe_op op_add (pv 11) (pe_ix (ixL K) (pe_lst (pa_cons pe_int (pa_cons pe_int (pa_cons pe_int (pa_cons pe_int pa_nil))))) (pe_call G_l_pick (hr.mono (by omega)) (by rfl) T.g_l_pick T.F_l_pick.kp T.b_l_pick .nil pass0 (pa_cons (pv 0) (pa_cons pe_int pa_nil))) (fun _ _ => rfl))) pa_nil))) pa_nil)))) pa_nil))))))))))))))), ?_⟩
    refine ⟨.ref t, rfl, t, [tx cols, .ref R], rfl, .inl (.inl ht), rfl, tx cols, [.ref R], rfl, .ref R, [], rfl, rfl, ?_⟩
    have ntr : t ≠ r := fun z => by
      rw [z, hR] at ht
      cases ht
    have nRr : R ≠ r := fun z => by
      rw [z, hR] at hRR
      cases hRR
    -- row
    refine ⟨tx cols, rfl, _, rfl, fun D nD => lc_it walk_str (fun i H' => ∃ (row : List Int) (n3 : Int), Kp r H H' ∧ H' r = some (.lst [.int n3]) ∧ H' D = some (.lst (row.map V.int)) ∧ row.length = i ∧ ∀ x ∈ row, 0 ≤ x ∧ x < 1000)
      ⟨[], n, Kp.rfl'.new nD, by rw [upd_ne (ne_of_none hR nD)]; exact hR, upd_same, rfl, fun t ht => nomatch ht⟩ (fun _ _ _ _ => trivial) (fun i x H3 H4 hi hP hY => ?_) (fun H3 hP => ?_)⟩
    · obtain ⟨row, n3, kp3, hR3, hD3, hl3, ht3⟩ := hP
      obtain ⟨rfl, c, hc4, rfl⟩ := hY
      have nDr : D ≠ r := (ne_of_none hR nD).symm
      have hi2 : i < cols.length := hi
      refine ⟨rfl, .ref r, rfl, r, n3, 5, rfl, hR3, by decide, by decide, fun e n4 e0 e1 => ?_⟩
      refine ⟨row.map V.int, by rw [upd_ne nDr]; exact hD3, by rw [List.length_map]; exact small1000 (by omega), row ++ [e], n4, (kp3.own).mut nD, by rw [upd_ne nDr.symm, upd_same], by rw [upd_same, List.map_append]; rfl, by rw [List.length_append, hl3]; rfl, fun u hu => ?_⟩
      rcases List.mem_append.mp hu with hu | hu
      · exact ht3 u hu
      · rw [List.mem_singleton.mp hu]
        exact ⟨e0, by omega⟩
    · obtain ⟨row0, n3, kp3, hR3, hD3, hl3, ht3⟩ := hP
      refine ⟨D, _, rfl, .inl ⟨.inl (.inl hD3), fun ra nra => ?_⟩⟩
      have hrow0 : RowOk cols.length row0 := ⟨hl3, ht3⟩
      have kpa : Kp r H (upd H3 ra (.tup (row0.map V.int))) := kp3.new nra
      have hRa : (upd H3 ra (.tup (row0.map V.int))) r = some (.lst [.int n3]) := by
        rw [upd_ne (ne_of_none hR3 nra)]
        exact hR3
      have fra : Fz (upd H3 ra (.tup (row0.map V.int))) (.ref ra) (rowD row0) := row_made nra
      generalize upd H3 ra (.tup (row0.map V.int)) = Ha at kpa hRa fra ⊢
      -- the row asked by
      refine ⟨fun σ H' => ∃ (rv : V) (row : List Int) (n' : Int), σ = [some (.ref r), some (.ref t), some (tx cols), some (.ref R), none, some rv, none, none, none, none, none, none] ∧ Kp r H H' ∧ H' r = some (.lst [.int n']) ∧ Fz H' rv (rowD row) ∧ RowOk cols.length row, ?_, ?_⟩
      · refine ⟨.ref R, rfl, (by show 0 ≤ sizeLine; decide), fun p np => ?_⟩
        have kpp : Kp r H (upd Ha p (.tup [])) := kpa.new np
        have hRp : (upd Ha p (.tup [])) r = some (.lst [.int n3]) := by
          rw [upd_ne (ne_of_none hRa np)]
          exact hRa
        have frp : Fz (upd Ha p (.tup [])) (.ref ra) (rowD row0) := fra.kt (.new np)
        have hp : Fz (upd Ha p (.tup [])) (.ref p) (.tuple []) := Fz.made np .nil
        have ktp : Kt H (upd Ha p (.tup [])) := kpp.kt hR
        have fRp : Fz (upd Ha p (.tup [])) (.ref R) (rowsD rows) := (Fz.tup hRR fvs).kt ktp
        generalize upd Ha p (.tup []) = Hp1 at kpp hRp frp hp fRp ktp ⊢
        refine ⟨_, _, fRp.to, hp.to, shaped_rows rows, shaped_rows [], _, rfl, ite2 (fun ee => ?_) (fun ee => ?_)⟩
        · have ne : rows ≠ [] := fun z => by
            rw [z] at ee
            exact absurd ee (by decide)
          have hpos : 0 < rows.length := List.length_pos_iff.mpr ne
          refine ⟨.ref r, rfl, r, n3, 6, rfl, hRp, by decide, by decide, fun d n4 d0 d1 => ⟨d, 0, rfl, rfl, _, rfl, ite2 (fun e6 => ?_) (fun e6 => ?_)⟩⟩
          · have hRR1 : (upd Hp1 r (.lst [.int n4])) R = some (.tup vs) := by
              rw [upd_ne nRr]
              exact ktp R _ hRR
            have hR5 : (upd Hp1 r (.lst [.int n4])) r = some (.lst [.int n4]) := upd_same
            have kt5 : Kt H (upd Hp1 r (.lst [.int n4])) := ktp.trans (.lst hRp)
            have kp5 : Kp r H (upd Hp1 r (.lst [.int n4])) := kpp.own
            generalize upd Hp1 r (.lst [.int n4]) = H5 at hRR1 hR5 kt5 kp5 ⊢
            have fvs5 := fvs.kt kt5
            have hvl : vs.length = rows.length := by
              rw [fvs5.len, List.length_map]
            refine ⟨.ref R, rfl, .ref r, rfl, .ref R, rfl, R, vs, rfl, .inr (.inl (.inl hRR1)), r, n4, _, rfl, hR5, by omega, by omega, fun f n6 f0 f1 => ?_⟩
            have hf : f.toNat < rows.length := by omega
            obtain ⟨v, hv, fv⟩ := fvs5.get (i := f.toNat) (d := rowD rows[f.toNat]) (by rw [List.getElem?_map, List.getElem?_eq_getElem hf]; rfl)
            refine ⟨R, vs, f, v, rfl, rfl, .inl (.inl (by rw [upd_ne nRr]; exact hRR1)), L2.at_of (j := f.toNat) (by omega) hv, ?_⟩
            exact ⟨v, rows[f.toNat], n6, rfl, kp5.own, upd_same, fv.kt (.lst hR5), hrs _ (List.getElem_mem hf)⟩
          · exact ⟨.ref ra, row0, n4, rfl, kpp.own, upd_same, frp.kt (.lst hRp), hrow0⟩
        · exact ⟨.ref ra, row0, n3, rfl, kpp, hRp, frp, hrow0⟩
      · intro σ1 H1 hM
        obtain ⟨rv, row, n1, rfl, kp1, hR1, frv, hrow⟩ := hM
        have kt1 : Kt H H1 := kp1.kt hR
        -- equals = []
        refine ⟨Nat.zero_le _, fun E nE => ?_⟩
        have nEr : E ≠ r := (ne_of_none hR1 nE).symm
        have nEH : H E = none := Kp.none kp1 nEr nE
        refine ⟨tx cols, rfl, _, rfl, for_it walk_es (fun i σ H' => ∃ (es : List (Nat × Int)) (ps : List V) (n' : Int) (y4 y7 : Option V), σ = [some (.ref r), some (.ref t), some (tx cols), some (.ref R), y4, some rv, some (.ref E), y7, none, none, none, none] ∧ Kp r H H' ∧ Kt H1 H' ∧ H' r = some (.lst [.int n']) ∧ H' E = some (.lst ps) ∧ FzA H' ps (es.map eqD) ∧ (es.map (·.1)).Sublist (cols.take i) ∧ ∀ p ∈ es, 0 ≤ p.2 ∧ p.2 < 1000)
          ⟨[], [], n1, none, none, rfl, kp1.new nE, .new nE, by rw [upd_ne nEr.symm]; exact hR1, upd_same, .nil, List.nil_sublist _, fun _ h => nomatch h⟩ (fun _ _ _ _ _ => trivial) (fun i x σ H3 H4 hi hP hY => ?_) (fun σ H3 hP => ?_)⟩
        · obtain ⟨es, ps, n3, y4, y7, rfl, kp3, kt3, hR3, hE3, fps, hsub, hes⟩ := hP
          obtain ⟨T0, x1, x2, rfl, nT, rfl, ex1, ex2⟩ := hY
          have hi2 : i < cols.length := hi
          have e1 : x1 = .int (i : Nat) := (Option.some.inj ex1).symm
          have e2 : x2 = sg cols[i] := by
            have : (some (sg cols[i]) : Option V) = some x2 := by
              rw [← ex2]
              simp [hi2]
            exact (Option.some.inj this).symm
          subst e1 e2
          have kt4 : Kt H3 (upd H3 T0 (.tup [.int (i : Nat), sg cols[i]])) := .new nT
          have kp4 : Kp r H (upd H3 T0 (.tup [.int (i : Nat), sg cols[i]])) := kp3.new nT
          have hR4 : (upd H3 T0 (.tup [.int (i : Nat), sg cols[i]])) r = some (.lst [.int n3]) := by
            rw [upd_ne (ne_of_none hR3 nT)]
            exact hR3
          have hE4 : (upd H3 T0 (.tup [.int (i : Nat), sg cols[i]])) E = some (.lst ps) := by
            rw [upd_ne (ne_of_none hE3 nT)]
            exact hE3
          refine ⟨T0, [.int (i : Nat), sg cols[i]], rfl, .inl (.inl upd_same), rfl, .int (i : Nat), [sg cols[i]], rfl, sg cols[i], [], rfl, rfl, ?_⟩
          have kt34 : Kt H1 (upd H3 T0 (.tup [.int (i : Nat), sg cols[i]])) := kt3.trans kt4
          have fps4 := fps.kt kt4
          clear kt4
          generalize upd H3 T0 (.tup [.int (i : Nat), sg cols[i]]) = H4 at kp4 hR4 hE4 kt34 fps4 ⊢
          have hsub1 : (es.map (·.1)).Sublist (cols.take (i + 1)) := hsub.trans (List.take_sublist_take_left (Nat.le_succ i))
          refine ⟨.ref r, rfl, r, n3, 5, rfl, hR4, by decide, by decide, fun d n5 d0 d1 => ⟨d, 2, rfl, rfl, _, rfl, ite2 (fun e => ?_) (fun e => ?_)⟩⟩
          · have kt5 : Kt H4 (upd H4 r (.lst [.int n5])) := .lst hR4
            have hE5 : (upd H4 r (.lst [.int n5])) E = some (.lst ps) := by
              rw [upd_ne nEr]
              exact hE4
            have hR5 : (upd H4 r (.lst [.int n5])) r = some (.lst [.int n5]) := upd_same
            have kp5 : Kp r H (upd H4 r (.lst [.int n5])) := kp4.own
            have fps5 := fps4.kt kt5
            have kt15 := kt34.trans kt5
            clear kt5
            generalize upd H4 r (.lst [.int n5]) = H5 at hE5 hR5 kp5 fps5 kt15 ⊢
            have fR5 : Fz H5 (.ref R) (rowsD rows) := (Fz.tup hRR fvs).kt (kt1.trans kt15)
            refine ⟨.ref E, rfl, .inl ⟨rfl, _, .inl (.inl hE5)⟩, sg cols[i], rfl, .ref r, rfl, .ref R, rfl, .int (i : Nat), rfl, rv, rfl, r, n5, .ref R, rows, i, rv, row, cols.length, rfl, hR5, fR5, frv.kt kt15, hrs, hrow, hi2, hrn, fun x n6 H6 kp6 hR6 x0 x1 => ?_⟩
            refine ⟨(by show 2 ≤ sizeLine; decide), fun p np => ?_⟩
            have hE6 : H6 E = some (.lst ps) := kp6 E _ nEr hE5
            have hE7 : (upd H6 p (.tup [sg cols[i], .int x])) E = some (.lst ps) := by
              rw [upd_ne (ne_of_none hE6 np)]
              exact hE6
            have kt6 : Kt H5 H6 := kp6.kt hR5
            have kt7 : Kt H6 (upd H6 p (.tup [sg cols[i], .int x])) := .new np
            have fp : Fz (upd H6 p (.tup [sg cols[i], .int x])) (.ref p) (eqD (cols[i], x)) := Fz.made np (.cons (.str _) (.cons (.int _) .nil))
            have hpl : ps.length ≤ 26 := by
              rw [fps.len, List.length_map]
              have := hsub.length_le
              rw [List.length_map, List.length_take] at this
              omega
            refine ⟨E, ps, .ref p, rfl, rfl, hE7, small1000 (by omega), es ++ [(cols[i], x)], ps ++ [.ref p], n6, _, _, rfl, ?_, ?_, ?_, upd_same, ?_, ?_, ?_⟩
            · exact ((kp5.trans kp6).new np).mut nEH
            · exact ((kt15.trans kt6).trans kt7).trans (.lst hE7)
            · rw [upd_ne nEr.symm, upd_ne (ne_of_none hR6 np)]
              exact hR6
            · rw [List.map_append]
              exact (FzA.snoc ((fps5.kt kt6).kt kt7) fp).kt (.lst hE7)
            · rw [List.map_append, List.take_succ_eq_append_getElem hi2]
              exact hsub.append (List.Sublist.refl _)
            · intro u hu
              rcases List.mem_append.mp hu with hu | hu
              · exact hes u hu
              · rw [List.mem_singleton.mp hu]
                exact ⟨x0, x1⟩
          · exact ⟨es, ps, n5, _, _, rfl, kp4.own, kt34.trans (.lst hR4), upd_same, by rw [upd_ne nEr]; exact hE4, fps4.kt (.lst hR4), hsub1, hes⟩
        · obtain ⟨es, ps, n3, y4, y7, rfl, kp3, kt3, hR3, hE3, fps, hsub, hes⟩ := hP
          have hsub2 : (es.map (·.1)).Sublist cols := by
            have : cols.take (⟨cols.toArray⟩ : Str).cps.size = cols := List.take_of_length_le (Nat.le_refl _)
            rw [this] at hsub
            exact hsub
          have hup : (es.map (·.1)).Pairwise (· < ·) := hc.up.sublist hsub2
          have hnd : (es.map (·.1)).Nodup := hc.nd.sublist hsub2
          have hok : ∀ p ∈ es, p.1 ∈ cols ∧ 0 ≤ p.2 ∧ p.2 < 1000 := fun p hp => ⟨hsub2.subset (List.mem_map_of_mem hp), hes p hp⟩
          have hesl : es.length ≤ cols.length := by
            have := hsub2.length_le
            rw [List.length_map] at this
            exact this
          have nRH : ∀ {H' : Hp}, Kt H1 H' → Fz H' (.ref R) (rowsD rows) := fun k => (Fz.tup hRR fvs).kt (kt1.trans k)
          -- left
          refine ⟨tx cols, rfl, _, rfl, fun D nD => lc_it walk_str (fun i H' => Kp r H H' ∧ Kt H3 H' ∧ H' r = some (.lst [.int n3]) ∧ H' E = some (.lst ps) ∧ H' D = some (.lst (((cols.take i).filter fun c => !decide (c ∈ es.map (·.1))).map sg)))
            ⟨kp3.new nD, .new nD, by rw [upd_ne (ne_of_none hR3 nD)]; exact hR3, by rw [upd_ne (ne_of_none hE3 nD)]; exact hE3, upd_same⟩ (fun _ _ _ _ => trivial) (fun i x H4 H5 hi hP hY => ?_) (fun H4 hP => ?_)⟩
          · obtain ⟨kp4, kt4, hR4, hE4, hD4⟩ := hP
            obtain ⟨rfl, c, hc5, rfl⟩ := hY
            have hi2 : i < cols.length := hi
            have ec : cols[i] = c := by
              have : (⟨cols.toArray⟩ : Str).cps[i]? = some cols[i] := by simp [hi2]
              rw [this] at hc5
              exact Option.some.inj hc5
            obtain ⟨pas, rfl, hpas⟩ := pairs_of (K := K) (fps.kt kt4)
            refine ⟨rfl, sg c, rfl, .ref E, rfl, E, pas, es.map kvI, rfl, .inl (.inl hE4), hpas, fun d nd => ?_⟩
            rw [merge_es hnd]
            have nDH : H D = none := Kp.none kp3 (ne_of_none hR3 nD).symm nD
            have nDr : D ≠ r := (ne_of_none hR3 nD).symm
            have nDE : D ≠ E := (ne_of_none hE3 nD).symm
            have kt5 : Kt H3 (upd H5 d (.dK (es.map kvI))) := kt4.trans (.new nd)
            have kp5 : Kp r H (upd H5 d (.dK (es.map kvI))) := kp4.new nd
            have hR5 : (upd H5 d (.dK (es.map kvI))) r = some (.lst [.int n3]) := by
              rw [upd_ne (ne_of_none hR4 nd)]
              exact hR4
            have hE5 : (upd H5 d (.dK (es.map kvI))) E = some (.lst (pas.map V.ref)) := by
              rw [upd_ne (ne_of_none hE4 nd)]
              exact hE4
            have hD5 : (upd H5 d (.dK (es.map kvI))) D = some (.lst (((cols.take i).filter fun c => !decide (c ∈ es.map (·.1))).map sg)) := by
              rw [upd_ne (ne_of_none hD4 nd)]
              exact hD4
            have tk : cols.take (i + 1) = cols.take i ++ [c] := by
              rw [List.take_succ_eq_append_getElem hi2, ec]
            refine ⟨d, _, rfl, DGet.k (k := Sum.inr (sS c)) upd_same, _, rfl, ?_⟩
            rw [val_es]
            refine ite2 (fun e => ?_) (fun e => ?_)
            · have e2 : (!decide (c ∈ es.map (·.1))) = true := e
              refine ⟨sg c, rfl, _, hD5, ?_, kp5.mut nDH, kt5.trans (.lst hD5), by rw [upd_ne nDr.symm]; exact hR5, by rw [upd_ne nDE.symm]; exact hE5, ?_⟩
              · rw [List.length_map]
                have := List.length_filter_le (fun c => !decide (c ∈ es.map (·.1))) (cols.take i)
                rw [List.length_take] at this
                exact small1000 (by omega)
              · rw [upd_same, tk, List.filter_append, List.filter_cons, if_pos e2, List.map_append]
                rfl
            · have e2 : ¬ (!decide (c ∈ es.map (·.1))) = true := e
              refine ⟨kp5, kt5, hR5, hE5, ?_⟩
              rw [hD5, tk, List.filter_append, List.filter_cons, if_neg e2]
              simp
          · obtain ⟨kp4, kt4, hR4, hE4, hD4⟩ := hP
            have tkall : cols.take (⟨cols.toArray⟩ : Str).cps.size = cols := List.take_of_length_le (Nat.le_refl _)
            rw [tkall] at hD4
            generalize hll : (cols.filter fun c => !decide (c ∈ es.map (·.1))) = ll at hD4
            have hlm : ∀ c ∈ ll, c ∈ cols ∧ c ∉ es.map (·.1) := fun c h => by
              rw [← hll] at h
              obtain ⟨h1, h2⟩ := List.mem_filter.mp h
              exact ⟨h1, by simpa using h2⟩
            have kt14 : Kt H1 H4 := kt3.trans kt4
            have fps4 := fps.kt kt4
            have retN : ∀ (H' : Hp) (n' : Int), Kp r H H' → H' r = some (.lst [.int n']) → H' E = some (.lst ps) → FzA H' ps (es.map eqD) → tRet (tTup (tCons (tCB (rTupSq K) (tCons (tVar 6) tNil)) (tCons (tC V.non) tNil))) { nx := fun x H' => Q V.non H', rt := Q } [some (.ref r), some (.ref t), some (tx cols), some (.ref R), y4, some rv, some (.ref E), y7, some (.ref D), none, none, none] H' := by
              intro H' n' kp' hR' hE' f'
              refine ⟨.ref E, rfl, E, ps, rfl, .inl ⟨.inl (.inl hE'), fun te nte => ⟨(by show 2 ≤ sizeLine; decide), fun v nv => ?_⟩⟩⟩
              have f1 : Fz (upd H' te (.tup ps)) (.ref te) (eqsD es) := Fz.made nte f'
              have hR2 : (upd H' te (.tup ps)) r = some (.lst [.int n']) := by
                rw [upd_ne (ne_of_none hR' nte)]
                exact hR'
              exact q es none (.ref v) n' _ ((kp'.new nte).new nv) (by rw [upd_ne (ne_of_none hR2 nv)]; exact hR2) (Fz.made nv (.cons f1 (.cons .non .nil))) ⟨hup, hok, hesl, fun c lo hi z => nomatch z⟩
            -- left == [] or ..
            refine ⟨.ref D, rfl, (by show 0 ≤ sizeLine; decide), fun p np => ?_⟩
            have hDp : (upd H4 p (.lst [])) D = some (.lst (ll.map sg)) := by
              rw [upd_ne (ne_of_none hD4 np)]
              exact hD4
            have kpp : Kp r H (upd H4 p (.lst [])) := kp4.new np
            have hRp : (upd H4 p (.lst [])) r = some (.lst [.int n3]) := by
              rw [upd_ne (ne_of_none hR4 np)]
              exact hR4
            have hEp : (upd H4 p (.lst [])) E = some (.lst ps) := by
              rw [upd_ne (ne_of_none hE4 np)]
              exact hE4
            have fpsp := fps4.kt (Kt.new np (o := .lst []))
            have ktp : Kt H1 (upd H4 p (.lst [])) := kt14.trans (.new np)
            have hpp : (upd H4 p (.lst [])) p = some (.lst []) := upd_same
            generalize upd H4 p (.lst []) = H5 at hDp kpp hRp hEp fpsp ktp hpp ⊢
            refine ⟨_, _, .lst (.inl (.inl hDp)) (dp_signs ll), .lst (.inl (.inl hpp)) .nil, shaped_signs (fun c h => (hc.az c (hlm c h).1).2), shaped_signs (l := []) (fun c h => nomatch h), _, rfl, ite2 (fun e => ?_) (fun e => ?_)⟩
            · exact retN H5 n3 kpp hRp hEp fpsp
            · have lne : ll ≠ [] := fun z => by
                rw [z] at e
                exact e rfl
              have lpos : 0 < ll.length := List.length_pos_iff.mpr lne
              have llen : ll.length ≤ 26 := by
                rw [← hll]
                have := List.length_filter_le (fun c => !decide (c ∈ es.map (·.1))) cols
                omega
              refine ⟨.ref r, rfl, r, n3, 2, rfl, hRp, by decide, by decide, fun d n6 d0 d1 => ⟨rfl, _, rfl, ite2 (fun e6 => ?_) (fun e6 => ?_)⟩⟩
              · exact retN _ n6 kpp.own upd_same (by rw [upd_ne nEr]; exact hEp) (fpsp.kt (.lst hRp))
              · have nDr : D ≠ r := (ne_of_none hR3 nD).symm
                have hD6 : (upd H5 r (.lst [.int n6])) D = some (.lst (ll.map sg)) := by
                  rw [upd_ne nDr]
                  exact hDp
                have hE6 : (upd H5 r (.lst [.int n6])) E = some (.lst ps) := by
                  rw [upd_ne nEr]
                  exact hEp
                have hR6 : (upd H5 r (.lst [.int n6])) r = some (.lst [.int n6]) := upd_same
                have kp6 : Kp r H (upd H5 r (.lst [.int n6])) := kpp.own
                have kt6 : Kt H1 (upd H5 r (.lst [.int n6])) := ktp.trans (.lst hRp)
                have fps6 := fpsp.kt (Kt.lst hRp (o := .lst [.int n6]))
                generalize upd H5 r (.lst [.int n6]) = H6 at hD6 hE6 hR6 kp6 kt6 fps6 ⊢
                -- letter
                refine ⟨.ref D, rfl, .ref r, rfl, .ref D, rfl, D, _, rfl, .inl (.inl (.inl hD6)), r, n6, _, rfl, hR6, by rw [List.length_map]; omega, by rw [List.length_map]; omega, fun f n7 f0 f1 => ?_⟩
                rw [List.length_map] at f1
                have hf : f.toNat < ll.length := by omega
                have hlc := hlm ll[f.toNat] (List.getElem_mem hf)
                have hD7 : (upd H6 r (.lst [.int n7])) D = some (.lst (ll.map sg)) := by
                  rw [upd_ne nDr]
                  exact hD6
                have hE7 : (upd H6 r (.lst [.int n7])) E = some (.lst ps) := by
                  rw [upd_ne nEr]
                  exact hE6
                have hR7 : (upd H6 r (.lst [.int n7])) r = some (.lst [.int n7]) := upd_same
                have kp7 : Kp r H (upd H6 r (.lst [.int n7])) := kp6.own
                have kt7 : Kt H1 (upd H6 r (.lst [.int n7])) := kt6.trans (.lst hR6)
                have fps7 := fps6.kt (Kt.lst hR6 (o := .lst [.int n7]))
                generalize upd H6 r (.lst [.int n7]) = H7 at hD7 hE7 hR7 kp7 kt7 fps7 ⊢
                generalize hcc : ll[f.toNat] = cc at hlc
                refine ⟨D, ll.map sg, f, sg cc, rfl, rfl, .inl (.inl hD7), L2.at_of (j := f.toNat) (by omega) (by rw [List.getElem?_map, List.getElem?_eq_getElem hf, hcc]; rfl), ?_⟩
                -- at
                obtain ⟨orest, hocc⟩ := ix_one hlc.1
                have hidx : cols.idxOf cc < cols.length := List.idxOf_lt_length_of_mem hlc.1
                refine ⟨tx cols, rfl, rfl, sg cc, rfl, _, _, cols.idxOf cc, orest, rfl, rfl, hocc, ?_⟩
                -- low, high
                refine ⟨.ref r, rfl, .ref R, rfl, .int (cols.idxOf cc : Nat), rfl, rv, rfl, r, n7, .ref R, rows, _, rv, row, cols.length, rfl, hR7, nRH kt7, frv.kt kt7, hrs, hrow, hidx, hrn, fun x1 n8 H8 kp8 hR8 x10 x11 => ?_⟩
                have kt8 : Kt H1 H8 := kt7.trans (kp8.kt hR7)
                refine ⟨.ref r, rfl, .ref R, rfl, .int (cols.idxOf cc : Nat), rfl, rv, rfl, r, n8, .ref R, rows, _, rv, row, cols.length, rfl, hR8, nRH kt8, frv.kt kt8, hrs, hrow, hidx, hrn, fun x2 n9 H9 kp9 hR9 x20 x21 => ?_⟩
                refine ⟨(by show 2 ≤ sizeLine; decide), fun L nL => ?_⟩
                refine ⟨L, [x1, x2], rfl, .inl (.inl upd_same), fun ns p2 hper hpw np2 => ?_⟩
                have hnl : ns.length = 2 := hper.length_eq
                obtain ⟨lo, hi, rfl⟩ : ∃ lo hi, ns = [lo, hi] := by
                  match ns, hnl with
                  | [a, b], _ => exact ⟨a, b, rfl⟩
                have hlohi : lo ≤ hi := (List.pairwise_cons.mp hpw).1 hi (by simp)
                have hbd : ∀ z ∈ [lo, hi], 0 ≤ z ∧ z < 1000 := fun z hz => by
                  have := hper.mem_iff.mp hz
                  rcases List.mem_cons.mp this with h | h
                  · rw [h]
                    exact ⟨x10, x11⟩
                  · rw [List.mem_singleton.mp h]
                    exact ⟨x20, x21⟩
                have blo := hbd lo (by simp)
                have bhi := hbd hi (by simp)
                refine ⟨p2, [.int lo, .int hi], rfl, .inl (.inl upd_same), rfl, .int lo, [.int hi], rfl, .int hi, [], rfl, rfl, ?_⟩
                have kpA : Kp r H (upd (upd H9 L (.lst [.int x1, .int x2])) p2 (.lst (List.map V.int [lo, hi]))) := (((kp7.trans kp8).trans kp9).new nL).new np2
                have hEB : H9 E = some (.lst ps) := kp9 E _ nEr (kp8 E _ nEr hE7)
                have hEC : (upd H9 L (.lst [.int x1, .int x2])) E = some (.lst ps) := by
                  rw [upd_ne (ne_of_none hEB nL)]
                  exact hEB
                have hEA : (upd (upd H9 L (.lst [.int x1, .int x2])) p2 (.lst (List.map V.int [lo, hi]))) E = some (.lst ps) := by
                  rw [upd_ne (ne_of_none hEC np2)]
                  exact hEC
                have hRC : (upd H9 L (.lst [.int x1, .int x2])) r = some (.lst [.int n9]) := by
                  rw [upd_ne (ne_of_none hR9 nL)]
                  exact hR9
                have hRA : (upd (upd H9 L (.lst [.int x1, .int x2])) p2 (.lst (List.map V.int [lo, hi]))) r = some (.lst [.int n9]) := by
                  rw [upd_ne (ne_of_none hRC np2)]
                  exact hRC
                have fpsA : FzA (upd (upd H9 L (.lst [.int x1, .int x2])) p2 (.lst (List.map V.int [lo, hi]))) ps (es.map eqD) := (((fps7.kt (kp8.kt hR7)).kt (kp9.kt hR8)).kt (.new nL)).kt (.new np2)
                generalize upd (upd H9 L (.lst [.int x1, .int x2])) p2 (.lst (List.map V.int [lo, hi])) = HA at kpA hEA hRA fpsA ⊢
                -- the end
                refine ⟨.ref E, rfl, E, ps, rfl, .inl ⟨.inl (.inl hEA), fun te nte => ?_⟩⟩
                have f1 : Fz (upd HA te (.tup ps)) (.ref te) (eqsD es) := Fz.made nte fpsA
                have kpB : Kp r H (upd HA te (.tup ps)) := kpA.new nte
                have hRB : (upd HA te (.tup ps)) r = some (.lst [.int n9]) := by
                  rw [upd_ne (ne_of_none hRA nte)]
                  exact hRA
                generalize upd HA te (.tup ps) = HB at f1 kpB hRB ⊢
                refine ⟨sg cc, rfl, .int lo, rfl, .int hi, rfl, (by show 4 ≤ sizeLine; decide), fun L2 nL2 => ?_⟩
                have nL2r : L2 ≠ r := (ne_of_none hRB nL2).symm
                refine ⟨.ref r, rfl, r, n9, 4, rfl, by rw [upd_ne nL2r.symm]; exact hRB, by decide, by decide, fun g nA g0 g1 => ?_⟩
                obtain ⟨tt, htt, htat⟩ := at_ints (ns := [0, 0, 1, 400]) g0 g1
                have htt2 : 0 ≤ tt := by
                  have : ∀ z ∈ ([0, 0, 1, 400] : List Int), 0 ≤ z := by decide
                  exact this tt htt
                refine ⟨L2, [0, 0, 1, 400].map V.int, g, .int tt, rfl, rfl, .inl (.inl (by rw [upd_ne nL2r, upd_same]; rfl)), htat, hi, tt, rfl, rfl, 999, _, rfl, (by show 3 ≤ sizeLine; decide), fun tr ntr2 => ⟨(by show 2 ≤ sizeLine; decide), fun v nv => ?_⟩⟩
                have hRC2 : (upd (upd HB L2 (.lst [.int 0, .int 0, .int 1, .int 400])) r (.lst [.int nA])) r = some (.lst [.int nA]) := upd_same
                have kpC : Kp r H (upd (upd HB L2 (.lst [.int 0, .int 0, .int 1, .int 400])) r (.lst [.int nA])) := (kpB.new nL2).own
                have ktC : Kt HB (upd (upd HB L2 (.lst [.int 0, .int 0, .int 1, .int 400])) r (.lst [.int nA])) := (Kt.new nL2).trans (.lst (by rw [upd_ne nL2r.symm]; exact hRB))
                have fr := Fz.made ntr2 (.cons (.str (sS cc)) (.cons (.int lo) (.cons (.int (if hi + tt < 999 then hi + tt else 999)) .nil)))
                refine q es (some (cc, lo, if hi + tt < 999 then hi + tt else 999)) (.ref v) nA _ ((kpC.new ntr2).new nv) ?_ (Fz.made nv (.cons ((f1.kt ktC).kt (.new ntr2)) (.cons fr .nil))) ⟨hup, hok, hesl, fun c l2 h2 z => ?_⟩
                · exact keep_new (keep_new hRC2 ntr2) nv
                · have z2 := Option.some.inj z
                  have e1 : cc = c := congrArg (·.1) z2
                  have e2 : lo = l2 := congrArg (·.2.1) z2
                  have e3 : (if hi + tt < 999 then hi + tt else 999) = h2 := congrArg (·.2.2) z2
                  rw [← e1, ← e2, ← e3]
                  refine ⟨hlc.1, hlc.2, blo.1, ?_, ?_⟩
                  · split <;> omega
                  · split <;> omega

/-! ### is_whole, is_number -/
def spWhole : Sp := fun vs H Q _ => ∃ (v : V) (d : PyData), vs = [v] ∧ Ft H v d ∧ Q (.bl (isIn d && !isBl d)) H
theorem ok_whole (T : Tx K mg Z) : FnOk P w K mg base CX0 1 Z.f_is_whole Z.d_is_whole ["thing"] spWhole := by
  refine T.F_is_whole.ok sc_is_whole (fun vs H Q E h => ?_) (fun cdv A outer s H vs Q E hr h => ?_)
  · obtain ⟨v, d, rfl, _⟩ := h
    rfl
  · obtain ⟨v, d, rfl, f, q⟩ := h
    refine ⟨_, (pss_one (ps_ret (pe_and (pe_callB (isiK K) (by rfl) T.m_isinstance (by decide +kernel) (pa_cons (pv 0) (pa_cons (pe_bltn (v := .ty "int") (by rfl) T.m_int (by decide +kernel) rfl) pa_nil))) (pe_one (pe_not (pe_callB (isiK K) (by rfl) T.m_isinstance (by decide +kernel) (pa_cons (pv 0) (pa_cons (pe_bltn (v := .ty "bool") (by rfl) T.m_bool (by decide +kernel) rfl) pa_nil)))))))), ?_⟩
    refine ⟨v, rfl, v, .ty "int", _, _, isIn d, rfl, .ty _, ty_ft f, kit_in d, _, rfl, ite2 (fun e => ?_) (fun e => ?_)⟩
    · refine ⟨v, rfl, v, .ty "bool", _, _, isBl d, rfl, .ty _, ty_ft f, kit_bl d, _, rfl, ?_⟩
      rw [e, Bool.true_and] at q
      exact q
    · rw [eq_false_of_ne_true e, Bool.false_and] at q
      exact q
def spNumber : Sp := fun vs H Q _ => ∃ (v : V) (d : PyData), vs = [v] ∧ Ft H v d ∧ Q (.bl (isNumD d)) H
theorem ok_number (T : Tx K mg Z) : FnOk P w K mg base CX0 2 Z.f_is_number Z.d_is_number ["thing"] spNumber := by
  have G_is_whole : FnOk P w K mg base CX0 1 Z.f_is_whole Z.d_is_whole ["thing"] spWhole := ok_whole T
  refine T.F_is_number.ok sc_is_number (fun vs H Q E h => ?_) (fun cdv A outer s H vs Q E hr h => ?_)
  · obtain ⟨v, d, rfl, _⟩ := h
    rfl
  · obtain ⟨v, d, rfl, f, q⟩ := h
    refine ⟨_, (pss_one (ps_ret (pe_and (pe_call G_is_whole (hr.mono (by omega)) (by rfl) T.g_is_whole T.F_is_whole.kp T.b_is_whole .nil pass0 (pa_cons (pv 0) pa_nil)) (pe_one (pe_chain op_le op_le pe_int (pv 0) (pe_glob (v := .int 999) (by rfl) T.c_GREATEST ⟨_, rfl⟩)))))), ?_⟩
    refine ⟨v, rfl, v, d, rfl, f, _, rfl, ite2 (fun e => ?_) (fun e => ?_)⟩
    · obtain ⟨i, rfl⟩ := int_open e
      cases f
      refine ⟨.int i, rfl, 0, i, rfl, rfl, _, rfl, ite2 (fun e2 => ?_) (fun e2 => ?_)⟩
      · refine ⟨i, 999, rfl, rfl, ?_⟩
        have hq : isNumD (.int i) = (decide (0 ≤ i) && decide (i ≤ 999)) := rfl
        rw [hq, e2, Bool.true_and] at q
        exact q
      · have hq : isNumD (.int i) = (decide (0 ≤ i) && decide (i ≤ 999)) := rfl
        rw [hq, eq_false_of_ne_true e2, Bool.false_and] at q
        exact q
    · have hn : isNumD d = false := by
        cases d with
        | int i => exact absurd rfl e
        | _ => rfl
      rw [hn] at q
      exact q
/-! ### is_letter, is_equal, is_reach -/
def spLetter : Sp := fun vs H Q _ => ∃ (cols : List Nat) (v : V) (d : PyData), vs = [tx cols, v] ∧ Ft H v d ∧ Sh 20 100000 d ∧ Q (.bl (isLetD cols d)) H
theorem ok_letter (T : Tx K mg Z) : FnOk P w K mg base CX0 1 Z.f_is_letter Z.d_is_letter ["columns", "thing"] spLetter := by
  refine T.F_is_letter.ok sc_is_letter (fun vs H Q E h => ?_) (fun cdv A outer s H vs Q E hr h => ?_)
  · obtain ⟨cols, v, d, rfl, _⟩ := h
    rfl
  · obtain ⟨cols, v, d, rfl, f, hsh, q⟩ := h
    refine ⟨_, (pss_one (ps_ret (pe_and (pe_callB (isiK K) (by rfl) T.m_isinstance (by decide +kernel) (pa_cons (pv 1) (pa_cons (pe_bltn (v := .ty "str") (by rfl) T.m_str (by decide +kernel) rfl) pa_nil))) (pe_and (pe_cmpR op_eq (pe_callB call_len_str (by rfl) T.m_len (by decide +kernel) (pa_cons (pv 1) pa_nil)) pe_int (nomark _)) (pe_one (pe_cmpR op_in_sign (pv 1) (pv 0) (by rfl))))))), ?_⟩
    refine ⟨v, rfl, v, .ty "str", _, _, isSt d, rfl, .ty _, ty_ft f, kit_st d, _, rfl, ite2 (fun e => ?_) (fun e => ?_)⟩
    · obtain ⟨z, rfl⟩ := st_open e
      cases f
      refine ⟨.str z, rfl, z, rfl, hsh.len (Nat.le_refl _), rfl, _, rfl, ite2 (fun e2 => ?_) (fun e2 => ?_)⟩
      · have e3 : z.length = 1 := by
          have := of_decide_eq_true e2
          have e4 : ((z.length : Nat) : Int) = 1 := by injection this
          omega
        obtain ⟨c, rfl⟩ := sg_of e3
        have hq : isLetD cols (.str (sS c)) = decide (c ∈ cols) := rfl
        rw [hq] at q
        refine ⟨.str (sS c), rfl, tx cols, rfl, c, ⟨cols.toArray⟩, rfl, rfl, ?_⟩
        rw [show (⟨cols.toArray⟩ : Str).cps.toList = cols by simp]
        exact q
      · have e3 : z.length ≠ 1 := fun z2 => e2 (decide_eq_true (by rw [z2]; rfl))
        have hq : isLetD cols (.str z) = false := by
          unfold isLetD
          rw [sg_none e3]
        rw [hq] at q
        exact q
    · have hq : isLetD cols d = false := by
        cases d with
        | str z => exact absurd rfl e
        | _ => rfl
      rw [hq] at q
      exact q
def spEqual : Sp := fun vs H Q _ => ∃ (cols : List Nat) (v : V) (d : PyData), vs = [tx cols, v] ∧ Ft H v d ∧ Sh 20 100000 d ∧ Q (.bl (isEqD cols d)) H
theorem ok_equal (T : Tx K mg Z) : FnOk P w K mg base CX0 3 Z.f_is_equal Z.d_is_equal ["columns", "thing"] spEqual := by
  have G_is_letter : FnOk P w K mg base CX0 1 Z.f_is_letter Z.d_is_letter ["columns", "thing"] spLetter := ok_letter T
  have G_is_number : FnOk P w K mg base CX0 2 Z.f_is_number Z.d_is_number ["thing"] spNumber := ok_number T
  refine T.F_is_equal.ok sc_is_equal (fun vs H Q E h => ?_) (fun cdv A outer s H vs Q E hr h => ?_)
  · obtain ⟨cols, v, d, rfl, _⟩ := h
    rfl
  · obtain ⟨cols, v, d, rfl, f, hsh, q⟩ := h
    refine ⟨_, (pss_cons (ps_if (PW.pt (pw_or (pt_not (pt_val (pe_callB (isiK K) (by rfl) T.m_isinstance (by decide +kernel) (pa_cons (pv 1) (pa_cons (pe_bltn (v := .ty "tuple") (by rfl) T.m_tuple (by decide +kernel) rfl) pa_nil))))) (pw_or1 (pt_cmpR op_ne (pe_callB (cLenSq K) (by rfl) T.m_len (by decide +kernel) (pa_cons (pv 1) pa_nil)) pe_int (nomark _))))) (pss_one (ps_ret pe_bl)) pss_nil)
      (pss_cons (ps_asg (pv 1) (pgT K (n := 2) (pgs_cons (pg_name (i := 2) sc_is_equal.nd rfl (.inl rfl)) (pgs_cons (pg_name (i := 3) sc_is_equal.nd rfl (.inl rfl)) pgs_nil))))
      (pss_one (ps_ret (pe_and (pe_call G_is_letter (hr.mono (by omega)) (by rfl) T.g_is_letter T.F_is_letter.kp T.b_is_letter .nil pass0 (pa_cons (pv 0) (pa_cons (pv 2) pa_nil))) (pe_one (pe_call G_is_number (hr.mono (by omega)) (by rfl) T.g_is_number T.F_is_number.kp T.b_is_number .nil pass0 (pa_cons (pv 3) pa_nil)))))))), ?_⟩
    refine ⟨v, rfl, v, .ty "tuple", _, _, isTp d, rfl, .ty _, ty_ft f, kit_tp d, _, rfl, ite2 (fun e => ?_) (fun e => ?_)⟩
    · have hq : isEqD cols d = false := by
        cases d with
        | tuple ds => cases e
        | _ => rfl
      rw [hq] at q
      exact iteT q
    · obtain ⟨ds, rfl⟩ := tp_open (by simpa using e)
      obtain ⟨a, xs, rfl, ha, fa⟩ : ∃ (a : Addr) (xs : List V), v = .ref a ∧ H a = some (.tup xs) ∧ FtA H xs ds := by
        cases f with
        | tup h g => exact ⟨_, _, rfl, h, g⟩
      have hl := fa.len
      refine ⟨.ref a, rfl, a, xs, rfl, .inr (.inl (.inl ha)), rfl, _, rfl, ite2 (fun e2 => ?_) (fun e2 => ?_)⟩
      · have hq : isEqD cols (.tuple ds) = false := by
          match ds, hl with
          | [], _ => rfl
          | [_], _ => rfl
          | [a1, a2], hl =>
            rw [hl] at e2
            exact absurd e2 (by simp)
          | _ :: _ :: _ :: _, _ => rfl
        rw [hq] at q
        exact q
      · have hl2 : ds.length = 2 := by
          have e3 : V.int ((xs.length : Nat) : Int) = V.int 2 := by simpa using e2
          have e4 : ((xs.length : Nat) : Int) = 2 := by injection e3
          omega
        match ds, hl2 with
        | [d1, d2], _ =>
          obtain ⟨x1, x2, rfl, f1, f2⟩ : ∃ x1 x2, xs = [x1, x2] ∧ Ft H x1 d1 ∧ Ft H x2 d2 := by
            cases fa with
            | cons g1 g =>
              cases g with
              | cons g2 g =>
                cases g
                exact ⟨_, _, rfl, g1, g2⟩
          have s1 := hsh.memT d1 (by simp)
          refine ⟨.ref a, rfl, a, [x1, x2], rfl, .inl (.inl ha), rfl, x1, [x2], rfl, x2, [], rfl, rfl, ?_⟩
          refine ⟨tx cols, rfl, x1, rfl, cols, x1, d1, rfl, f1, s1, _, rfl, ite2 (fun e3 => ?_) (fun e3 => ?_)⟩
          · refine ⟨x2, rfl, x2, d2, rfl, f2, ?_⟩
            have hq : isEqD cols (.tuple [d1, d2]) = isNumD d2 := by
              show (isLetD cols d1 && isNumD d2) = _
              rw [e3, Bool.true_and]
            rw [hq] at q
            exact q
          · have hq : isEqD cols (.tuple [d1, d2]) = false := by
              show (isLetD cols d1 && isNumD d2) = _
              rw [eq_false_of_ne_true e3, Bool.false_and]
            rw [hq] at q
            exact q
def spReach : Sp := fun vs H Q _ => ∃ (cols : List Nat) (v : V) (d : PyData), vs = [tx cols, v] ∧ Ft H v d ∧ Sh 20 100000 d ∧ Q (.bl (isReD cols d)) H
theorem ok_reach (T : Tx K mg Z) : FnOk P w K mg base CX0 3 Z.f_is_reach Z.d_is_reach ["columns", "thing"] spReach := by
  have G_is_letter : FnOk P w K mg base CX0 1 Z.f_is_letter Z.d_is_letter ["columns", "thing"] spLetter := ok_letter T
  have G_is_number : FnOk P w K mg base CX0 2 Z.f_is_number Z.d_is_number ["thing"] spNumber := ok_number T
  refine T.F_is_reach.ok sc_is_reach (fun vs H Q E h => ?_) (fun cdv A outer s H vs Q E hr h => ?_)
  · obtain ⟨cols, v, d, rfl, _⟩ := h
    rfl
  · obtain ⟨cols, v, d, rfl, f, hsh, q⟩ := h
    refine ⟨_, (pss_cons (ps_if (PW.pt (pw_or (pt_not (pt_val (pe_callB (isiK K) (by rfl) T.m_isinstance (by decide +kernel) (pa_cons (pv 1) (pa_cons (pe_bltn (v := .ty "tuple") (by rfl) T.m_tuple (by decide +kernel) rfl) pa_nil))))) (pw_or1 (pt_cmpR op_ne (pe_callB (cLenSq K) (by rfl) T.m_len (by decide +kernel) (pa_cons (pv 1) pa_nil)) pe_int (nomark _))))) (pss_one (ps_ret pe_bl)) pss_nil)
      (pss_cons (ps_asg (pv 1) (pgT K (n := 3) (pgs_cons (pg_name (i := 2) sc_is_reach.nd rfl (.inl rfl)) (pgs_cons (pg_name (i := 3) sc_is_reach.nd rfl (.inl rfl)) (pgs_cons (pg_name (i := 4) sc_is_reach.nd rfl (.inl rfl)) pgs_nil)))))
      (pss_one (ps_ret (pe_and (pe_call G_is_letter (hr.mono (by omega)) (by rfl) T.g_is_letter T.F_is_letter.kp T.b_is_letter .nil pass0 (pa_cons (pv 0) (pa_cons (pv 2) pa_nil))) (pe_and (pe_call G_is_number (hr.mono (by omega)) (by rfl) T.g_is_number T.F_is_number.kp T.b_is_number .nil pass0 (pa_cons (pv 3) pa_nil)) (pe_and (pe_call G_is_number (hr.mono (by omega)) (by rfl) T.g_is_number T.F_is_number.kp T.b_is_number .nil pass0 (pa_cons (pv 4) pa_nil)) (pe_one (pe_cmpR op_le (pv 3) (pv 4) (nomark _)))))))))), ?_⟩
    refine ⟨v, rfl, v, .ty "tuple", _, _, isTp d, rfl, .ty _, ty_ft f, kit_tp d, _, rfl, ite2 (fun e => ?_) (fun e => ?_)⟩
    · have hq : isReD cols d = false := by
        cases d with
        | tuple ds => cases e
        | _ => rfl
      rw [hq] at q
      exact iteT q
    · obtain ⟨ds, rfl⟩ := tp_open (by simpa using e)
      obtain ⟨a, xs, rfl, ha, fa⟩ : ∃ (a : Addr) (xs : List V), v = .ref a ∧ H a = some (.tup xs) ∧ FtA H xs ds := by
        cases f with
        | tup h g => exact ⟨_, _, rfl, h, g⟩
      have hl := fa.len
      refine ⟨.ref a, rfl, a, xs, rfl, .inr (.inl (.inl ha)), rfl, _, rfl, ite2 (fun e2 => ?_) (fun e2 => ?_)⟩
      · have hq : isReD cols (.tuple ds) = false := by
          match ds, hl with
          | [], _ => rfl
          | [_], _ => rfl
          | [_, _], _ => rfl
          | [a1, a2, a3], hl =>
            rw [hl] at e2
            exact absurd e2 (by simp)
          | _ :: _ :: _ :: _ :: _, _ => rfl
        rw [hq] at q
        exact q
      · have hl2 : ds.length = 3 := by
          have e3 : V.int ((xs.length : Nat) : Int) = V.int 3 := by simpa using e2
          have e4 : ((xs.length : Nat) : Int) = 3 := by injection e3
          omega
        match ds, hl2 with
        | [d1, d2, d3], _ =>
          obtain ⟨x1, x2, x3, rfl, f1, f2, f3⟩ : ∃ x1 x2 x3, xs = [x1, x2, x3] ∧ Ft H x1 d1 ∧ Ft H x2 d2 ∧ Ft H x3 d3 := by
            cases fa with
            | cons g1 g =>
              cases g with
              | cons g2 g =>
                cases g with
                | cons g3 g =>
                  cases g
                  exact ⟨_, _, _, rfl, g1, g2, g3⟩
          have s1 := hsh.memT d1 (by simp)
          have hre : isReD cols (.tuple [d1, d2, d3]) = (isLetD cols d1 && isNumD d2 && isNumD d3 && leD d2 d3) := rfl
          rw [hre] at q
          refine ⟨.ref a, rfl, a, [x1, x2, x3], rfl, .inl (.inl ha), rfl, x1, [x2, x3], rfl, x2, [x3], rfl, x3, [], rfl, rfl, ?_⟩
          refine ⟨tx cols, rfl, x1, rfl, cols, x1, d1, rfl, f1, s1, _, rfl, ite2 (fun e3 => ?_) (fun e3 => ?_)⟩
          · rw [e3, Bool.true_and] at q
            refine ⟨x2, rfl, x2, d2, rfl, f2, _, rfl, ite2 (fun e4 => ?_) (fun e4 => ?_)⟩
            · rw [e4, Bool.true_and] at q
              refine ⟨x3, rfl, x3, d3, rfl, f3, _, rfl, ite2 (fun e5 => ?_) (fun e5 => ?_)⟩
              · rw [e5, Bool.true_and] at q
                obtain ⟨i2, rfl, _, _⟩ := isNum_open e4
                obtain ⟨i3, rfl, _, _⟩ := isNum_open e5
                cases f2
                cases f3
                exact ⟨.int i2, rfl, .int i3, rfl, i2, i3, rfl, rfl, q⟩
              · rw [eq_false_of_ne_true e5, Bool.false_and] at q
                exact q
            · rw [eq_false_of_ne_true e4, Bool.false_and, Bool.false_and] at q
              exact q
          · rw [eq_false_of_ne_true e3, Bool.false_and, Bool.false_and, Bool.false_and] at q
            exact q
/-! ### letters_of, is_rising -/
def spLettersD (K : PySem.W.Frag) : Sp := fun vs H Q _ => ∃ (cols : List Nat) (v : V) (ps : List PyData), vs = [v] ∧ Ft H v (.tuple ps) ∧ ps.all (isEqD cols) = true ∧ ps.length ≤ 100000 ∧ ∀ (p : Addr) (H' : Hp), Same H H' → H p = none → H' p = some (.lst ((ps.map letD).map sg)) → Q (.ref p) H'
theorem ok_lettersD (T : Tx K mg Z) : FnOk P w K mg base CX0 1 Z.f_letters_of Z.d_letters_of ["equals"] (spLettersD K) := by
  refine T.F_letters_of.ok sc_letters_of (fun vs H Q E h => ?_) (fun cdv A outer s H vs Q E hr h => ?_)
  · obtain ⟨cols, v, ps, rfl, _⟩ := h
    rfl
  · obtain ⟨cols, v, ps, rfl, f, hal, hpl, q⟩ := h
    obtain ⟨a, xs, rfl, ha, fa⟩ : ∃ (a : Addr) (xs : List V), v = .ref a ∧ H a = some (.tup xs) ∧ FtA H xs ps := by
      cases f with
      | tup h g => exact ⟨_, _, rfl, h, g⟩
    have hl := fa.len
    refine ⟨_, (pss_one (ps_ret (pe_lc (own := [("letter", 1), ("number", 2)]) (tt := tYes) (by rfl) sc_letters_of.nd (piT K (pv 0)) (blkOk_by (own := [("letter", 1), ("number", 2)]) (by kernel_rfl)) (fun _ _ _ _ _ => (pgT K (n := 2) (pgs_cons (pg_name (i := 1) sc_letters_of.nd rfl (.inl rfl)) (pgs_cons (pg_name (i := 2) sc_letters_of.nd rfl (.inl rfl)) pgs_nil)))) (fun _ _ _ _ _ => pts_nil) (fun _ _ _ _ _ => (pv 1))))), ?_⟩
    refine ⟨.ref a, rfl, a, rfl, ⟨_, .inl (.inl ha)⟩, fun D nD => lc_it (walk_tup (xs := xs)) (fun i H' => Same H H' ∧ H' D = some (.lst (((ps.take i).map letD).map sg)))
      ⟨Same.new (Same.refl H) nD, upd_same⟩ (fun i H' _ hP => .inl (.inl (hP.1 _ _ ha))) (fun i x H3 H4 hi hP hY => ?_) (fun H3 hP => ?_)⟩
    · obtain ⟨sm, hD⟩ := hP
      obtain ⟨rfl, hx⟩ := hY
      obtain ⟨dd, hdd, fd⟩ := fa.getV hx
      have hi2 : i < ps.length := (List.getElem?_eq_some_iff.mp hdd).1
      have epr : ps[i] = dd := (List.getElem?_eq_some_iff.mp hdd).2
      obtain ⟨c, n, rfl, _, _, _, hlet⟩ := isEq_open (List.all_eq_true.mp hal dd (List.mem_of_getElem? hdd))
      obtain ⟨pa, hpa⟩ : ∃ pa, x = .ref pa ∧ H pa = some (.tup [sg c, .int n]) := by
        cases fd with
        | tup h g =>
          cases g with
          | cons g1 g =>
            cases g with
            | cons g2 g =>
              cases g
              cases g1
              cases g2
              exact ⟨_, rfl, h⟩
      obtain ⟨rfl, hpa⟩ := hpa
      refine ⟨pa, [sg c, .int n], rfl, .inl (.inl (sm _ _ hpa)), rfl, sg c, [.int n], rfl, .int n, [], rfl, rfl, rfl, sg c, rfl, _, hD, ?_, Same.mut sm nD, ?_⟩
      · rw [List.length_map, List.length_map, List.length_take, sizeLine_eq]
        omega
      · rw [upd_same, List.take_succ_eq_append_getElem hi2, epr, List.map_append, List.map_append]
        simp only [List.map_cons, List.map_nil, hlet]
    · obtain ⟨sm, hD⟩ := hP
      rw [hl, List.take_of_length_le (Nat.le_refl _)] at hD
      exact q D H3 sm nD hD
def spRising (K : PySem.W.Frag) (Z : Ad) : Sp := fun vs H Q _ => ∃ (p : Addr) (ls : List Nat), vs = [.ref p] ∧ TG Z.Ps H ∧ H p = some (.lst (ls.map sg)) ∧ ls.length ≤ 100000 ∧ ∀ (H' : Hp), Sx Z.Ps H H' → TG Z.Ps H' → Q (.bl (risB ls)) H'
theorem ok_rising (T : Tx K mg Z) (TB : Tb base mg Z) : FnOk P w K mg base CX0 4 Z.f_is_rising Z.d_is_rising ["things"] (spRising K Z) := by
  refine T.C_is_rising.ok sc_is_rising (fun vs H Q E h => ?_) (fun A outer s H vs Q E hr h => ?_)
  · obtain ⟨p, ls, rfl, _⟩ := h
    rfl
  · obtain ⟨p, ls, rfl, tg, hp, hls, q⟩ := h
    refine ⟨_, (pss_one (ps_ret (pe_allC (own := [("at", 1)]) (k := 0) (hr.mono (by omega)) (by rfl) T.m_all (TB.t_is_rising) rfl (gxS_by (blkOk_by (own := [("at", 1)]) (by kernel_rfl)) (by kernel_rfl)) sc_is_rising.nd (by rfl) (pi_range1 (by rfl) T.m_range (pa_cons (pe_op op_sub (pe_callB (cLenSq K) (by rfl) T.m_len (by decide +kernel) (pa_cons (pv 0) pa_nil)) pe_int) pa_nil)) (fun _ _ _ _ _ _ _ _ => (pg_name (i := 1) sc_is_rising.nd rfl (.inl rfl))) (fun _ _ _ _ _ _ _ _ hr => (pe_cmpR op_lt_str (pe_ix (ixL K) (pv 0) (pv 1) (fun _ _ => rfl)) (pe_ix (ixL K) (pv 0) (pe_op op_add (pv 1) pe_int) (fun _ _ => rfl)) (nomark _)))))), ?_⟩
    have hP : Z.P_is_rising ∈ Z.Ps := by simp
    have el : (ls.map sg).length = ls.length := List.length_map ..
    refine ⟨.ref p, rfl, p, _, rfl, .inl (.inl (.inl hp)), _, 1, rfl, rfl, _, rfl, by rw [el]; omega, by rw [el]; omega, tg _ hP, fun H2 hT => ?_⟩
    have tg2 := Tabbed.tg tg hT
    have sx2 := Tabbed.sx hP hT
    have hp2 : H2 p = some (.lst (ls.map sg)) := sx2.lst tg hp
    have eN : (((ls.map sg).length : Nat) - 1 : Int).toNat = ls.length - 1 := by
      rw [el]
      omega
    refine ⟨(((ls.map sg).length : Nat) - 1 : Int).toNat, fun i => decide (ls.getD i 0 < ls.getD (i + 1) 0), fun i H' => i ≤ (((ls.map sg).length : Nat) - 1 : Int).toNat ∧ H' = H2, ⟨Nat.zero_le _, rfl⟩, gx_step walk_range (fun _ _ _ _ => trivial) (fun i x H3 H4 hi e hY => ?_), fun H3 e hall => ?_, fun j H3 hj hs hal e => ?_⟩
    · obtain ⟨rfl, rfl⟩ := hY
      have h1 : i < ls.length := by omega
      have h2 : i + 1 < ls.length := by omega
      have g1 : ls[i]? = some (ls.getD i 0) := by
        rw [List.getD_eq_getElem?_getD, List.getElem?_eq_getElem h1]
        rfl
      have g2 : ls[i + 1]? = some (ls.getD (i + 1) 0) := by
        rw [List.getD_eq_getElem?_getD, List.getElem?_eq_getElem h2]
        rfl
      refine ⟨rfl, .ref p, rfl, .int (0 + (i : Nat)), rfl, p, ls.map sg, _, sg (ls.getD i 0), rfl, rfl, .inl (.inl (by rw [e]; exact hp2)), ?_, .ref p, rfl, .int (0 + (i : Nat)), rfl, _, 1, rfl, rfl, p, ls.map sg, _, sg (ls.getD (i + 1) 0), rfl, rfl, .inl (.inl (by rw [e]; exact hp2)), ?_, sS (ls.getD i 0), sS (ls.getD (i + 1) 0), rfl, rfl, ?_, hi, e⟩
      · rw [Int.zero_add]
        exact atI_nat (by rw [List.getElem?_map, g1]; rfl)
      · rw [Int.zero_add, show ((i : Nat) : Int) + 1 = ((i + 1 : Nat) : Int) from rfl]
        exact atI_nat (by rw [List.getElem?_map, g2]; rfl)
      · rw [cps_lt]
    · have hq : risB ls = true := (ris_get ls).mpr fun i hi => of_decide_eq_true (hall i (by omega))
      rw [hq] at q
      rw [e.2]
      exact q H2 sx2 tg2
    · have hq : risB ls = false := by
        refine eq_false_of_ne_true fun z => ?_
        have := (ris_get ls).mp z j (by omega)
        exact absurd this (of_decide_eq_false hs)
      rw [hq] at q
      rw [e.2]
      exact q H2 sx2 tg2
/-! ### is_equals, is_question -/
def spEquals (K : PySem.W.Frag) (Z : Ad) : Sp := fun vs H Q _ => ∃ (cols : List Nat) (v : V) (d : PyData), vs = [tx cols, v] ∧ TG Z.Ps H ∧ Fl Z.Ps H v d ∧ Sh 20 100000 d ∧ wd d ≤ 100000 ∧ ∀ (H' : Hp), Sx Z.Ps H H' → TG Z.Ps H' → Q (.bl (isEqsD cols d)) H'
theorem ok_equals (T : Tx K mg Z) (TB : Tb base mg Z) : FnOk P w K mg base CX0 7 Z.f_is_equals Z.d_is_equals ["columns", "thing"] (spEquals K Z) := by
  have G_is_equal : FnOk P w K mg base CX0 3 Z.f_is_equal Z.d_is_equal ["columns", "thing"] spEqual := ok_equal T
  have G_is_rising : FnOk P w K mg base CX0 4 Z.f_is_rising Z.d_is_rising ["things"] (spRising K Z) := ok_rising T TB
  have G_letters_of : FnOk P w K mg base CX0 1 Z.f_letters_of Z.d_letters_of ["equals"] (spLettersD K) := ok_lettersD T
  refine T.C_is_equals.ok sc_is_equals (fun vs H Q E h => ?_) (fun A outer s H vs Q E hr h => ?_)
  · obtain ⟨cols, v, d, rfl, _⟩ := h
    rfl
  · obtain ⟨cols, v, d, rfl, tg, f, hsh, hwd, q⟩ := h
    refine ⟨_, (pss_cons (ps_if (PW.pt (pw_or (pt_not (pt_val (pe_callB (isiK K) (by rfl) T.m_isinstance (by decide +kernel) (pa_cons (pv 1) (pa_cons (pe_bltn (v := .ty "tuple") (by rfl) T.m_tuple (by decide +kernel) rfl) pa_nil))))) (pw_or1 (pt_not (pt_val (pe_allC (own := [("part", 2)]) (k := 3) (hr.mono (by omega)) (by rfl) T.m_all (TB.t_is_equals) rfl (gxS_by (blkOk_by (own := [("part", 2)]) (by kernel_rfl)) (by kernel_rfl)) sc_is_equals.nd (by rfl) (piT K (pv 1)) (fun _ _ _ _ _ _ _ _ => (pg_name (i := 2) sc_is_equals.nd rfl (.inl rfl))) (fun _ _ _ _ _ _ _ _ hr => (pe_call G_is_equal (hr.mono (by omega)) (by rfl) T.g_is_equal T.F_is_equal.kp T.b_is_equal .nil pass0 (pa_cons (pv 0) (pa_cons (pv 2) pa_nil)))))))))) (pss_one (ps_ret pe_bl)) pss_nil)
      (pss_one (ps_ret (pe_call G_is_rising (hr.mono (by omega)) (by rfl) T.g_is_rising T.F_is_rising.kp T.b_is_rising .nil pass0 (pa_cons (pe_call G_letters_of (hr.mono (by omega)) (by rfl) T.g_letters_of T.F_letters_of.kp T.b_letters_of .nil pass0 (pa_cons (pv 1) pa_nil)) pa_nil))))), ?_⟩
    have hP : Z.P_is_equals ∈ Z.Ps := by simp
    refine ⟨v, rfl, v, .ty "tuple", _, _, isTp d, rfl, .ty _, ty_ft f.to, kit_tp d, _, rfl, ite2 (fun e => ?_) (fun e => ?_)⟩
    · have hq : isEqsD cols d = false := by
        cases d with
        | tuple ds => cases e
        | _ => rfl
      rw [hq] at q
      exact iteT (q H (fun _ _ _ h => h) tg)
    · obtain ⟨ds, rfl⟩ := tp_open (by simpa using e)
      obtain ⟨a, xs, rfl, na, ha, fa⟩ := f.openT
      have hl := FtA.len fa
      have hdl : ds.length ≤ 100000 := Nat.le_trans (Nat.le_max_left _ _) hwd
      refine ⟨.ref a, rfl, a, rfl, ⟨_, .inl (.inl ha)⟩, tg _ hP, fun H2 hT => ?_⟩
      have tg2 := Tabbed.tg tg hT
      have sx2 := Tabbed.sx hP hT
      have ha2 : H2 a = some (.tup xs) := sx2 _ _ na ha
      have fa2 : FlA Z.Ps H2 xs ds := fa.sx sx2 fun _ h => h
      refine ⟨xs.length, fun i => isEqD cols (ds.getD i .none), fun i H' => i ≤ xs.length ∧ H' = H2, ⟨Nat.zero_le _, rfl⟩, gx_step (walk_tup (xs := xs)) (fun i H' _ e => ?_) (fun i x H3 H4 hi e hY => ?_), fun H3 e hall => ?_, fun j H3 hj hs hal e => ?_⟩
      · rw [e]
        exact .inl (.inl ha2)
      · obtain ⟨rfl, hx⟩ := hY
        subst e
        obtain ⟨dd, hdd, fd⟩ := FtA.getV fa2.to hx
        have eg : ds.getD i .none = dd := by
          rw [List.getD_eq_getElem?_getD, hdd]
          rfl
        refine ⟨rfl, tx cols, rfl, x, rfl, cols, x, dd, rfl, fd, hsh.memT dd (List.mem_of_getElem? hdd), ?_, hi, rfl⟩
        simp only [eg]
      · obtain ⟨_, rfl⟩ := e
        have hal : ds.all (isEqD cols) = true := by
          rw [List.all_eq_true]
          intro x hx
          obtain ⟨i, hi, rfl⟩ := List.getElem_of_mem hx
          have := hall i (by omega)
          simp only [List.getD_eq_getElem?_getD, List.getElem?_eq_getElem hi] at this
          exact this
        have hq : isEqsD cols (.tuple ds) = risB (ds.map letD) := by
          show (ds.all (isEqD cols) && risB (ds.map letD)) = _
          rw [hal, Bool.true_and]
        rw [hq] at q
        refine ⟨_, rfl, iteF ?_⟩
        refine ⟨.ref a, rfl, cols, .ref a, ds, rfl, (Fl.tup na ha2 fa2).to, hal, hdl, fun p H5 sm5 np hp => ?_⟩
        refine ⟨p, ds.map letD, rfl, tg2.same sm5, hp, by rw [List.length_map]; exact hdl, fun H6 sx6 tg6 => ?_⟩
        exact q H6 (sx2.trans ((Same.sx sm5).trans sx6)) tg6
      · obtain ⟨_, rfl⟩ := e
        have hq : isEqsD cols (.tuple ds) = false := by
          show (ds.all (isEqD cols) && risB (ds.map letD)) = _
          have : ds.all (isEqD cols) = false := by
            refine eq_false_of_ne_true fun z => ?_
            have hj2 : j < ds.length := by omega
            have h1 := List.all_eq_true.mp z ds[j] (List.getElem_mem hj2)
            simp only [List.getD_eq_getElem?_getD, List.getElem?_eq_getElem hj2] at hs
            rw [show isEqD cols ds[j] = false from hs] at h1
            cases h1
          rw [this, Bool.false_and]
        rw [hq] at q
        exact ⟨_, rfl, iteT (q _ sx2 tg2)⟩
def spIsQ (K : PySem.W.Frag) (Z : Ad) : Sp := fun vs H Q _ => ∃ (cols : List Nat) (v : V) (d : PyData), vs = [tx cols, v] ∧ TG Z.Ps H ∧ Fl Z.Ps H v d ∧ Sh 20 100000 d ∧ wd d ≤ 100000 ∧ ∀ (H' : Hp), Sx Z.Ps H H' → TG Z.Ps H' → Q (.bl (isQD cols d)) H'
theorem ok_isq (T : Tx K mg Z) (TB : Tb base mg Z) : FnOk P w K mg base CX0 8 Z.f_is_question Z.d_is_question ["columns", "thing"] (spIsQ K Z) := by
  have G_is_equals : FnOk P w K mg base CX0 7 Z.f_is_equals Z.d_is_equals ["columns", "thing"] (spEquals K Z) := ok_equals T TB
  have G_is_reach : FnOk P w K mg base CX0 3 Z.f_is_reach Z.d_is_reach ["columns", "thing"] spReach := ok_reach T
  have G_letters_of : FnOk P w K mg base CX0 1 Z.f_letters_of Z.d_letters_of ["equals"] (spLettersD K) := ok_lettersD T
  refine T.F_is_question.ok sc_is_question (fun vs H Q E h => ?_) (fun cdv A outer s H vs Q E hr h => ?_)
  · obtain ⟨cols, v, d, rfl, _⟩ := h
    rfl
  · obtain ⟨cols, v, d, rfl, tg, f, hsh, hwd, q⟩ := h
    refine ⟨_, (pss_cons (ps_if (PW.pt (pw_or (pt_not (pt_val (pe_callB (isiK K) (by rfl) T.m_isinstance (by decide +kernel) (pa_cons (pv 1) (pa_cons (pe_bltn (v := .ty "tuple") (by rfl) T.m_tuple (by decide +kernel) rfl) pa_nil))))) (pw_or1 (pt_cmpR op_ne (pe_callB (cLenSq K) (by rfl) T.m_len (by decide +kernel) (pa_cons (pv 1) pa_nil)) pe_int (nomark _))))) (pss_one (ps_ret pe_bl)) pss_nil)
      (pss_cons (ps_asg (pv 1) (pgT K (n := 2) (pgs_cons (pg_name (i := 2) sc_is_question.nd rfl (.inl rfl)) (pgs_cons (pg_name (i := 3) sc_is_question.nd rfl (.inl rfl)) pgs_nil))))
      (pss_cons (ps_if (pt_not (pt_val (pe_call G_is_equals (hr.mono (by omega)) (by rfl) T.g_is_equals T.F_is_equals.kp T.b_is_equals .nil pass0 (pa_cons (pv 0) (pa_cons (pv 2) pa_nil))))) (pss_one (ps_ret pe_bl)) pss_nil)
      (pss_cons (ps_if (pt_cmpR op_isN (pv 3) pe_non (nomark _)) (pss_one (ps_ret pe_bl)) pss_nil)
      (pss_one (ps_ret (pe_and (pe_call G_is_reach (hr.mono (by omega)) (by rfl) T.g_is_reach T.F_is_reach.kp T.b_is_reach .nil pass0 (pa_cons (pv 0) (pa_cons (pv 3) pa_nil))) (pe_one (pe_cmpR (notInSq K) (pe_ix (ixT K) (pv 3) pe_int (fun _ _ => rfl)) (pe_call G_letters_of (hr.mono (by omega)) (by rfl) T.g_letters_of T.F_letters_of.kp T.b_letters_of .nil pass0 (pa_cons (pv 2) pa_nil)) (by rfl)))))))))), ?_⟩
    refine ⟨v, rfl, v, .ty "tuple", _, _, isTp d, rfl, .ty _, ty_ft f.to, kit_tp d, _, rfl, ite2 (fun e => ?_) (fun e => ?_)⟩
    · have hq : isQD cols d = false := by
        cases d with
        | tuple ds => cases e
        | _ => rfl
      rw [hq] at q
      exact iteT (q H (fun _ _ _ h => h) tg)
    · obtain ⟨ds, rfl⟩ := tp_open (by simpa using e)
      obtain ⟨a, xs, rfl, na, ha, fa⟩ := f.openT
      have hl := FtA.len fa
      refine ⟨.ref a, rfl, a, xs, rfl, .inr (.inl (.inl ha)), rfl, _, rfl, ite2 (fun e2 => ?_) (fun e2 => ?_)⟩
      · have hq : isQD cols (.tuple ds) = false := by
          match ds, hl with
          | [], _ => rfl
          | [_], _ => rfl
          | [a1, a2], hl =>
            rw [hl] at e2
            exact absurd e2 (by simp)
          | _ :: _ :: _ :: _, _ => rfl
        rw [hq] at q
        exact q H (fun _ _ _ h => h) tg
      · have hl2 : ds.length = 2 := by
          have e3 : V.int ((xs.length : Nat) : Int) = V.int 2 := by simpa using e2
          have e4 : ((xs.length : Nat) : Int) = 2 := by injection e3
          omega
        match ds, hl2 with
        | [d1, d2], _ =>
          obtain ⟨x1, x2, rfl, f1, f2⟩ := fa.two
          have s1 := hsh.memT d1 (by simp)
          have s2 := hsh.memT d2 (by simp)
          have hw1 : wd d1 ≤ 100000 := by
            have h3 : max 2 (max (wd d1) (max (wd d2) 0)) ≤ 100000 := hwd
            omega
          refine ⟨.ref a, rfl, a, [x1, x2], rfl, .inl (.inl ha), rfl, x1, [x2], rfl, x2, [], rfl, rfl, ?_⟩
          refine ⟨tx cols, rfl, x1, rfl, cols, x1, d1, rfl, tg, f1, s1, hw1, fun H2 sx2 tg2 => ?_⟩
          have f1b := f1.sx sx2 fun _ h => h
          have f2b := f2.sx sx2 fun _ h => h
          refine ⟨_, rfl, ite2 (fun e3 => ?_) (fun e3 => ?_)⟩
          · have hq : isQD cols (.tuple [d1, d2]) = false := by
              have : isEqsD cols d1 = false := by simpa using e3
              show (isEqsD cols d1 && _) = false
              rw [this, Bool.false_and]
            rw [hq] at q
            exact q H2 sx2 tg2
          · have he : isEqsD cols d1 = true := by simpa using e3
            refine ⟨x2, rfl, rfl, _, rfl, ite2 (fun e4 => ?_) (fun e4 => ?_)⟩
            · have hx2 : x2 = .non := of_decide_eq_true e4
              subst hx2
              cases f2
              have hq : isQD cols (.tuple [d1, .none]) = true := by
                show (isEqsD cols d1 && true) = true
                rw [he]
                rfl
              rw [hq] at q
              exact q H2 sx2 tg2
            · have hd2 : d2 ≠ .none := fun z => by
                subst z
                cases f2
                exact e4 (by simp)
              have hq : isQD cols (.tuple [d1, d2]) = (isReD cols d2 && !decide (letD d2 ∈ letsD d1)) := by
                show (isEqsD cols d1 && _) = _
                rw [he, Bool.true_and]
                cases d2 with
                | none => exact absurd rfl hd2
                | _ => rfl
              rw [hq] at q
              refine ⟨tx cols, rfl, x2, rfl, cols, x2, d2, rfl, f2b.to, s2, _, rfl, ite2 (fun e5 => ?_) (fun e5 => ?_)⟩
              · rw [e5, Bool.true_and] at q
                obtain ⟨b1, b2, b3, rfl⟩ : ∃ b1 b2 b3, d2 = .tuple [b1, b2, b3] := by
                  unfold isReD at e5
                  split at e5
                  · exact ⟨_, _, _, rfl⟩
                  · cases e5
                have e6 : isLetD cols b1 = true := by
                  have h6 : (isLetD cols b1 && isNumD b2 && isNumD b3 && leD b2 b3) = true := e5
                  simp only [Bool.and_eq_true] at h6
                  exact h6.1.1.1
                obtain ⟨c, rfl, hc, hsg⟩ := isLet_open e6
                obtain ⟨ps, rfl⟩ : ∃ ps, d1 = .tuple ps := by
                  cases d1 with
                  | tuple ps => exact ⟨ps, rfl⟩
                  | _ => cases he
                have hall : ps.all (isEqD cols) = true := by
                  have h7 : (ps.all (isEqD cols) && risB (ps.map letD)) = true := he
                  rw [Bool.and_eq_true] at h7
                  exact h7.1
                have hpl : ps.length ≤ 100000 := Nat.le_trans (Nat.le_max_left _ _) hw1
                obtain ⟨ra, ys, rfl, nra, hra, fra⟩ := f2b.openT
                obtain ⟨y1, y2, y3, rfl, g1, g2, g3⟩ := fra.three
                cases g1
                refine ⟨.ref ra, rfl, ra, [sg c, y2, y3], 0, sg c, rfl, rfl, .inl (.inl hra), rfl, x1, rfl, cols, x1, ps, rfl, f1b.to, hall, hpl, fun p H5 sm5 np hp => ?_⟩
                refine ⟨p, _, rfl, .inl (.inl (.inl hp)), rfl, ?_, ?_⟩
                · rw [List.all_eq_true]
                  intro x hx
                  obtain ⟨o, _, rfl⟩ := List.mem_map.mp hx
                  rfl
                · have hin : (if true = true then !inV (sg c) ((ps.map letD).map sg) else inV (sg c) ((ps.map letD).map sg)) = !decide (c ∈ ps.map letD) := by
                    rw [if_pos rfl, inV_signs]
                  show Q (.bl (if true = true then !inV (sg c) ((ps.map letD).map sg) else inV (sg c) ((ps.map letD).map sg))) H5
                  rw [hin]
                  exact q H5 (sx2.trans (Same.sx sm5)) (tg2.same sm5)
              · rw [eq_false_of_ne_true e5, Bool.false_and] at q
                exact q H2 sx2 tg2

/-! ### _law_is_number, _law_is_letter -/
theorem ok_lnumber (T : Tx K mg Z) : FnOk P w K mg base CX0 1 Z.f_l_is_number Z.d_l_is_number ["thing"] spNumber := by
  refine T.F_l_is_number.ok sc_l_is_number (fun vs H Q E h => ?_) (fun cdv A outer s H vs Q E hr h => ?_)
  · obtain ⟨v, d, rfl, _⟩ := h
    rfl
  · obtain ⟨v, d, rfl, f, q⟩ := h
    refine ⟨_, (pss_one (ps_ret (pe_and (pe_callB (isiK K) (by rfl) T.m_isinstance (by decide +kernel) (pa_cons (pv 0) (pa_cons (pe_bltn (v := .ty "int") (by rfl) T.m_int (by decide +kernel) rfl) pa_nil))) (pe_and (pe_not (pe_callB (isiK K) (by rfl) T.m_isinstance (by decide +kernel) (pa_cons (pv 0) (pa_cons (pe_bltn (v := .ty "bool") (by rfl) T.m_bool (by decide +kernel) rfl) pa_nil)))) (pe_and (pe_cmpR op_le pe_int (pv 0) (nomark _)) (pe_one (pe_cmpR op_lt (pv 0) pe_int (nomark _)))))))), ?_⟩
    have hno : (isIn d && !isBl d) = false → isNumD d = false := fun z => by
      cases d with
      | int i => cases z
      | _ => rfl
    refine ⟨v, rfl, v, .ty "int", _, _, isIn d, rfl, .ty _, ty_ft f, kit_in d, _, rfl, ite2 (fun e => ?_) (fun e => ?_)⟩
    · refine ⟨v, rfl, v, .ty "bool", _, _, isBl d, rfl, .ty _, ty_ft f, kit_bl d, _, rfl, _, rfl, ite2 (fun e2 => ?_) (fun e2 => ?_)⟩
      · obtain ⟨i, rfl⟩ := int_open (d := d) (by rw [e, e2]; rfl)
        cases f
        have hq : isNumD (.int i) = (decide (0 ≤ i) && decide (i ≤ 999)) := rfl
        rw [hq] at q
        refine ⟨.int i, rfl, 0, i, rfl, rfl, _, rfl, ite2 (fun e3 => ?_) (fun e3 => ?_)⟩
        · rw [e3, Bool.true_and] at q
          refine ⟨.int i, rfl, i, 1000, rfl, rfl, ?_⟩
          have e4 : decide (i < 1000) = decide (i ≤ 999) := decide_eq_decide.mpr (by omega)
          show Q (.bl (decide (i < 1000))) H
          rw [e4]
          exact q
        · rw [eq_false_of_ne_true e3, Bool.false_and] at q
          exact q
      · rw [hno (by rw [e, eq_false_of_ne_true e2]; rfl)] at q
        exact q
    · rw [hno (by rw [eq_false_of_ne_true e]; rfl)] at q
      exact q
def spLletter : Sp := fun vs H Q _ => ∃ (cols : List Nat) (v : V) (d : PyData), vs = [tx cols, v] ∧ Ft H v d ∧ cols.length ≤ 100 ∧ ∀ H', Same H H' → Q (.bl (isLetD cols d)) H'
theorem ok_lletter (T : Tx K mg Z) : FnOk P w K mg base CX0 1 Z.f_l_is_letter Z.d_l_is_letter ["columns", "thing"] spLletter := by
  refine T.F_l_is_letter.ok sc_l_is_letter (fun vs H Q E h => ?_) (fun cdv A outer s H vs Q E hr h => ?_)
  · obtain ⟨cols, v, d, rfl, _⟩ := h
    rfl
  · obtain ⟨cols, v, d, rfl, f, hc, q⟩ := h
    refine ⟨_, (pss_one (ps_ret (pe_and (pe_callB (isiK K) (by rfl) T.m_isinstance (by decide +kernel) (pa_cons (pv 1) (pa_cons (pe_bltn (v := .ty "str") (by rfl) T.m_str (by decide +kernel) rfl) pa_nil))) (pe_one (pe_cmpR (inSq K) (pv 1) (pe_callTy call_list_txt (by rfl) T.m_list (by decide +kernel) (pa_cons (pv 0) pa_nil)) (by rfl)))))), ?_⟩
    refine ⟨v, rfl, v, .ty "str", _, _, isSt d, rfl, .ty _, ty_ft f, kit_st d, _, rfl, ite2 (fun e => ?_) (fun e => ?_)⟩
    · obtain ⟨z, rfl⟩ := st_open e
      cases f
      refine ⟨.str z, rfl, tx cols, rfl, _, rfl, (by show cols.length ≤ sizeLine; exact Nat.le_of_lt (small1000 (by omega))), fun L nL => ?_⟩
      have ea : (⟨cols.toArray⟩ : Str).cps.toList = cols := by simp
      rw [ea]
      refine ⟨L, _, rfl, .inl (.inl (.inl upd_same)), rfl, ?_, ?_⟩
      · rw [List.all_eq_true]
        intro x hx
        obtain ⟨o, _, rfl⟩ := List.mem_map.mp hx
        rfl
      · show Q (.bl (if false = true then !inV (.str z) (cols.map sg) else inV (.str z) (cols.map sg))) _
        rw [if_neg Bool.false_ne_true, inV_txt]
        exact q _ (Same.new (Same.refl H) nL)
    · have hq : isLetD cols d = false := by
        cases d with
        | str z => exact absurd rfl e
        | _ => rfl
      rw [hq] at q
      exact q H (Same.refl H)
/-! ### _law_is_question -/
def lastV (ls : List Nat) : Nat → V
  | 0 => tx []
  | i + 1 => sg (ls.getD i 0)
def spLisQ : Sp := fun vs H Q _ => ∃ (cols : List Nat) (v : V) (d : PyData), vs = [tx cols, v] ∧ Ft H v d ∧ Sh 20 100000 d ∧ wd d ≤ 100000 ∧ cols.length ≤ 100 ∧ ∀ (H' : Hp), Same H H' → Q (.bl (isQD cols d)) H'
set_option maxHeartbeats 4000000 in
theorem ok_lisq (T : Tx K mg Z) : FnOk P w K mg base CX0 2 Z.f_l_is_question Z.d_l_is_question ["columns", "thing"] spLisQ := by
  have G_l_is_letter : FnOk P w K mg base CX0 1 Z.f_l_is_letter Z.d_l_is_letter ["columns", "thing"] spLletter := ok_lletter T
  have G_l_is_number : FnOk P w K mg base CX0 1 Z.f_l_is_number Z.d_l_is_number ["thing"] spNumber := ok_lnumber T
  refine T.F_l_is_question.ok sc_l_is_question (fun vs H Q E h => ?_) (fun cdv A outer s H vs Q E hr h => ?_)
  · obtain ⟨cols, v, d, rfl, _⟩ := h
    rfl
  · obtain ⟨cols, v, d, rfl, f, hsh, hwd, hcl, q⟩ := h
    refine ⟨_, (pss_mid (ps_if (PW.pt (pw_or (pt_not (pt_val (pe_callB (isiK K) (by rfl) T.m_isinstance (by decide +kernel) (pa_cons (pv 1) (pa_cons (pe_bltn (v := .ty "tuple") (by rfl) T.m_tuple (by decide +kernel) rfl) pa_nil))))) (pw_or (pt_cmpR op_ne (pe_callB (cLenSq K) (by rfl) T.m_len (by decide +kernel) (pa_cons (pv 1) pa_nil)) pe_int (nomark _)) (pw_or1 (pt_not (pt_val (pe_callB (isiK K) (by rfl) T.m_isinstance (by decide +kernel) (pa_cons (pe_ix (ixT K) (pv 1) pe_int (fun _ _ => rfl)) (pa_cons (pe_bltn (v := .ty "tuple") (by rfl) T.m_tuple (by decide +kernel) rfl) pa_nil))))))))) (pss_one (ps_ret pe_bl)) pss_nil)
      (pss_cons (ps_set (i := 2) sc_l_is_question.nd rfl (.inl rfl) pe_str)
      (pss_cons (ps_for PassesOwn.never rfl (piT K (pe_ix (ixT K) (pv 1) pe_int (fun _ _ => rfl))) (pg_name (i := 3) sc_l_is_question.nd rfl (.inl rfl)) (pss_mid (ps_if (PW.pt (pw_or (pt_not (pt_val (pe_callB (isiK K) (by rfl) T.m_isinstance (by decide +kernel) (pa_cons (pv 3) (pa_cons (pe_bltn (v := .ty "tuple") (by rfl) T.m_tuple (by decide +kernel) rfl) pa_nil))))) (pw_or (pt_cmpR op_ne (pe_callB (cLenSq K) (by rfl) T.m_len (by decide +kernel) (pa_cons (pv 3) pa_nil)) pe_int (nomark _)) (pw_or1 (pt_not (pt_val (pe_call G_l_is_letter (hr.mono (by omega)) (by rfl) T.g_l_is_letter T.F_l_is_letter.kp T.b_l_is_letter .nil pass0 (pa_cons (pv 0) (pa_cons (pe_ix (ixT K) (pv 3) pe_int (fun _ _ => rfl)) pa_nil))))))))) (pss_one (ps_ret pe_bl)) pss_nil)
      (pss_mid (ps_if (PW.pt (pw_or (pt_not (pt_val (pe_call G_l_is_number (hr.mono (by omega)) (by rfl) T.g_l_is_number T.F_l_is_number.kp T.b_l_is_number .nil pass0 (pa_cons (pe_ix (ixT K) (pv 3) pe_int (fun _ _ => rfl)) pa_nil)))) (pw_or1 (pt_cmpR op_le_str (pe_ix (ixT K) (pv 3) pe_int (fun _ _ => rfl)) (pv 2) (nomark _))))) (pss_one (ps_ret pe_bl)) pss_nil)
      (pss_one (ps_set (i := 2) sc_l_is_question.nd rfl (.inl rfl) (pe_ix (ixT K) (pv 3) pe_int (fun _ _ => rfl)))))))
      (pss_cons (ps_set (i := 4) sc_l_is_question.nd rfl (.inl rfl) (pe_ix (ixT K) (pv 1) pe_int (fun _ _ => rfl)))
      (pss_cons (ps_if (pt_cmpR op_isN (pv 4) pe_non (nomark _)) (pss_one (ps_ret pe_bl)) pss_nil)
      (pss_mid (ps_if (PW.pt (pw_or (pt_not (pt_val (pe_callB (isiK K) (by rfl) T.m_isinstance (by decide +kernel) (pa_cons (pv 4) (pa_cons (pe_bltn (v := .ty "tuple") (by rfl) T.m_tuple (by decide +kernel) rfl) pa_nil))))) (pw_or (pt_cmpR op_ne (pe_callB (cLenSq K) (by rfl) T.m_len (by decide +kernel) (pa_cons (pv 4) pa_nil)) pe_int (nomark _)) (pw_or1 (pt_not (pt_val (pe_call G_l_is_letter (hr.mono (by omega)) (by rfl) T.g_l_is_letter T.F_l_is_letter.kp T.b_l_is_letter .nil pass0 (pa_cons (pv 0) (pa_cons (pe_ix (ixT K) (pv 4) pe_int (fun _ _ => rfl)) pa_nil))))))))) (pss_one (ps_ret pe_bl)) pss_nil)
      (pss_mid (ps_if (PW.pt (pw_or (pt_cmpR (inSq K) (pe_ix (ixT K) (pv 4) pe_int (fun _ _ => rfl)) (pe_lc (own := [("pair", 3)]) (tt := tYes) (by rfl) sc_l_is_question.nd (piT K (pe_ix (ixT K) (pv 1) pe_int (fun _ _ => rfl))) (blkOk_by (own := [("pair", 3)]) (by kernel_rfl)) (fun _ _ _ _ _ => (pg_name (i := 3) sc_l_is_question.nd rfl (.inl rfl))) (fun _ _ _ _ _ => pts_nil) (fun _ _ _ _ _ => (pe_ix (ixT K) (pv 3) pe_int (fun _ _ => rfl)))) (by rfl)) (pw_or (pt_not (pt_val (pe_call G_l_is_number (hr.mono (by omega)) (by rfl) T.g_l_is_number T.F_l_is_number.kp T.b_l_is_number .nil pass0 (pa_cons (pe_ix (ixT K) (pv 4) pe_int (fun _ _ => rfl)) pa_nil)))) (pw_or1 (pt_not (pt_val (pe_call G_l_is_number (hr.mono (by omega)) (by rfl) T.g_l_is_number T.F_l_is_number.kp T.b_l_is_number .nil pass0 (pa_cons (pe_ix (ixT K) (pv 4) pe_int (fun _ _ => rfl)) pa_nil)))))))) (pss_one (ps_ret pe_bl)) pss_nil)
      (pss_one (ps_ret (pe_cmpR op_le (pe_ix (ixT K) (pv 4) pe_int (fun _ _ => rfl)) (pe_ix (ixT K) (pv 4) pe_int (fun _ _ => rfl)) (nomark _))))))))))), ?_⟩
    -- the thing's own form
    refine ⟨fun σ H' => ∃ (a ea : Addr) (x2 : V) (d2 : PyData) (ps : List PyData) (es : List V), v = .ref a ∧ σ = [some (tx cols), some (.ref a), none, none, none] ∧ H' = H ∧ d = .tuple [.tuple ps, d2] ∧ H a = some (.tup [.ref ea, x2]) ∧ H ea = some (.tup es) ∧ FtA H es ps ∧ Ft H x2 d2, ?_, fun σ1 H1 hM => ?_⟩
    · refine ⟨v, rfl, v, .ty "tuple", _, _, isTp d, rfl, .ty _, ty_ft f, kit_tp d, _, rfl, ite2 (fun e => ?_) (fun e => ?_)⟩
      · have hq : isQD cols d = false := by
          cases d with
          | tuple ds => cases e
          | _ => rfl
        rw [hq] at q
        exact iteT (q H (Same.refl H))
      · obtain ⟨ds, rfl⟩ := tp_open (by simpa using e)
        obtain ⟨a, xs, rfl, ha, fa⟩ : ∃ (a : Addr) (xs : List V), v = .ref a ∧ H a = some (.tup xs) ∧ FtA H xs ds := by
          cases f with
          | tup h g => exact ⟨_, _, rfl, h, g⟩
        have hl := fa.len
        refine ⟨.ref a, rfl, a, xs, rfl, .inr (.inl (.inl ha)), rfl, _, rfl, ite2 (fun e2 => ?_) (fun e2 => ?_)⟩
        · have hq : isQD cols (.tuple ds) = false := by
            match ds, hl with
            | [], _ => rfl
            | [_], _ => rfl
            | [a1, a2], hl =>
              rw [hl] at e2
              exact absurd e2 (by simp)
            | _ :: _ :: _ :: _, _ => rfl
          rw [hq] at q
          exact iteT (q H (Same.refl H))
        · have hl2 : ds.length = 2 := by
            have e3 : V.int ((xs.length : Nat) : Int) = V.int 2 := by simpa using e2
            have e4 : ((xs.length : Nat) : Int) = 2 := by injection e3
            omega
          match ds, hl2 with
          | [d1, d2], _ =>
            obtain ⟨x1, x2, rfl, f1, f2⟩ : ∃ x1 x2, xs = [x1, x2] ∧ Ft H x1 d1 ∧ Ft H x2 d2 := by
              cases fa with
              | cons g1 g =>
                cases g with
                | cons g2 g =>
                  cases g
                  exact ⟨_, _, rfl, g1, g2⟩
            refine ⟨.ref a, rfl, a, [x1, x2], 0, x1, rfl, rfl, .inl (.inl ha), rfl, x1, .ty "tuple", _, _, isTp d1, rfl, .ty _, ty_ft f1, kit_tp d1, _, rfl, ite2 (fun e3 => ?_) (fun e3 => ?_)⟩
            · have hq : isQD cols (.tuple [d1, d2]) = false := by
                cases d1 with
                | tuple ds => cases e3
                | _ => rfl
              rw [hq] at q
              exact q H (Same.refl H)
            · obtain ⟨ps, rfl⟩ := tp_open (by simpa using e3)
              cases f1 with
              | tup h g => exact ⟨a, _, x2, d2, ps, _, rfl, rfl, rfl, rfl, ha, h, g, f2⟩
    obtain ⟨a, ea, x2, d2, ps, es, rfl, rfl, rfl, rfl, ha, hea, fes, f2⟩ := hM
    have hl := fes.len
    have s1 := hsh.memT _ (List.mem_cons_self ..)
    have s2 := hsh.memT d2 (by simp)
    generalize hls : ps.map letD = ls
    have hlsl : ls.length = ps.length := by rw [← hls, List.length_map]
    -- the pairs
    refine ⟨.ref a, rfl, a, [.ref ea, x2], 0, .ref ea, rfl, rfl, .inl (.inl ha), rfl, ea, rfl, ⟨_, .inl (.inl hea)⟩, for_it (walk_tup (xs := es)) (fun i σ H' => (∃ y3 : Option V, σ = [some (tx cols), some (.ref a), some (lastV ls i), y3, none]) ∧ Same H1 H' ∧ (∀ j, j < i → isEqD cols (ps.getD j .none) = true) ∧ ∀ j, j + 1 < i → ls.getD j 0 < ls.getD (j + 1) 0)
      ⟨⟨_, rfl⟩, Same.refl H1, (fun j hj => absurd hj (Nat.not_lt_zero _)), (fun j hj => absurd hj (Nat.not_lt_zero _))⟩ (fun i σ H' _ hP => .inl (.inl (hP.2.1 _ _ hea))) (fun i x σ H3 H4 hi hP hY => ?_) (fun σ H3 hP => ?_)⟩
    · obtain ⟨⟨y3, rfl⟩, sm, hok, hup⟩ := hP
      obtain ⟨rfl, hx⟩ := hY
      obtain ⟨dd, hdd, fd0⟩ := fes.getV hx
      have fd := Ft.mono sm _ _ fd0
      have hi2 : i < ps.length := by omega
      have eg : ps.getD i .none = dd := by
        rw [List.getD_eq_getElem?_getD, hdd]
        rfl
      have hmem : dd ∈ ps := List.mem_of_getElem? hdd
      have sd := s1.memT dd hmem
      have bad : isEqD cols dd = false → isQD cols (.tuple [.tuple ps, d2]) = false := fun z => by
        have h1 : ps.all (isEqD cols) = false := by
          refine eq_false_of_ne_true fun z2 => ?_
          rw [List.all_eq_true.mp z2 dd hmem] at z
          cases z
        show (ps.all (isEqD cols) && risB (ps.map letD) && _) = false
        rw [h1, Bool.false_and, Bool.false_and]
      have bad2 : ∀ j, j + 1 < ps.length → ¬ ls.getD j 0 < ls.getD (j + 1) 0 → isQD cols (.tuple [.tuple ps, d2]) = false := fun j hj z => by
        have h1 : risB (ps.map letD) = false := by
          refine eq_false_of_ne_true fun z2 => ?_
          rw [hls] at z2
          exact z ((ris_get ls).mp z2 j (by omega))
        show (ps.all (isEqD cols) && risB (ps.map letD) && _) = false
        rw [h1, Bool.and_false, Bool.false_and]
      refine ⟨fun σ H' => ∃ (pa : Addr) (y2 : V) (c : Nat) (n2 : PyData), x = .ref pa ∧ σ = [some (tx cols), some (.ref a), some (lastV ls i), some (.ref pa), none] ∧ Same H4 H' ∧ dd = .tuple [.str (sS c), n2] ∧ c ∈ cols ∧ H4 pa = some (.tup [sg c, y2]) ∧ Ft H4 y2 n2, ?_, fun σ5 H5 hM => ?_⟩
      · refine ⟨x, rfl, x, .ty "tuple", _, _, isTp dd, rfl, .ty _, ty_ft fd, kit_tp dd, _, rfl, ite2 (fun e => ?_) (fun e => ?_)⟩
        · have hq : isEqD cols dd = false := by
            cases dd with
            | tuple ds => cases e
            | _ => rfl
          rw [bad hq] at q
          exact iteT (q _ sm)
        · obtain ⟨ds, rfl⟩ := tp_open (by simpa using e)
          obtain ⟨pa, xs, rfl, hpa, fa⟩ : ∃ (pa : Addr) (xs : List V), x = .ref pa ∧ H4 pa = some (.tup xs) ∧ FtA H4 xs ds := by
            cases fd with
            | tup h g => exact ⟨_, _, rfl, h, g⟩
          have hl3 := fa.len
          refine ⟨.ref pa, rfl, pa, xs, rfl, .inr (.inl (.inl hpa)), rfl, _, rfl, ite2 (fun e2 => ?_) (fun e2 => ?_)⟩
          · have hq : isEqD cols (.tuple ds) = false := by
              match ds, hl3 with
              | [], _ => rfl
              | [_], _ => rfl
              | [a1, a2], hl3 =>
                rw [hl3] at e2
                exact absurd e2 (by simp)
              | _ :: _ :: _ :: _, _ => rfl
            rw [bad hq] at q
            exact iteT (q _ sm)
          · have hl2 : ds.length = 2 := by
              have e3 : V.int ((xs.length : Nat) : Int) = V.int 2 := by simpa using e2
              have e4 : ((xs.length : Nat) : Int) = 2 := by injection e3
              omega
            match ds, hl2 with
            | [d3, d4], _ =>
              obtain ⟨x3, x4, rfl, f3, f4⟩ : ∃ x1 x2, xs = [x1, x2] ∧ Ft H4 x1 d3 ∧ Ft H4 x2 d4 := by
                cases fa with
                | cons g1 g =>
                  cases g with
                  | cons g2 g =>
                    cases g
                    exact ⟨_, _, rfl, g1, g2⟩
              refine ⟨tx cols, rfl, .ref pa, rfl, pa, [x3, x4], 0, x3, rfl, rfl, .inl (.inl hpa), rfl, cols, x3, d3, rfl, f3, hcl, fun H6 sm6 => ?_⟩
              refine ⟨_, rfl, ite2 (fun e3 => ?_) (fun e3 => ?_)⟩
              · have hq : isEqD cols (.tuple [d3, d4]) = false := by
                  show (isLetD cols d3 && isNumD d4) = false
                  rw [show isLetD cols d3 = false by simpa using e3, Bool.false_and]
                rw [bad hq] at q
                exact q _ (Same.trans sm sm6)
              · obtain ⟨c, rfl, hc, _⟩ := isLet_open (show isLetD cols d3 = true by simpa using e3)
                cases f3
                exact ⟨pa, x4, c, d4, rfl, rfl, sm6, rfl, hc, hpa, f4⟩
      obtain ⟨pa, y2, c, n2, rfl, rfl, sm5, rfl, hcc, hpa, fn2⟩ := hM
      have hpa5 := sm5 _ _ hpa
      have hlet : ls.getD i 0 = c := by
        rw [← hls, lets_get i hi2, eg]
        rfl
      have hisl : isEqD cols (.tuple [.str (sS c), n2]) = isNumD n2 := by
        show (isLetD cols (.str (sS c)) && isNumD n2) = _
        rw [show isLetD cols (.str (sS c)) = true from decide_eq_true hcc, Bool.true_and]
      refine ⟨fun σ H' => σ = [some (tx cols), some (.ref a), some (lastV ls i), some (.ref pa), none] ∧ H' = H5 ∧ isNumD n2 = true ∧ ∀ j, j + 1 = i → ls.getD j 0 < c, ?_, fun σ6 H6 hM => ?_⟩
      · refine ⟨.ref pa, rfl, pa, [sg c, y2], 1, y2, rfl, rfl, .inl (.inl hpa5), rfl, y2, n2, rfl, Ft.mono sm5 _ _ fn2, _, rfl, ite2 (fun e => ?_) (fun e => ?_)⟩
        · rw [bad (by rw [hisl]; simpa using e)] at q
          exact iteT (q _ (Same.trans sm sm5))
        · have hn : isNumD n2 = true := by simpa using e
          cases i with
          | zero =>
            refine ⟨.ref pa, rfl, pa, [sg c, y2], 0, sg c, rfl, rfl, .inl (.inl hpa5), rfl, tx [], rfl, sS c, ⟨([] : List Nat).toArray⟩, rfl, rfl, _, rfl, ite2 (fun e2 => ?_) (fun e2 => ?_)⟩
            · exfalso
              rw [cps_nil] at e2
              cases e2
            · exact ⟨rfl, rfl, hn, fun j hj => by omega⟩
          | succ i =>
            refine ⟨.ref pa, rfl, pa, [sg c, y2], 0, sg c, rfl, rfl, .inl (.inl hpa5), rfl, sg (ls.getD i 0), rfl, sS c, sS (ls.getD i 0), rfl, rfl, _, rfl, ite2 (fun e2 => ?_) (fun e2 => ?_)⟩
            · rw [cps_lt] at e2
              have h3 : ¬ ls.getD i 0 < c := by simpa using e2
              rw [bad2 i hi2 (by rw [hlet]; exact h3)] at q
              exact q _ (Same.trans sm sm5)
            · rw [cps_lt] at e2
              have h3 : ls.getD i 0 < c := by simpa using e2
              exact ⟨rfl, rfl, hn, fun j hj => by
                have : j = i := by omega
                rw [this]
                exact h3⟩
      obtain ⟨rfl, rfl, hn, hlt⟩ := hM
      refine ⟨.ref pa, rfl, pa, [sg c, y2], 0, sg c, rfl, rfl, .inl (.inl hpa5), rfl, ⟨some (.ref pa), ?_⟩, Same.trans sm sm5, fun j hj => ?_, fun j hj => ?_⟩
      · show _ = [some (tx cols), some (.ref a), some (sg (ls.getD i 0)), some (.ref pa), none]
        rw [hlet]
        rfl
      · by_cases z : j = i
        · rw [z, eg, hisl]
          exact hn
        · exact hok j (by omega)
      · by_cases z : j + 1 = i
        · rw [z, hlet]
          exact hlt j z
        · exact hup j (by omega)
    · obtain ⟨⟨y3, rfl⟩, sm, hok, hup⟩ := hP
      have hall : ps.all (isEqD cols) = true := by
        rw [List.all_eq_true]
        intro x hx
        obtain ⟨i, hi, rfl⟩ := List.getElem_of_mem hx
        have := hok i (by omega)
        rw [List.getD_eq_getElem?_getD, List.getElem?_eq_getElem hi] at this
        exact this
      have hris : risB (ps.map letD) = true := by
        rw [hls]
        exact (ris_get ls).mpr fun j hj => hup j (by omega)
      have f2b := Ft.mono sm _ _ f2
      refine ⟨.ref a, rfl, a, [.ref ea, x2], 1, x2, rfl, rfl, .inl (.inl (sm _ _ ha)), rfl, ?_⟩
      refine ⟨x2, rfl, rfl, _, rfl, ite2 (fun e => ?_) (fun e => ?_)⟩
      · have hx2 : x2 = .non := of_decide_eq_true e
        subst hx2
        cases f2
        rw [isQ_none hall hris] at q
        exact q _ sm
      · have hd2 : d2 ≠ .none := fun z => by
          subst z
          cases f2
          exact e (by simp)
        have hqr : isQD cols (.tuple [.tuple ps, d2]) = (isReD cols d2 && !decide (letD d2 ∈ ls)) := by
          rw [isQ_some hall hris hd2, hls]
        rw [hqr] at q
        have badr : isReD cols d2 = false → ∀ H', Same H1 H' → Q (.bl false) H' := fun z H' s' => by
          rw [z, Bool.false_and] at q
          exact q H' s'
        refine ⟨fun σ H' => ∃ (ra : Addr) (c : Nat) (y2 y3 : V) (n2 n3 : PyData) (yp : Option V), x2 = .ref ra ∧ σ = [some (tx cols), some (.ref a), some (lastV ls es.length), yp, some (.ref ra)] ∧ Same H3 H' ∧ d2 = .tuple [.str (sS c), n2, n3] ∧ c ∈ cols ∧ H3 ra = some (.tup [sg c, y2, y3]) ∧ Ft H3 y2 n2 ∧ Ft H3 y3 n3, ?_, fun σ5 H5 hM => ?_⟩
        · refine ⟨x2, rfl, x2, .ty "tuple", _, _, isTp d2, rfl, .ty _, ty_ft f2b, kit_tp d2, _, rfl, ite2 (fun e2 => ?_) (fun e2 => ?_)⟩
          · refine iteT (badr ?_ _ sm)
            cases d2 with
            | tuple ds => cases e2
            | _ => rfl
          · obtain ⟨ds, rfl⟩ := tp_open (by simpa using e2)
            obtain ⟨ra, xs, rfl, hra, fa⟩ : ∃ (ra : Addr) (xs : List V), x2 = .ref ra ∧ H3 ra = some (.tup xs) ∧ FtA H3 xs ds := by
              cases f2b with
              | tup h g => exact ⟨_, _, rfl, h, g⟩
            have hl3 := fa.len
            refine ⟨.ref ra, rfl, ra, xs, rfl, .inr (.inl (.inl hra)), rfl, _, rfl, ite2 (fun e3 => ?_) (fun e3 => ?_)⟩
            · refine iteT (badr ?_ _ sm)
              match ds, hl3 with
              | [], _ => rfl
              | [_], _ => rfl
              | [_, _], _ => rfl
              | [a1, a2, a3], hl3 =>
                rw [hl3] at e3
                exact absurd e3 (by simp)
              | _ :: _ :: _ :: _ :: _, _ => rfl
            · have hl2 : ds.length = 3 := by
                have e3 : V.int ((xs.length : Nat) : Int) = V.int 3 := by simpa using e3
                have e4 : ((xs.length : Nat) : Int) = 3 := by injection e3
                omega
              match ds, hl2 with
              | [b1, b2, b3], _ =>
                obtain ⟨z1, z2, z3, rfl, g1, g2, g3⟩ : ∃ x1 x2 x3, xs = [x1, x2, x3] ∧ Ft H3 x1 b1 ∧ Ft H3 x2 b2 ∧ Ft H3 x3 b3 := by
                  cases fa with
                  | cons g1 g =>
                    cases g with
                    | cons g2 g =>
                      cases g with
                      | cons g3 g =>
                        cases g
                        exact ⟨_, _, _, rfl, g1, g2, g3⟩
                refine ⟨tx cols, rfl, .ref ra, rfl, ra, [z1, z2, z3], 0, z1, rfl, rfl, .inl (.inl hra), rfl, cols, z1, b1, rfl, g1, hcl, fun H6 sm6 => ?_⟩
                refine ⟨_, rfl, ite2 (fun e4 => ?_) (fun e4 => ?_)⟩
                · refine badr ?_ _ (Same.trans sm sm6)
                  show (isLetD cols b1 && isNumD b2 && isNumD b3 && leD b2 b3) = false
                  rw [show isLetD cols b1 = false by simpa using e4]
                  rfl
                · obtain ⟨c, rfl, hc, _⟩ := isLet_open (show isLetD cols b1 = true by simpa using e4)
                  cases g1
                  exact ⟨ra, c, z2, z3, b2, b3, _, rfl, rfl, sm6, rfl, hc, hra, g2, g3⟩
        obtain ⟨ra, c, y2, y4, n2, n3, yp, rfl, rfl, sm5, rfl, hcc, hra, g2, g3⟩ := hM
        have hra5 := sm5 _ _ hra
        have hea5 := sm5 _ _ (sm _ _ hea)
        have ha5 := sm5 _ _ (sm _ _ ha)
        have sm15 := Same.trans sm sm5
        have hre : isReD cols (.tuple [.str (sS c), n2, n3]) = (isNumD n2 && isNumD n3 && leD n2 n3) := by
          show (isLetD cols (.str (sS c)) && isNumD n2 && isNumD n3 && leD n2 n3) = _
          rw [show isLetD cols (.str (sS c)) = true from decide_eq_true hcc, Bool.true_and]
        have hld : letD (.tuple [.str (sS c), n2, n3]) = c := rfl
        rw [hre, hld] at q
        refine ⟨fun σ H' => ∃ (yp : Option V) (i2 i3 : Int), σ = [some (tx cols), some (.ref a), some (lastV ls es.length), yp, some (.ref ra)] ∧ Same H5 H' ∧ n2 = .int i2 ∧ n3 = .int i3 ∧ isNumD n2 = true ∧ isNumD n3 = true ∧ c ∉ ls, ?_, fun σ6 H6 hM => ?_⟩
        · refine ⟨.ref ra, rfl, ra, [sg c, y2, y4], 0, sg c, rfl, rfl, .inl (.inl hra5), rfl, .ref a, rfl, a, [.ref ea, .ref ra], 0, .ref ea, rfl, rfl, .inl (.inl ha5), rfl, ea, rfl, ⟨_, .inl (.inl hea5)⟩, fun D nD => lc_it (walk_tup (xs := es)) (fun i H' => Same H5 H' ∧ H' D = some (.lst ((ls.take i).map sg)))
            ⟨Same.new (Same.refl H5) nD, upd_same⟩ (fun i H' _ hP => .inl (.inl (hP.1 _ _ hea5))) (fun i x H7 H8 hi hP hY => ?_) (fun H7 hP => ?_)⟩
          · obtain ⟨sm7, hD⟩ := hP
            obtain ⟨rfl, hx⟩ := hY
            obtain ⟨dd, hdd, fd0⟩ := fes.getV hx
            have hi2 : i < ps.length := (List.getElem?_eq_some_iff.mp hdd).1
            have epr : ps[i] = dd := (List.getElem?_eq_some_iff.mp hdd).2
            obtain ⟨c3, n, rfl, _, _, _, hlet⟩ := isEq_open (List.all_eq_true.mp hall dd (List.mem_of_getElem? hdd))
            obtain ⟨pa, rfl, hpa⟩ : ∃ pa, x = .ref pa ∧ H1 pa = some (.tup [sg c3, .int n]) := by
              cases fd0 with
              | tup h g =>
                cases g with
                | cons g1 g =>
                  cases g with
                  | cons g2 g =>
                    cases g
                    cases g1
                    cases g2
                    exact ⟨_, rfl, h⟩
            have hls2 : i < ls.length := by omega
            have hli : ls[i] = c3 := by
              have h1 := lets_get (ps := ps) i hi2
              rw [hls, List.getD_eq_getElem?_getD, List.getElem?_eq_getElem hls2, List.getD_eq_getElem?_getD, hdd] at h1
              exact h1.trans hlet
            refine ⟨rfl, .ref pa, rfl, pa, [sg c3, .int n], 0, sg c3, rfl, rfl, .inl (.inl (sm7 _ _ (sm15 _ _ hpa))), rfl, _, hD, ?_, Same.mut sm7 nD, ?_⟩
            · rw [List.length_map, List.length_take]
              have hl4 : wd (.tuple ps) ≤ 100000 := by
                have h5 : max 2 (max (wd (.tuple ps)) _) ≤ 100000 := hwd
                omega
              have hl5 : ps.length ≤ 100000 := Nat.le_trans (Nat.le_max_left _ _) hl4
              rw [sizeLine_eq]
              omega
            · rw [upd_same, List.take_succ_eq_append_getElem hls2, hli, List.map_append]
              rfl
          · obtain ⟨sm7, hD⟩ := hP
            rw [show es.length = ls.length by omega, List.take_of_length_le (Nat.le_refl _)] at hD
            refine ⟨D, _, rfl, .inl (.inl (.inl hD)), rfl, ?_, ?_⟩
            · rw [List.all_eq_true]
              intro x hx
              obtain ⟨o, _, rfl⟩ := List.mem_map.mp hx
              rfl
            refine ⟨_, rfl, ?_⟩
            show (if (if false = true then !inV (sg c) (ls.map sg) else inV (sg c) (ls.map sg)) = true then _ else _)
            rw [if_neg Bool.false_ne_true, inV_signs]
            refine ite2 (fun e2 => ?_) (fun e2 => ?_)
            · refine iteT ?_
              have h1 : (isNumD n2 && isNumD n3 && leD n2 n3 && !decide (c ∈ ls)) = false := by
                rw [e2]
                simp
              rw [h1] at q
              exact q _ (Same.trans sm15 sm7)
            · have hnl : c ∉ ls := fun z => e2 (decide_eq_true z)
              have hra7 := sm7 _ _ hra5
              have sm37 : Same H3 H7 := Same.trans sm5 sm7
              refine ⟨.ref ra, rfl, ra, [sg c, y2, y4], 1, y2, rfl, rfl, .inl (.inl hra7), rfl, y2, n2, rfl, Ft.mono sm37 _ _ g2, _, rfl, ite2 (fun e3 => ?_) (fun e3 => ?_)⟩
              · refine iteT ?_
                rw [show isNumD n2 = false by simpa using e3, Bool.false_and, Bool.false_and, Bool.false_and] at q
                exact q _ (Same.trans sm15 sm7)
              · have hn2 : isNumD n2 = true := by simpa using e3
                refine ⟨.ref ra, rfl, ra, [sg c, y2, y4], 2, y4, rfl, rfl, .inl (.inl hra7), rfl, y4, n3, rfl, Ft.mono sm37 _ _ g3, _, rfl, ite2 (fun e4 => ?_) (fun e4 => ?_)⟩
                · rw [show isNumD n3 = false by simpa using e4, Bool.and_false, Bool.false_and, Bool.false_and] at q
                  exact q _ (Same.trans sm15 sm7)
                · have hn3 : isNumD n3 = true := by simpa using e4
                  obtain ⟨i2, rfl, _, _⟩ := isNum_open hn2
                  obtain ⟨i3, rfl, _, _⟩ := isNum_open hn3
                  exact ⟨_, i2, i3, rfl, sm7, rfl, rfl, hn2, hn3, hnl⟩
        obtain ⟨yp, i2, i3, rfl, sm6, rfl, rfl, hn2, hn3, hnl⟩ := hM
        rw [hn2, hn3, Bool.true_and, Bool.true_and, show (!decide (c ∈ ls)) = true by simpa using hnl, Bool.and_true] at q
        cases g2
        cases g3
        have hra6 := sm6 _ _ hra5
        exact ⟨.ref ra, rfl, ra, [sg c, .int i2, .int i3], 1, .int i2, rfl, rfl, .inl (.inl hra6), rfl, .ref ra, rfl, ra, [sg c, .int i2, .int i3], 2, .int i3, rfl, rfl, .inl (.inl hra6), rfl, i2, i3, rfl, rfl, q _ (Same.trans sm15 sm6)⟩

def spBent (K : PySem.W.Frag) : Sp := fun vs H Q _ => ∃ (L : List Addr) (r : Addr) (n : Int) (cols : List Nat) (qa ea : Addr) (es : List V) (rv : V), vs = [.ref r, tx cols, .ref qa] ∧ H r = some (.lst [.int n]) ∧ r ∈ L ∧ (∀ b ∈ L, H b ≠ none) ∧ 1 ≤ cols.length ∧ cols.length ≤ 26 ∧ (∀ c ∈ cols, c < 1000) ∧ qa ∉ L ∧ ea ∉ L ∧ H qa = some (.tup [.ref ea, rv]) ∧ H ea = some (.tup es) ∧ es.length ≤ 26 ∧ (∀ v ∈ es, Th L H 2 1000 v) ∧ Th L H 2 1000 rv ∧
  ∀ (v : V) (n' : Int) (H' : Hp), Kp r H H' → H' r = some (.lst [.int n']) → Th L H' 10 90000 v → Q v H'

/-! ### _law_bent, _law_bent_more -/
set_option maxHeartbeats 16000000 in
theorem ok_bent (T : Tx K mg Z) : FnOk P w K mg base CX0 2 Z.f_l_bent Z.d_l_bent ["reel", "columns", "question"] (spBent K) := by
  have G_l_pick : FnOk P w K mg base CX0 1 Z.f_l_pick Z.d_l_pick ["reel", "many"] (spPick K) := ok_pick T
  refine T.F_l_bent.ok sc_l_bent (fun vs H Q E h => ?_) (fun cdv A outer s H vs Q E hr h => ?_)
  · obtain ⟨L, r, n, cols, qa, ea, es, rv, rfl, _⟩ := h
    rfl
  · obtain ⟨L, r, n, cols, qa, ea, es, rv, rfl, hR, hrL, hl, hc1, hc2, hcc, nLqa, nLea, hoqa, hoea, hel, the, thr, q⟩ := h
    refine ⟨_, (pss_cons (ps_asg (pv 2) (pgT K (n := 2) (pgs_cons (pg_name (i := 3) sc_l_bent.nd rfl (.inl rfl)) (pgs_cons (pg_name (i := 4) sc_l_bent.nd rfl (.inl rfl)) pgs_nil))))
      (pss_cons (ps_set (i := 5) sc_l_bent.nd rfl (.inl rfl) (pe_ix ix_str (pv 1) (pe_call G_l_pick (hr.mono (by omega)) (by rfl) T.g_l_pick T.F_l_pick.kp T.b_l_pick .nil pass0 (pa_cons (pv 0) (pa_cons (pe_callB call_len_str (by rfl) T.m_len (by decide +kernel) (pa_cons (pv 1) pa_nil)) pa_nil))) (fun _ _ => rfl)))
      (pss_cons (ps_set (i := 6) sc_l_bent.nd rfl (.inl rfl) (pe_ix (ixL K) (pe_lst (pa_cons pe_str (pa_cons pe_str (pa_cons (pv 1) (pa_cons pe_non (pa_cons pe_int (pa_cons (pe_op op_add_str (pv 5) (pv 5)) (pa_cons pe_str (pa_cons (pe_lst (pa_cons pe_str pa_nil)) pa_nil))))))))) (pe_call G_l_pick (hr.mono (by omega)) (by rfl) T.g_l_pick T.F_l_pick.kp T.b_l_pick .nil pass0 (pa_cons (pv 0) (pa_cons pe_int pa_nil))) (fun _ _ => rfl)))
      (pss_cons (ps_set (i := 7) sc_l_bent.nd rfl (.inl rfl) (pe_ix (ixL K) (pe_lst (pa_cons (pe_un un_neg pe_int) (pa_cons pe_int (pa_cons pe_bl (pa_cons pe_str (pa_cons pe_non (pa_cons (pe_op op_pow pe_int pe_int) (pa_cons pe_int (pa_cons pe_int pa_nil))))))))) (pe_call G_l_pick (hr.mono (by omega)) (by rfl) T.g_l_pick T.F_l_pick.kp T.b_l_pick .nil pass0 (pa_cons (pv 0) (pa_cons pe_int pa_nil))) (fun _ _ => rfl)))
      (pss_cons (ps_set (i := 8) sc_l_bent.nd rfl (.inl rfl) (pe_lst (pa_cons (pe_tup (pa_cons (pv 6) (pa_cons pe_int pa_nil))) (pa_cons (pe_tup (pa_cons (pv 5) (pa_cons (pv 7) pa_nil))) (pa_cons (pe_tup (pa_cons (pv 5) (pa_cons pe_int (pa_cons pe_int pa_nil)))) (pa_cons (pe_tup (pa_cons (pv 5) pa_nil)) (pa_cons (pe_lst (pa_cons (pv 5) (pa_cons pe_int pa_nil))) (pa_cons (pv 5) (pa_cons pe_non (pa_cons (pe_tup (pa_cons pe_int (pa_cons (pv 5) pa_nil))) pa_nil))))))))))
      (pss_cons (ps_set (i := 9) sc_l_bent.nd rfl (.inl rfl) (pe_lst (pa_cons (pe_tup (pa_cons (pv 5) (pa_cons pe_int (pa_cons (pv 7) pa_nil)))) (pa_cons (pe_tup (pa_cons (pv 5) (pa_cons (pv 7) (pa_cons pe_int pa_nil)))) (pa_cons (pe_tup (pa_cons (pv 6) (pa_cons pe_int (pa_cons pe_int pa_nil)))) (pa_cons (pe_tup (pa_cons (pv 5) (pa_cons pe_int (pa_cons pe_int pa_nil)))) (pa_cons (pe_tup (pa_cons (pv 5) (pa_cons pe_int pa_nil))) (pa_cons (pe_tup (pa_cons (pv 5) (pa_cons pe_int (pa_cons pe_int (pa_cons pe_int pa_nil))))) pa_nil))))))))
      (pss_cons (ps_set (i := 9) sc_l_bent.nd rfl (.inl rfl) (pe_op op_cat (pv 9) (pe_lst (pa_cons (pe_lst (pa_cons (pv 5) (pa_cons pe_int (pa_cons pe_int pa_nil)))) (pa_cons (pe_tup (pa_cons (pv 5) (pa_cons pe_int (pa_cons pe_int pa_nil)))) (pa_cons (pv 5) (pa_cons (pe_tup pa_nil) (pa_cons pe_bl pa_nil))))))))
      (pss_cons (ps_set (i := 10) sc_l_bent.nd rfl (.inl rfl) (pe_call G_l_pick (hr.mono (by omega)) (by rfl) T.g_l_pick T.F_l_pick.kp T.b_l_pick .nil pass0 (pa_cons (pv 0) (pa_cons pe_int pa_nil))))
      (pss_cons (ps_set (i := 11) sc_l_bent.nd rfl (.inl rfl) (pe_call G_l_pick (hr.mono (by omega)) (by rfl) T.g_l_pick T.F_l_pick.kp T.b_l_pick .nil pass0 (pa_cons (pv 0) (pa_cons (pe_op op_add (pe_callB (cLenSq K) (by rfl) T.m_len (by decide +kernel) (pa_cons (pv 3) pa_nil)) pe_int) pa_nil))))
      (pss_cons (ps_if (pt_cmpR op_lt (pv 10) pe_int (nomark _)) (pss_one (ps_ret (pe_tup (pa_cons (pe_op (catWK K) (pe_op (catWK K) (pe_slice (slWK K) (pv 3) po_none (po_some (pv 11))) (pe_tup (pa_cons (pe_ix (ixL K) (pv 8) (pe_call G_l_pick (hr.mono (by omega)) (by rfl) T.g_l_pick T.F_l_pick.kp T.b_l_pick .nil pass0 (pa_cons (pv 0) (pa_cons pe_int pa_nil))) (fun _ _ => rfl)) pa_nil))) (pe_slice (slWK K) (pv 3) (po_some (pe_op op_add (pv 11) (pv 10))) po_none)) (pa_cons (pv 4) pa_nil))))) pss_nil)
      (pss_cons (ps_if (pt_cmpR op_eq (pv 10) pe_int (nomark _)) (pss_one (ps_ret (pe_tup (pa_cons (pv 3) (pa_cons (pe_ix (ixL K) (pv 9) (pe_call G_l_pick (hr.mono (by omega)) (by rfl) T.g_l_pick T.F_l_pick.kp T.b_l_pick .nil pass0 (pa_cons (pv 0) (pa_cons pe_int pa_nil))) (fun _ _ => rfl)) pa_nil))))) pss_nil)
      (pss_cons (ps_if (pt_cmpR op_eq (pv 10) pe_int (nomark _)) (pss_one (ps_ret (pe_tup (pa_cons (pe_revT (pv 3)) (pa_cons (pv 4) pa_nil))))) pss_nil)
      (pss_one (ps_ret (pe_ix (ixL K) (pe_lst (pa_cons (pe_tup (pa_cons (pv 3) pa_nil)) (pa_cons (pe_tup (pa_cons (pv 3) (pa_cons (pv 4) (pa_cons pe_non pa_nil)))) (pa_cons (pe_lst (pa_cons (pv 3) (pa_cons (pv 4) pa_nil))) (pa_cons (pe_tup (pa_cons (pe_callTy (cListSq K) (by rfl) T.m_list (by decide +kernel) (pa_cons (pv 3) pa_nil)) (pa_cons (pv 4) pa_nil))) (pa_cons (pe_tup (pa_cons (pv 4) (pa_cons (pv 3) pa_nil))) pa_nil)))))) (pe_op op_mod (pv 11) pe_int) (fun _ _ => rfl)))))))))))))))), ?_⟩
    refine ⟨.ref qa, rfl, qa, [.ref ea, rv], rfl, .inl (.inl hoqa), rfl, .ref ea, [rv], rfl, rv, [], rfl, rfl, ?_⟩
    have ecl : (⟨cols.toArray⟩ : Str).length = cols.length := by simp [Str.length]
    refine ⟨tx cols, rfl, .ref r, rfl, tx cols, rfl, _, rfl, by rw [ecl]; exact Nat.le_of_lt (small1000 (by omega)), r, n, _, rfl, hR, by rw [ecl]; omega, by rw [ecl]; omega, fun dG1 nG2 dG1_0 dG1_1 => ?_⟩
    have ksG1 : Kp r H (upd H r (.lst [.int nG2])) := Kp.own Kp.rfl'
    have hRG1 : (upd H r (.lst [.int nG2])) r = some (.lst [.int nG2]) := upd_same
    have hlG1 : ∀ b ∈ L, (upd H r (.lst [.int nG2])) b ≠ none := new_all hl
    generalize upd H r (.lst [.int nG2]) = G1 at ksG1 hRG1 hlG1 ⊢
    rw [ecl] at dG1_1
    have hdl : dG1.toNat < cols.length := by omega
    have hat0 : atI (⟨cols.toArray⟩ : Str).cps.toList dG1 = some cols[dG1.toNat] := by
      have e0 : atI (⟨cols.toArray⟩ : Str).cps.toList ((dG1.toNat : Nat) : Int) = some cols[dG1.toNat] := atI_nat (by simp [hdl])
      rw [show ((dG1.toNat : Nat) : Int) = dG1 by omega] at e0
      exact e0
    have hcm : cols[dG1.toNat] ∈ cols := List.getElem_mem hdl
    refine ⟨_, _, _, rfl, rfl, Nat.le_of_lt (small1000 (show cols.length ≤ 1000 by omega)), hat0, ?_⟩
    generalize cols[dG1.toNat] = c at hcm ⊢
    have hc9 : c < 1000 := hcc c hcm
    have hsg : V.str ⟨#[c]⟩ = sg c := rfl
    refine ⟨tx cols, rfl, sg c, rfl, sg c, rfl, sS c, sS c, rfl, rfl, (by show 2 ≤ sizeLine; decide), (by show 1 ≤ sizeLine; decide), fun pG3 npG3 => ?_⟩
    have nLpG3 : pG3 ∉ L := fun z => hlG1 pG3 z npG3
    have ksG2 : Kp r G1 (upd G1 pG3 (.lst [.str (Str.ofString "a")])) := Kp.new Kp.rfl' npG3
    have hRG2 : (upd G1 pG3 (.lst [.str (Str.ofString "a")])) r = some (.lst [.int nG2]) := keep_new hRG1 npG3
    have hlG2 : ∀ b ∈ L, (upd G1 pG3 (.lst [.str (Str.ofString "a")])) b ≠ none := new_all hlG1
    have hopG3 : (upd G1 pG3 (.lst [.str (Str.ofString "a")])) pG3 = some (.lst [.str (Str.ofString "a")]) := upd_same
    generalize upd G1 pG3 (.lst [.str (Str.ofString "a")]) = G2 at ksG2 hRG2 hlG2 hopG3 ⊢
    have tha : Th L G2 1 240 (.ref pG3) := (Th.lst nLpG3 hopG3 (n := 0) (m := 200) (all1 (Th.tx (l := [97]) (by decide) (by decide)))).mono (by decide) (Nat.le_of_ble_eq_true rfl)
    refine ⟨(by show 8 ≤ sizeLine; decide), fun pG4 npG4 => ?_⟩
    have nLpG4 : pG4 ∉ L := fun z => hlG2 pG4 z npG4
    have ksG3 : Kp r G2 (upd G2 pG4 (.lst [.str (Str.ofString "A"), .str (Str.ofString ""), tx cols, .non, .int 7, .str (sS c ++ sS c), .str (Str.ofString "zz"), .ref pG3])) := Kp.new Kp.rfl' npG4
    have hRG3 : (upd G2 pG4 (.lst [.str (Str.ofString "A"), .str (Str.ofString ""), tx cols, .non, .int 7, .str (sS c ++ sS c), .str (Str.ofString "zz"), .ref pG3])) r = some (.lst [.int nG2]) := keep_new hRG2 npG4
    have hlG3 : ∀ b ∈ L, (upd G2 pG4 (.lst [.str (Str.ofString "A"), .str (Str.ofString ""), tx cols, .non, .int 7, .str (sS c ++ sS c), .str (Str.ofString "zz"), .ref pG3])) b ≠ none := new_all hlG2
    have hopG4 : (upd G2 pG4 (.lst [.str (Str.ofString "A"), .str (Str.ofString ""), tx cols, .non, .int 7, .str (sS c ++ sS c), .str (Str.ofString "zz"), .ref pG3])) pG4 = some (.lst [.str (Str.ofString "A"), .str (Str.ofString ""), tx cols, .non, .int 7, .str (sS c ++ sS c), .str (Str.ofString "zz"), .ref pG3]) := upd_same
    generalize upd G2 pG4 (.lst [.str (Str.ofString "A"), .str (Str.ofString ""), tx cols, .non, .int 7, .str (sS c ++ sS c), .str (Str.ofString "zz"), .ref pG3]) = G3 at ksG3 hRG3 hlG3 hopG4 ⊢
    refine ⟨.ref r, rfl, r, nG2, 8, rfl, hRG3, by decide, by decide, fun dG5 nG6 dG5_0 dG5_1 => ?_⟩
    have ksG4 : Kp r G3 (upd G3 r (.lst [.int nG6])) := Kp.own Kp.rfl'
    have hRG4 : (upd G3 r (.lst [.int nG6])) r = some (.lst [.int nG6]) := upd_same
    have hlG4 : ∀ b ∈ L, (upd G3 r (.lst [.int nG6])) b ≠ none := new_all hlG3
    generalize upd G3 r (.lst [.int nG6]) = G4 at ksG4 hRG4 hlG4 ⊢
    obtain ⟨ov, atov, thov⟩ := Th.at (L := L) (H := G4) (n := 1) (m := 240) (vs := [.str (Str.ofString "A"), .str (Str.ofString ""), tx cols, .non, .int 7, .str (sS c ++ sS c), .str (Str.ofString "zz"), .ref pG3]) ((allC (Th.tx (l := [65]) (by decide) (by decide)) (allC (Th.tx (l := []) (by decide) (by decide)) (allC (Th.tx hcc (by omega)) (allC (Th.non) (allC (Th.int (by decide) (by decide)) (allC (Th.tx (l := [c, c]) (fun x h => by simp at h; omega) (Nat.le_of_ble_eq_true rfl)) (allC (Th.tx (l := [122, 122]) (by decide) (by decide)) (allC ((tha.kp ((ksG3).trans ksG4) hrL)) all0))))))))) dG5_0 (show dG5 < ((8 : Nat) : Int) from dG5_1)
    refine ⟨pG4, _, dG5, ov, rfl, rfl, .inl (.inl ((ksG4) _ _ (ne_in nLpG4 hrL) hopG4)), atov, ?_⟩
    refine ⟨1, rfl, 10, 40, rfl, rfl, ⟨by decide, by decide, by decide⟩, (by show 8 ≤ sizeLine; decide), fun pG7 npG7 => ?_⟩
    have nLpG7 : pG7 ∉ L := fun z => hlG4 pG7 z npG7
    have ksG5 : Kp r G4 (upd G4 pG7 (.lst [.int (-1), .int 1000, .bl true, .str (Str.ofString "0"), .non, .int ((10 : Int) ^ (40 : Int).toNat), .int 999, .int 3])) := Kp.new Kp.rfl' npG7
    have hRG5 : (upd G4 pG7 (.lst [.int (-1), .int 1000, .bl true, .str (Str.ofString "0"), .non, .int ((10 : Int) ^ (40 : Int).toNat), .int 999, .int 3])) r = some (.lst [.int nG6]) := keep_new hRG4 npG7
    have hlG5 : ∀ b ∈ L, (upd G4 pG7 (.lst [.int (-1), .int 1000, .bl true, .str (Str.ofString "0"), .non, .int ((10 : Int) ^ (40 : Int).toNat), .int 999, .int 3])) b ≠ none := new_all hlG4
    have hopG7 : (upd G4 pG7 (.lst [.int (-1), .int 1000, .bl true, .str (Str.ofString "0"), .non, .int ((10 : Int) ^ (40 : Int).toNat), .int 999, .int 3])) pG7 = some (.lst [.int (-1), .int 1000, .bl true, .str (Str.ofString "0"), .non, .int ((10 : Int) ^ (40 : Int).toNat), .int 999, .int 3]) := upd_same
    generalize upd G4 pG7 (.lst [.int (-1), .int 1000, .bl true, .str (Str.ofString "0"), .non, .int ((10 : Int) ^ (40 : Int).toNat), .int 999, .int 3]) = G5 at ksG5 hRG5 hlG5 hopG7 ⊢
    refine ⟨.ref r, rfl, r, nG6, 8, rfl, hRG5, by decide, by decide, fun dG8 nG9 dG8_0 dG8_1 => ?_⟩
    have ksG6 : Kp r G5 (upd G5 r (.lst [.int nG9])) := Kp.own Kp.rfl'
    have hRG6 : (upd G5 r (.lst [.int nG9])) r = some (.lst [.int nG9]) := upd_same
    have hlG6 : ∀ b ∈ L, (upd G5 r (.lst [.int nG9])) b ≠ none := new_all hlG5
    generalize upd G5 r (.lst [.int nG9]) = G6 at ksG6 hRG6 hlG6 ⊢
    obtain ⟨nv, atnv, thnv⟩ := Th.at (L := L) (H := G6) (n := 1) (m := 240) (vs := [.int (-1), .int 1000, .bl true, .str (Str.ofString "0"), .non, .int ((10 : Int) ^ (40 : Int).toNat), .int 999, .int 3]) ((allC (Th.int (by decide) (by decide)) (allC (Th.int (by decide) (by decide)) (allC (Th.bl true) (allC (Th.tx (l := [48]) (by decide) (by decide)) (allC (Th.non) (allC (Th.int (by decide) (by decide)) (allC (Th.int (by decide) (by decide)) (allC (Th.int (by decide) (by decide)) all0))))))))) dG8_0 (show dG8 < ((8 : Nat) : Int) from dG8_1)
    refine ⟨pG7, _, dG8, nv, rfl, rfl, .inl (.inl ((ksG6) _ _ (ne_in nLpG7 hrL) hopG7)), atnv, ?_⟩
    refine ⟨ov, rfl, (by show 2 ≤ sizeLine; decide), fun pG10 npG10 => ?_⟩
    have nLpG10 : pG10 ∉ L := fun z => hlG6 pG10 z npG10
    have ksG7 : Kp r G6 (upd G6 pG10 (.tup [ov, .int 3])) := Kp.new Kp.rfl' npG10
    have hRG7 : (upd G6 pG10 (.tup [ov, .int 3])) r = some (.lst [.int nG9]) := keep_new hRG6 npG10
    have hlG7 : ∀ b ∈ L, (upd G6 pG10 (.tup [ov, .int 3])) b ≠ none := new_all hlG6
    have hopG10 : (upd G6 pG10 (.tup [ov, .int 3])) pG10 = some (.tup [ov, .int 3]) := upd_same
    generalize upd G6 pG10 (.tup [ov, .int 3]) = G7 at ksG7 hRG7 hlG7 hopG10 ⊢
    have tpG10 : Th L G7 2 1000 (.ref pG10) := (Th.tup nLpG10 hopG10 (n := 1) (m := 240) (allC ((thov.kp (((ksG5).trans ksG6).trans ksG7) hrL)) (allC (Th.int (by decide) (by decide)) all0))).mono (by decide) (Nat.le_of_ble_eq_true rfl)
    refine ⟨sg c, rfl, nv, rfl, (by show 2 ≤ sizeLine; decide), fun pG11 npG11 => ?_⟩
    have nLpG11 : pG11 ∉ L := fun z => hlG7 pG11 z npG11
    have ksG8 : Kp r G7 (upd G7 pG11 (.tup [sg c, nv])) := Kp.new Kp.rfl' npG11
    have hRG8 : (upd G7 pG11 (.tup [sg c, nv])) r = some (.lst [.int nG9]) := keep_new hRG7 npG11
    have hlG8 : ∀ b ∈ L, (upd G7 pG11 (.tup [sg c, nv])) b ≠ none := new_all hlG7
    have hopG11 : (upd G7 pG11 (.tup [sg c, nv])) pG11 = some (.tup [sg c, nv]) := upd_same
    generalize upd G7 pG11 (.tup [sg c, nv]) = G8 at ksG8 hRG8 hlG8 hopG11 ⊢
    have tpG11 : Th L G8 2 1000 (.ref pG11) := (Th.tup nLpG11 hopG11 (n := 1) (m := 240) (allC (Th.tx (l := [c]) (fun x h => by simp at h; omega) (Nat.le_of_ble_eq_true rfl)) (allC ((thnv.kp ((ksG7).trans ksG8) hrL)) all0))).mono (by decide) (Nat.le_of_ble_eq_true rfl)
    refine ⟨sg c, rfl, (by show 3 ≤ sizeLine; decide), fun pG12 npG12 => ?_⟩
    have nLpG12 : pG12 ∉ L := fun z => hlG8 pG12 z npG12
    have ksG9 : Kp r G8 (upd G8 pG12 (.tup [sg c, .int 3, .int 3])) := Kp.new Kp.rfl' npG12
    have hRG9 : (upd G8 pG12 (.tup [sg c, .int 3, .int 3])) r = some (.lst [.int nG9]) := keep_new hRG8 npG12
    have hlG9 : ∀ b ∈ L, (upd G8 pG12 (.tup [sg c, .int 3, .int 3])) b ≠ none := new_all hlG8
    have hopG12 : (upd G8 pG12 (.tup [sg c, .int 3, .int 3])) pG12 = some (.tup [sg c, .int 3, .int 3]) := upd_same
    generalize upd G8 pG12 (.tup [sg c, .int 3, .int 3]) = G9 at ksG9 hRG9 hlG9 hopG12 ⊢
    have tpG12 : Th L G9 2 1000 (.ref pG12) := (Th.tup nLpG12 hopG12 (n := 1) (m := 240) (allC (Th.tx (l := [c]) (fun x h => by simp at h; omega) (Nat.le_of_ble_eq_true rfl)) (allC (Th.int (by decide) (by decide)) (allC (Th.int (by decide) (by decide)) all0)))).mono (by decide) (Nat.le_of_ble_eq_true rfl)
    refine ⟨sg c, rfl, (by show 1 ≤ sizeLine; decide), fun pG13 npG13 => ?_⟩
    have nLpG13 : pG13 ∉ L := fun z => hlG9 pG13 z npG13
    have ksG10 : Kp r G9 (upd G9 pG13 (.tup [sg c])) := Kp.new Kp.rfl' npG13
    have hRG10 : (upd G9 pG13 (.tup [sg c])) r = some (.lst [.int nG9]) := keep_new hRG9 npG13
    have hlG10 : ∀ b ∈ L, (upd G9 pG13 (.tup [sg c])) b ≠ none := new_all hlG9
    have hopG13 : (upd G9 pG13 (.tup [sg c])) pG13 = some (.tup [sg c]) := upd_same
    generalize upd G9 pG13 (.tup [sg c]) = G10 at ksG10 hRG10 hlG10 hopG13 ⊢
    have tpG13 : Th L G10 2 1000 (.ref pG13) := (Th.tup nLpG13 hopG13 (n := 1) (m := 240) (allC (Th.tx (l := [c]) (fun x h => by simp at h; omega) (Nat.le_of_ble_eq_true rfl)) all0)).mono (by decide) (Nat.le_of_ble_eq_true rfl)
    refine ⟨sg c, rfl, (by show 2 ≤ sizeLine; decide), fun pG14 npG14 => ?_⟩
    have nLpG14 : pG14 ∉ L := fun z => hlG10 pG14 z npG14
    have ksG11 : Kp r G10 (upd G10 pG14 (.lst [sg c, .int 3])) := Kp.new Kp.rfl' npG14
    have hRG11 : (upd G10 pG14 (.lst [sg c, .int 3])) r = some (.lst [.int nG9]) := keep_new hRG10 npG14
    have hlG11 : ∀ b ∈ L, (upd G10 pG14 (.lst [sg c, .int 3])) b ≠ none := new_all hlG10
    have hopG14 : (upd G10 pG14 (.lst [sg c, .int 3])) pG14 = some (.lst [sg c, .int 3]) := upd_same
    generalize upd G10 pG14 (.lst [sg c, .int 3]) = G11 at ksG11 hRG11 hlG11 hopG14 ⊢
    have tpG14 : Th L G11 2 1000 (.ref pG14) := (Th.lst nLpG14 hopG14 (n := 1) (m := 240) (allC (Th.tx (l := [c]) (fun x h => by simp at h; omega) (Nat.le_of_ble_eq_true rfl)) (allC (Th.int (by decide) (by decide)) all0))).mono (by decide) (Nat.le_of_ble_eq_true rfl)
    refine ⟨sg c, rfl, sg c, rfl, (by show 2 ≤ sizeLine; decide), fun pG15 npG15 => ?_⟩
    have nLpG15 : pG15 ∉ L := fun z => hlG11 pG15 z npG15
    have ksG12 : Kp r G11 (upd G11 pG15 (.tup [.int 3, sg c])) := Kp.new Kp.rfl' npG15
    have hRG12 : (upd G11 pG15 (.tup [.int 3, sg c])) r = some (.lst [.int nG9]) := keep_new hRG11 npG15
    have hlG12 : ∀ b ∈ L, (upd G11 pG15 (.tup [.int 3, sg c])) b ≠ none := new_all hlG11
    have hopG15 : (upd G11 pG15 (.tup [.int 3, sg c])) pG15 = some (.tup [.int 3, sg c]) := upd_same
    generalize upd G11 pG15 (.tup [.int 3, sg c]) = G12 at ksG12 hRG12 hlG12 hopG15 ⊢
    have tpG15 : Th L G12 2 1000 (.ref pG15) := (Th.tup nLpG15 hopG15 (n := 1) (m := 240) (allC (Th.int (by decide) (by decide)) (allC (Th.tx (l := [c]) (fun x h => by simp at h; omega) (Nat.le_of_ble_eq_true rfl)) all0))).mono (by decide) (Nat.le_of_ble_eq_true rfl)
    refine ⟨(by show 8 ≤ sizeLine; decide), fun pG16 npG16 => ?_⟩
    have nLpG16 : pG16 ∉ L := fun z => hlG12 pG16 z npG16
    have ksG13 : Kp r G12 (upd G12 pG16 (.lst [.ref pG10, .ref pG11, .ref pG12, .ref pG13, .ref pG14, sg c, .non, .ref pG15])) := Kp.new Kp.rfl' npG16
    have hRG13 : (upd G12 pG16 (.lst [.ref pG10, .ref pG11, .ref pG12, .ref pG13, .ref pG14, sg c, .non, .ref pG15])) r = some (.lst [.int nG9]) := keep_new hRG12 npG16
    have hlG13 : ∀ b ∈ L, (upd G12 pG16 (.lst [.ref pG10, .ref pG11, .ref pG12, .ref pG13, .ref pG14, sg c, .non, .ref pG15])) b ≠ none := new_all hlG12
    have hopG16 : (upd G12 pG16 (.lst [.ref pG10, .ref pG11, .ref pG12, .ref pG13, .ref pG14, sg c, .non, .ref pG15])) pG16 = some (.lst [.ref pG10, .ref pG11, .ref pG12, .ref pG13, .ref pG14, sg c, .non, .ref pG15]) := upd_same
    generalize upd G12 pG16 (.lst [.ref pG10, .ref pG11, .ref pG12, .ref pG13, .ref pG14, sg c, .non, .ref pG15]) = G13 at ksG13 hRG13 hlG13 hopG16 ⊢
    refine ⟨sg c, rfl, nv, rfl, (by show 3 ≤ sizeLine; decide), fun pG17 npG17 => ?_⟩
    have nLpG17 : pG17 ∉ L := fun z => hlG13 pG17 z npG17
    have ksG14 : Kp r G13 (upd G13 pG17 (.tup [sg c, .int 3, nv])) := Kp.new Kp.rfl' npG17
    have hRG14 : (upd G13 pG17 (.tup [sg c, .int 3, nv])) r = some (.lst [.int nG9]) := keep_new hRG13 npG17
    have hlG14 : ∀ b ∈ L, (upd G13 pG17 (.tup [sg c, .int 3, nv])) b ≠ none := new_all hlG13
    have hopG17 : (upd G13 pG17 (.tup [sg c, .int 3, nv])) pG17 = some (.tup [sg c, .int 3, nv]) := upd_same
    generalize upd G13 pG17 (.tup [sg c, .int 3, nv]) = G14 at ksG14 hRG14 hlG14 hopG17 ⊢
    have tpG17 : Th L G14 2 1000 (.ref pG17) := (Th.tup nLpG17 hopG17 (n := 1) (m := 240) (allC (Th.tx (l := [c]) (fun x h => by simp at h; omega) (Nat.le_of_ble_eq_true rfl)) (allC (Th.int (by decide) (by decide)) (allC ((thnv.kp ((((((((ksG7).trans ksG8).trans ksG9).trans ksG10).trans ksG11).trans ksG12).trans ksG13).trans ksG14) hrL)) all0)))).mono (by decide) (Nat.le_of_ble_eq_true rfl)
    refine ⟨sg c, rfl, nv, rfl, (by show 3 ≤ sizeLine; decide), fun pG18 npG18 => ?_⟩
    have nLpG18 : pG18 ∉ L := fun z => hlG14 pG18 z npG18
    have ksG15 : Kp r G14 (upd G14 pG18 (.tup [sg c, nv, .int 3])) := Kp.new Kp.rfl' npG18
    have hRG15 : (upd G14 pG18 (.tup [sg c, nv, .int 3])) r = some (.lst [.int nG9]) := keep_new hRG14 npG18
    have hlG15 : ∀ b ∈ L, (upd G14 pG18 (.tup [sg c, nv, .int 3])) b ≠ none := new_all hlG14
    have hopG18 : (upd G14 pG18 (.tup [sg c, nv, .int 3])) pG18 = some (.tup [sg c, nv, .int 3]) := upd_same
    generalize upd G14 pG18 (.tup [sg c, nv, .int 3]) = G15 at ksG15 hRG15 hlG15 hopG18 ⊢
    have tpG18 : Th L G15 2 1000 (.ref pG18) := (Th.tup nLpG18 hopG18 (n := 1) (m := 240) (allC (Th.tx (l := [c]) (fun x h => by simp at h; omega) (Nat.le_of_ble_eq_true rfl)) (allC ((thnv.kp (((((((((ksG7).trans ksG8).trans ksG9).trans ksG10).trans ksG11).trans ksG12).trans ksG13).trans ksG14).trans ksG15) hrL)) (allC (Th.int (by decide) (by decide)) all0)))).mono (by decide) (Nat.le_of_ble_eq_true rfl)
    refine ⟨ov, rfl, (by show 3 ≤ sizeLine; decide), fun pG19 npG19 => ?_⟩
    have nLpG19 : pG19 ∉ L := fun z => hlG15 pG19 z npG19
    have ksG16 : Kp r G15 (upd G15 pG19 (.tup [ov, .int 0, .int 3])) := Kp.new Kp.rfl' npG19
    have hRG16 : (upd G15 pG19 (.tup [ov, .int 0, .int 3])) r = some (.lst [.int nG9]) := keep_new hRG15 npG19
    have hlG16 : ∀ b ∈ L, (upd G15 pG19 (.tup [ov, .int 0, .int 3])) b ≠ none := new_all hlG15
    have hopG19 : (upd G15 pG19 (.tup [ov, .int 0, .int 3])) pG19 = some (.tup [ov, .int 0, .int 3]) := upd_same
    generalize upd G15 pG19 (.tup [ov, .int 0, .int 3]) = G16 at ksG16 hRG16 hlG16 hopG19 ⊢
    have tpG19 : Th L G16 2 1000 (.ref pG19) := (Th.tup nLpG19 hopG19 (n := 1) (m := 240) (allC ((thov.kp ((((((((((((ksG5).trans ksG6).trans ksG7).trans ksG8).trans ksG9).trans ksG10).trans ksG11).trans ksG12).trans ksG13).trans ksG14).trans ksG15).trans ksG16) hrL)) (allC (Th.int (by decide) (by decide)) (allC (Th.int (by decide) (by decide)) all0)))).mono (by decide) (Nat.le_of_ble_eq_true rfl)
    refine ⟨sg c, rfl, (by show 3 ≤ sizeLine; decide), fun pG20 npG20 => ?_⟩
    have nLpG20 : pG20 ∉ L := fun z => hlG16 pG20 z npG20
    have ksG17 : Kp r G16 (upd G16 pG20 (.tup [sg c, .int 4, .int 3])) := Kp.new Kp.rfl' npG20
    have hRG17 : (upd G16 pG20 (.tup [sg c, .int 4, .int 3])) r = some (.lst [.int nG9]) := keep_new hRG16 npG20
    have hlG17 : ∀ b ∈ L, (upd G16 pG20 (.tup [sg c, .int 4, .int 3])) b ≠ none := new_all hlG16
    have hopG20 : (upd G16 pG20 (.tup [sg c, .int 4, .int 3])) pG20 = some (.tup [sg c, .int 4, .int 3]) := upd_same
    generalize upd G16 pG20 (.tup [sg c, .int 4, .int 3]) = G17 at ksG17 hRG17 hlG17 hopG20 ⊢
    have tpG20 : Th L G17 2 1000 (.ref pG20) := (Th.tup nLpG20 hopG20 (n := 1) (m := 240) (allC (Th.tx (l := [c]) (fun x h => by simp at h; omega) (Nat.le_of_ble_eq_true rfl)) (allC (Th.int (by decide) (by decide)) (allC (Th.int (by decide) (by decide)) all0)))).mono (by decide) (Nat.le_of_ble_eq_true rfl)
    refine ⟨sg c, rfl, (by show 2 ≤ sizeLine; decide), fun pG21 npG21 => ?_⟩
    have nLpG21 : pG21 ∉ L := fun z => hlG17 pG21 z npG21
    have ksG18 : Kp r G17 (upd G17 pG21 (.tup [sg c, .int 3])) := Kp.new Kp.rfl' npG21
    have hRG18 : (upd G17 pG21 (.tup [sg c, .int 3])) r = some (.lst [.int nG9]) := keep_new hRG17 npG21
    have hlG18 : ∀ b ∈ L, (upd G17 pG21 (.tup [sg c, .int 3])) b ≠ none := new_all hlG17
    have hopG21 : (upd G17 pG21 (.tup [sg c, .int 3])) pG21 = some (.tup [sg c, .int 3]) := upd_same
    generalize upd G17 pG21 (.tup [sg c, .int 3]) = G18 at ksG18 hRG18 hlG18 hopG21 ⊢
    have tpG21 : Th L G18 2 1000 (.ref pG21) := (Th.tup nLpG21 hopG21 (n := 1) (m := 240) (allC (Th.tx (l := [c]) (fun x h => by simp at h; omega) (Nat.le_of_ble_eq_true rfl)) (allC (Th.int (by decide) (by decide)) all0))).mono (by decide) (Nat.le_of_ble_eq_true rfl)
    refine ⟨sg c, rfl, (by show 4 ≤ sizeLine; decide), fun pG22 npG22 => ?_⟩
    have nLpG22 : pG22 ∉ L := fun z => hlG18 pG22 z npG22
    have ksG19 : Kp r G18 (upd G18 pG22 (.tup [sg c, .int 0, .int 0, .int 0])) := Kp.new Kp.rfl' npG22
    have hRG19 : (upd G18 pG22 (.tup [sg c, .int 0, .int 0, .int 0])) r = some (.lst [.int nG9]) := keep_new hRG18 npG22
    have hlG19 : ∀ b ∈ L, (upd G18 pG22 (.tup [sg c, .int 0, .int 0, .int 0])) b ≠ none := new_all hlG18
    have hopG22 : (upd G18 pG22 (.tup [sg c, .int 0, .int 0, .int 0])) pG22 = some (.tup [sg c, .int 0, .int 0, .int 0]) := upd_same
    generalize upd G18 pG22 (.tup [sg c, .int 0, .int 0, .int 0]) = G19 at ksG19 hRG19 hlG19 hopG22 ⊢
    have tpG22 : Th L G19 2 1000 (.ref pG22) := (Th.tup nLpG22 hopG22 (n := 1) (m := 240) (allC (Th.tx (l := [c]) (fun x h => by simp at h; omega) (Nat.le_of_ble_eq_true rfl)) (allC (Th.int (by decide) (by decide)) (allC (Th.int (by decide) (by decide)) (allC (Th.int (by decide) (by decide)) all0))))).mono (by decide) (Nat.le_of_ble_eq_true rfl)
    refine ⟨(by show 6 ≤ sizeLine; decide), fun pG23 npG23 => ?_⟩
    have nLpG23 : pG23 ∉ L := fun z => hlG19 pG23 z npG23
    have ksG20 : Kp r G19 (upd G19 pG23 (.lst [.ref pG17, .ref pG18, .ref pG19, .ref pG20, .ref pG21, .ref pG22])) := Kp.new Kp.rfl' npG23
    have hRG20 : (upd G19 pG23 (.lst [.ref pG17, .ref pG18, .ref pG19, .ref pG20, .ref pG21, .ref pG22])) r = some (.lst [.int nG9]) := keep_new hRG19 npG23
    have hlG20 : ∀ b ∈ L, (upd G19 pG23 (.lst [.ref pG17, .ref pG18, .ref pG19, .ref pG20, .ref pG21, .ref pG22])) b ≠ none := new_all hlG19
    have hopG23 : (upd G19 pG23 (.lst [.ref pG17, .ref pG18, .ref pG19, .ref pG20, .ref pG21, .ref pG22])) pG23 = some (.lst [.ref pG17, .ref pG18, .ref pG19, .ref pG20, .ref pG21, .ref pG22]) := upd_same
    generalize upd G19 pG23 (.lst [.ref pG17, .ref pG18, .ref pG19, .ref pG20, .ref pG21, .ref pG22]) = G20 at ksG20 hRG20 hlG20 hopG23 ⊢
    refine ⟨.ref pG23, rfl, sg c, rfl, (by show 3 ≤ sizeLine; decide), fun pG24 npG24 => ?_⟩
    have nLpG24 : pG24 ∉ L := fun z => hlG20 pG24 z npG24
    have ksG21 : Kp r G20 (upd G20 pG24 (.lst [sg c, .int 0, .int 3])) := Kp.new Kp.rfl' npG24
    have hRG21 : (upd G20 pG24 (.lst [sg c, .int 0, .int 3])) r = some (.lst [.int nG9]) := keep_new hRG20 npG24
    have hlG21 : ∀ b ∈ L, (upd G20 pG24 (.lst [sg c, .int 0, .int 3])) b ≠ none := new_all hlG20
    have hopG24 : (upd G20 pG24 (.lst [sg c, .int 0, .int 3])) pG24 = some (.lst [sg c, .int 0, .int 3]) := upd_same
    generalize upd G20 pG24 (.lst [sg c, .int 0, .int 3]) = G21 at ksG21 hRG21 hlG21 hopG24 ⊢
    have tpG24 : Th L G21 2 1000 (.ref pG24) := (Th.lst nLpG24 hopG24 (n := 1) (m := 240) (allC (Th.tx (l := [c]) (fun x h => by simp at h; omega) (Nat.le_of_ble_eq_true rfl)) (allC (Th.int (by decide) (by decide)) (allC (Th.int (by decide) (by decide)) all0)))).mono (by decide) (Nat.le_of_ble_eq_true rfl)
    refine ⟨sg c, rfl, (by show 3 ≤ sizeLine; decide), fun pG25 npG25 => ?_⟩
    have nLpG25 : pG25 ∉ L := fun z => hlG21 pG25 z npG25
    have ksG22 : Kp r G21 (upd G21 pG25 (.tup [sg c, .int 3, .int 3])) := Kp.new Kp.rfl' npG25
    have hRG22 : (upd G21 pG25 (.tup [sg c, .int 3, .int 3])) r = some (.lst [.int nG9]) := keep_new hRG21 npG25
    have hlG22 : ∀ b ∈ L, (upd G21 pG25 (.tup [sg c, .int 3, .int 3])) b ≠ none := new_all hlG21
    have hopG25 : (upd G21 pG25 (.tup [sg c, .int 3, .int 3])) pG25 = some (.tup [sg c, .int 3, .int 3]) := upd_same
    generalize upd G21 pG25 (.tup [sg c, .int 3, .int 3]) = G22 at ksG22 hRG22 hlG22 hopG25 ⊢
    have tpG25 : Th L G22 2 1000 (.ref pG25) := (Th.tup nLpG25 hopG25 (n := 1) (m := 240) (allC (Th.tx (l := [c]) (fun x h => by simp at h; omega) (Nat.le_of_ble_eq_true rfl)) (allC (Th.int (by decide) (by decide)) (allC (Th.int (by decide) (by decide)) all0)))).mono (by decide) (Nat.le_of_ble_eq_true rfl)
    refine ⟨sg c, rfl, (by show 0 ≤ sizeLine; decide), fun pG26 npG26 => ?_⟩
    have nLpG26 : pG26 ∉ L := fun z => hlG22 pG26 z npG26
    have ksG23 : Kp r G22 (upd G22 pG26 (.tup [])) := Kp.new Kp.rfl' npG26
    have hRG23 : (upd G22 pG26 (.tup [])) r = some (.lst [.int nG9]) := keep_new hRG22 npG26
    have hlG23 : ∀ b ∈ L, (upd G22 pG26 (.tup [])) b ≠ none := new_all hlG22
    have hopG26 : (upd G22 pG26 (.tup [])) pG26 = some (.tup []) := upd_same
    generalize upd G22 pG26 (.tup []) = G23 at ksG23 hRG23 hlG23 hopG26 ⊢
    have tpG26 : Th L G23 2 1000 (.ref pG26) := (Th.tup nLpG26 hopG26 (n := 1) (m := 240) all0).mono (by decide) (Nat.le_of_ble_eq_true rfl)
    refine ⟨(by show 5 ≤ sizeLine; decide), fun pG27 npG27 => ?_⟩
    have nLpG27 : pG27 ∉ L := fun z => hlG23 pG27 z npG27
    have ksG24 : Kp r G23 (upd G23 pG27 (.lst [.ref pG24, .ref pG25, sg c, .ref pG26, .bl true])) := Kp.new Kp.rfl' npG27
    have hRG24 : (upd G23 pG27 (.lst [.ref pG24, .ref pG25, sg c, .ref pG26, .bl true])) r = some (.lst [.int nG9]) := keep_new hRG23 npG27
    have hlG24 : ∀ b ∈ L, (upd G23 pG27 (.lst [.ref pG24, .ref pG25, sg c, .ref pG26, .bl true])) b ≠ none := new_all hlG23
    have hopG27 : (upd G23 pG27 (.lst [.ref pG24, .ref pG25, sg c, .ref pG26, .bl true])) pG27 = some (.lst [.ref pG24, .ref pG25, sg c, .ref pG26, .bl true]) := upd_same
    generalize upd G23 pG27 (.lst [.ref pG24, .ref pG25, sg c, .ref pG26, .bl true]) = G24 at ksG24 hRG24 hlG24 hopG27 ⊢
    refine ⟨pG23, pG27, [.ref pG17, .ref pG18, .ref pG19, .ref pG20, .ref pG21, .ref pG22], [.ref pG24, .ref pG25, sg c, .ref pG26, .bl true], rfl, rfl, ((((ksG21).trans ksG22).trans ksG23).trans ksG24) _ _ (ne_in nLpG23 hrL) hopG23, hopG27, (by show 11 ≤ sizeLine; decide), fun pG28 npG28 => ?_⟩
    have nLpG28 : pG28 ∉ L := fun z => hlG24 pG28 z npG28
    have ksG25 : Kp r G24 (upd G24 pG28 (.lst ([.ref pG17, .ref pG18, .ref pG19, .ref pG20, .ref pG21, .ref pG22] ++ [.ref pG24, .ref pG25, sg c, .ref pG26, .bl true]))) := Kp.new Kp.rfl' npG28
    have hRG25 : (upd G24 pG28 (.lst ([.ref pG17, .ref pG18, .ref pG19, .ref pG20, .ref pG21, .ref pG22] ++ [.ref pG24, .ref pG25, sg c, .ref pG26, .bl true]))) r = some (.lst [.int nG9]) := keep_new hRG24 npG28
    have hlG25 : ∀ b ∈ L, (upd G24 pG28 (.lst ([.ref pG17, .ref pG18, .ref pG19, .ref pG20, .ref pG21, .ref pG22] ++ [.ref pG24, .ref pG25, sg c, .ref pG26, .bl true]))) b ≠ none := new_all hlG24
    have hopG28 : (upd G24 pG28 (.lst ([.ref pG17, .ref pG18, .ref pG19, .ref pG20, .ref pG21, .ref pG22] ++ [.ref pG24, .ref pG25, sg c, .ref pG26, .bl true]))) pG28 = some (.lst [.ref pG17, .ref pG18, .ref pG19, .ref pG20, .ref pG21, .ref pG22, .ref pG24, .ref pG25, sg c, .ref pG26, .bl true]) := upd_same
    generalize upd G24 pG28 (.lst ([.ref pG17, .ref pG18, .ref pG19, .ref pG20, .ref pG21, .ref pG22] ++ [.ref pG24, .ref pG25, sg c, .ref pG26, .bl true])) = G25 at ksG25 hRG25 hlG25 hopG28 ⊢
    refine ⟨.ref r, rfl, r, nG9, 5, rfl, hRG25, by decide, by decide, fun dG29 nG30 dG29_0 dG29_1 => ?_⟩
    have ksG26 : Kp r G25 (upd G25 r (.lst [.int nG30])) := Kp.own Kp.rfl'
    have hRG26 : (upd G25 r (.lst [.int nG30])) r = some (.lst [.int nG30]) := upd_same
    have hlG26 : ∀ b ∈ L, (upd G25 r (.lst [.int nG30])) b ≠ none := new_all hlG25
    generalize upd G25 r (.lst [.int nG30]) = G26 at ksG26 hRG26 hlG26 ⊢
    refine ⟨.ref r, rfl, .ref ea, rfl, ea, es, rfl, .inr (.inl (.inl (((((((((((((((((((((((((((ksG1).trans ksG2).trans ksG3).trans ksG4).trans ksG5).trans ksG6).trans ksG7).trans ksG8).trans ksG9).trans ksG10).trans ksG11).trans ksG12).trans ksG13).trans ksG14).trans ksG15).trans ksG16).trans ksG17).trans ksG18).trans ksG19).trans ksG20).trans ksG21).trans ksG22).trans ksG23).trans ksG24).trans ksG25).trans ksG26) _ _ (ne_in nLea hrL) hoea))), _, 1, rfl, rfl, r, nG30, _, rfl, hRG26, by omega, by omega, fun dG31 nG32 dG31_0 dG31_1 => ?_⟩
    have ksG27 : Kp r G26 (upd G26 r (.lst [.int nG32])) := Kp.own Kp.rfl'
    have hRG27 : (upd G26 r (.lst [.int nG32])) r = some (.lst [.int nG32]) := upd_same
    have hlG27 : ∀ b ∈ L, (upd G26 r (.lst [.int nG32])) b ≠ none := new_all hlG26
    generalize upd G26 r (.lst [.int nG32]) = G27 at ksG27 hRG27 hlG27 ⊢
    refine ⟨.int dG29, rfl, _, 2, rfl, rfl, _, rfl, ite2 (fun e1 => ?_) (fun e1 => ?_)⟩
    · have hw2 : dG29 < 2 := of_decide_eq_true e1
      obtain ⟨m, em⟩ : ∃ m : Nat, dG31 = (m : Int) := ⟨dG31.toNat, by omega⟩
      obtain ⟨wN, ew⟩ : ∃ m : Nat, dG29 = (m : Int) := ⟨dG29.toNat, by omega⟩
      subst em
      subst ew
      refine ⟨.ref ea, rfl, .int m, rfl, _, rfl, ea, es, rfl, (((((((((((((((((((((((((((ksG1).trans ksG2).trans ksG3).trans ksG4).trans ksG5).trans ksG6).trans ksG7).trans ksG8).trans ksG9).trans ksG10).trans ksG11).trans ksG12).trans ksG13).trans ksG14).trans ksG15).trans ksG16).trans ksG17).trans ksG18).trans ksG19).trans ksG20).trans ksG21).trans ksG22).trans ksG23).trans ksG24).trans ksG25).trans ksG26).trans ksG27) _ _ (ne_in nLea hrL) hoea, fun s1 HS1 sm1 ns1 hs1 => ?_⟩
      rw [cut_to] at hs1
      have nLs1 : s1 ∉ L := fun z => by
        rcases ns1 with y | y
        · exact hlG27 s1 z y
        · exact nLea (y ▸ z)
      have ksG28 : Kp r G27 HS1 := fun b o _ h => sm1 b o h
      have hRG28 : HS1 r = some (.lst [.int nG32]) := sm1 _ _ hRG27
      have hlG28 : ∀ b ∈ L, HS1 b ≠ none := same_all hlG27 sm1
      obtain ⟨G28, rfl⟩ : ∃ G, G = HS1 := ⟨_, rfl⟩
      have hos1 := hs1
      refine ⟨.ref pG16, rfl, .ref r, rfl, r, nG32, 8, rfl, hRG28, by decide, by decide, fun dG33 nG34 dG33_0 dG33_1 => ?_⟩
      have ksG29 : Kp r G28 (upd G28 r (.lst [.int nG34])) := Kp.own Kp.rfl'
      have hRG29 : (upd G28 r (.lst [.int nG34])) r = some (.lst [.int nG34]) := upd_same
      have hlG29 : ∀ b ∈ L, (upd G28 r (.lst [.int nG34])) b ≠ none := new_all hlG28
      generalize upd G28 r (.lst [.int nG34]) = G29 at ksG29 hRG29 hlG29 ⊢
      obtain ⟨pv, atpv, thpv⟩ := Th.at (L := L) (H := G29) (n := 2) (m := 1000) (vs := [.ref pG10, .ref pG11, .ref pG12, .ref pG13, .ref pG14, sg c, .non, .ref pG15]) ((allC ((tpG10.kp ((((((((((((((((((((((ksG8).trans ksG9).trans ksG10).trans ksG11).trans ksG12).trans ksG13).trans ksG14).trans ksG15).trans ksG16).trans ksG17).trans ksG18).trans ksG19).trans ksG20).trans ksG21).trans ksG22).trans ksG23).trans ksG24).trans ksG25).trans ksG26).trans ksG27).trans ksG28).trans ksG29) hrL)) (allC ((tpG11.kp (((((((((((((((((((((ksG9).trans ksG10).trans ksG11).trans ksG12).trans ksG13).trans ksG14).trans ksG15).trans ksG16).trans ksG17).trans ksG18).trans ksG19).trans ksG20).trans ksG21).trans ksG22).trans ksG23).trans ksG24).trans ksG25).trans ksG26).trans ksG27).trans ksG28).trans ksG29) hrL)) (allC ((tpG12.kp ((((((((((((((((((((ksG10).trans ksG11).trans ksG12).trans ksG13).trans ksG14).trans ksG15).trans ksG16).trans ksG17).trans ksG18).trans ksG19).trans ksG20).trans ksG21).trans ksG22).trans ksG23).trans ksG24).trans ksG25).trans ksG26).trans ksG27).trans ksG28).trans ksG29) hrL)) (allC ((tpG13.kp (((((((((((((((((((ksG11).trans ksG12).trans ksG13).trans ksG14).trans ksG15).trans ksG16).trans ksG17).trans ksG18).trans ksG19).trans ksG20).trans ksG21).trans ksG22).trans ksG23).trans ksG24).trans ksG25).trans ksG26).trans ksG27).trans ksG28).trans ksG29) hrL)) (allC ((tpG14.kp ((((((((((((((((((ksG12).trans ksG13).trans ksG14).trans ksG15).trans ksG16).trans ksG17).trans ksG18).trans ksG19).trans ksG20).trans ksG21).trans ksG22).trans ksG23).trans ksG24).trans ksG25).trans ksG26).trans ksG27).trans ksG28).trans ksG29) hrL)) (allC (Th.tx (l := [c]) (fun x h => by simp at h; omega) (Nat.le_of_ble_eq_true rfl)) (allC (Th.non) (allC ((tpG15.kp (((((((((((((((((ksG13).trans ksG14).trans ksG15).trans ksG16).trans ksG17).trans ksG18).trans ksG19).trans ksG20).trans ksG21).trans ksG22).trans ksG23).trans ksG24).trans ksG25).trans ksG26).trans ksG27).trans ksG28).trans ksG29) hrL)) all0))))))))) dG33_0 (show dG33 < ((8 : Nat) : Int) from dG33_1)
      refine ⟨pG16, _, dG33, pv, rfl, rfl, .inl (.inl (((((((((((((((((ksG14).trans ksG15).trans ksG16).trans ksG17).trans ksG18).trans ksG19).trans ksG20).trans ksG21).trans ksG22).trans ksG23).trans ksG24).trans ksG25).trans ksG26).trans ksG27).trans ksG28).trans ksG29) _ _ (ne_in nLpG16 hrL) hopG16)), atpv, (by show 1 ≤ sizeLine; decide), fun pG35 npG35 => ?_⟩
      have nLpG35 : pG35 ∉ L := fun z => hlG29 pG35 z npG35
      have ksG30 : Kp r G29 (upd G29 pG35 (.tup [pv])) := Kp.new Kp.rfl' npG35
      have hRG30 : (upd G29 pG35 (.tup [pv])) r = some (.lst [.int nG34]) := keep_new hRG29 npG35
      have hlG30 : ∀ b ∈ L, (upd G29 pG35 (.tup [pv])) b ≠ none := new_all hlG29
      have hopG35 : (upd G29 pG35 (.tup [pv])) pG35 = some (.tup [pv]) := upd_same
      generalize upd G29 pG35 (.tup [pv]) = G30 at ksG30 hRG30 hlG30 hopG35 ⊢
      refine ⟨s1, pG35, es.take m, [pv], rfl, rfl, ((ksG29).trans ksG30) _ _ (ne_in nLs1 hrL) hos1, hopG35, ?_, fun s2 HS2 sm2 ns2 hs2 => ?_⟩
      · have := List.length_take_le m es
        exact Nat.le_of_lt (small1000 (show (es.take m).length + 1 ≤ 1000 by omega))
      have nLs2 : s2 ∉ L := fun z => by
        rcases ns2 with y | y | y
        · exact hlG30 s2 z y
        · exact nLs1 (y ▸ z)
        · exact nLpG35 (y ▸ z)
      have ksG31 : Kp r G30 HS2 := fun b o _ h => sm2 b o h
      have hRG31 : HS2 r = some (.lst [.int nG34]) := sm2 _ _ hRG30
      have hlG31 : ∀ b ∈ L, HS2 b ≠ none := same_all hlG30 sm2
      obtain ⟨G31, rfl⟩ : ∃ G, G = HS2 := ⟨_, rfl⟩
      have hos2 := hs2
      refine ⟨.ref ea, rfl, .int m, rfl, .int wN, rfl, _, _, rfl, rfl, _, rfl, ea, es, rfl, (((((((((((((((((((((((((((((((ksG1).trans ksG2).trans ksG3).trans ksG4).trans ksG5).trans ksG6).trans ksG7).trans ksG8).trans ksG9).trans ksG10).trans ksG11).trans ksG12).trans ksG13).trans ksG14).trans ksG15).trans ksG16).trans ksG17).trans ksG18).trans ksG19).trans ksG20).trans ksG21).trans ksG22).trans ksG23).trans ksG24).trans ksG25).trans ksG26).trans ksG27).trans ksG28).trans ksG29).trans ksG30).trans ksG31) _ _ (ne_in nLea hrL) hoea, fun s3 HS3 sm3 ns3 hs3 => ?_⟩
      have nLs3 : s3 ∉ L := fun z => by
        rcases ns3 with y | y
        · exact hlG31 s3 z y
        · exact nLea (y ▸ z)
      have ksG32 : Kp r G31 HS3 := fun b o _ h => sm3 b o h
      have hRG32 : HS3 r = some (.lst [.int nG34]) := sm3 _ _ hRG31
      have hlG32 : ∀ b ∈ L, HS3 b ≠ none := same_all hlG31 sm3
      obtain ⟨G32, rfl⟩ : ∃ G, G = HS3 := ⟨_, rfl⟩
      have hos3 := hs3
      have hcv : ∀ v ∈ cutV es (some ((m : Int) + (wN : Int))) none, v ∈ es := fun v hv => by
        unfold cutV at hv
        exact List.mem_of_mem_drop (List.mem_of_mem_take hv)
      have hcl2 : (cutV es (some ((m : Int) + (wN : Int))) none).length ≤ es.length := cutV_length _ _ _
      generalize cutV es (some ((m : Int) + (wN : Int))) none = cs at hcv hcl2 hos3
      refine ⟨s2, s3, es.take m ++ [pv], cs, rfl, rfl, (ksG32) _ _ (ne_in nLs2 hrL) hos2, hos3, ?_, fun s4 HS4 sm4 ns4 hs4 => ?_⟩
      · have h1 := List.length_take_le m es
        rw [List.length_append]
        exact Nat.le_of_lt (small1000 (show (es.take m).length + 1 + cs.length ≤ 1000 by omega))
      have nLs4 : s4 ∉ L := fun z => by
        rcases ns4 with y | y | y
        · exact hlG32 s4 z y
        · exact nLs2 (y ▸ z)
        · exact nLs3 (y ▸ z)
      have ksG33 : Kp r G32 HS4 := fun b o _ h => sm4 b o h
      have hRG33 : HS4 r = some (.lst [.int nG34]) := sm4 _ _ hRG32
      have hlG33 : ∀ b ∈ L, HS4 b ≠ none := same_all hlG32 sm4
      obtain ⟨G33, rfl⟩ : ∃ G, G = HS4 := ⟨_, rfl⟩
      have hl4 : (es.take m ++ [pv] ++ cs).length ≤ 60 := by
        have h1 := List.length_take_le m es
        rw [List.length_append, List.length_append]
        have h2 : [pv].length = 1 := rfl
        omega
      have ths4 : Th L G33 3 61000 (.ref s4) := (Th.tup nLs4 hs4 (n := 2) (m := 1000) (allApp (allApp (fun v hv => (the v (List.mem_of_mem_take hv)).kp (((((((((((((((((((((((((((((((((ksG1).trans ksG2).trans ksG3).trans ksG4).trans ksG5).trans ksG6).trans ksG7).trans ksG8).trans ksG9).trans ksG10).trans ksG11).trans ksG12).trans ksG13).trans ksG14).trans ksG15).trans ksG16).trans ksG17).trans ksG18).trans ksG19).trans ksG20).trans ksG21).trans ksG22).trans ksG23).trans ksG24).trans ksG25).trans ksG26).trans ksG27).trans ksG28).trans ksG29).trans ksG30).trans ksG31).trans ksG32).trans ksG33) hrL) (all1 (thpv.kp ((((ksG30).trans ksG31).trans ksG32).trans ksG33) hrL))) (fun v hv => (the v (hcv v hv)).kp (((((((((((((((((((((((((((((((((ksG1).trans ksG2).trans ksG3).trans ksG4).trans ksG5).trans ksG6).trans ksG7).trans ksG8).trans ksG9).trans ksG10).trans ksG11).trans ksG12).trans ksG13).trans ksG14).trans ksG15).trans ksG16).trans ksG17).trans ksG18).trans ksG19).trans ksG20).trans ksG21).trans ksG22).trans ksG23).trans ksG24).trans ksG25).trans ksG26).trans ksG27).trans ksG28).trans ksG29).trans ksG30).trans ksG31).trans ksG32).trans ksG33) hrL))).mono (by decide) (by omega)
      refine ⟨rv, rfl, (by show 2 ≤ sizeLine; decide), fun pG36 npG36 => ?_⟩
      have nLpG36 : pG36 ∉ L := fun z => hlG33 pG36 z npG36
      have ksG34 : Kp r G33 (upd G33 pG36 (.tup [.ref s4, rv])) := Kp.new Kp.rfl' npG36
      have hRG34 : (upd G33 pG36 (.tup [.ref s4, rv])) r = some (.lst [.int nG34]) := keep_new hRG33 npG36
      have hlG34 : ∀ b ∈ L, (upd G33 pG36 (.tup [.ref s4, rv])) b ≠ none := new_all hlG33
      have hopG36 : (upd G33 pG36 (.tup [.ref s4, rv])) pG36 = some (.tup [.ref s4, rv]) := upd_same
      generalize upd G33 pG36 (.tup [.ref s4, rv]) = G34 at ksG34 hRG34 hlG34 hopG36 ⊢
      have thf : Th L G34 10 90000 (.ref pG36) := by
        obtain ⟨d4, f4, sh4, w4⟩ := (ths4.kp (ksG34) hrL)
        obtain ⟨d5, f5, sh5, w5⟩ := (thr.kp ((((((((((((((((((((((((((((((((((ksG1).trans ksG2).trans ksG3).trans ksG4).trans ksG5).trans ksG6).trans ksG7).trans ksG8).trans ksG9).trans ksG10).trans ksG11).trans ksG12).trans ksG13).trans ksG14).trans ksG15).trans ksG16).trans ksG17).trans ksG18).trans ksG19).trans ksG20).trans ksG21).trans ksG22).trans ksG23).trans ksG24).trans ksG25).trans ksG26).trans ksG27).trans ksG28).trans ksG29).trans ksG30).trans ksG31).trans ksG32).trans ksG33).trans ksG34) hrL)
        exact pair_th nLpG36 hopG36 f4 sh4 w4 f5 sh5 w5
      exact q (.ref pG36) nG34 _ ((((((((((((((((((((((((((((((((((ksG1).trans ksG2).trans ksG3).trans ksG4).trans ksG5).trans ksG6).trans ksG7).trans ksG8).trans ksG9).trans ksG10).trans ksG11).trans ksG12).trans ksG13).trans ksG14).trans ksG15).trans ksG16).trans ksG17).trans ksG18).trans ksG19).trans ksG20).trans ksG21).trans ksG22).trans ksG23).trans ksG24).trans ksG25).trans ksG26).trans ksG27).trans ksG28).trans ksG29).trans ksG30).trans ksG31).trans ksG32).trans ksG33).trans ksG34) hRG34 thf
    · refine ⟨.int dG29, rfl, rfl, _, rfl, ite2 (fun e2 => ?_) (fun e2 => ?_)⟩
      · refine ⟨.ref ea, rfl, .ref pG28, rfl, .ref r, rfl, r, nG32, 11, rfl, hRG27, by decide, by decide, fun dG33 nG34 dG33_0 dG33_1 => ?_⟩
        have ksG28 : Kp r G27 (upd G27 r (.lst [.int nG34])) := Kp.own Kp.rfl'
        have hRG28 : (upd G27 r (.lst [.int nG34])) r = some (.lst [.int nG34]) := upd_same
        have hlG28 : ∀ b ∈ L, (upd G27 r (.lst [.int nG34])) b ≠ none := new_all hlG27
        generalize upd G27 r (.lst [.int nG34]) = G28 at ksG28 hRG28 hlG28 ⊢
        obtain ⟨qv, atqv, thqv⟩ := Th.at (L := L) (H := G28) (n := 2) (m := 1000) (vs := [.ref pG17, .ref pG18, .ref pG19, .ref pG20, .ref pG21, .ref pG22, .ref pG24, .ref pG25, sg c, .ref pG26, .bl true]) ((allC ((tpG17.kp ((((((((((((((ksG15).trans ksG16).trans ksG17).trans ksG18).trans ksG19).trans ksG20).trans ksG21).trans ksG22).trans ksG23).trans ksG24).trans ksG25).trans ksG26).trans ksG27).trans ksG28) hrL)) (allC ((tpG18.kp (((((((((((((ksG16).trans ksG17).trans ksG18).trans ksG19).trans ksG20).trans ksG21).trans ksG22).trans ksG23).trans ksG24).trans ksG25).trans ksG26).trans ksG27).trans ksG28) hrL)) (allC ((tpG19.kp ((((((((((((ksG17).trans ksG18).trans ksG19).trans ksG20).trans ksG21).trans ksG22).trans ksG23).trans ksG24).trans ksG25).trans ksG26).trans ksG27).trans ksG28) hrL)) (allC ((tpG20.kp (((((((((((ksG18).trans ksG19).trans ksG20).trans ksG21).trans ksG22).trans ksG23).trans ksG24).trans ksG25).trans ksG26).trans ksG27).trans ksG28) hrL)) (allC ((tpG21.kp ((((((((((ksG19).trans ksG20).trans ksG21).trans ksG22).trans ksG23).trans ksG24).trans ksG25).trans ksG26).trans ksG27).trans ksG28) hrL)) (allC ((tpG22.kp (((((((((ksG20).trans ksG21).trans ksG22).trans ksG23).trans ksG24).trans ksG25).trans ksG26).trans ksG27).trans ksG28) hrL)) (allC ((tpG24.kp (((((((ksG22).trans ksG23).trans ksG24).trans ksG25).trans ksG26).trans ksG27).trans ksG28) hrL)) (allC ((tpG25.kp ((((((ksG23).trans ksG24).trans ksG25).trans ksG26).trans ksG27).trans ksG28) hrL)) (allC (Th.tx (l := [c]) (fun x h => by simp at h; omega) (Nat.le_of_ble_eq_true rfl)) (allC ((tpG26.kp (((((ksG24).trans ksG25).trans ksG26).trans ksG27).trans ksG28) hrL)) (allC (Th.bl true) all0)))))))))))) dG33_0 (show dG33 < ((11 : Nat) : Int) from dG33_1)
        have thes : Th L G28 3 30000 (.ref ea) := (Th.tup nLea (((((((((((((((((((((((((((((ksG1).trans ksG2).trans ksG3).trans ksG4).trans ksG5).trans ksG6).trans ksG7).trans ksG8).trans ksG9).trans ksG10).trans ksG11).trans ksG12).trans ksG13).trans ksG14).trans ksG15).trans ksG16).trans ksG17).trans ksG18).trans ksG19).trans ksG20).trans ksG21).trans ksG22).trans ksG23).trans ksG24).trans ksG25).trans ksG26).trans ksG27).trans ksG28) _ _ (ne_in nLea hrL) hoea) (n := 2) (m := 1000) (fun v hv => (the v hv).kp ((((((((((((((((((((((((((((ksG1).trans ksG2).trans ksG3).trans ksG4).trans ksG5).trans ksG6).trans ksG7).trans ksG8).trans ksG9).trans ksG10).trans ksG11).trans ksG12).trans ksG13).trans ksG14).trans ksG15).trans ksG16).trans ksG17).trans ksG18).trans ksG19).trans ksG20).trans ksG21).trans ksG22).trans ksG23).trans ksG24).trans ksG25).trans ksG26).trans ksG27).trans ksG28) hrL)).mono (by decide) (by omega)
        refine ⟨pG28, _, dG33, qv, rfl, rfl, .inl (.inl ((((ksG26).trans ksG27).trans ksG28) _ _ (ne_in nLpG28 hrL) hopG28)), atqv, (by show 2 ≤ sizeLine; decide), fun pG36 npG36 => ?_⟩
        have nLpG36 : pG36 ∉ L := fun z => hlG28 pG36 z npG36
        have ksG29 : Kp r G28 (upd G28 pG36 (.tup [.ref ea, qv])) := Kp.new Kp.rfl' npG36
        have hRG29 : (upd G28 pG36 (.tup [.ref ea, qv])) r = some (.lst [.int nG34]) := keep_new hRG28 npG36
        have hlG29 : ∀ b ∈ L, (upd G28 pG36 (.tup [.ref ea, qv])) b ≠ none := new_all hlG28
        have hopG36 : (upd G28 pG36 (.tup [.ref ea, qv])) pG36 = some (.tup [.ref ea, qv]) := upd_same
        generalize upd G28 pG36 (.tup [.ref ea, qv]) = G29 at ksG29 hRG29 hlG29 hopG36 ⊢
        exact q (.ref pG36) nG34 _ (((((((((((((((((((((((((((((ksG1).trans ksG2).trans ksG3).trans ksG4).trans ksG5).trans ksG6).trans ksG7).trans ksG8).trans ksG9).trans ksG10).trans ksG11).trans ksG12).trans ksG13).trans ksG14).trans ksG15).trans ksG16).trans ksG17).trans ksG18).trans ksG19).trans ksG20).trans ksG21).trans ksG22).trans ksG23).trans ksG24).trans ksG25).trans ksG26).trans ksG27).trans ksG28).trans ksG29) hRG29 ((Th.tup nLpG36 hopG36 (n := 3) (m := 30000) (allC ((thes.kp (ksG29) hrL)) (allC ((thqv.kp (ksG29) hrL).mono (by decide) (Nat.le_of_ble_eq_true rfl)) all0))).mono (by decide) (Nat.le_of_ble_eq_true rfl))
      · refine ⟨.int dG29, rfl, rfl, _, rfl, ite2 (fun e3 => ?_) (fun e3 => ?_)⟩
        · refine ⟨.ref ea, rfl, ea, es, rfl, (((((((((((((((((((((((((((ksG1).trans ksG2).trans ksG3).trans ksG4).trans ksG5).trans ksG6).trans ksG7).trans ksG8).trans ksG9).trans ksG10).trans ksG11).trans ksG12).trans ksG13).trans ksG14).trans ksG15).trans ksG16).trans ksG17).trans ksG18).trans ksG19).trans ksG20).trans ksG21).trans ksG22).trans ksG23).trans ksG24).trans ksG25).trans ksG26).trans ksG27) _ _ (ne_in nLea hrL) hoea, fun pG33 npG33 => ?_⟩
          have nLpG33 : pG33 ∉ L := fun z => hlG27 pG33 z npG33
          have ksG28 : Kp r G27 (upd G27 pG33 (.tup es.reverse)) := Kp.new Kp.rfl' npG33
          have hRG28 : (upd G27 pG33 (.tup es.reverse)) r = some (.lst [.int nG32]) := keep_new hRG27 npG33
          have hlG28 : ∀ b ∈ L, (upd G27 pG33 (.tup es.reverse)) b ≠ none := new_all hlG27
          have hopG33 : (upd G27 pG33 (.tup es.reverse)) pG33 = some (.tup es.reverse) := upd_same
          generalize upd G27 pG33 (.tup es.reverse) = G28 at ksG28 hRG28 hlG28 hopG33 ⊢
          have thv : Th L G28 3 30000 (.ref pG33) := (Th.tup nLpG33 hopG33 (n := 2) (m := 1000) (fun v hv => (the v (List.mem_reverse.mp hv)).kp ((((((((((((((((((((((((((((ksG1).trans ksG2).trans ksG3).trans ksG4).trans ksG5).trans ksG6).trans ksG7).trans ksG8).trans ksG9).trans ksG10).trans ksG11).trans ksG12).trans ksG13).trans ksG14).trans ksG15).trans ksG16).trans ksG17).trans ksG18).trans ksG19).trans ksG20).trans ksG21).trans ksG22).trans ksG23).trans ksG24).trans ksG25).trans ksG26).trans ksG27).trans ksG28) hrL)).mono (by decide) (by rw [List.length_reverse]; omega)
          refine ⟨rv, rfl, (by show 2 ≤ sizeLine; decide), fun pG34 npG34 => ?_⟩
          have nLpG34 : pG34 ∉ L := fun z => hlG28 pG34 z npG34
          have ksG29 : Kp r G28 (upd G28 pG34 (.tup [.ref pG33, rv])) := Kp.new Kp.rfl' npG34
          have hRG29 : (upd G28 pG34 (.tup [.ref pG33, rv])) r = some (.lst [.int nG32]) := keep_new hRG28 npG34
          have hlG29 : ∀ b ∈ L, (upd G28 pG34 (.tup [.ref pG33, rv])) b ≠ none := new_all hlG28
          have hopG34 : (upd G28 pG34 (.tup [.ref pG33, rv])) pG34 = some (.tup [.ref pG33, rv]) := upd_same
          generalize upd G28 pG34 (.tup [.ref pG33, rv]) = G29 at ksG29 hRG29 hlG29 hopG34 ⊢
          exact q (.ref pG34) nG32 _ (((((((((((((((((((((((((((((ksG1).trans ksG2).trans ksG3).trans ksG4).trans ksG5).trans ksG6).trans ksG7).trans ksG8).trans ksG9).trans ksG10).trans ksG11).trans ksG12).trans ksG13).trans ksG14).trans ksG15).trans ksG16).trans ksG17).trans ksG18).trans ksG19).trans ksG20).trans ksG21).trans ksG22).trans ksG23).trans ksG24).trans ksG25).trans ksG26).trans ksG27).trans ksG28).trans ksG29) hRG29 ((Th.tup nLpG34 hopG34 (n := 3) (m := 30000) (allC ((thv.kp (ksG29) hrL)) (allC ((thr.kp (((((((((((((((((((((((((((((ksG1).trans ksG2).trans ksG3).trans ksG4).trans ksG5).trans ksG6).trans ksG7).trans ksG8).trans ksG9).trans ksG10).trans ksG11).trans ksG12).trans ksG13).trans ksG14).trans ksG15).trans ksG16).trans ksG17).trans ksG18).trans ksG19).trans ksG20).trans ksG21).trans ksG22).trans ksG23).trans ksG24).trans ksG25).trans ksG26).trans ksG27).trans ksG28).trans ksG29) hrL).mono (by decide) (Nat.le_of_ble_eq_true rfl)) all0))).mono (by decide) (Nat.le_of_ble_eq_true rfl))
        · have thes : Th L G27 3 29000 (.ref ea) := (Th.tup nLea ((((((((((((((((((((((((((((ksG1).trans ksG2).trans ksG3).trans ksG4).trans ksG5).trans ksG6).trans ksG7).trans ksG8).trans ksG9).trans ksG10).trans ksG11).trans ksG12).trans ksG13).trans ksG14).trans ksG15).trans ksG16).trans ksG17).trans ksG18).trans ksG19).trans ksG20).trans ksG21).trans ksG22).trans ksG23).trans ksG24).trans ksG25).trans ksG26).trans ksG27) _ _ (ne_in nLea hrL) hoea) (n := 2) (m := 1000) (fun v hv => (the v hv).kp (((((((((((((((((((((((((((ksG1).trans ksG2).trans ksG3).trans ksG4).trans ksG5).trans ksG6).trans ksG7).trans ksG8).trans ksG9).trans ksG10).trans ksG11).trans ksG12).trans ksG13).trans ksG14).trans ksG15).trans ksG16).trans ksG17).trans ksG18).trans ksG19).trans ksG20).trans ksG21).trans ksG22).trans ksG23).trans ksG24).trans ksG25).trans ksG26).trans ksG27) hrL)).mono (by decide) (by omega)
          refine ⟨.ref ea, rfl, (by show 1 ≤ sizeLine; decide), fun pG33 npG33 => ?_⟩
          have nLpG33 : pG33 ∉ L := fun z => hlG27 pG33 z npG33
          have ksG28 : Kp r G27 (upd G27 pG33 (.tup [.ref ea])) := Kp.new Kp.rfl' npG33
          have hRG28 : (upd G27 pG33 (.tup [.ref ea])) r = some (.lst [.int nG32]) := keep_new hRG27 npG33
          have hlG28 : ∀ b ∈ L, (upd G27 pG33 (.tup [.ref ea])) b ≠ none := new_all hlG27
          have hopG33 : (upd G27 pG33 (.tup [.ref ea])) pG33 = some (.tup [.ref ea]) := upd_same
          generalize upd G27 pG33 (.tup [.ref ea]) = G28 at ksG28 hRG28 hlG28 hopG33 ⊢
          have tpG33 : Th L G28 5 90000 (.ref pG33) := (Th.tup nLpG33 hopG33 (n := 3) (m := 29000) (allC ((thes.kp (ksG28) hrL)) all0)).mono (by decide) (Nat.le_of_ble_eq_true rfl)
          refine ⟨.ref ea, rfl, rv, rfl, (by show 3 ≤ sizeLine; decide), fun pG34 npG34 => ?_⟩
          have nLpG34 : pG34 ∉ L := fun z => hlG28 pG34 z npG34
          have ksG29 : Kp r G28 (upd G28 pG34 (.tup [.ref ea, rv, .non])) := Kp.new Kp.rfl' npG34
          have hRG29 : (upd G28 pG34 (.tup [.ref ea, rv, .non])) r = some (.lst [.int nG32]) := keep_new hRG28 npG34
          have hlG29 : ∀ b ∈ L, (upd G28 pG34 (.tup [.ref ea, rv, .non])) b ≠ none := new_all hlG28
          have hopG34 : (upd G28 pG34 (.tup [.ref ea, rv, .non])) pG34 = some (.tup [.ref ea, rv, .non]) := upd_same
          generalize upd G28 pG34 (.tup [.ref ea, rv, .non]) = G29 at ksG29 hRG29 hlG29 hopG34 ⊢
          have tpG34 : Th L G29 5 90000 (.ref pG34) := (Th.tup nLpG34 hopG34 (n := 3) (m := 29000) (allC ((thes.kp ((ksG28).trans ksG29) hrL)) (allC ((thr.kp (((((((((((((((((((((((((((((ksG1).trans ksG2).trans ksG3).trans ksG4).trans ksG5).trans ksG6).trans ksG7).trans ksG8).trans ksG9).trans ksG10).trans ksG11).trans ksG12).trans ksG13).trans ksG14).trans ksG15).trans ksG16).trans ksG17).trans ksG18).trans ksG19).trans ksG20).trans ksG21).trans ksG22).trans ksG23).trans ksG24).trans ksG25).trans ksG26).trans ksG27).trans ksG28).trans ksG29) hrL).mono (by decide) (Nat.le_of_ble_eq_true rfl)) (allC (Th.non) all0)))).mono (by decide) (Nat.le_of_ble_eq_true rfl)
          refine ⟨.ref ea, rfl, rv, rfl, (by show 2 ≤ sizeLine; decide), fun pG35 npG35 => ?_⟩
          have nLpG35 : pG35 ∉ L := fun z => hlG29 pG35 z npG35
          have ksG30 : Kp r G29 (upd G29 pG35 (.lst [.ref ea, rv])) := Kp.new Kp.rfl' npG35
          have hRG30 : (upd G29 pG35 (.lst [.ref ea, rv])) r = some (.lst [.int nG32]) := keep_new hRG29 npG35
          have hlG30 : ∀ b ∈ L, (upd G29 pG35 (.lst [.ref ea, rv])) b ≠ none := new_all hlG29
          have hopG35 : (upd G29 pG35 (.lst [.ref ea, rv])) pG35 = some (.lst [.ref ea, rv]) := upd_same
          generalize upd G29 pG35 (.lst [.ref ea, rv]) = G30 at ksG30 hRG30 hlG30 hopG35 ⊢
          have tpG35 : Th L G30 5 90000 (.ref pG35) := (Th.lst nLpG35 hopG35 (n := 3) (m := 29000) (allC ((thes.kp (((ksG28).trans ksG29).trans ksG30) hrL)) (allC ((thr.kp ((((((((((((((((((((((((((((((ksG1).trans ksG2).trans ksG3).trans ksG4).trans ksG5).trans ksG6).trans ksG7).trans ksG8).trans ksG9).trans ksG10).trans ksG11).trans ksG12).trans ksG13).trans ksG14).trans ksG15).trans ksG16).trans ksG17).trans ksG18).trans ksG19).trans ksG20).trans ksG21).trans ksG22).trans ksG23).trans ksG24).trans ksG25).trans ksG26).trans ksG27).trans ksG28).trans ksG29).trans ksG30) hrL).mono (by decide) (Nat.le_of_ble_eq_true rfl)) all0))).mono (by decide) (Nat.le_of_ble_eq_true rfl)
          refine ⟨.ref ea, rfl, ea, es, rfl, .inr (.inl (.inl (((((((((((((((((((((((((((((((ksG1).trans ksG2).trans ksG3).trans ksG4).trans ksG5).trans ksG6).trans ksG7).trans ksG8).trans ksG9).trans ksG10).trans ksG11).trans ksG12).trans ksG13).trans ksG14).trans ksG15).trans ksG16).trans ksG17).trans ksG18).trans ksG19).trans ksG20).trans ksG21).trans ksG22).trans ksG23).trans ksG24).trans ksG25).trans ksG26).trans ksG27).trans ksG28).trans ksG29).trans ksG30) _ _ (ne_in nLea hrL) hoea))), fun pG36 npG36 => ?_⟩
          have nLpG36 : pG36 ∉ L := fun z => hlG30 pG36 z npG36
          have ksG31 : Kp r G30 (upd G30 pG36 (.lst es)) := Kp.new Kp.rfl' npG36
          have hRG31 : (upd G30 pG36 (.lst es)) r = some (.lst [.int nG32]) := keep_new hRG30 npG36
          have hlG31 : ∀ b ∈ L, (upd G30 pG36 (.lst es)) b ≠ none := new_all hlG30
          have hopG36 : (upd G30 pG36 (.lst es)) pG36 = some (.lst es) := upd_same
          generalize upd G30 pG36 (.lst es) = G31 at ksG31 hRG31 hlG31 hopG36 ⊢
          have thl : Th L G31 3 29000 (.ref pG36) := (Th.lst nLpG36 hopG36 (n := 2) (m := 1000) (fun v hv => (the v hv).kp (((((((((((((((((((((((((((((((ksG1).trans ksG2).trans ksG3).trans ksG4).trans ksG5).trans ksG6).trans ksG7).trans ksG8).trans ksG9).trans ksG10).trans ksG11).trans ksG12).trans ksG13).trans ksG14).trans ksG15).trans ksG16).trans ksG17).trans ksG18).trans ksG19).trans ksG20).trans ksG21).trans ksG22).trans ksG23).trans ksG24).trans ksG25).trans ksG26).trans ksG27).trans ksG28).trans ksG29).trans ksG30).trans ksG31) hrL)).mono (by decide) (by omega)
          refine ⟨rv, rfl, (by show 2 ≤ sizeLine; decide), fun pG37 npG37 => ?_⟩
          have nLpG37 : pG37 ∉ L := fun z => hlG31 pG37 z npG37
          have ksG32 : Kp r G31 (upd G31 pG37 (.tup [.ref pG36, rv])) := Kp.new Kp.rfl' npG37
          have hRG32 : (upd G31 pG37 (.tup [.ref pG36, rv])) r = some (.lst [.int nG32]) := keep_new hRG31 npG37
          have hlG32 : ∀ b ∈ L, (upd G31 pG37 (.tup [.ref pG36, rv])) b ≠ none := new_all hlG31
          have hopG37 : (upd G31 pG37 (.tup [.ref pG36, rv])) pG37 = some (.tup [.ref pG36, rv]) := upd_same
          generalize upd G31 pG37 (.tup [.ref pG36, rv]) = G32 at ksG32 hRG32 hlG32 hopG37 ⊢
          have tpG37 : Th L G32 5 90000 (.ref pG37) := (Th.tup nLpG37 hopG37 (n := 3) (m := 29000) (allC ((thl.kp (ksG32) hrL)) (allC ((thr.kp ((((((((((((((((((((((((((((((((ksG1).trans ksG2).trans ksG3).trans ksG4).trans ksG5).trans ksG6).trans ksG7).trans ksG8).trans ksG9).trans ksG10).trans ksG11).trans ksG12).trans ksG13).trans ksG14).trans ksG15).trans ksG16).trans ksG17).trans ksG18).trans ksG19).trans ksG20).trans ksG21).trans ksG22).trans ksG23).trans ksG24).trans ksG25).trans ksG26).trans ksG27).trans ksG28).trans ksG29).trans ksG30).trans ksG31).trans ksG32) hrL).mono (by decide) (Nat.le_of_ble_eq_true rfl)) all0))).mono (by decide) (Nat.le_of_ble_eq_true rfl)
          refine ⟨rv, rfl, .ref ea, rfl, (by show 2 ≤ sizeLine; decide), fun pG38 npG38 => ?_⟩
          have nLpG38 : pG38 ∉ L := fun z => hlG32 pG38 z npG38
          have ksG33 : Kp r G32 (upd G32 pG38 (.tup [rv, .ref ea])) := Kp.new Kp.rfl' npG38
          have hRG33 : (upd G32 pG38 (.tup [rv, .ref ea])) r = some (.lst [.int nG32]) := keep_new hRG32 npG38
          have hlG33 : ∀ b ∈ L, (upd G32 pG38 (.tup [rv, .ref ea])) b ≠ none := new_all hlG32
          have hopG38 : (upd G32 pG38 (.tup [rv, .ref ea])) pG38 = some (.tup [rv, .ref ea]) := upd_same
          generalize upd G32 pG38 (.tup [rv, .ref ea]) = G33 at ksG33 hRG33 hlG33 hopG38 ⊢
          have tpG38 : Th L G33 5 90000 (.ref pG38) := (Th.tup nLpG38 hopG38 (n := 3) (m := 29000) (allC ((thr.kp (((((((((((((((((((((((((((((((((ksG1).trans ksG2).trans ksG3).trans ksG4).trans ksG5).trans ksG6).trans ksG7).trans ksG8).trans ksG9).trans ksG10).trans ksG11).trans ksG12).trans ksG13).trans ksG14).trans ksG15).trans ksG16).trans ksG17).trans ksG18).trans ksG19).trans ksG20).trans ksG21).trans ksG22).trans ksG23).trans ksG24).trans ksG25).trans ksG26).trans ksG27).trans ksG28).trans ksG29).trans ksG30).trans ksG31).trans ksG32).trans ksG33) hrL).mono (by decide) (Nat.le_of_ble_eq_true rfl)) (allC ((thes.kp ((((((ksG28).trans ksG29).trans ksG30).trans ksG31).trans ksG32).trans ksG33) hrL)) all0))).mono (by decide) (Nat.le_of_ble_eq_true rfl)
          refine ⟨(by show 5 ≤ sizeLine; decide), fun pG39 npG39 => ?_⟩
          have nLpG39 : pG39 ∉ L := fun z => hlG33 pG39 z npG39
          have ksG34 : Kp r G33 (upd G33 pG39 (.lst [.ref pG33, .ref pG34, .ref pG35, .ref pG37, .ref pG38])) := Kp.new Kp.rfl' npG39
          have hRG34 : (upd G33 pG39 (.lst [.ref pG33, .ref pG34, .ref pG35, .ref pG37, .ref pG38])) r = some (.lst [.int nG32]) := keep_new hRG33 npG39
          have hlG34 : ∀ b ∈ L, (upd G33 pG39 (.lst [.ref pG33, .ref pG34, .ref pG35, .ref pG37, .ref pG38])) b ≠ none := new_all hlG33
          have hopG39 : (upd G33 pG39 (.lst [.ref pG33, .ref pG34, .ref pG35, .ref pG37, .ref pG38])) pG39 = some (.lst [.ref pG33, .ref pG34, .ref pG35, .ref pG37, .ref pG38]) := upd_same
          generalize upd G33 pG39 (.lst [.ref pG33, .ref pG34, .ref pG35, .ref pG37, .ref pG38]) = G34 at ksG34 hRG34 hlG34 hopG39 ⊢
          have m0 : 0 ≤ dG31 % 5 := Int.emod_nonneg _ (by decide)
          have m1 : dG31 % 5 < 5 := Int.emod_lt_of_pos _ (by decide)
          obtain ⟨fv, atf, thf⟩ := Th.at (L := L) (H := G34) (n := 5) (m := 90000) (vs := [.ref pG33, .ref pG34, .ref pG35, .ref pG37, .ref pG38]) (allC ((tpG33.kp ((((((ksG29).trans ksG30).trans ksG31).trans ksG32).trans ksG33).trans ksG34) hrL)) (allC ((tpG34.kp (((((ksG30).trans ksG31).trans ksG32).trans ksG33).trans ksG34) hrL)) (allC ((tpG35.kp ((((ksG31).trans ksG32).trans ksG33).trans ksG34) hrL)) (allC ((tpG37.kp ((ksG33).trans ksG34) hrL)) (allC ((tpG38.kp (ksG34) hrL)) all0))))) m0 (show dG31 % 5 < ((5 : Nat) : Int) from m1)
          refine ⟨.int dG31, rfl, _, 5, rfl, rfl, (by show (0 : Int) < 5; decide), pG39, _, _, fv, rfl, rfl, .inl (.inl (hopG39)), atf, ?_⟩
          exact q fv nG32 _ ((((((((((((((((((((((((((((((((((ksG1).trans ksG2).trans ksG3).trans ksG4).trans ksG5).trans ksG6).trans ksG7).trans ksG8).trans ksG9).trans ksG10).trans ksG11).trans ksG12).trans ksG13).trans ksG14).trans ksG15).trans ksG16).trans ksG17).trans ksG18).trans ksG19).trans ksG20).trans ksG21).trans ksG22).trans ksG23).trans ksG24).trans ksG25).trans ksG26).trans ksG27).trans ksG28).trans ksG29).trans ksG30).trans ksG31).trans ksG32).trans ksG33).trans ksG34) hRG34 (thf.mono (by decide) (Nat.le_of_ble_eq_true rfl))

set_option maxHeartbeats 16000000 in
theorem ok_bentmore (T : Tx K mg Z) : FnOk P w K mg base CX0 2 Z.f_l_bent_more Z.d_l_bent_more ["reel", "columns", "question"] (spBent K) := by
  have G_l_pick : FnOk P w K mg base CX0 1 Z.f_l_pick Z.d_l_pick ["reel", "many"] (spPick K) := ok_pick T
  refine T.F_l_bent_more.ok sc_l_bent_more (fun vs H Q E h => ?_) (fun cdv A outer s H vs Q E hr h => ?_)
  · obtain ⟨L, r, n, cols, qa, ea, es, rv, rfl, _⟩ := h
    rfl
  · obtain ⟨L, r, n, cols, qa, ea, es, rv, rfl, hR, hrL, hl, hc1, hc2, hcc, nLqa, nLea, hoqa, hoea, hel, the, thr, q⟩ := h
    refine ⟨_, (pss_cons (ps_asg (pv 2) (pgT K (n := 2) (pgs_cons (pg_name (i := 3) sc_l_bent_more.nd rfl (.inl rfl)) (pgs_cons (pg_name (i := 4) sc_l_bent_more.nd rfl (.inl rfl)) pgs_nil))))
      (pss_cons (ps_set (i := 5) sc_l_bent_more.nd rfl (.inl rfl) (pe_ix ix_str pe_str (pe_call G_l_pick (hr.mono (by omega)) (by rfl) T.g_l_pick T.F_l_pick.kp T.b_l_pick .nil pass0 (pa_cons (pv 0) (pa_cons pe_int pa_nil))) (fun _ _ => rfl)))
      (pss_cons (ps_set (i := 5) sc_l_bent_more.nd rfl (.inl rfl) (pe_ix (ixL K) (pe_lst (pa_cons (pv 5) (pa_cons (pv 5) (pa_cons (pe_op op_add_str (pv 1) (pv 5)) (pa_cons (pe_op op_add_str (pv 5) (pe_slice sl_str (pv 1) po_none (po_some pe_int))) pa_nil))))) (pe_call G_l_pick (hr.mono (by omega)) (by rfl) T.g_l_pick T.F_l_pick.kp T.b_l_pick .nil pass0 (pa_cons (pv 0) (pa_cons pe_int pa_nil))) (fun _ _ => rfl)))
      (pss_cons (ps_set (i := 6) sc_l_bent_more.nd rfl (.inl rfl) (pe_ix ix_str (pv 1) (pe_call G_l_pick (hr.mono (by omega)) (by rfl) T.g_l_pick T.F_l_pick.kp T.b_l_pick .nil pass0 (pa_cons (pv 0) (pa_cons (pe_callB call_len_str (by rfl) T.m_len (by decide +kernel) (pa_cons (pv 1) pa_nil)) pa_nil))) (fun _ _ => rfl)))
      (pss_cons (ps_set (i := 7) sc_l_bent_more.nd rfl (.inl rfl) (pe_lst (pa_cons (pe_tup (pa_cons (pv 5) (pa_cons pe_int pa_nil))) (pa_cons (pe_tup (pa_cons (pv 6) (pa_cons pe_bl pa_nil))) (pa_cons (pe_tup (pa_cons (pv 6) (pa_cons pe_bl pa_nil))) pa_nil)))))
      (pss_cons (ps_set (i := 8) sc_l_bent_more.nd rfl (.inl rfl) (pe_lst (pa_cons (pe_tup (pa_cons (pv 5) (pa_cons pe_int (pa_cons pe_int pa_nil)))) (pa_cons (pe_tup (pa_cons (pv 5) (pa_cons pe_int (pa_cons pe_int pa_nil)))) (pa_cons (pe_tup (pa_cons (pv 6) (pa_cons pe_int (pa_cons pe_bl pa_nil)))) (pa_cons (pe_tup (pa_cons (pv 6) (pa_cons pe_int (pa_cons pe_bl pa_nil)))) (pa_cons (pe_tup (pa_cons (pv 6) (pa_cons pe_bl (pa_cons pe_int pa_nil)))) pa_nil)))))))
      (pss_cons (ps_set (i := 9) sc_l_bent_more.nd rfl (.inl rfl) (pe_call G_l_pick (hr.mono (by omega)) (by rfl) T.g_l_pick T.F_l_pick.kp T.b_l_pick .nil pass0 (pa_cons (pv 0) (pa_cons pe_int pa_nil))))
      (pss_cons (ps_set (i := 10) sc_l_bent_more.nd rfl (.inl rfl) (pe_call G_l_pick (hr.mono (by omega)) (by rfl) T.g_l_pick T.F_l_pick.kp T.b_l_pick .nil pass0 (pa_cons (pv 0) (pa_cons (pe_op op_add (pe_callB (cLenSq K) (by rfl) T.m_len (by decide +kernel) (pa_cons (pv 3) pa_nil)) pe_int) pa_nil))))
      (pss_cons (ps_if (pt_cmpR op_lt (pv 9) pe_int (nomark _)) (pss_one (ps_ret (pe_tup (pa_cons (pe_op (catWK K) (pe_op (catWK K) (pe_slice (slWK K) (pv 3) po_none (po_some (pv 10))) (pe_tup (pa_cons (pe_ix (ixL K) (pv 7) (pv 9) (fun _ _ => rfl)) pa_nil))) (pe_slice (slWK K) (pv 3) (po_some (pe_op op_add (pv 10) (pe_call G_l_pick (hr.mono (by omega)) (by rfl) T.g_l_pick T.F_l_pick.kp T.b_l_pick .nil pass0 (pa_cons (pv 0) (pa_cons pe_int pa_nil))))) po_none)) (pa_cons (pv 4) pa_nil))))) pss_nil)
      (pss_one (ps_ret (pe_tup (pa_cons (pe_slice (slWK K) (pv 3) po_none (po_some (pv 10))) (pa_cons (pe_ix (ixL K) (pv 8) (pe_op op_sub (pv 9) pe_int) (fun _ _ => rfl)) pa_nil)))))))))))))), ?_⟩
    refine ⟨.ref qa, rfl, qa, [.ref ea, rv], rfl, .inl (.inl hoqa), rfl, .ref ea, [rv], rfl, rv, [], rfl, rfl, ?_⟩
    refine ⟨.ref r, rfl, r, n, 26, rfl, hR, by decide, by decide, fun dG1 nG2 dG1_0 dG1_1 => ?_⟩
    have ksG1 : Kp r H (upd H r (.lst [.int nG2])) := Kp.own Kp.rfl'
    have hRG1 : (upd H r (.lst [.int nG2])) r = some (.lst [.int nG2]) := upd_same
    have hlG1 : ∀ b ∈ L, (upd H r (.lst [.int nG2])) b ≠ none := new_all hl
    generalize upd H r (.lst [.int nG2]) = G1 at ksG1 hRG1 hlG1 ⊢
    obtain ⟨oc, hoc⟩ : ∃ oc : Nat, atI (Str.ofString "abcdefghijklmnopqrstuvwxyz").cps.toList dG1 = some oc ∧ oc < 1000 := by
      have ea26 : (Str.ofString "abcdefghijklmnopqrstuvwxyz").cps.toList = alpha := by decide +kernel
      rw [ea26]
      have hd6 : dG1.toNat < alpha.length := by
        show dG1.toNat < 26
        omega
      refine ⟨alpha[dG1.toNat], ?_, ?_⟩
      · have e0 := atI_nat (List.getElem?_eq_getElem hd6)
        rw [show ((dG1.toNat : Nat) : Int) = dG1 by omega] at e0
        exact e0
      · have h6 : ∀ x ∈ alpha, x < 1000 := by decide
        exact h6 _ (List.getElem_mem hd6)
    refine ⟨_, _, _, rfl, rfl, (by decide +kernel), hoc.1, ?_⟩
    have ho9 := hoc.2
    have ecl0 : (⟨cols.toArray⟩ : Str).length = cols.length := by simp [Str.length]
    refine ⟨_, rfl, _, rfl, tx cols, rfl, _, rfl, _, _, rfl, rfl, (by rw [ecl0]; exact Nat.le_of_lt (small1000 (show cols.length + 1 ≤ 1000 by omega))), _, rfl, tx cols, rfl, 1, rfl, _, rfl, Nat.le_of_lt (small1000 (show cols.length ≤ 1000 by omega)), ?_⟩
    rw [show (1 : Int) = ((1 : Nat) : Int) from rfl, cut_take]
    refine ⟨_, _, rfl, rfl, one_len cols oc, (by show 4 ≤ sizeLine; decide), fun pG4 npG4 => ?_⟩
    have nLpG4 : pG4 ∉ L := fun z => hlG1 pG4 z npG4
    have ksG2 : Kp r G1 (upd G1 pG4 (.lst [.str ⟨#[oc]⟩, .str ⟨#[oc]⟩, .str ((⟨cols.toArray⟩ : Str) ++ ⟨#[oc]⟩), .str ((⟨#[oc]⟩ : Str) ++ ⟨(cols.take 1).toArray⟩)])) := Kp.new Kp.rfl' npG4
    have hRG2 : (upd G1 pG4 (.lst [.str ⟨#[oc]⟩, .str ⟨#[oc]⟩, .str ((⟨cols.toArray⟩ : Str) ++ ⟨#[oc]⟩), .str ((⟨#[oc]⟩ : Str) ++ ⟨(cols.take 1).toArray⟩)])) r = some (.lst [.int nG2]) := keep_new hRG1 npG4
    have hlG2 : ∀ b ∈ L, (upd G1 pG4 (.lst [.str ⟨#[oc]⟩, .str ⟨#[oc]⟩, .str ((⟨cols.toArray⟩ : Str) ++ ⟨#[oc]⟩), .str ((⟨#[oc]⟩ : Str) ++ ⟨(cols.take 1).toArray⟩)])) b ≠ none := new_all hlG1
    have hopG4 : (upd G1 pG4 (.lst [.str ⟨#[oc]⟩, .str ⟨#[oc]⟩, .str ((⟨cols.toArray⟩ : Str) ++ ⟨#[oc]⟩), .str ((⟨#[oc]⟩ : Str) ++ ⟨(cols.take 1).toArray⟩)])) pG4 = some (.lst [.str ⟨#[oc]⟩, .str ⟨#[oc]⟩, .str ((⟨cols.toArray⟩ : Str) ++ ⟨#[oc]⟩), .str ((⟨#[oc]⟩ : Str) ++ ⟨(cols.take 1).toArray⟩)]) := upd_same
    generalize upd G1 pG4 (.lst [.str ⟨#[oc]⟩, .str ⟨#[oc]⟩, .str ((⟨cols.toArray⟩ : Str) ++ ⟨#[oc]⟩), .str ((⟨#[oc]⟩ : Str) ++ ⟨(cols.take 1).toArray⟩)]) = G2 at ksG2 hRG2 hlG2 hopG4 ⊢
    refine ⟨.ref r, rfl, r, nG2, 4, rfl, hRG2, by decide, by decide, fun dG5 nG6 dG5_0 dG5_1 => ?_⟩
    have ksG3 : Kp r G2 (upd G2 r (.lst [.int nG6])) := Kp.own Kp.rfl'
    have hRG3 : (upd G2 r (.lst [.int nG6])) r = some (.lst [.int nG6]) := upd_same
    have hlG3 : ∀ b ∈ L, (upd G2 r (.lst [.int nG6])) b ≠ none := new_all hlG2
    generalize upd G2 r (.lst [.int nG6]) = G3 at ksG3 hRG3 hlG3 ⊢
    have hcc1 : ∀ x ∈ cols ++ [oc], x < 1000 := allApp hcc (all1 ho9)
    have hcc2 : ∀ x ∈ [oc] ++ cols.take 1, x < 1000 := allApp (all1 ho9) fun x h => hcc x (List.mem_of_mem_take h)
    obtain ⟨ov, atov, thov⟩ := Th.at (L := L) (H := G3) (n := 1) (m := 240) (vs := [.str ⟨#[oc]⟩, .str ⟨#[oc]⟩, .str ((⟨cols.toArray⟩ : Str) ++ ⟨#[oc]⟩), .str ((⟨#[oc]⟩ : Str) ++ ⟨(cols.take 1).toArray⟩)]) ((allC (Th.tx (l := [oc]) (all1 ho9) (Nat.le_of_ble_eq_true rfl)) (allC (Th.tx (l := [oc]) (all1 ho9) (Nat.le_of_ble_eq_true rfl)) (allC (th_cat hcc1 (by rw [List.length_append]; show cols.length + 1 ≤ 240; omega)) (allC (th_cat (l := [oc]) hcc2 (by rw [List.length_append, List.length_take]; show 1 + min 1 cols.length ≤ 240; omega)) all0))))) dG5_0 (show dG5 < ((4 : Nat) : Int) from dG5_1)
    refine ⟨pG4, _, dG5, ov, rfl, rfl, .inl (.inl ((ksG3) _ _ (ne_in nLpG4 hrL) hopG4)), atov, ?_⟩
    have ecl : (⟨cols.toArray⟩ : Str).length = cols.length := by simp [Str.length]
    refine ⟨tx cols, rfl, .ref r, rfl, tx cols, rfl, _, rfl, by rw [ecl]; exact Nat.le_of_lt (small1000 (by omega)), r, nG6, _, rfl, hRG3, by rw [ecl]; omega, by rw [ecl]; omega, fun dG7 nG8 dG7_0 dG7_1 => ?_⟩
    have ksG4 : Kp r G3 (upd G3 r (.lst [.int nG8])) := Kp.own Kp.rfl'
    have hRG4 : (upd G3 r (.lst [.int nG8])) r = some (.lst [.int nG8]) := upd_same
    have hlG4 : ∀ b ∈ L, (upd G3 r (.lst [.int nG8])) b ≠ none := new_all hlG3
    generalize upd G3 r (.lst [.int nG8]) = G4 at ksG4 hRG4 hlG4 ⊢
    rw [ecl] at dG7_1
    have hdl : dG7.toNat < cols.length := by omega
    have hat0 : atI (⟨cols.toArray⟩ : Str).cps.toList dG7 = some cols[dG7.toNat] := by
      have e0 : atI (⟨cols.toArray⟩ : Str).cps.toList ((dG7.toNat : Nat) : Int) = some cols[dG7.toNat] := atI_nat (by simp [hdl])
      rw [show ((dG7.toNat : Nat) : Int) = dG7 by omega] at e0
      exact e0
    have hcm : cols[dG7.toNat] ∈ cols := List.getElem_mem hdl
    refine ⟨_, _, _, rfl, rfl, Nat.le_of_lt (small1000 (show cols.length ≤ 1000 by omega)), hat0, ?_⟩
    generalize cols[dG7.toNat] = c at hcm ⊢
    have hc9 : c < 1000 := hcc c hcm
    have hsg : V.str ⟨#[c]⟩ = sg c := rfl
    refine ⟨ov, rfl, (by show 2 ≤ sizeLine; decide), fun pG9 npG9 => ?_⟩
    have nLpG9 : pG9 ∉ L := fun z => hlG4 pG9 z npG9
    have ksG5 : Kp r G4 (upd G4 pG9 (.tup [ov, .int 3])) := Kp.new Kp.rfl' npG9
    have hRG5 : (upd G4 pG9 (.tup [ov, .int 3])) r = some (.lst [.int nG8]) := keep_new hRG4 npG9
    have hlG5 : ∀ b ∈ L, (upd G4 pG9 (.tup [ov, .int 3])) b ≠ none := new_all hlG4
    have hopG9 : (upd G4 pG9 (.tup [ov, .int 3])) pG9 = some (.tup [ov, .int 3]) := upd_same
    generalize upd G4 pG9 (.tup [ov, .int 3]) = G5 at ksG5 hRG5 hlG5 hopG9 ⊢
    have tpG9 : Th L G5 2 1000 (.ref pG9) := (Th.tup nLpG9 hopG9 (n := 1) (m := 240) (allC ((thov.kp ((ksG4).trans ksG5) hrL)) (allC (Th.int (by decide) (by decide)) all0))).mono (by decide) (Nat.le_of_ble_eq_true rfl)
    refine ⟨sg c, rfl, (by show 2 ≤ sizeLine; decide), fun pG10 npG10 => ?_⟩
    have nLpG10 : pG10 ∉ L := fun z => hlG5 pG10 z npG10
    have ksG6 : Kp r G5 (upd G5 pG10 (.tup [sg c, .bl false])) := Kp.new Kp.rfl' npG10
    have hRG6 : (upd G5 pG10 (.tup [sg c, .bl false])) r = some (.lst [.int nG8]) := keep_new hRG5 npG10
    have hlG6 : ∀ b ∈ L, (upd G5 pG10 (.tup [sg c, .bl false])) b ≠ none := new_all hlG5
    have hopG10 : (upd G5 pG10 (.tup [sg c, .bl false])) pG10 = some (.tup [sg c, .bl false]) := upd_same
    generalize upd G5 pG10 (.tup [sg c, .bl false]) = G6 at ksG6 hRG6 hlG6 hopG10 ⊢
    have tpG10 : Th L G6 2 1000 (.ref pG10) := (Th.tup nLpG10 hopG10 (n := 1) (m := 240) (allC (Th.tx (l := [c]) (fun x h => by simp at h; omega) (Nat.le_of_ble_eq_true rfl)) (allC (Th.bl false) all0))).mono (by decide) (Nat.le_of_ble_eq_true rfl)
    refine ⟨sg c, rfl, (by show 2 ≤ sizeLine; decide), fun pG11 npG11 => ?_⟩
    have nLpG11 : pG11 ∉ L := fun z => hlG6 pG11 z npG11
    have ksG7 : Kp r G6 (upd G6 pG11 (.tup [sg c, .bl true])) := Kp.new Kp.rfl' npG11
    have hRG7 : (upd G6 pG11 (.tup [sg c, .bl true])) r = some (.lst [.int nG8]) := keep_new hRG6 npG11
    have hlG7 : ∀ b ∈ L, (upd G6 pG11 (.tup [sg c, .bl true])) b ≠ none := new_all hlG6
    have hopG11 : (upd G6 pG11 (.tup [sg c, .bl true])) pG11 = some (.tup [sg c, .bl true]) := upd_same
    generalize upd G6 pG11 (.tup [sg c, .bl true]) = G7 at ksG7 hRG7 hlG7 hopG11 ⊢
    have tpG11 : Th L G7 2 1000 (.ref pG11) := (Th.tup nLpG11 hopG11 (n := 1) (m := 240) (allC (Th.tx (l := [c]) (fun x h => by simp at h; omega) (Nat.le_of_ble_eq_true rfl)) (allC (Th.bl true) all0))).mono (by decide) (Nat.le_of_ble_eq_true rfl)
    refine ⟨(by show 3 ≤ sizeLine; decide), fun pG12 npG12 => ?_⟩
    have nLpG12 : pG12 ∉ L := fun z => hlG7 pG12 z npG12
    have ksG8 : Kp r G7 (upd G7 pG12 (.lst [.ref pG9, .ref pG10, .ref pG11])) := Kp.new Kp.rfl' npG12
    have hRG8 : (upd G7 pG12 (.lst [.ref pG9, .ref pG10, .ref pG11])) r = some (.lst [.int nG8]) := keep_new hRG7 npG12
    have hlG8 : ∀ b ∈ L, (upd G7 pG12 (.lst [.ref pG9, .ref pG10, .ref pG11])) b ≠ none := new_all hlG7
    have hopG12 : (upd G7 pG12 (.lst [.ref pG9, .ref pG10, .ref pG11])) pG12 = some (.lst [.ref pG9, .ref pG10, .ref pG11]) := upd_same
    generalize upd G7 pG12 (.lst [.ref pG9, .ref pG10, .ref pG11]) = G8 at ksG8 hRG8 hlG8 hopG12 ⊢
    refine ⟨ov, rfl, (by show 3 ≤ sizeLine; decide), fun pG13 npG13 => ?_⟩
    have nLpG13 : pG13 ∉ L := fun z => hlG8 pG13 z npG13
    have ksG9 : Kp r G8 (upd G8 pG13 (.tup [ov, .int 0, .int 3])) := Kp.new Kp.rfl' npG13
    have hRG9 : (upd G8 pG13 (.tup [ov, .int 0, .int 3])) r = some (.lst [.int nG8]) := keep_new hRG8 npG13
    have hlG9 : ∀ b ∈ L, (upd G8 pG13 (.tup [ov, .int 0, .int 3])) b ≠ none := new_all hlG8
    have hopG13 : (upd G8 pG13 (.tup [ov, .int 0, .int 3])) pG13 = some (.tup [ov, .int 0, .int 3]) := upd_same
    generalize upd G8 pG13 (.tup [ov, .int 0, .int 3]) = G9 at ksG9 hRG9 hlG9 hopG13 ⊢
    have tpG13 : Th L G9 2 1000 (.ref pG13) := (Th.tup nLpG13 hopG13 (n := 1) (m := 240) (allC ((thov.kp ((((((ksG4).trans ksG5).trans ksG6).trans ksG7).trans ksG8).trans ksG9) hrL)) (allC (Th.int (by decide) (by decide)) (allC (Th.int (by decide) (by decide)) all0)))).mono (by decide) (Nat.le_of_ble_eq_true rfl)
    refine ⟨ov, rfl, (by show 3 ≤ sizeLine; decide), fun pG14 npG14 => ?_⟩
    have nLpG14 : pG14 ∉ L := fun z => hlG9 pG14 z npG14
    have ksG10 : Kp r G9 (upd G9 pG14 (.tup [ov, .int 3, .int 3])) := Kp.new Kp.rfl' npG14
    have hRG10 : (upd G9 pG14 (.tup [ov, .int 3, .int 3])) r = some (.lst [.int nG8]) := keep_new hRG9 npG14
    have hlG10 : ∀ b ∈ L, (upd G9 pG14 (.tup [ov, .int 3, .int 3])) b ≠ none := new_all hlG9
    have hopG14 : (upd G9 pG14 (.tup [ov, .int 3, .int 3])) pG14 = some (.tup [ov, .int 3, .int 3]) := upd_same
    generalize upd G9 pG14 (.tup [ov, .int 3, .int 3]) = G10 at ksG10 hRG10 hlG10 hopG14 ⊢
    have tpG14 : Th L G10 2 1000 (.ref pG14) := (Th.tup nLpG14 hopG14 (n := 1) (m := 240) (allC ((thov.kp (((((((ksG4).trans ksG5).trans ksG6).trans ksG7).trans ksG8).trans ksG9).trans ksG10) hrL)) (allC (Th.int (by decide) (by decide)) (allC (Th.int (by decide) (by decide)) all0)))).mono (by decide) (Nat.le_of_ble_eq_true rfl)
    refine ⟨sg c, rfl, (by show 3 ≤ sizeLine; decide), fun pG15 npG15 => ?_⟩
    have nLpG15 : pG15 ∉ L := fun z => hlG10 pG15 z npG15
    have ksG11 : Kp r G10 (upd G10 pG15 (.tup [sg c, .int 0, .bl true])) := Kp.new Kp.rfl' npG15
    have hRG11 : (upd G10 pG15 (.tup [sg c, .int 0, .bl true])) r = some (.lst [.int nG8]) := keep_new hRG10 npG15
    have hlG11 : ∀ b ∈ L, (upd G10 pG15 (.tup [sg c, .int 0, .bl true])) b ≠ none := new_all hlG10
    have hopG15 : (upd G10 pG15 (.tup [sg c, .int 0, .bl true])) pG15 = some (.tup [sg c, .int 0, .bl true]) := upd_same
    generalize upd G10 pG15 (.tup [sg c, .int 0, .bl true]) = G11 at ksG11 hRG11 hlG11 hopG15 ⊢
    have tpG15 : Th L G11 2 1000 (.ref pG15) := (Th.tup nLpG15 hopG15 (n := 1) (m := 240) (allC (Th.tx (l := [c]) (fun x h => by simp at h; omega) (Nat.le_of_ble_eq_true rfl)) (allC (Th.int (by decide) (by decide)) (allC (Th.bl true) all0)))).mono (by decide) (Nat.le_of_ble_eq_true rfl)
    refine ⟨sg c, rfl, (by show 3 ≤ sizeLine; decide), fun pG16 npG16 => ?_⟩
    have nLpG16 : pG16 ∉ L := fun z => hlG11 pG16 z npG16
    have ksG12 : Kp r G11 (upd G11 pG16 (.tup [sg c, .int 0, .bl false])) := Kp.new Kp.rfl' npG16
    have hRG12 : (upd G11 pG16 (.tup [sg c, .int 0, .bl false])) r = some (.lst [.int nG8]) := keep_new hRG11 npG16
    have hlG12 : ∀ b ∈ L, (upd G11 pG16 (.tup [sg c, .int 0, .bl false])) b ≠ none := new_all hlG11
    have hopG16 : (upd G11 pG16 (.tup [sg c, .int 0, .bl false])) pG16 = some (.tup [sg c, .int 0, .bl false]) := upd_same
    generalize upd G11 pG16 (.tup [sg c, .int 0, .bl false]) = G12 at ksG12 hRG12 hlG12 hopG16 ⊢
    have tpG16 : Th L G12 2 1000 (.ref pG16) := (Th.tup nLpG16 hopG16 (n := 1) (m := 240) (allC (Th.tx (l := [c]) (fun x h => by simp at h; omega) (Nat.le_of_ble_eq_true rfl)) (allC (Th.int (by decide) (by decide)) (allC (Th.bl false) all0)))).mono (by decide) (Nat.le_of_ble_eq_true rfl)
    refine ⟨sg c, rfl, (by show 3 ≤ sizeLine; decide), fun pG17 npG17 => ?_⟩
    have nLpG17 : pG17 ∉ L := fun z => hlG12 pG17 z npG17
    have ksG13 : Kp r G12 (upd G12 pG17 (.tup [sg c, .bl false, .int 3])) := Kp.new Kp.rfl' npG17
    have hRG13 : (upd G12 pG17 (.tup [sg c, .bl false, .int 3])) r = some (.lst [.int nG8]) := keep_new hRG12 npG17
    have hlG13 : ∀ b ∈ L, (upd G12 pG17 (.tup [sg c, .bl false, .int 3])) b ≠ none := new_all hlG12
    have hopG17 : (upd G12 pG17 (.tup [sg c, .bl false, .int 3])) pG17 = some (.tup [sg c, .bl false, .int 3]) := upd_same
    generalize upd G12 pG17 (.tup [sg c, .bl false, .int 3]) = G13 at ksG13 hRG13 hlG13 hopG17 ⊢
    have tpG17 : Th L G13 2 1000 (.ref pG17) := (Th.tup nLpG17 hopG17 (n := 1) (m := 240) (allC (Th.tx (l := [c]) (fun x h => by simp at h; omega) (Nat.le_of_ble_eq_true rfl)) (allC (Th.bl false) (allC (Th.int (by decide) (by decide)) all0)))).mono (by decide) (Nat.le_of_ble_eq_true rfl)
    refine ⟨(by show 5 ≤ sizeLine; decide), fun pG18 npG18 => ?_⟩
    have nLpG18 : pG18 ∉ L := fun z => hlG13 pG18 z npG18
    have ksG14 : Kp r G13 (upd G13 pG18 (.lst [.ref pG13, .ref pG14, .ref pG15, .ref pG16, .ref pG17])) := Kp.new Kp.rfl' npG18
    have hRG14 : (upd G13 pG18 (.lst [.ref pG13, .ref pG14, .ref pG15, .ref pG16, .ref pG17])) r = some (.lst [.int nG8]) := keep_new hRG13 npG18
    have hlG14 : ∀ b ∈ L, (upd G13 pG18 (.lst [.ref pG13, .ref pG14, .ref pG15, .ref pG16, .ref pG17])) b ≠ none := new_all hlG13
    have hopG18 : (upd G13 pG18 (.lst [.ref pG13, .ref pG14, .ref pG15, .ref pG16, .ref pG17])) pG18 = some (.lst [.ref pG13, .ref pG14, .ref pG15, .ref pG16, .ref pG17]) := upd_same
    generalize upd G13 pG18 (.lst [.ref pG13, .ref pG14, .ref pG15, .ref pG16, .ref pG17]) = G14 at ksG14 hRG14 hlG14 hopG18 ⊢
    refine ⟨.ref r, rfl, r, nG8, 8, rfl, hRG14, by decide, by decide, fun dG19 nG20 dG19_0 dG19_1 => ?_⟩
    have ksG15 : Kp r G14 (upd G14 r (.lst [.int nG20])) := Kp.own Kp.rfl'
    have hRG15 : (upd G14 r (.lst [.int nG20])) r = some (.lst [.int nG20]) := upd_same
    have hlG15 : ∀ b ∈ L, (upd G14 r (.lst [.int nG20])) b ≠ none := new_all hlG14
    generalize upd G14 r (.lst [.int nG20]) = G15 at ksG15 hRG15 hlG15 ⊢
    refine ⟨.ref r, rfl, .ref ea, rfl, ea, es, rfl, .inr (.inl (.inl ((((((((((((((((ksG1).trans ksG2).trans ksG3).trans ksG4).trans ksG5).trans ksG6).trans ksG7).trans ksG8).trans ksG9).trans ksG10).trans ksG11).trans ksG12).trans ksG13).trans ksG14).trans ksG15) _ _ (ne_in nLea hrL) hoea))), _, 1, rfl, rfl, r, nG20, _, rfl, hRG15, by omega, by omega, fun dG21 nG22 dG21_0 dG21_1 => ?_⟩
    have ksG16 : Kp r G15 (upd G15 r (.lst [.int nG22])) := Kp.own Kp.rfl'
    have hRG16 : (upd G15 r (.lst [.int nG22])) r = some (.lst [.int nG22]) := upd_same
    have hlG16 : ∀ b ∈ L, (upd G15 r (.lst [.int nG22])) b ≠ none := new_all hlG15
    generalize upd G15 r (.lst [.int nG22]) = G16 at ksG16 hRG16 hlG16 ⊢
    obtain ⟨m, em⟩ : ∃ m : Nat, dG21 = (m : Int) := ⟨dG21.toNat, by omega⟩
    subst em
    refine ⟨.int dG19, rfl, _, 3, rfl, rfl, _, rfl, ite2 (fun e1 => ?_) (fun e1 => ?_)⟩
    · have hw2 : dG19 < 3 := of_decide_eq_true e1
      refine ⟨.ref ea, rfl, .int m, rfl, _, rfl, ea, es, rfl, ((((((((((((((((ksG1).trans ksG2).trans ksG3).trans ksG4).trans ksG5).trans ksG6).trans ksG7).trans ksG8).trans ksG9).trans ksG10).trans ksG11).trans ksG12).trans ksG13).trans ksG14).trans ksG15).trans ksG16) _ _ (ne_in nLea hrL) hoea, fun s1 HS1 sm1 ns1 hs1 => ?_⟩
      rw [cut_to] at hs1
      have nLs1 : s1 ∉ L := fun z => by
        rcases ns1 with y | y
        · exact hlG16 s1 z y
        · exact nLea (y ▸ z)
      have ksG17 : Kp r G16 HS1 := fun b o _ h => sm1 b o h
      have hRG17 : HS1 r = some (.lst [.int nG22]) := sm1 _ _ hRG16
      have hlG17 : ∀ b ∈ L, HS1 b ≠ none := same_all hlG16 sm1
      obtain ⟨G17, rfl⟩ : ∃ G, G = HS1 := ⟨_, rfl⟩
      have hos1 := hs1
      obtain ⟨pv, atpv, thpv⟩ := Th.at (L := L) (H := G17) (n := 2) (m := 1000) (vs := [.ref pG9, .ref pG10, .ref pG11]) (allC ((tpG9.kp ((((((((((((ksG6).trans ksG7).trans ksG8).trans ksG9).trans ksG10).trans ksG11).trans ksG12).trans ksG13).trans ksG14).trans ksG15).trans ksG16).trans ksG17) hrL)) (allC ((tpG10.kp (((((((((((ksG7).trans ksG8).trans ksG9).trans ksG10).trans ksG11).trans ksG12).trans ksG13).trans ksG14).trans ksG15).trans ksG16).trans ksG17) hrL)) (allC ((tpG11.kp ((((((((((ksG8).trans ksG9).trans ksG10).trans ksG11).trans ksG12).trans ksG13).trans ksG14).trans ksG15).trans ksG16).trans ksG17) hrL)) all0))) dG19_0 (show dG19 < ((3 : Nat) : Int) from hw2)
      refine ⟨.ref pG12, rfl, .int dG19, rfl, pG12, _, dG19, pv, rfl, rfl, .inl (.inl ((((((((((ksG9).trans ksG10).trans ksG11).trans ksG12).trans ksG13).trans ksG14).trans ksG15).trans ksG16).trans ksG17) _ _ (ne_in nLpG12 hrL) hopG12)), atpv, (by show 1 ≤ sizeLine; decide), fun pG23 npG23 => ?_⟩
      have nLpG23 : pG23 ∉ L := fun z => hlG17 pG23 z npG23
      have ksG18 : Kp r G17 (upd G17 pG23 (.tup [pv])) := Kp.new Kp.rfl' npG23
      have hRG18 : (upd G17 pG23 (.tup [pv])) r = some (.lst [.int nG22]) := keep_new hRG17 npG23
      have hlG18 : ∀ b ∈ L, (upd G17 pG23 (.tup [pv])) b ≠ none := new_all hlG17
      have hopG23 : (upd G17 pG23 (.tup [pv])) pG23 = some (.tup [pv]) := upd_same
      generalize upd G17 pG23 (.tup [pv]) = G18 at ksG18 hRG18 hlG18 hopG23 ⊢
      refine ⟨s1, pG23, es.take m, [pv], rfl, rfl, (ksG18) _ _ (ne_in nLs1 hrL) hos1, hopG23, ?_, fun s2 HS2 sm2 ns2 hs2 => ?_⟩
      · have := List.length_take_le m es
        exact Nat.le_of_lt (small1000 (show (es.take m).length + 1 ≤ 1000 by omega))
      have nLs2 : s2 ∉ L := fun z => by
        rcases ns2 with y | y | y
        · exact hlG18 s2 z y
        · exact nLs1 (y ▸ z)
        · exact nLpG23 (y ▸ z)
      have ksG19 : Kp r G18 HS2 := fun b o _ h => sm2 b o h
      have hRG19 : HS2 r = some (.lst [.int nG22]) := sm2 _ _ hRG18
      have hlG19 : ∀ b ∈ L, HS2 b ≠ none := same_all hlG18 sm2
      obtain ⟨G19, rfl⟩ : ∃ G, G = HS2 := ⟨_, rfl⟩
      have hos2 := hs2
      refine ⟨.ref ea, rfl, .int m, rfl, .ref r, rfl, r, nG22, 2, rfl, hRG19, by decide, by decide, fun dG24 nG25 dG24_0 dG24_1 => ?_⟩
      have ksG20 : Kp r G19 (upd G19 r (.lst [.int nG25])) := Kp.own Kp.rfl'
      have hRG20 : (upd G19 r (.lst [.int nG25])) r = some (.lst [.int nG25]) := upd_same
      have hlG20 : ∀ b ∈ L, (upd G19 r (.lst [.int nG25])) b ≠ none := new_all hlG19
      generalize upd G19 r (.lst [.int nG25]) = G20 at ksG20 hRG20 hlG20 ⊢
      refine ⟨_, _, rfl, rfl, _, rfl, ea, es, rfl, ((((((((((((((((((((ksG1).trans ksG2).trans ksG3).trans ksG4).trans ksG5).trans ksG6).trans ksG7).trans ksG8).trans ksG9).trans ksG10).trans ksG11).trans ksG12).trans ksG13).trans ksG14).trans ksG15).trans ksG16).trans ksG17).trans ksG18).trans ksG19).trans ksG20) _ _ (ne_in nLea hrL) hoea, fun s3 HS3 sm3 ns3 hs3 => ?_⟩
      have nLs3 : s3 ∉ L := fun z => by
        rcases ns3 with y | y
        · exact hlG20 s3 z y
        · exact nLea (y ▸ z)
      have ksG21 : Kp r G20 HS3 := fun b o _ h => sm3 b o h
      have hRG21 : HS3 r = some (.lst [.int nG25]) := sm3 _ _ hRG20
      have hlG21 : ∀ b ∈ L, HS3 b ≠ none := same_all hlG20 sm3
      obtain ⟨G21, rfl⟩ : ∃ G, G = HS3 := ⟨_, rfl⟩
      have hos3 := hs3
      have hcv : ∀ v ∈ cutV es (some ((m : Int) + dG24)) none, v ∈ es := fun v hv => by
        unfold cutV at hv
        exact List.mem_of_mem_drop (List.mem_of_mem_take hv)
      have hcl2 : (cutV es (some ((m : Int) + dG24)) none).length ≤ es.length := cutV_length _ _ _
      generalize cutV es (some ((m : Int) + dG24)) none = cs at hcv hcl2 hos3
      refine ⟨s2, s3, es.take m ++ [pv], cs, rfl, rfl, ((ksG20).trans ksG21) _ _ (ne_in nLs2 hrL) hos2, hos3, ?_, fun s4 HS4 sm4 ns4 hs4 => ?_⟩
      · have h1 := List.length_take_le m es
        rw [List.length_append]
        exact Nat.le_of_lt (small1000 (show (es.take m).length + 1 + cs.length ≤ 1000 by omega))
      have nLs4 : s4 ∉ L := fun z => by
        rcases ns4 with y | y | y
        · exact hlG21 s4 z y
        · exact nLs2 (y ▸ z)
        · exact nLs3 (y ▸ z)
      have ksG22 : Kp r G21 HS4 := fun b o _ h => sm4 b o h
      have hRG22 : HS4 r = some (.lst [.int nG25]) := sm4 _ _ hRG21
      have hlG22 : ∀ b ∈ L, HS4 b ≠ none := same_all hlG21 sm4
      obtain ⟨G22, rfl⟩ : ∃ G, G = HS4 := ⟨_, rfl⟩
      have hl4 : (es.take m ++ [pv] ++ cs).length ≤ 60 := by
        have h1 := List.length_take_le m es
        rw [List.length_append, List.length_append]
        have h2 : [pv].length = 1 := rfl
        omega
      have ths4 : Th L G22 3 61000 (.ref s4) := (Th.tup nLs4 hs4 (n := 2) (m := 1000) (allApp (allApp (fun v hv => (the v (List.mem_of_mem_take hv)).kp ((((((((((((((((((((((ksG1).trans ksG2).trans ksG3).trans ksG4).trans ksG5).trans ksG6).trans ksG7).trans ksG8).trans ksG9).trans ksG10).trans ksG11).trans ksG12).trans ksG13).trans ksG14).trans ksG15).trans ksG16).trans ksG17).trans ksG18).trans ksG19).trans ksG20).trans ksG21).trans ksG22) hrL) (all1 (thpv.kp (((((ksG18).trans ksG19).trans ksG20).trans ksG21).trans ksG22) hrL))) (fun v hv => (the v (hcv v hv)).kp ((((((((((((((((((((((ksG1).trans ksG2).trans ksG3).trans ksG4).trans ksG5).trans ksG6).trans ksG7).trans ksG8).trans ksG9).trans ksG10).trans ksG11).trans ksG12).trans ksG13).trans ksG14).trans ksG15).trans ksG16).trans ksG17).trans ksG18).trans ksG19).trans ksG20).trans ksG21).trans ksG22) hrL))).mono (by decide) (by omega)
      refine ⟨rv, rfl, (by show 2 ≤ sizeLine; decide), fun pG26 npG26 => ?_⟩
      have nLpG26 : pG26 ∉ L := fun z => hlG22 pG26 z npG26
      have ksG23 : Kp r G22 (upd G22 pG26 (.tup [.ref s4, rv])) := Kp.new Kp.rfl' npG26
      have hRG23 : (upd G22 pG26 (.tup [.ref s4, rv])) r = some (.lst [.int nG25]) := keep_new hRG22 npG26
      have hlG23 : ∀ b ∈ L, (upd G22 pG26 (.tup [.ref s4, rv])) b ≠ none := new_all hlG22
      have hopG26 : (upd G22 pG26 (.tup [.ref s4, rv])) pG26 = some (.tup [.ref s4, rv]) := upd_same
      generalize upd G22 pG26 (.tup [.ref s4, rv]) = G23 at ksG23 hRG23 hlG23 hopG26 ⊢
      have thf : Th L G23 10 90000 (.ref pG26) := by
        obtain ⟨d4, f4, sh4, w4⟩ := (ths4.kp (ksG23) hrL)
        obtain ⟨d5, f5, sh5, w5⟩ := (thr.kp (((((((((((((((((((((((ksG1).trans ksG2).trans ksG3).trans ksG4).trans ksG5).trans ksG6).trans ksG7).trans ksG8).trans ksG9).trans ksG10).trans ksG11).trans ksG12).trans ksG13).trans ksG14).trans ksG15).trans ksG16).trans ksG17).trans ksG18).trans ksG19).trans ksG20).trans ksG21).trans ksG22).trans ksG23) hrL)
        exact pair_th nLpG26 hopG26 f4 sh4 w4 f5 sh5 w5
      exact q (.ref pG26) nG25 _ (((((((((((((((((((((((ksG1).trans ksG2).trans ksG3).trans ksG4).trans ksG5).trans ksG6).trans ksG7).trans ksG8).trans ksG9).trans ksG10).trans ksG11).trans ksG12).trans ksG13).trans ksG14).trans ksG15).trans ksG16).trans ksG17).trans ksG18).trans ksG19).trans ksG20).trans ksG21).trans ksG22).trans ksG23) hRG23 thf
    · have hw3 : 0 ≤ dG19 - 3 := by
        have : ¬ dG19 < 3 := fun z => e1 (decide_eq_true z)
        omega
      refine ⟨.ref ea, rfl, .int m, rfl, _, rfl, ea, es, rfl, ((((((((((((((((ksG1).trans ksG2).trans ksG3).trans ksG4).trans ksG5).trans ksG6).trans ksG7).trans ksG8).trans ksG9).trans ksG10).trans ksG11).trans ksG12).trans ksG13).trans ksG14).trans ksG15).trans ksG16) _ _ (ne_in nLea hrL) hoea, fun s1 HS1 sm1 ns1 hs1 => ?_⟩
      rw [cut_to] at hs1
      have nLs1 : s1 ∉ L := fun z => by
        rcases ns1 with y | y
        · exact hlG16 s1 z y
        · exact nLea (y ▸ z)
      have ksG17 : Kp r G16 HS1 := fun b o _ h => sm1 b o h
      have hRG17 : HS1 r = some (.lst [.int nG22]) := sm1 _ _ hRG16
      have hlG17 : ∀ b ∈ L, HS1 b ≠ none := same_all hlG16 sm1
      obtain ⟨G17, rfl⟩ : ∃ G, G = HS1 := ⟨_, rfl⟩
      have hos1 := hs1
      have ths1 : Th L G17 3 30000 (.ref s1) := (Th.tup nLs1 hs1 (n := 2) (m := 1000) (fun v hv => (the v (List.mem_of_mem_take hv)).kp (((((((((((((((((ksG1).trans ksG2).trans ksG3).trans ksG4).trans ksG5).trans ksG6).trans ksG7).trans ksG8).trans ksG9).trans ksG10).trans ksG11).trans ksG12).trans ksG13).trans ksG14).trans ksG15).trans ksG16).trans ksG17) hrL)).mono (by decide) (by have := List.length_take_le m es; omega)
      obtain ⟨qv, atqv, thqv⟩ := Th.at (L := L) (H := G17) (n := 2) (m := 1000) (vs := [.ref pG13, .ref pG14, .ref pG15, .ref pG16, .ref pG17]) (allC ((tpG13.kp ((((((((ksG10).trans ksG11).trans ksG12).trans ksG13).trans ksG14).trans ksG15).trans ksG16).trans ksG17) hrL)) (allC ((tpG14.kp (((((((ksG11).trans ksG12).trans ksG13).trans ksG14).trans ksG15).trans ksG16).trans ksG17) hrL)) (allC ((tpG15.kp ((((((ksG12).trans ksG13).trans ksG14).trans ksG15).trans ksG16).trans ksG17) hrL)) (allC ((tpG16.kp (((((ksG13).trans ksG14).trans ksG15).trans ksG16).trans ksG17) hrL)) (allC ((tpG17.kp ((((ksG14).trans ksG15).trans ksG16).trans ksG17) hrL)) all0))))) hw3 (show dG19 - 3 < ((5 : Nat) : Int) by omega)
      refine ⟨.ref pG18, rfl, .int dG19, rfl, _, 3, rfl, rfl, pG18, _, _, qv, rfl, rfl, .inl (.inl ((((ksG15).trans ksG16).trans ksG17) _ _ (ne_in nLpG18 hrL) hopG18)), atqv, (by show 2 ≤ sizeLine; decide), fun pG23 npG23 => ?_⟩
      have nLpG23 : pG23 ∉ L := fun z => hlG17 pG23 z npG23
      have ksG18 : Kp r G17 (upd G17 pG23 (.tup [.ref s1, qv])) := Kp.new Kp.rfl' npG23
      have hRG18 : (upd G17 pG23 (.tup [.ref s1, qv])) r = some (.lst [.int nG22]) := keep_new hRG17 npG23
      have hlG18 : ∀ b ∈ L, (upd G17 pG23 (.tup [.ref s1, qv])) b ≠ none := new_all hlG17
      have hopG23 : (upd G17 pG23 (.tup [.ref s1, qv])) pG23 = some (.tup [.ref s1, qv]) := upd_same
      generalize upd G17 pG23 (.tup [.ref s1, qv]) = G18 at ksG18 hRG18 hlG18 hopG23 ⊢
      exact q (.ref pG23) nG22 _ ((((((((((((((((((ksG1).trans ksG2).trans ksG3).trans ksG4).trans ksG5).trans ksG6).trans ksG7).trans ksG8).trans ksG9).trans ksG10).trans ksG11).trans ksG12).trans ksG13).trans ksG14).trans ksG15).trans ksG16).trans ksG17).trans ksG18) hRG18 ((Th.tup nLpG23 hopG23 (n := 3) (m := 30000) (allC ((ths1.kp (ksG18) hrL)) (allC ((thqv.kp (ksG18) hrL).mono (by decide) (Nat.le_of_ble_eq_true rfl)) all0))).mono (by decide) (Nat.le_of_ble_eq_true rfl))

/-! ### the law -/
def spLaw (K : PySem.W.Frag) (Z : Ad) : Sp := fun vs H Q _ => ∃ (a : Addr) (ns : List Int), vs = [.ref a] ∧ SqL K H a (ns.map V.int) ∧ ns.length ≤ 63 ∧ (∀ P ∈ Z.Ps, GxR.TabG H P) ∧ ∀ H', Q (.bl true) H'
set_option maxHeartbeats 16000000 in
theorem ok_law0 (T : Tx K mg Z) (TB : Tb base mg Z) (G_l_bent : FnOk P w K mg base CX0 2 Z.f_l_bent Z.d_l_bent ["reel", "columns", "question"] (spBent K)) (G_l_bent_more : FnOk P w K mg base CX0 2 Z.f_l_bent_more Z.d_l_bent_more ["reel", "columns", "question"] (spBent K)) : FnG P w K mg base 10 Z.f_law Z.d_law ["script"] (spLaw K Z) := by
  have G_l_reel : FnOk P w K mg base CX0 1 Z.f_l_reel Z.d_l_reel ["script", "k"] (spReel K) := ok_reel T
  have G_l_pick : FnOk P w K mg base CX0 1 Z.f_l_pick Z.d_l_pick ["reel", "many"] (spPick K) := ok_pick T
  have G_l_table : FnOk P w K mg base CX0 3 Z.f_l_table Z.d_l_table ["reel", "most", "rows"] (spTable K) := ok_table T
  have G_l_question : FnOk P w K mg base CX0 3 Z.f_l_question Z.d_l_question ["reel", "table"] (spQuestion K) := ok_question T
  have G_is_question : FnOk P w K mg base CX0 8 Z.f_is_question Z.d_is_question ["columns", "thing"] (spIsQ K Z) := ok_isq T TB
  have G_l_is_question : FnOk P w K mg base CX0 2 Z.f_l_is_question Z.d_l_is_question ["columns", "thing"] spLisQ := ok_lisq T
  refine okG T.F_law sc_law (fun vs H Q E h => ?_) (fun cdv A outer s H vs Q E hgd hr h => ?_)
  · obtain ⟨a, ns, rfl, _⟩ := h
    rfl
  · obtain ⟨a, ns, rfl, hS, hlen, tgA, q⟩ := h
    have tg : TG Z.Ps H := tgA
    refine ⟨_, (pss_cons (ps_for PassesOwn.never rfl (pi_range1 (by rfl) T.m_range (pa_cons (pe_callB (call_max2 rfl) (by rfl) T.m_max (by decide +kernel) (pa_cons pe_int (pa_cons (pe_callB (call_min2 rfl) (by rfl) T.m_min (by decide +kernel) (pa_cons pe_int (pa_cons (pe_callB (cLenSq K) (by rfl) T.m_len (by decide +kernel) (pa_cons (pv 0) pa_nil)) pa_nil))) pa_nil))) pa_nil)) (pg_name (i := 1) sc_law.nd rfl (.inl rfl)) (pss_cons (ps_set (i := 2) sc_law.nd rfl (.inr rfl) (pe_call G_l_reel (hr.mono (by omega)) (by rfl) T.g_l_reel T.F_l_reel.kp T.b_l_reel .nil pass0 (pa_cons (pv 0) (pa_cons (pv 1) pa_nil))))
      (pss_cons (ps_set (i := 3) sc_law.nd rfl (.inr rfl) (pe_call G_l_table (hr.mono (by omega)) (by rfl) T.g_l_table T.F_l_table.kp T.b_l_table .nil pass0 (pa_cons (pv 2) (pa_cons pe_int (pa_cons pe_int pa_nil)))))
      (pss_cons (ps_set (i := 4) sc_law.nd rfl (.inr rfl) (pe_call G_l_question (hr.mono (by omega)) (by rfl) T.g_l_question T.F_l_question.kp T.b_l_question .nil pass0 (pa_cons (pv 2) (pa_cons (pv 3) pa_nil))))
      (pss_cons (ps_if (pt_cmpR op_isnot_bl (pe_call G_is_question (hr.mono (by omega)) (by rfl) T.g_is_question T.F_is_question.kp T.b_is_question .nil pass0 (pa_cons (pe_ix (ixT K) (pv 3) pe_int (fun _ _ => rfl)) (pa_cons (pv 4) pa_nil))) pe_bl (nomark _)) (pss_one (ps_ret pe_bl)) pss_nil)
      (pss_cons (ps_setLc (i := 6) (own := [("turn", 5)]) (tt := tYes) (by rfl) sc_law.nd rfl rfl (sw_true rfl rfl rfl (by decide +kernel)) (pi_range1 (by rfl) T.m_range (pa_cons pe_int pa_nil)) (blkOk_by (own := [("turn", 5)]) (by kernel_rfl)) (fun _ _ _ _ _ => (pg_name (i := 5) sc_law.nd rfl (.inl rfl))) (fun _ _ _ _ _ => pts_nil) (fun _ _ _ _ _ => (pe_call G_l_bent (hr.mono (by omega)) (by rfl) T.g_l_bent T.F_l_bent.kp T.b_l_bent .nil pass0 (pa_cons (pv 2) (pa_cons (pe_ix (ixT K) (pv 3) pe_int (fun _ _ => rfl)) (pa_cons (pv 4) pa_nil))))))
      (pss_cons (ps_for PassesOwn.never rfl (piL K (pe_op op_cat (pv 6) (pe_lst (pa_cons (pe_tup (pa_cons (pe_tup pa_nil) (pa_cons pe_non pa_nil))) (pa_cons pe_non (pa_cons pe_bl (pa_cons (pe_tup pa_nil) (pa_cons (pe_tup (pa_cons (pe_tup pa_nil) (pa_cons (pe_tup pa_nil) pa_nil))) (pa_cons pe_str (pa_cons pe_int (pa_cons (pe_lst (pa_cons (pe_tup pa_nil) (pa_cons pe_non pa_nil))) pa_nil))))))))))) (pg_name (i := 7) sc_law.nd rfl (.inl rfl)) (pss_cons (ps_set (i := 8) sc_law.nd rfl (.inl rfl) (pe_callB (cReprK K hgd hr) (by rfl) T.m_repr (by decide +kernel) (pa_cons (pv 7) pa_nil)))
      (pss_cons (ps_set (i := 9) sc_law.nd rfl (.inl rfl) (pe_call G_is_question (hr.mono (by omega)) (by rfl) T.g_is_question T.F_is_question.kp T.b_is_question .nil pass0 (pa_cons (pe_ix (ixT K) (pv 3) pe_int (fun _ _ => rfl)) (pa_cons (pv 7) pa_nil))))
      (pss_mid (ps_if (PW.pt (pw_or (pt_not (pt_val (pe_callB (isiK K) (by rfl) T.m_isinstance (by decide +kernel) (pa_cons (pv 9) (pa_cons (pe_bltn (v := .ty "bool") (by rfl) T.m_bool (by decide +kernel) rfl) pa_nil))))) (pw_or1 (pt_cmpR op_ne (pe_callB (cReprK K hgd hr) (by rfl) T.m_repr (by decide +kernel) (pa_cons (pv 7) pa_nil)) (pv 8) (nomark _))))) (pss_one (ps_ret pe_bl)) pss_nil)
      (pss_one (ps_if (pt_cmpR op_ne (pv 9) (pe_call G_l_is_question (hr.mono (by omega)) (by rfl) T.g_l_is_question T.F_l_is_question.kp T.b_l_is_question .nil pass0 (pa_cons (pe_ix (ixT K) (pv 3) pe_int (fun _ _ => rfl)) (pa_cons (pv 7) pa_nil))) (nomark _)) (pss_one (ps_ret pe_bl)) pss_nil))))))
      (pss_one (ps_for PassesOwn.never rfl (pi_range1 (by rfl) T.m_range (pa_cons pe_int pa_nil)) (pg_name (i := 5) sc_law.nd rfl (.inl rfl)) (pss_cons (ps_set (i := 7) sc_law.nd rfl (.inl rfl) (pe_call G_l_bent_more (hr.mono (by omega)) (by rfl) T.g_l_bent_more T.F_l_bent_more.kp T.b_l_bent_more .nil pass0 (pa_cons (pv 2) (pa_cons (pe_ix (ixT K) (pv 3) pe_int (fun _ _ => rfl)) (pa_cons (pv 4) pa_nil)))))
      (pss_cons (ps_set (i := 9) sc_law.nd rfl (.inl rfl) (pe_call G_is_question (hr.mono (by omega)) (by rfl) T.g_is_question T.F_is_question.kp T.b_is_question .nil pass0 (pa_cons (pe_ix (ixT K) (pv 3) pe_int (fun _ _ => rfl)) (pa_cons (pv 7) pa_nil))))
      (pss_one (ps_if (PW.pt (pw_or (pt_not (pt_val (pe_callB (isiK K) (by rfl) T.m_isinstance (by decide +kernel) (pa_cons (pv 9) (pa_cons (pe_bltn (v := .ty "bool") (by rfl) T.m_bool (by decide +kernel) rfl) pa_nil))))) (pw_or1 (pt_cmpR op_ne (pv 9) (pe_call G_l_is_question (hr.mono (by omega)) (by rfl) T.g_l_is_question T.F_l_is_question.kp T.b_l_is_question .nil pass0 (pa_cons (pe_ix (ixT K) (pv 3) pe_int (fun _ _ => rfl)) (pa_cons (pv 7) pa_nil))) (nomark _))))) (pss_one (ps_ret pe_bl)) pss_nil)))))))))))))
      (pss_one (ps_ret pe_bl))), ?_⟩
    refine ⟨.ref a, rfl, a, _, rfl, .inl hS, 10, _, rfl, 3, _, rfl, _, rfl, ?_, ?_, ?_⟩
    · split <;> (try split) <;> omega
    · split <;> (try split) <;> omega
    generalize hN : (if (if ((ns.map V.int).length : Int) < 10 then ((ns.map V.int).length : Int) else 10) > 3 then (if ((ns.map V.int).length : Int) < 10 then ((ns.map V.int).length : Int) else 10) else 3).toNat = N
    have hN8 : N ≤ 10 := by
      rw [← hN]
      split <;> (try split) <;> omega
    refine for_range (fun i σ H' => ∃ y1 y2 y3 y4 y5 y6 y7 y8 y9 : Option V, σ = [some (.ref a), y1, y2, y3, y4, y5, y6, y7, y8, y9] ∧ SqL K H' a (ns.map V.int) ∧ TG Z.Ps H') ⟨none, none, none, none, none, none, none, none, none, rfl, hS, tg⟩ (fun i σ H0 hi hP => ?_) (fun σ H0 hP => q H0)
    obtain ⟨y1, y2, y3, y4, y5, y6, y7, y8, y9, rfl, hS0, tg0⟩ := hP
    -- reel
    refine ⟨.ref a, rfl, _, rfl, a, ns, i, by rw [Int.zero_add]; rfl, hS0, by omega, fun n0 r nr => ?_⟩
    have sm1 : Same H0 (upd H0 r (.lst [.int n0])) := Same.new (Same.refl H0) nr
    have hR1 : (upd H0 r (.lst [.int n0])) r = some (.lst [.int n0]) := upd_same
    generalize upd H0 r (.lst [.int n0]) = H1 at sm1 hR1 ⊢
    have kpx : ∀ {G G' : Hp}, Sx Z.Ps H0 G → Kp r G G' → Sx Z.Ps H0 G' := fun s k b o nb h => k b o (ne_of_none h nr) (s b o nb h)
    refine ⟨.ref r, rfl, r, n0, 6, 5, rfl, hR1, by decide, by decide, by decide, fun cols rows tv n2 H2 kp2 hR2 fT hc hc1 hc2 hrs hrn => ?_⟩
    obtain ⟨t, R, tvs, rfl, ht, hRR, fvs⟩ := tab_open fT
    refine ⟨.ref r, rfl, .ref t, rfl, r, n2, .ref t, cols, rows, rfl, hR2, fT, hc, hc1, by omega, hrs, by omega, fun es rc qv n3 H3 kp3 hR3 fq hqok => ?_⟩
    have sm3 : Same H0 H3 := Same.kpN (Same.kpN sm1 nr kp2) nr kp3
    have tg3 : TG Z.Ps H3 := tg0.same sm3
    have ht3 : H3 t = some (.tup [tx cols, .ref R]) := (kp3.kT hR2).1 _ _ ht
    have hcc : ∀ c ∈ cols, c < 1000 := fun c h => by
      have := (hc.az c h).2
      omega
    have htu := notup_all hR3 tg3
    have hld := held_all hR3 tg3
    have ntL : t ∉ r :: Z.Ps := fun z => htu t z _ ht3
    have hPs : ∀ b ∈ Z.Ps, b ∈ r :: Z.Ps := fun b h => List.mem_cons_of_mem _ h
    have fqL : Fl (r :: Z.Ps) H3 qv (qD es rc) := Fz.fl htu fq
    obtain ⟨shq, wdq⟩ := quest_sh hqok hcc (by omega)
    obtain ⟨qa, ea, us, rv, rfl, nqa, nea, hqa, hea, husl, the, thr⟩ := quest_th hqok hcc fqL
    have hul : us.length ≤ 26 := by
      have := hqok.len
      omega
    -- the question itself
    refine ⟨.ref t, rfl, t, [tx cols, .ref R], 0, tx cols, rfl, rfl, .inl (.inl (ht3)), rfl, .ref qa, rfl, cols, .ref qa, qD es rc, rfl, tg3, fqL.sub hPs, shq, wdq, fun H4 sx4 tg4 => ?_⟩
    refine ⟨_, true, rfl, rfl, _, rfl, ite2 (fun e => ?_) (fun e => ?_)⟩
    · exfalso
      rw [isQ_drawn hqok] at e
      exact absurd e (by decide)
    have kx4 : Kx (r :: Z.Ps) H3 H4 := Kx.sx sx4 hPs
    have hR4 : H4 r = some (.lst [.int n3]) := sx4.lst tg3 hR3
    have hld4 := held_all hR4 tg4
    have sx04 : Sx Z.Ps H0 H4 := (Same.sx sm3).trans sx4
    -- six bent ones
    refine ⟨6, rfl, by decide, by decide, fun D nD => ?_⟩
    have nDL : D ∉ r :: Z.Ps := fun z => hld4 D z nD
    have nDr : D ≠ r := (ne_of_none hR4 nD).symm
    have nD0 : H0 D = none := Sx.free tg4 sx04 nD
    have ht4 : H4 t = some (.tup [tx cols, .ref R]) := kx4 _ _ ntL ht3
    have hqa4 := kx4 _ _ nqa hqa
    have hea4 := kx4 _ _ nea hea
    have ntD : t ≠ D := ne_of_none ht4 nD
    have nqD : qa ≠ D := ne_of_none hqa4 nD
    have neD : ea ≠ D := ne_of_none hea4 nD
    have ntL' : t ∉ D :: r :: Z.Ps := fun z => (List.mem_cons.mp z).elim ntD ntL
    have nqa' : qa ∉ D :: r :: Z.Ps := fun z => (List.mem_cons.mp z).elim nqD nqa
    have nea' : ea ∉ D :: r :: Z.Ps := fun z => (List.mem_cons.mp z).elim neD nea
    have hrL : r ∈ D :: r :: Z.Ps := by simp
    have hPs' : ∀ b ∈ Z.Ps, b ∈ D :: r :: Z.Ps := fun b h => List.mem_cons_of_mem _ (hPs b h)
    have the5 : ∀ v ∈ us, Th (D :: r :: Z.Ps) (upd H4 D (.lst [])) 2 1000 v := fun v hv => ((the v hv).kx kx4).fresh nD
    have thr5 : Th (D :: r :: Z.Ps) (upd H4 D (.lst [])) 2 1000 rv := (thr.kx kx4).fresh nD
    have ht5 : (upd H4 D (.lst [])) t = some (.tup [tx cols, .ref R]) := keep_new ht4 nD
    have hqa5 : (upd H4 D (.lst [])) qa = some (.tup [.ref ea, rv]) := keep_new hqa4 nD
    have hea5 : (upd H4 D (.lst [])) ea = some (.tup us) := keep_new hea4 nD
    have sx5 : Sx Z.Ps H0 (upd H4 D (.lst [])) := sx04.new nD
    have tg5 : TG Z.Ps (upd H4 D (.lst [])) := tg4.new nD
    have hR5 : (upd H4 D (.lst [])) r = some (.lst [.int n3]) := keep_new hR4 nD
    have hD5 : (upd H4 D (.lst [])) D = some (.lst []) := upd_same
    obtain ⟨H5, eH5⟩ : ∃ G, upd H4 D (.lst []) = G := ⟨_, rfl⟩
    rw [eH5] at the5 thr5 ht5 hqa5 hea5 sx5 tg5 hR5 hD5
    refine lc_range (fun i H' => ∃ (n' : Int) (vs' : List V), Sx Z.Ps H0 H' ∧ TG Z.Ps H' ∧ Kx (D :: r :: Z.Ps) H5 H' ∧ H' r = some (.lst [.int n']) ∧ H' D = some (.lst vs') ∧ vs'.length = i ∧ ∀ v ∈ vs', Th (D :: r :: Z.Ps) H' 10 90000 v)
      ⟨n3, [], by rw [eH5]; exact sx5, by rw [eH5]; exact tg5, by rw [eH5]; exact Kx.rfl', by rw [eH5]; exact hR5, by rw [eH5]; exact hD5, rfl, all0⟩ (fun i HA hi hP => ?_) (fun H6 hP => ?_)
    · obtain ⟨n1, vs1, sxA, tgA, kxA, hRA, hDA, hlA, thA⟩ := hP
      refine ⟨rfl, .ref r, rfl, .ref t, rfl, t, [tx cols, .ref R], 0, tx cols, rfl, rfl, .inl (.inl (kxA _ _ ntL' ht5)), rfl, .ref qa, rfl, D :: r :: Z.Ps, r, n1, cols, qa, ea, us, rv, rfl, hRA, hrL, cons_all hDA (held_all hRA tgA), hc1, by omega, hcc, nqa', nea', kxA _ _ nqa' hqa5, kxA _ _ nea' hea5, hul, (fun v hv => (the5 v hv).kx kxA), thr5.kx kxA, fun v n4 HC kpC hRC thC => ?_⟩
      have hDC : HC D = some (.lst vs1) := kpC _ _ nDr hDA
      have kxm : ∀ o, Kx (D :: r :: Z.Ps) HC (upd HC D o) := fun o b x nb h => keep_ne h (fun z => nb (by rw [z]; simp))
      refine ⟨vs1, hDC, ?_, n4, vs1 ++ [v], (kpx sxA kpC).mut nD0, (tgA.kp hRA kpC).mut hDC, (kxA.trans (Kx.kp kpC hrL)).trans (kxm _), keep_ne hRC (fun z => nDr z.symm), upd_same, ?_, ?_⟩
      · exact small1000 (by omega)
      · rw [List.length_append, hlA]
        rfl
      · exact allApp (fun u hu => ((thA u hu).kx (Kx.kp kpC hrL)).kx (kxm _)) (all1 (thC.kx (kxm _)))
    obtain ⟨n6, vs6, sx6, tg6, kx6, hR6, hD6, hl6, th6⟩ := hP
    have hl6h : ∀ b ∈ (D :: r :: Z.Ps), H6 b ≠ none := cons_all hD6 (held_all hR6 tg6)
    refine ⟨.ref D, rfl, (by show 0 ≤ sizeLine; decide), fun pG1 npG1 => ?_⟩
    have nLpG1 : pG1 ∉ (D :: r :: Z.Ps) := fun z => hl6h pG1 z npG1
    have ksG1 : Kp r H6 (upd H6 pG1 (.tup [])) := Kp.new Kp.rfl' npG1
    have hRG1 : (upd H6 pG1 (.tup [])) r = some (.lst [.int n6]) := keep_new hR6 npG1
    have hlG1 : ∀ b ∈ (D :: r :: Z.Ps), (upd H6 pG1 (.tup [])) b ≠ none := new_all hl6h
    have hopG1 : (upd H6 pG1 (.tup [])) pG1 = some (.tup []) := upd_same
    generalize upd H6 pG1 (.tup []) = G1 at ksG1 hRG1 hlG1 hopG1 ⊢
    have tpG1 : Th (D :: r :: Z.Ps) G1 3 900 (.ref pG1) := (Th.tup nLpG1 hopG1 (n := 0) (m := 0) all0).mono (by decide) (Nat.le_of_ble_eq_true rfl)
    refine ⟨(by show 2 ≤ sizeLine; decide), fun pG2 npG2 => ?_⟩
    have nLpG2 : pG2 ∉ (D :: r :: Z.Ps) := fun z => hlG1 pG2 z npG2
    have ksG2 : Kp r G1 (upd G1 pG2 (.tup [.ref pG1, .non])) := Kp.new Kp.rfl' npG2
    have hRG2 : (upd G1 pG2 (.tup [.ref pG1, .non])) r = some (.lst [.int n6]) := keep_new hRG1 npG2
    have hlG2 : ∀ b ∈ (D :: r :: Z.Ps), (upd G1 pG2 (.tup [.ref pG1, .non])) b ≠ none := new_all hlG1
    have hopG2 : (upd G1 pG2 (.tup [.ref pG1, .non])) pG2 = some (.tup [.ref pG1, .non]) := upd_same
    generalize upd G1 pG2 (.tup [.ref pG1, .non]) = G2 at ksG2 hRG2 hlG2 hopG2 ⊢
    have tpG2 : Th (D :: r :: Z.Ps) G2 4 2000 (.ref pG2) := (Th.tup nLpG2 hopG2 (n := 3) (m := 900) (allC ((tpG1.kp (ksG2) hrL)) (allC (Th.non) all0))).mono (by decide) (Nat.le_of_ble_eq_true rfl)
    refine ⟨(by show 0 ≤ sizeLine; decide), fun pG3 npG3 => ?_⟩
    have nLpG3 : pG3 ∉ (D :: r :: Z.Ps) := fun z => hlG2 pG3 z npG3
    have ksG3 : Kp r G2 (upd G2 pG3 (.tup [])) := Kp.new Kp.rfl' npG3
    have hRG3 : (upd G2 pG3 (.tup [])) r = some (.lst [.int n6]) := keep_new hRG2 npG3
    have hlG3 : ∀ b ∈ (D :: r :: Z.Ps), (upd G2 pG3 (.tup [])) b ≠ none := new_all hlG2
    have hopG3 : (upd G2 pG3 (.tup [])) pG3 = some (.tup []) := upd_same
    generalize upd G2 pG3 (.tup []) = G3 at ksG3 hRG3 hlG3 hopG3 ⊢
    have tpG3 : Th (D :: r :: Z.Ps) G3 3 900 (.ref pG3) := (Th.tup nLpG3 hopG3 (n := 0) (m := 0) all0).mono (by decide) (Nat.le_of_ble_eq_true rfl)
    refine ⟨(by show 0 ≤ sizeLine; decide), fun pG4 npG4 => ?_⟩
    have nLpG4 : pG4 ∉ (D :: r :: Z.Ps) := fun z => hlG3 pG4 z npG4
    have ksG4 : Kp r G3 (upd G3 pG4 (.tup [])) := Kp.new Kp.rfl' npG4
    have hRG4 : (upd G3 pG4 (.tup [])) r = some (.lst [.int n6]) := keep_new hRG3 npG4
    have hlG4 : ∀ b ∈ (D :: r :: Z.Ps), (upd G3 pG4 (.tup [])) b ≠ none := new_all hlG3
    have hopG4 : (upd G3 pG4 (.tup [])) pG4 = some (.tup []) := upd_same
    generalize upd G3 pG4 (.tup []) = G4 at ksG4 hRG4 hlG4 hopG4 ⊢
    have tpG4 : Th (D :: r :: Z.Ps) G4 3 900 (.ref pG4) := (Th.tup nLpG4 hopG4 (n := 0) (m := 0) all0).mono (by decide) (Nat.le_of_ble_eq_true rfl)
    refine ⟨(by show 0 ≤ sizeLine; decide), fun pG5 npG5 => ?_⟩
    have nLpG5 : pG5 ∉ (D :: r :: Z.Ps) := fun z => hlG4 pG5 z npG5
    have ksG5 : Kp r G4 (upd G4 pG5 (.tup [])) := Kp.new Kp.rfl' npG5
    have hRG5 : (upd G4 pG5 (.tup [])) r = some (.lst [.int n6]) := keep_new hRG4 npG5
    have hlG5 : ∀ b ∈ (D :: r :: Z.Ps), (upd G4 pG5 (.tup [])) b ≠ none := new_all hlG4
    have hopG5 : (upd G4 pG5 (.tup [])) pG5 = some (.tup []) := upd_same
    generalize upd G4 pG5 (.tup []) = G5 at ksG5 hRG5 hlG5 hopG5 ⊢
    have tpG5 : Th (D :: r :: Z.Ps) G5 3 900 (.ref pG5) := (Th.tup nLpG5 hopG5 (n := 0) (m := 0) all0).mono (by decide) (Nat.le_of_ble_eq_true rfl)
    refine ⟨(by show 2 ≤ sizeLine; decide), fun pG6 npG6 => ?_⟩
    have nLpG6 : pG6 ∉ (D :: r :: Z.Ps) := fun z => hlG5 pG6 z npG6
    have ksG6 : Kp r G5 (upd G5 pG6 (.tup [.ref pG4, .ref pG5])) := Kp.new Kp.rfl' npG6
    have hRG6 : (upd G5 pG6 (.tup [.ref pG4, .ref pG5])) r = some (.lst [.int n6]) := keep_new hRG5 npG6
    have hlG6 : ∀ b ∈ (D :: r :: Z.Ps), (upd G5 pG6 (.tup [.ref pG4, .ref pG5])) b ≠ none := new_all hlG5
    have hopG6 : (upd G5 pG6 (.tup [.ref pG4, .ref pG5])) pG6 = some (.tup [.ref pG4, .ref pG5]) := upd_same
    generalize upd G5 pG6 (.tup [.ref pG4, .ref pG5]) = G6 at ksG6 hRG6 hlG6 hopG6 ⊢
    have tpG6 : Th (D :: r :: Z.Ps) G6 4 2000 (.ref pG6) := (Th.tup nLpG6 hopG6 (n := 3) (m := 900) (allC ((tpG4.kp ((ksG5).trans ksG6) hrL)) (allC ((tpG5.kp (ksG6) hrL)) all0))).mono (by decide) (Nat.le_of_ble_eq_true rfl)
    refine ⟨(by show 0 ≤ sizeLine; decide), fun pG7 npG7 => ?_⟩
    have nLpG7 : pG7 ∉ (D :: r :: Z.Ps) := fun z => hlG6 pG7 z npG7
    have ksG7 : Kp r G6 (upd G6 pG7 (.tup [])) := Kp.new Kp.rfl' npG7
    have hRG7 : (upd G6 pG7 (.tup [])) r = some (.lst [.int n6]) := keep_new hRG6 npG7
    have hlG7 : ∀ b ∈ (D :: r :: Z.Ps), (upd G6 pG7 (.tup [])) b ≠ none := new_all hlG6
    have hopG7 : (upd G6 pG7 (.tup [])) pG7 = some (.tup []) := upd_same
    generalize upd G6 pG7 (.tup []) = G7 at ksG7 hRG7 hlG7 hopG7 ⊢
    have tpG7 : Th (D :: r :: Z.Ps) G7 3 900 (.ref pG7) := (Th.tup nLpG7 hopG7 (n := 0) (m := 0) all0).mono (by decide) (Nat.le_of_ble_eq_true rfl)
    refine ⟨(by show 2 ≤ sizeLine; decide), fun pG8 npG8 => ?_⟩
    have nLpG8 : pG8 ∉ (D :: r :: Z.Ps) := fun z => hlG7 pG8 z npG8
    have ksG8 : Kp r G7 (upd G7 pG8 (.lst [.ref pG7, .non])) := Kp.new Kp.rfl' npG8
    have hRG8 : (upd G7 pG8 (.lst [.ref pG7, .non])) r = some (.lst [.int n6]) := keep_new hRG7 npG8
    have hlG8 : ∀ b ∈ (D :: r :: Z.Ps), (upd G7 pG8 (.lst [.ref pG7, .non])) b ≠ none := new_all hlG7
    have hopG8 : (upd G7 pG8 (.lst [.ref pG7, .non])) pG8 = some (.lst [.ref pG7, .non]) := upd_same
    generalize upd G7 pG8 (.lst [.ref pG7, .non]) = G8 at ksG8 hRG8 hlG8 hopG8 ⊢
    have tpG8 : Th (D :: r :: Z.Ps) G8 4 2000 (.ref pG8) := (Th.lst nLpG8 hopG8 (n := 3) (m := 900) (allC ((tpG7.kp (ksG8) hrL)) (allC (Th.non) all0))).mono (by decide) (Nat.le_of_ble_eq_true rfl)
    refine ⟨(by show 8 ≤ sizeLine; decide), fun pG9 npG9 => ?_⟩
    have nLpG9 : pG9 ∉ (D :: r :: Z.Ps) := fun z => hlG8 pG9 z npG9
    have ksG9 : Kp r G8 (upd G8 pG9 (.lst [.ref pG2, .non, .bl true, .ref pG3, .ref pG6, .str (Str.ofString "-"), .int 7, .ref pG8])) := Kp.new Kp.rfl' npG9
    have hRG9 : (upd G8 pG9 (.lst [.ref pG2, .non, .bl true, .ref pG3, .ref pG6, .str (Str.ofString "-"), .int 7, .ref pG8])) r = some (.lst [.int n6]) := keep_new hRG8 npG9
    have hlG9 : ∀ b ∈ (D :: r :: Z.Ps), (upd G8 pG9 (.lst [.ref pG2, .non, .bl true, .ref pG3, .ref pG6, .str (Str.ofString "-"), .int 7, .ref pG8])) b ≠ none := new_all hlG8
    have hopG9 : (upd G8 pG9 (.lst [.ref pG2, .non, .bl true, .ref pG3, .ref pG6, .str (Str.ofString "-"), .int 7, .ref pG8])) pG9 = some (.lst [.ref pG2, .non, .bl true, .ref pG3, .ref pG6, .str (Str.ofString "-"), .int 7, .ref pG8]) := upd_same
    generalize upd G8 pG9 (.lst [.ref pG2, .non, .bl true, .ref pG3, .ref pG6, .str (Str.ofString "-"), .int 7, .ref pG8]) = G9 at ksG9 hRG9 hlG9 hopG9 ⊢
    refine ⟨D, pG9, vs6, [.ref pG2, .non, .bl true, .ref pG3, .ref pG6, .str (Str.ofString "-"), .int 7, .ref pG8], rfl, rfl, (((((((((ksG1).trans ksG2).trans ksG3).trans ksG4).trans ksG5).trans ksG6).trans ksG7).trans ksG8).trans ksG9) _ _ nDr hD6, hopG9, ?_, fun pp npp => ?_⟩
    · rw [hl6]
      show 6 + 8 ≤ sizeLine
      decide
    have nLpp : pp ∉ (D :: r :: Z.Ps) := fun z => hlG9 pp z npp
    have thI : ∀ v ∈ [.ref pG2, .non, .bl true, .ref pG3, .ref pG6, .str (Str.ofString "-"), .int 7, .ref pG8], Th (D :: r :: Z.Ps) G9 10 90000 v := (allC ((tpG2.kp (((((((ksG3).trans ksG4).trans ksG5).trans ksG6).trans ksG7).trans ksG8).trans ksG9) hrL).mono (by decide) (by decide)) (allC (Th.non) (allC (Th.bl true) (allC ((tpG3.kp ((((((ksG4).trans ksG5).trans ksG6).trans ksG7).trans ksG8).trans ksG9) hrL).mono (by decide) (by decide)) (allC ((tpG6.kp (((ksG7).trans ksG8).trans ksG9) hrL).mono (by decide) (by decide)) (allC (Th.tx (l := [45]) (by decide) (by decide)) (allC (Th.int (by decide) (by decide)) (allC ((tpG8.kp (ksG9) hrL).mono (by decide) (by decide)) all0))))))))
    have thA : ∀ v ∈ vs6 ++ [.ref pG2, .non, .bl true, .ref pG3, .ref pG6, .str (Str.ofString "-"), .int 7, .ref pG8], Th (D :: r :: Z.Ps) G9 10 90000 v := allApp (fun v hv => (th6 v hv).kp (((((((((ksG1).trans ksG2).trans ksG3).trans ksG4).trans ksG5).trans ksG6).trans ksG7).trans ksG8).trans ksG9) hrL) thI
    generalize vs6 ++ [.ref pG2, .non, .bl true, .ref pG3, .ref pG6, .str (Str.ofString "-"), .int 7, .ref pG8] = ts at thA ⊢
    have sm7 : Same G9 (upd G9 pp (.lst ts)) := Same.new (Same.refl _) npp
    have thT : ∀ v ∈ ts, Th (D :: r :: Z.Ps) (upd G9 pp (.lst ts)) 10 90000 v := fun v hv => (thA v hv).same sm7
    have hpp : (upd G9 pp (.lst ts)) pp = some (.lst ts) := upd_same
    have kx7 : Kx (D :: r :: Z.Ps) H5 (upd G9 pp (.lst ts)) := (kx6.trans (Kx.kp (((((((((ksG1).trans ksG2).trans ksG3).trans ksG4).trans ksG5).trans ksG6).trans ksG7).trans ksG8).trans ksG9) hrL)).trans (Kx.same sm7)
    have hR7 : (upd G9 pp (.lst ts)) r = some (.lst [.int n6]) := sm7 _ _ hRG9
    have hD7 : (upd G9 pp (.lst ts)) D = some (.lst vs6) := sm7 _ _ ((((((((((ksG1).trans ksG2).trans ksG3).trans ksG4).trans ksG5).trans ksG6).trans ksG7).trans ksG8).trans ksG9) _ _ nDr hD6)
    have sx7 : Sx Z.Ps H0 (upd G9 pp (.lst ts)) := (kpx sx6 (((((((((ksG1).trans ksG2).trans ksG3).trans ksG4).trans ksG5).trans ksG6).trans ksG7).trans ksG8).trans ksG9)).trans (Same.sx sm7)
    have tg7 : TG Z.Ps (upd G9 pp (.lst ts)) := (tg6.kp hR6 (((((((((ksG1).trans ksG2).trans ksG3).trans ksG4).trans ksG5).trans ksG6).trans ksG7).trans ksG8).trans ksG9)).same sm7
    generalize upd G9 pp (.lst ts) = H7 at thT hpp kx7 hR7 hD7 sx7 tg7 ⊢
    refine ⟨pp, rfl, ⟨_, .inl (.inl hpp)⟩, for_it (walk_list (xs := ts)) (fun j σ H' => (∃ y5 y7 y8 y9 : Option V, σ = [some (.ref a), some (.int (0 + (i : Nat))), some (.ref r), some (.ref t), some (.ref qa), y5, some (.ref D), y7, y8, y9]) ∧ Sx Z.Ps H7 H' ∧ TG Z.Ps H')
      ⟨⟨_, _, _, _, rfl⟩, fun _ _ _ h => h, tg7⟩ (fun j σ H' _ hP => .inl (.inl (hP.2.1.lst tg7 hpp))) (fun j x σ H8 H9 hj hP hY => ?_) (fun σ H8 hP => ?_)⟩
    · obtain ⟨⟨y5, y7, y8, y9, rfl⟩, sx8, tg8⟩ := hP
      obtain ⟨rfl, hx⟩ := hY
      obtain ⟨d, f, sh, wdx⟩ := thT x (List.mem_of_getElem? hx)
      have sh2 : Sh 20 100000 d := sh.mono (by decide) (by decide)
      have f8 := f.sx sx8 hPs'
      have ht8 : H9 t = some (.tup [tx cols, .ref R]) := (Kx.sx sx8 hPs') _ _ ntL' (kx7 _ _ ntL' ht5)
      refine ⟨x, rfl, x, d, rfl, Ft.dp _ _ f8.to, sh2, ?_⟩
      refine ⟨.ref t, rfl, t, [tx cols, .ref R], 0, tx cols, rfl, rfl, .inl (.inl (ht8)), rfl, x, rfl, cols, x, d, rfl, tg8, f8.sub hPs', sh2, by omega, fun HB sxB tgB => ?_⟩
      have fB := f8.sx sxB hPs'
      have htB : HB t = some (.tup [tx cols, .ref R]) := (Kx.sx sxB hPs') _ _ ntL' ht8
      refine ⟨fun σ H' => σ = [some (.ref a), some (.int (0 + (i : Nat))), some (.ref r), some (.ref t), some (.ref qa), y5, some (.ref D), some x, some (.str d.shown), some (.bl (isQD cols d))] ∧ H' = HB, ?_, fun σ1 H1' hM => ?_⟩
      · refine ⟨.bl (isQD cols d), rfl, .bl (isQD cols d), .ty "bool", _, _, true, rfl, .ty _, ty_ft (d := .bool (isQD cols d)) (.bl _), kit_bl (.bool (isQD cols d)), _, rfl, iteF ?_⟩
        refine ⟨x, rfl, x, d, rfl, Ft.dp _ _ fB.to, sh2, .str d.shown, rfl, rfl, _, rfl, iteNS rfl ?_⟩
        exact ⟨rfl, rfl⟩
      obtain ⟨rfl, rfl⟩ := hM
      refine ⟨.bl (isQD cols d), rfl, .ref t, rfl, t, [tx cols, .ref R], 0, tx cols, rfl, rfl, .inl (.inl (htB)), rfl, x, rfl, cols, x, d, rfl, fB.to, sh2, by omega, by omega, fun HC smC => ?_⟩
      refine ⟨rfl, _, rfl, iteNS rfl ?_⟩
      exact ⟨⟨_, _, _, _, rfl⟩, (sx8.trans sxB).trans (Same.sx smC), tgB.same smC⟩
    obtain ⟨⟨y5, y7, y8, y9, rfl⟩, sx8, tg8⟩ := hP
    have kx8 : Kx (D :: r :: Z.Ps) H5 H8 := kx7.trans (Kx.sx sx8 hPs')
    -- four more
    refine ⟨4, rfl, by decide, by decide, for_range (fun j σ H' => ∃ (n' : Int) (y5 y7 y8 y9 : Option V), σ = [some (.ref a), some (.int (0 + (i : Nat))), some (.ref r), some (.ref t), some (.ref qa), y5, some (.ref D), y7, y8, y9] ∧ Sx Z.Ps H0 H' ∧ TG Z.Ps H' ∧ Kx (D :: r :: Z.Ps) H5 H' ∧ H' r = some (.lst [.int n']) ∧ H' D = some (.lst vs6))
      ⟨n6, _, _, _, _, rfl, sx7.trans sx8, tg8, kx8, sx8.lst tg7 hR7, sx8.lst tg7 hD7⟩ (fun j σ HA hj hP => ?_) (fun σ HA hP => ?_)⟩
    · obtain ⟨n1, z5, z7, z8, z9, rfl, sxA, tgA, kxA, hRA, hDA⟩ := hP
      refine ⟨.ref r, rfl, .ref t, rfl, t, [tx cols, .ref R], 0, tx cols, rfl, rfl, .inl (.inl (kxA _ _ ntL' ht5)), rfl, .ref qa, rfl, D :: r :: Z.Ps, r, n1, cols, qa, ea, us, rv, rfl, hRA, hrL, cons_all hDA (held_all hRA tgA), hc1, by omega, hcc, nqa', nea', kxA _ _ nqa' hqa5, kxA _ _ nea' hea5, hul, (fun v hv => (the5 v hv).kx kxA), thr5.kx kxA, fun x n4 HB kpB hRB thB => ?_⟩
      obtain ⟨d, f, sh, wdx⟩ := thB
      have sh2 : Sh 20 100000 d := sh.mono (by decide) (by decide)
      have kxB : Kx (D :: r :: Z.Ps) H5 HB := kxA.trans (Kx.kp kpB hrL)
      have tgB : TG Z.Ps HB := tgA.kp hRA kpB
      refine ⟨.ref t, rfl, t, [tx cols, .ref R], 0, tx cols, rfl, rfl, .inl (.inl (kxB _ _ ntL' ht5)), rfl, x, rfl, cols, x, d, rfl, tgB, f.sub hPs', sh2, by omega, fun HC sxC tgC => ?_⟩
      have fC := f.sx sxC hPs'
      have kxC := kxB.trans (Kx.sx sxC hPs')
      refine ⟨.bl (isQD cols d), rfl, .bl (isQD cols d), .ty "bool", _, _, true, rfl, .ty _, ty_ft (d := .bool (isQD cols d)) (.bl _), kit_bl (.bool (isQD cols d)), _, rfl, iteF ?_⟩
      refine ⟨.bl (isQD cols d), rfl, .ref t, rfl, t, [tx cols, .ref R], 0, tx cols, rfl, rfl, .inl (.inl (kxC _ _ ntL' ht5)), rfl, x, rfl, cols, x, d, rfl, fC.to, sh2, by omega, by omega, fun HE smE => ?_⟩
      refine ⟨rfl, _, rfl, iteNS rfl ?_⟩
      have hDB : HB D = some (.lst vs6) := kpB _ _ nDr hDA
      exact ⟨n4, _, _, _, _, rfl, ((kpx sxA kpB).trans sxC).trans (Same.sx smE), tgC.same smE, kxC.trans (Kx.same smE), smE _ _ (sxC.lst tgB hRB), smE _ _ (sxC.lst tgB hDB)⟩
    obtain ⟨n1, z5, z7, z8, z9, rfl, sxA, tgA, kxA, hRA, hDA⟩ := hP
    exact ⟨_, _, _, _, _, _, _, _, _, rfl, sxA.seqL tg0 hS0, tgA⟩

theorem ok_law (T : Tx K mg Z) (TB : Tb base mg Z) : FnG P w K mg base 10 Z.f_law Z.d_law ["script"] (spLaw K Z) := ok_law0 T TB (ok_bent T) (ok_bentmore T)

end
theorem all_mk {l : PySem.W.OpenLaw} {q : Program} {w : World} {K : PySem.W.Frag} {h : Heap} {mg : Str → Option Value} {fa : Addr} (X : K.In h) (G : h.Ns mainGlobals mg) (hfa : mg "law" = some (.ref fa))
    (own : ∀ (nm : Str) (fb : Addr), ((recsOf q).any fun e => e.name == nm) = true → mg nm = some (.ref fb) → OwnTC K fb h)
    {oc0 kv0 dc0 pm0 cd0 ct0 : Value} {od0 an0 : Option Addr} {sl0 : Array (Option Value)} {f0 : Addr}
    {oc1 kv1 dc1 pm1 cd1 ct1 : Value} {od1 an1 : Option Addr} {sl1 : Array (Option Value)} {f1 : Addr}
    {oc2 kv2 dc2 pm2 ct2 : Value} {od2 an2 : Option Addr} {sl2 : Array (Option Value)} {f2 : Addr}
    {c2 P2 : Addr} {ec2 : Value} {ed2 : Option Addr} {ev2 : Array Value} {es2 : Array (Option Value)}
    {oc3 kv3 dc3 pm3 cd3 ct3 : Value} {od3 an3 : Option Addr} {sl3 : Array (Option Value)} {f3 : Addr}
    {oc4 kv4 dc4 pm4 cd4 ct4 : Value} {od4 an4 : Option Addr} {sl4 : Array (Option Value)} {f4 : Addr}
    {oc5 kv5 dc5 pm5 cd5 ct5 : Value} {od5 an5 : Option Addr} {sl5 : Array (Option Value)} {f5 : Addr}
    {oc6 kv6 dc6 pm6 ct6 : Value} {od6 an6 : Option Addr} {sl6 : Array (Option Value)} {f6 : Addr}
    {c6 P6 : Addr} {ec6 : Value} {ed6 : Option Addr} {ev6 : Array Value} {es6 : Array (Option Value)}
    {oc7 kv7 dc7 pm7 cd7 ct7 : Value} {od7 an7 : Option Addr} {sl7 : Array (Option Value)} {f7 : Addr}
    {oc8 kv8 dc8 pm8 cd8 ct8 : Value} {od8 an8 : Option Addr} {sl8 : Array (Option Value)} {f8 : Addr}
    {oc9 kv9 dc9 pm9 cd9 ct9 : Value} {od9 an9 : Option Addr} {sl9 : Array (Option Value)} {f9 : Addr}
    {oc10 kv10 dc10 pm10 cd10 ct10 : Value} {od10 an10 : Option Addr} {sl10 : Array (Option Value)} {f10 : Addr}
    {oc11 kv11 dc11 pm11 cd11 ct11 : Value} {od11 an11 : Option Addr} {sl11 : Array (Option Value)} {f11 : Addr}
    {oc12 kv12 dc12 pm12 cd12 ct12 : Value} {od12 an12 : Option Addr} {sl12 : Array (Option Value)} {f12 : Addr}
    {oc13 kv13 dc13 pm13 cd13 ct13 : Value} {od13 an13 : Option Addr} {sl13 : Array (Option Value)} {f13 : Addr}
    {oc14 kv14 dc14 pm14 cd14 ct14 : Value} {od14 an14 : Option Addr} {sl14 : Array (Option Value)} {f14 : Addr}
    {oc15 kv15 dc15 pm15 cd15 ct15 : Value} {od15 an15 : Option Addr} {sl15 : Array (Option Value)} {f15 : Addr}
    {oc16 kv16 dc16 pm16 cd16 ct16 : Value} {od16 an16 : Option Addr} {sl16 : Array (Option Value)} {f16 : Addr}
    {oc17 kv17 dc17 pm17 cd17 ct17 : Value} {od17 an17 : Option Addr} {sl17 : Array (Option Value)} {f17 : Addr}
    {oc18 kv18 dc18 pm18 cd18 ct18 : Value} {od18 an18 : Option Addr} {sl18 : Array (Option Value)} {f18 : Addr}
    {oc19 kv19 dc19 pm19 cd19 ct19 : Value} {od19 an19 : Option Addr} {sl19 : Array (Option Value)} {f19 : Addr}
    {oc20 kv20 dc20 pm20 cd20 ct20 : Value} {od20 an20 : Option Addr} {sl20 : Array (Option Value)} {f20 : Addr}
    (a0 : PySem.W.nsIn K mainGlobals "is_whole" = some (some (.ref f0)))
    (l0 : K.lookup f0 = some ⟨oc0, od0, .func (PySem.W.fnOf "is_whole" "is_whole" (defArgs s_is_whole) (defBody s_is_whole) (defScope s_is_whole) .none kv0 dc0 pm0 an0 cd0 ct0), sl0⟩)
    (c0_ : PySem.W.codeIn K cd0 "is_whole" = true) (k0 : PySem.W.keepIn K (.ref f0) = true)
    (a1 : PySem.W.nsIn K mainGlobals "is_number" = some (some (.ref f1)))
    (l1 : K.lookup f1 = some ⟨oc1, od1, .func (PySem.W.fnOf "is_number" "is_number" (defArgs s_is_number) (defBody s_is_number) (defScope s_is_number) .none kv1 dc1 pm1 an1 cd1 ct1), sl1⟩)
    (c1_ : PySem.W.codeIn K cd1 "is_number" = true) (k1 : PySem.W.keepIn K (.ref f1) = true)
    (a2 : PySem.W.nsIn K mainGlobals "is_rising" = some (some (.ref f2)))
    (l2 : K.lookup f2 = some ⟨oc2, od2, .func (PySem.W.fnOf "is_rising" "is_rising" (defArgs s_is_rising) (defBody s_is_rising) (defScope s_is_rising) .none kv2 dc2 pm2 an2 (.ref c2) ct2), sl2⟩)
    (c2_ : PySem.W.codeIn K (.ref c2) "is_rising" = true) (k2 : PySem.W.keepIn K (.ref f2) = true)
    (lc2 : K.lookup c2 = some ⟨ec2, ed2, .fields ev2, es2⟩) (vc2 : ev2[11]? = some (.ref P2)) (np2 : K.lookup P2 = none) (rc2 : ((recsOf q).any fun e => e.name == "is_rising") = true)
    (a3 : PySem.W.nsIn K mainGlobals "is_letter" = some (some (.ref f3)))
    (l3 : K.lookup f3 = some ⟨oc3, od3, .func (PySem.W.fnOf "is_letter" "is_letter" (defArgs s_is_letter) (defBody s_is_letter) (defScope s_is_letter) .none kv3 dc3 pm3 an3 cd3 ct3), sl3⟩)
    (c3_ : PySem.W.codeIn K cd3 "is_letter" = true) (k3 : PySem.W.keepIn K (.ref f3) = true)
    (a4 : PySem.W.nsIn K mainGlobals "is_equal" = some (some (.ref f4)))
    (l4 : K.lookup f4 = some ⟨oc4, od4, .func (PySem.W.fnOf "is_equal" "is_equal" (defArgs s_is_equal) (defBody s_is_equal) (defScope s_is_equal) .none kv4 dc4 pm4 an4 cd4 ct4), sl4⟩)
    (c4_ : PySem.W.codeIn K cd4 "is_equal" = true) (k4 : PySem.W.keepIn K (.ref f4) = true)
    (a5 : PySem.W.nsIn K mainGlobals "letters_of" = some (some (.ref f5)))
    (l5 : K.lookup f5 = some ⟨oc5, od5, .func (PySem.W.fnOf "letters_of" "letters_of" (defArgs s_letters_of) (defBody s_letters_of) (defScope s_letters_of) .none kv5 dc5 pm5 an5 cd5 ct5), sl5⟩)
    (c5_ : PySem.W.codeIn K cd5 "letters_of" = true) (k5 : PySem.W.keepIn K (.ref f5) = true)
    (a6 : PySem.W.nsIn K mainGlobals "is_equals" = some (some (.ref f6)))
    (l6 : K.lookup f6 = some ⟨oc6, od6, .func (PySem.W.fnOf "is_equals" "is_equals" (defArgs s_is_equals) (defBody s_is_equals) (defScope s_is_equals) .none kv6 dc6 pm6 an6 (.ref c6) ct6), sl6⟩)
    (c6_ : PySem.W.codeIn K (.ref c6) "is_equals" = true) (k6 : PySem.W.keepIn K (.ref f6) = true)
    (lc6 : K.lookup c6 = some ⟨ec6, ed6, .fields ev6, es6⟩) (vc6 : ev6[11]? = some (.ref P6)) (np6 : K.lookup P6 = none) (rc6 : ((recsOf q).any fun e => e.name == "is_equals") = true)
    (a7 : PySem.W.nsIn K mainGlobals "is_reach" = some (some (.ref f7)))
    (l7 : K.lookup f7 = some ⟨oc7, od7, .func (PySem.W.fnOf "is_reach" "is_reach" (defArgs s_is_reach) (defBody s_is_reach) (defScope s_is_reach) .none kv7 dc7 pm7 an7 cd7 ct7), sl7⟩)
    (c7_ : PySem.W.codeIn K cd7 "is_reach" = true) (k7 : PySem.W.keepIn K (.ref f7) = true)
    (a8 : PySem.W.nsIn K mainGlobals "is_question" = some (some (.ref f8)))
    (l8 : K.lookup f8 = some ⟨oc8, od8, .func (PySem.W.fnOf "is_question" "is_question" (defArgs s_is_question) (defBody s_is_question) (defScope s_is_question) .none kv8 dc8 pm8 an8 cd8 ct8), sl8⟩)
    (c8_ : PySem.W.codeIn K cd8 "is_question" = true) (k8 : PySem.W.keepIn K (.ref f8) = true)
    (a9 : PySem.W.nsIn K mainGlobals "_law_reel" = some (some (.ref f9)))
    (l9 : K.lookup f9 = some ⟨oc9, od9, .func (PySem.W.fnOf "_law_reel" "_law_reel" (defArgs s_l_reel) (defBody s_l_reel) (defScope s_l_reel) .none kv9 dc9 pm9 an9 cd9 ct9), sl9⟩)
    (c9_ : PySem.W.codeIn K cd9 "_law_reel" = true) (k9 : PySem.W.keepIn K (.ref f9) = true)
    (a10 : PySem.W.nsIn K mainGlobals "_law_pick" = some (some (.ref f10)))
    (l10 : K.lookup f10 = some ⟨oc10, od10, .func (PySem.W.fnOf "_law_pick" "_law_pick" (defArgs s_l_pick) (defBody s_l_pick) (defScope s_l_pick) .none kv10 dc10 pm10 an10 cd10 ct10), sl10⟩)
    (c10_ : PySem.W.codeIn K cd10 "_law_pick" = true) (k10 : PySem.W.keepIn K (.ref f10) = true)
    (a11 : PySem.W.nsIn K mainGlobals "_law_columns" = some (some (.ref f11)))
    (l11 : K.lookup f11 = some ⟨oc11, od11, .func (PySem.W.fnOf "_law_columns" "_law_columns" (defArgs s_l_columns) (defBody s_l_columns) (defScope s_l_columns) .none kv11 dc11 pm11 an11 cd11 ct11), sl11⟩)
    (c11_ : PySem.W.codeIn K cd11 "_law_columns" = true) (k11 : PySem.W.keepIn K (.ref f11) = true)
    (a12 : PySem.W.nsIn K mainGlobals "_law_table" = some (some (.ref f12)))
    (l12 : K.lookup f12 = some ⟨oc12, od12, .func (PySem.W.fnOf "_law_table" "_law_table" (defArgs s_l_table) (defBody s_l_table) (defScope s_l_table) .none kv12 dc12 pm12 an12 cd12 ct12), sl12⟩)
    (c12_ : PySem.W.codeIn K cd12 "_law_table" = true) (k12 : PySem.W.keepIn K (.ref f12) = true)
    (a13 : PySem.W.nsIn K mainGlobals "_law_near" = some (some (.ref f13)))
    (l13 : K.lookup f13 = some ⟨oc13, od13, .func (PySem.W.fnOf "_law_near" "_law_near" (defArgs s_l_near) (defBody s_l_near) (defScope s_l_near) .none kv13 dc13 pm13 an13 cd13 ct13), sl13⟩)
    (c13_ : PySem.W.codeIn K cd13 "_law_near" = true) (k13 : PySem.W.keepIn K (.ref f13) = true)
    (a14 : PySem.W.nsIn K mainGlobals "_law_question" = some (some (.ref f14)))
    (l14 : K.lookup f14 = some ⟨oc14, od14, .func (PySem.W.fnOf "_law_question" "_law_question" (defArgs s_l_question) (defBody s_l_question) (defScope s_l_question) .none kv14 dc14 pm14 an14 cd14 ct14), sl14⟩)
    (c14_ : PySem.W.codeIn K cd14 "_law_question" = true) (k14 : PySem.W.keepIn K (.ref f14) = true)
    (a15 : PySem.W.nsIn K mainGlobals "_law_is_number" = some (some (.ref f15)))
    (l15 : K.lookup f15 = some ⟨oc15, od15, .func (PySem.W.fnOf "_law_is_number" "_law_is_number" (defArgs s_l_is_number) (defBody s_l_is_number) (defScope s_l_is_number) .none kv15 dc15 pm15 an15 cd15 ct15), sl15⟩)
    (c15_ : PySem.W.codeIn K cd15 "_law_is_number" = true) (k15 : PySem.W.keepIn K (.ref f15) = true)
    (a16 : PySem.W.nsIn K mainGlobals "_law_is_letter" = some (some (.ref f16)))
    (l16 : K.lookup f16 = some ⟨oc16, od16, .func (PySem.W.fnOf "_law_is_letter" "_law_is_letter" (defArgs s_l_is_letter) (defBody s_l_is_letter) (defScope s_l_is_letter) .none kv16 dc16 pm16 an16 cd16 ct16), sl16⟩)
    (c16_ : PySem.W.codeIn K cd16 "_law_is_letter" = true) (k16 : PySem.W.keepIn K (.ref f16) = true)
    (a17 : PySem.W.nsIn K mainGlobals "_law_is_question" = some (some (.ref f17)))
    (l17 : K.lookup f17 = some ⟨oc17, od17, .func (PySem.W.fnOf "_law_is_question" "_law_is_question" (defArgs s_l_is_question) (defBody s_l_is_question) (defScope s_l_is_question) .none kv17 dc17 pm17 an17 cd17 ct17), sl17⟩)
    (c17_ : PySem.W.codeIn K cd17 "_law_is_question" = true) (k17 : PySem.W.keepIn K (.ref f17) = true)
    (a18 : PySem.W.nsIn K mainGlobals "_law_bent" = some (some (.ref f18)))
    (l18 : K.lookup f18 = some ⟨oc18, od18, .func (PySem.W.fnOf "_law_bent" "_law_bent" (defArgs s_l_bent) (defBody s_l_bent) (defScope s_l_bent) .none kv18 dc18 pm18 an18 cd18 ct18), sl18⟩)
    (c18_ : PySem.W.codeIn K cd18 "_law_bent" = true) (k18 : PySem.W.keepIn K (.ref f18) = true)
    (a19 : PySem.W.nsIn K mainGlobals "_law_bent_more" = some (some (.ref f19)))
    (l19 : K.lookup f19 = some ⟨oc19, od19, .func (PySem.W.fnOf "_law_bent_more" "_law_bent_more" (defArgs s_l_bent_more) (defBody s_l_bent_more) (defScope s_l_bent_more) .none kv19 dc19 pm19 an19 cd19 ct19), sl19⟩)
    (c19_ : PySem.W.codeIn K cd19 "_law_bent_more" = true) (k19 : PySem.W.keepIn K (.ref f19) = true)
    (a20 : PySem.W.nsIn K mainGlobals "law" = some (some (.ref f20)))
    (l20 : K.lookup f20 = some ⟨oc20, od20, .func (PySem.W.fnOf "law" "law" (defArgs s_law) (defBody s_law) (defScope s_law) .none kv20 dc20 pm20 an20 cd20 ct20), sl20⟩)
    (c20_ : PySem.W.codeIn K cd20 "law" = true) (k20 : PySem.W.keepIn K (.ref f20) = true)
    (z0 : PySem.W.nsIn K mainGlobals "len" = some none)
    (z1 : PySem.W.nsIn K mainGlobals "range" = some none)
    (z2 : PySem.W.nsIn K mainGlobals "list" = some none)
    (z3 : PySem.W.nsIn K mainGlobals "sorted" = some none)
    (z4 : PySem.W.nsIn K mainGlobals "tuple" = some none)
    (z5 : PySem.W.nsIn K mainGlobals "min" = some none)
    (z6 : PySem.W.nsIn K mainGlobals "max" = some none)
    (z7 : PySem.W.nsIn K mainGlobals "enumerate" = some none)
    (z8 : PySem.W.nsIn K mainGlobals "dict" = some none)
    (z9 : PySem.W.nsIn K mainGlobals "isinstance" = some none)
    (z10 : PySem.W.nsIn K mainGlobals "all" = some none)
    (z11 : PySem.W.nsIn K mainGlobals "bool" = some none)
    (z12 : PySem.W.nsIn K mainGlobals "str" = some none)
    (z13 : PySem.W.nsIn K mainGlobals "int" = some none)
    (z14 : PySem.W.nsIn K mainGlobals "repr" = some none)
    {tk0 : Tok} (y0 : PySem.W.nsIn K mainGlobals "GREATEST" = some (some (.int 999 tk0)))
    : LawAtG l w K 10 63 "script" mg fa h := by
  have e := hfa.symm.trans (PySem.W.mg_of X G a20)
  cases e
  have F0 := fun_mk (st := s_is_whole) l0 c0_ k0
  have b0 := F0.binds (ps := ["thing"]) fun _ _ _ _ _ _ us hl => match us, hl with | [_], _ => rfl
  have F1 := fun_mk (st := s_is_number) l1 c1_ k1
  have b1 := F1.binds (ps := ["thing"]) fun _ _ _ _ _ _ us hl => match us, hl with | [_], _ => rfl
  have F2 := fun_mk (st := s_is_rising) l2 c2_ k2
  have b2 := F2.binds (ps := ["things"]) fun _ _ _ _ _ _ us hl => match us, hl with | [_], _ => rfl
  have o2 := own "is_rising" _ rc2 (PySem.W.mg_of X G a2) c2 P2 _ _ _ _ _ _ l2 rfl rfl lc2 vc2
  have F3 := fun_mk (st := s_is_letter) l3 c3_ k3
  have b3 := F3.binds (ps := ["columns", "thing"]) fun _ _ _ _ _ _ us hl => match us, hl with | [_, _], _ => rfl
  have F4 := fun_mk (st := s_is_equal) l4 c4_ k4
  have b4 := F4.binds (ps := ["columns", "thing"]) fun _ _ _ _ _ _ us hl => match us, hl with | [_, _], _ => rfl
  have F5 := fun_mk (st := s_letters_of) l5 c5_ k5
  have b5 := F5.binds (ps := ["equals"]) fun _ _ _ _ _ _ us hl => match us, hl with | [_], _ => rfl
  have F6 := fun_mk (st := s_is_equals) l6 c6_ k6
  have b6 := F6.binds (ps := ["columns", "thing"]) fun _ _ _ _ _ _ us hl => match us, hl with | [_, _], _ => rfl
  have o6 := own "is_equals" _ rc6 (PySem.W.mg_of X G a6) c6 P6 _ _ _ _ _ _ l6 rfl rfl lc6 vc6
  have F7 := fun_mk (st := s_is_reach) l7 c7_ k7
  have b7 := F7.binds (ps := ["columns", "thing"]) fun _ _ _ _ _ _ us hl => match us, hl with | [_, _], _ => rfl
  have F8 := fun_mk (st := s_is_question) l8 c8_ k8
  have b8 := F8.binds (ps := ["columns", "thing"]) fun _ _ _ _ _ _ us hl => match us, hl with | [_, _], _ => rfl
  have F9 := fun_mk (st := s_l_reel) l9 c9_ k9
  have b9 := F9.binds (ps := ["script", "k"]) fun _ _ _ _ _ _ us hl => match us, hl with | [_, _], _ => rfl
  have F10 := fun_mk (st := s_l_pick) l10 c10_ k10
  have b10 := F10.binds (ps := ["reel", "many"]) fun _ _ _ _ _ _ us hl => match us, hl with | [_, _], _ => rfl
  have F11 := fun_mk (st := s_l_columns) l11 c11_ k11
  have b11 := F11.binds (ps := ["reel", "many"]) fun _ _ _ _ _ _ us hl => match us, hl with | [_, _], _ => rfl
  have F12 := fun_mk (st := s_l_table) l12 c12_ k12
  have b12 := F12.binds (ps := ["reel", "most", "rows"]) fun _ _ _ _ _ _ us hl => match us, hl with | [_, _, _], _ => rfl
  have F13 := fun_mk (st := s_l_near) l13 c13_ k13
  have b13 := F13.binds (ps := ["reel", "rows", "at", "row"]) fun _ _ _ _ _ _ us hl => match us, hl with | [_, _, _, _], _ => rfl
  have F14 := fun_mk (st := s_l_question) l14 c14_ k14
  have b14 := F14.binds (ps := ["reel", "table"]) fun _ _ _ _ _ _ us hl => match us, hl with | [_, _], _ => rfl
  have F15 := fun_mk (st := s_l_is_number) l15 c15_ k15
  have b15 := F15.binds (ps := ["thing"]) fun _ _ _ _ _ _ us hl => match us, hl with | [_], _ => rfl
  have F16 := fun_mk (st := s_l_is_letter) l16 c16_ k16
  have b16 := F16.binds (ps := ["columns", "thing"]) fun _ _ _ _ _ _ us hl => match us, hl with | [_, _], _ => rfl
  have F17 := fun_mk (st := s_l_is_question) l17 c17_ k17
  have b17 := F17.binds (ps := ["columns", "thing"]) fun _ _ _ _ _ _ us hl => match us, hl with | [_, _], _ => rfl
  have F18 := fun_mk (st := s_l_bent) l18 c18_ k18
  have b18 := F18.binds (ps := ["reel", "columns", "question"]) fun _ _ _ _ _ _ us hl => match us, hl with | [_, _, _], _ => rfl
  have F19 := fun_mk (st := s_l_bent_more) l19 c19_ k19
  have b19 := F19.binds (ps := ["reel", "columns", "question"]) fun _ _ _ _ _ _ us hl => match us, hl with | [_, _, _], _ => rfl
  have F20 := fun_mk (st := s_law) l20 c20_ k20
  have b20 := F20.binds (ps := ["script"]) fun _ _ _ _ _ _ us hl => match us, hl with | [_], _ => rfl
  let Z : Ad := ⟨f0, PySem.W.fnOf "is_whole" "is_whole" (defArgs s_is_whole) (defBody s_is_whole) (defScope s_is_whole) .none kv0 dc0 pm0 an0 cd0 ct0, f1, PySem.W.fnOf "is_number" "is_number" (defArgs s_is_number) (defBody s_is_number) (defScope s_is_number) .none kv1 dc1 pm1 an1 cd1 ct1, f2, PySem.W.fnOf "is_rising" "is_rising" (defArgs s_is_rising) (defBody s_is_rising) (defScope s_is_rising) .none kv2 dc2 pm2 an2 (.ref c2) ct2, c2, P2, f3, PySem.W.fnOf "is_letter" "is_letter" (defArgs s_is_letter) (defBody s_is_letter) (defScope s_is_letter) .none kv3 dc3 pm3 an3 cd3 ct3, f4, PySem.W.fnOf "is_equal" "is_equal" (defArgs s_is_equal) (defBody s_is_equal) (defScope s_is_equal) .none kv4 dc4 pm4 an4 cd4 ct4, f5, PySem.W.fnOf "letters_of" "letters_of" (defArgs s_letters_of) (defBody s_letters_of) (defScope s_letters_of) .none kv5 dc5 pm5 an5 cd5 ct5, f6, PySem.W.fnOf "is_equals" "is_equals" (defArgs s_is_equals) (defBody s_is_equals) (defScope s_is_equals) .none kv6 dc6 pm6 an6 (.ref c6) ct6, c6, P6, f7, PySem.W.fnOf "is_reach" "is_reach" (defArgs s_is_reach) (defBody s_is_reach) (defScope s_is_reach) .none kv7 dc7 pm7 an7 cd7 ct7, f8, PySem.W.fnOf "is_question" "is_question" (defArgs s_is_question) (defBody s_is_question) (defScope s_is_question) .none kv8 dc8 pm8 an8 cd8 ct8, f9, PySem.W.fnOf "_law_reel" "_law_reel" (defArgs s_l_reel) (defBody s_l_reel) (defScope s_l_reel) .none kv9 dc9 pm9 an9 cd9 ct9, f10, PySem.W.fnOf "_law_pick" "_law_pick" (defArgs s_l_pick) (defBody s_l_pick) (defScope s_l_pick) .none kv10 dc10 pm10 an10 cd10 ct10, f11, PySem.W.fnOf "_law_columns" "_law_columns" (defArgs s_l_columns) (defBody s_l_columns) (defScope s_l_columns) .none kv11 dc11 pm11 an11 cd11 ct11, f12, PySem.W.fnOf "_law_table" "_law_table" (defArgs s_l_table) (defBody s_l_table) (defScope s_l_table) .none kv12 dc12 pm12 an12 cd12 ct12, f13, PySem.W.fnOf "_law_near" "_law_near" (defArgs s_l_near) (defBody s_l_near) (defScope s_l_near) .none kv13 dc13 pm13 an13 cd13 ct13, f14, PySem.W.fnOf "_law_question" "_law_question" (defArgs s_l_question) (defBody s_l_question) (defScope s_l_question) .none kv14 dc14 pm14 an14 cd14 ct14, f15, PySem.W.fnOf "_law_is_number" "_law_is_number" (defArgs s_l_is_number) (defBody s_l_is_number) (defScope s_l_is_number) .none kv15 dc15 pm15 an15 cd15 ct15, f16, PySem.W.fnOf "_law_is_letter" "_law_is_letter" (defArgs s_l_is_letter) (defBody s_l_is_letter) (defScope s_l_is_letter) .none kv16 dc16 pm16 an16 cd16 ct16, f17, PySem.W.fnOf "_law_is_question" "_law_is_question" (defArgs s_l_is_question) (defBody s_l_is_question) (defScope s_l_is_question) .none kv17 dc17 pm17 an17 cd17 ct17, f18, PySem.W.fnOf "_law_bent" "_law_bent" (defArgs s_l_bent) (defBody s_l_bent) (defScope s_l_bent) .none kv18 dc18 pm18 an18 cd18 ct18, f19, PySem.W.fnOf "_law_bent_more" "_law_bent_more" (defArgs s_l_bent_more) (defBody s_l_bent_more) (defScope s_l_bent_more) .none kv19 dc19 pm19 an19 cd19 ct19, fa, PySem.W.fnOf "law" "law" (defArgs s_law) (defBody s_law) (defScope s_law) .none kv20 dc20 pm20 an20 cd20 ct20, tk0⟩
  have T : Tx K mg Z := ⟨F0, b0, PySem.W.mg_of X G a0, F1, b1, PySem.W.mg_of X G a1, F2, ⟨_, _, _, _, _, _, _, _, rfl, l2, c2_⟩, b2, PySem.W.mg_of X G a2, F3, b3, PySem.W.mg_of X G a3, F4, b4, PySem.W.mg_of X G a4, F5, b5, PySem.W.mg_of X G a5, F6, ⟨_, _, _, _, _, _, _, _, rfl, l6, c6_⟩, b6, PySem.W.mg_of X G a6, F7, b7, PySem.W.mg_of X G a7, F8, b8, PySem.W.mg_of X G a8, F9, b9, PySem.W.mg_of X G a9, F10, b10, PySem.W.mg_of X G a10, F11, b11, PySem.W.mg_of X G a11, F12, b12, PySem.W.mg_of X G a12, F13, b13, PySem.W.mg_of X G a13, F14, b14, PySem.W.mg_of X G a14, F15, b15, PySem.W.mg_of X G a15, F16, b16, PySem.W.mg_of X G a16, F17, b17, PySem.W.mg_of X G a17, F18, b18, PySem.W.mg_of X G a18, F19, b19, PySem.W.mg_of X G a19, F20, b20, PySem.W.mg_of X G a20, PySem.W.mg_none_of X G z0, PySem.W.mg_none_of X G z1, PySem.W.mg_none_of X G z2, PySem.W.mg_none_of X G z3, PySem.W.mg_none_of X G z4, PySem.W.mg_none_of X G z5, PySem.W.mg_none_of X G z6, PySem.W.mg_none_of X G z7, PySem.W.mg_none_of X G z8, PySem.W.mg_none_of X G z9, PySem.W.mg_none_of X G z10, PySem.W.mg_none_of X G z11, PySem.W.mg_none_of X G z12, PySem.W.mg_none_of X G z13, PySem.W.mg_none_of X G z14, PySem.W.mg_of X G y0⟩
  have each : ∀ {R : Addr × Addr → Prop}, R (c2, P2) → R (c6, P6) → ∀ p ∈ [(c2, P2), (c6, P6)], R p := fun h2 h6 p hp => by
    simp only [List.mem_cons, List.not_mem_nil, or_false] at hp
    rcases hp with e | e
    · rw [e]
      exact h2
    · rw [e]
      exact h6
  refine ⟨Z.d_law, [(c2, P2), (c6, P6)], spLaw K Z, each o2.1 o6.1, each np2 np6, each o2.2 o6.2, fun s v => .of_eq rfl, fun H a ns hl _ hT hS => ?_, fun base _ _ hTB => ?_⟩
  · refine ⟨a, ns, rfl, hS, hl, fun P hP => ?_, fun _ => rfl⟩
    obtain ⟨p, hp, rfl⟩ : ∃ p ∈ [((c2, P2) : Addr × Addr), ((c6, P6) : Addr × Addr)], p.2 = P := by
      have hP2 : P ∈ [((c2, P2) : Addr × Addr).2, ((c6, P6) : Addr × Addr).2] := hP
      exact List.mem_map.mp (show P ∈ List.map (fun p : Addr × Addr => p.2) [(c2, P2), (c6, P6)] from hP2)
    exact ⟨#[], hT p hp, trivial⟩
  · exact ok_law T ⟨hTB (c2, P2) (by simp), hTB (c6, P6) (by simp)⟩
end My
open PySem PySem.W PyProof.Rows
set_option maxHeartbeats 0 in
theorem PySem.Challenge.cw_stretchkeep_k05_what_is_a_question_holds : PySem.Challenge.rw_stretchkeep_k05_what_is_a_question.Holds := by
  w_on; o_law; k_head; (case hw => w_witness2)
  k_fill
  refine My.walk_ofG (l := PySem.Challenge.rw_stretchkeep_k05_what_is_a_question) (n := 63) (k := 10) (x := "script") rfl (by decide) rfl ⟨rfl, by decide, by decide⟩ (fun w h Y => PySem.W.kIn_of Y) ?F
  case F =>
    intro w mg fa h Y KX G hmg own
    refine' My.all_mk KX G hmg own ?a0 ?l0 ?c0_ ?k0 ?a1 ?l1 ?c1_ ?k1 ?a2 ?l2 ?c2_ ?k2 ?lc2 ?vc2 ?np2 ?rc2 ?a3 ?l3 ?c3_ ?k3 ?a4 ?l4 ?c4_ ?k4 ?a5 ?l5 ?c5_ ?k5 ?a6 ?l6 ?c6_ ?k6 ?lc6 ?vc6 ?np6 ?rc6 ?a7 ?l7 ?c7_ ?k7 ?a8 ?l8 ?c8_ ?k8 ?a9 ?l9 ?c9_ ?k9 ?a10 ?l10 ?c10_ ?k10 ?a11 ?l11 ?c11_ ?k11 ?a12 ?l12 ?c12_ ?k12 ?a13 ?l13 ?c13_ ?k13 ?a14 ?l14 ?c14_ ?k14 ?a15 ?l15 ?c15_ ?k15 ?a16 ?l16 ?c16_ ?k16 ?a17 ?l17 ?c17_ ?k17 ?a18 ?l18 ?c18_ ?k18 ?a19 ?l19 ?c19_ ?k19 ?a20 ?l20 ?c20_ ?k20 ?z0 ?z1 ?z2 ?z3 ?z4 ?z5 ?z6 ?z7 ?z8 ?z9 ?z10 ?z11 ?z12 ?z13 ?z14 ?y0
    (case a0 => k_is)
    (case l0 => k_is)
    (case c0_ => k_is)
    (case k0 => k_is)
    (case a1 => k_is)
    (case l1 => k_is)
    (case c1_ => k_is)
    (case k1 => k_is)
    (case a2 => k_is)
    (case l2 => k_is)
    (case c2_ => k_is)
    (case k2 => k_is)
    (case lc2 => k_is)
    (case vc2 => rfl)
    (case np2 => first | rfl | kernel_rfl)
    (case rc2 => decide +kernel)
    (case a3 => k_is)
    (case l3 => k_is)
    (case c3_ => k_is)
    (case k3 => k_is)
    (case a4 => k_is)
    (case l4 => k_is)
    (case c4_ => k_is)
    (case k4 => k_is)
    (case a5 => k_is)
    (case l5 => k_is)
    (case c5_ => k_is)
    (case k5 => k_is)
    (case a6 => k_is)
    (case l6 => k_is)
    (case c6_ => k_is)
    (case k6 => k_is)
    (case lc6 => k_is)
    (case vc6 => rfl)
    (case np6 => first | rfl | kernel_rfl)
    (case rc6 => decide +kernel)
    (case a7 => k_is)
    (case l7 => k_is)
    (case c7_ => k_is)
    (case k7 => k_is)
    (case a8 => k_is)
    (case l8 => k_is)
    (case c8_ => k_is)
    (case k8 => k_is)
    (case a9 => k_is)
    (case l9 => k_is)
    (case c9_ => k_is)
    (case k9 => k_is)
    (case a10 => k_is)
    (case l10 => k_is)
    (case c10_ => k_is)
    (case k10 => k_is)
    (case a11 => k_is)
    (case l11 => k_is)
    (case c11_ => k_is)
    (case k11 => k_is)
    (case a12 => k_is)
    (case l12 => k_is)
    (case c12_ => k_is)
    (case k12 => k_is)
    (case a13 => k_is)
    (case l13 => k_is)
    (case c13_ => k_is)
    (case k13 => k_is)
    (case a14 => k_is)
    (case l14 => k_is)
    (case c14_ => k_is)
    (case k14 => k_is)
    (case a15 => k_is)
    (case l15 => k_is)
    (case c15_ => k_is)
    (case k15 => k_is)
    (case a16 => k_is)
    (case l16 => k_is)
    (case c16_ => k_is)
    (case k16 => k_is)
    (case a17 => k_is)
    (case l17 => k_is)
    (case c17_ => k_is)
    (case k17 => k_is)
    (case a18 => k_is)
    (case l18 => k_is)
    (case c18_ => k_is)
    (case k18 => k_is)
    (case a19 => k_is)
    (case l19 => k_is)
    (case c19_ => k_is)
    (case k19 => k_is)
    (case a20 => k_is)
    (case l20 => k_is)
    (case c20_ => k_is)
    (case k20 => k_is)
    (case z0 => k_is)
    (case z1 => k_is)
    (case z2 => k_is)
    (case z3 => k_is)
    (case z4 => k_is)
    (case z5 => k_is)
    (case z6 => k_is)
    (case z7 => k_is)
    (case z8 => k_is)
    (case z9 => k_is)
    (case z10 => k_is)
    (case z11 => k_is)
    (case z12 => k_is)
    (case z13 => k_is)
    (case z14 => k_is)
    (case y0 => k_is)

