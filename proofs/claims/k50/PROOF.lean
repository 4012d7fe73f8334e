import PyProof.Rows.All
import Wide.All
import OpenK.AllK
import Wide.FinOn
import HandS.ForMost
import HandS.Walk
import HandS.IsInst
import HandS.DictComp
import HandS.SortInts
import HandS.NoneIn
import HandS.Replace
import HandS.TupAny
import HandS.TupLe
import PyProof.ListStr
import PyProof.TupleOfStr
import KE.GoesNew
import HandS.Zip
import HandS.More
import PyProof.StrLawsFirst
import HandS.Conv
import KE.KSortedM
import HandS.AnyAll
import HandS.EndTab
import PyProof.TupleOfGen
import HandS.EndOwn
import KE.KDictPairs
import KE.SortData
import KE.DataCmp
import PyProof.DictWalks
import KE.KDictWalk
import HandS.Style
import PyProof.CollectStr
import PyProof.SliceStr2
import PyProof.TupleOfSeq
import HandS.Star
import HandS.Wide
import KE.DataMinMax
import HandS.GenOver
import HandS.GenList
import KE.DatumIndex
import PyProof.ConsumeWalk
import HandS.SetFor
import PyProof.StrWalks
import PyProof.SetRoads
import PyProof.Rows.StrCase
import HandS.TupMul
import PyProof.ListNew
import HandS.SetBool
import KE.DataMinKey
import HandS.SortKw
import HandS.Strs
import HandS.Deep
import HandS.ListItems
import KE.KDictZip
import KE.GoesMore
import KE.GoesEnum
import HandS.Nested
import KE.KMinKey
import KE.GoesZip
import HandS.DictSub
import HandS.Defaults
import HandS.Head0
import HandS.Head1
import HandS.Head2
import HandS.HeadHook1
import HandS.HeadHook2
import HandS.HeadHook3
import HandS.HeadHook4
import HandS.HeadWalk
import KE.SortKeyHeap
import HandS.Keys
import HandS.Text
import PyProof.P3In
import KE.KDictSum
import KE.KEqDict
import KE.KDictKeyed
import KE.KDictItemsList
import HandS.TupLen
import HandS.ExcIs
import HandS.ExcOwn
import HandS.Lambda
import HandS.WordsExc
import KE.KDictDisplayH
import HandS.FStr
import HandS.ExcInit
import HandS.ExcField
import HandS.Words
import KE.KExcSuper
import HandS.ReplaceLit
import PyProof.StrBlock2
import PySem.Challenge.RW_stretchkeep_k50_questions_written_and_re
set_option Elab.async false
set_option linter.all false
set_option maxRecDepth 100000
namespace My
open PySem PySem.Spec PyProof.Rows L2
/-! ### heaps -/
/-- all but r is as it was -/
def Kp (r : Addr) (H H' : Hp) : Prop := ∀ b o, b ≠ r → H b = some o → H' b = some o
theorem Kp.rfl' {r : Addr} {H : Hp} : Kp r H H := fun _ _ _ h => h
theorem Kp.trans {r : Addr} {H H1 H2 : Hp} (a : Kp r H H1) (b : Kp r H1 H2) : Kp r H H2 := fun c o n h => b c o n (a c o n h)
theorem Kp.new {r p : Addr} {H H1 : Hp} {o : HO} (a : Kp r H H1) (n : H1 p = none) : Kp r H (upd H1 p o) := fun b x nb h => by
  have h1 := a b x nb h
  rw [upd_ne (ne_of_none h1 n)]
  exact h1
theorem Kp.own {r : Addr} {H H1 : Hp} {o : HO} (a : Kp r H H1) : Kp r H (upd H1 r o) := fun b x nb h => by
  rw [upd_ne nb]
  exact a b x nb h
/-- an object that H does not know is written -/
theorem Kp.mut {r p : Addr} {H H1 : Hp} {o : HO} (a : Kp r H H1) (n : H p = none) : Kp r H (upd H1 p o) := fun b x nb h => by
  rw [upd_ne (ne_of_none h n)]
  exact a b x nb h
theorem Same.kp {r : Addr} {H H' : Hp} (s : Same H H') : Kp r H H' := fun b o _ h => s b o h
theorem Same.new {p : Addr} {H H1 : Hp} {o : HO} (a : Same H H1) (n : H1 p = none) : Same H (upd H1 p o) := fun b x h => by
  have h1 := a b x h
  rw [upd_ne (ne_of_none h1 n)]
  exact h1
theorem Same.mut {p : Addr} {H H1 : Hp} {o : HO} (a : Same H H1) (n : H p = none) : Same H (upd H1 p o) := fun b x h => by
  rw [upd_ne (ne_of_none h n)]
  exact a b x h
theorem Same.tup {K : PySem.W.Frag} {H H' : Hp} {a : Addr} {xs : List V} (e : Same H H') (h : SqT K H a xs) : SqT K H' a xs := by
  rcases h with (h | ⟨o, h⟩) | h
  · exact .inl (.inl (e _ _ h))
  · exact .inl (.inr ⟨o, e _ _ h⟩)
  · exact .inr h
theorem Same.kpN {r : Addr} {H H1 H2 : Hp} (s : Same H H1) (n : H r = Option.none) (k : Kp r H1 H2) : Same H H2 := fun b o h => k b o (ne_of_none h n) (s b o h)
theorem Kp.none {r p : Addr} {H H' : Hp} (e : Kp r H H') (n : p ≠ r) (h : H' p = Option.none) : H p = Option.none := by
  cases q : H p with
  | none => rfl
  | some o =>
    rw [e p o n q] at h
    cases h
theorem keep_new {H : Hp} {p b : Addr} {o x : HO} (h : H b = some x) (n : H p = Option.none) : (upd H p o) b = some x := by
  rw [upd_ne (ne_of_none h n)]
  exact h
theorem keep_ne {H : Hp} {p b : Addr} {o x : HO} (h : H b = some x) (n : b ≠ p) : (upd H p o) b = some x := by
  rw [upd_ne n]
  exact h
/-! ### a word between a statement and the rest -/
def tMid (t u : TS) : TS := fun D σ H => ∃ M : L2.St → Hp → Prop, t { D with nx := M } σ H ∧ ∀ σ1 H1, M σ1 H1 → u D σ1 H1
theorem pss_mid {X : Cx} {st : Stmt} {r : List Stmt} {t u : TS} (a : PS X st t) (b : PSs X r u) : PSs X (st :: r) (tMid t u) := ⟨fun pins s σ H D I h => by
  obtain ⟨M, hm, hu⟩ := h
  refine wpAny_execs_cons (thn (a.run pins s σ H { D with nx := M } I hm) fun f s1 q => ?_)
  cases f
  case next =>
    obtain ⟨σ1, H1, I1, q1⟩ := q
    exact b.run pins s1 σ1 H1 D I1 (hu σ1 H1 q1)
  all_goals exact q⟩
/-! ### texts -/
/-- a text of these codes; one sign -/
abbrev tx (l : List Nat) : V := .str ⟨l.toArray⟩
abbrev sg (c : Nat) : V := .str ⟨#[c]⟩
theorem signs_vals {x : Str} {acc : Array Value} (h : ItemsOf (SignAt x) acc x.cps.size) : Vals (x.cps.toList.map sg) acc.toList := by
  obtain ⟨hz, hi⟩ := h
  have key : ∀ (l : List Nat) (us : List Value), l.length = us.length → (∀ (j : Nat) (c : Nat) (v : Value), l[j]? = some c → us[j]? = some v → ∃ t, v = Value.str ⟨#[c]⟩ t) → Vals (l.map sg) us := by
    intro l
    induction l with
    | nil =>
      intro us hl _
      cases us with
      | nil => exact .nil
      | cons a b => cases hl
    | cons c l ih =>
      intro us hl hh
      cases us with
      | nil => cases hl
      | cons u us =>
        refine .cons ?_ (ih us (Nat.succ.inj hl) fun j c v h1 h2 => hh (j + 1) c v h1 h2)
        obtain ⟨t, e⟩ := hh 0 c u rfl rfl
        exact ⟨t, e⟩
  refine key _ _ (by rw [Array.length_toList, Array.length_toList, hz]) fun j c v h1 h2 => ?_
  obtain ⟨cc, t, e1, e2⟩ := hi j v (by rw [← Array.getElem?_toList]; exact h2)
  rw [Array.getElem?_toList] at h1
  rw [h1] at e1
  cases e1
  exact ⟨t, e2⟩
/-- the text of one sign -/
abbrev sS (c : Nat) : Str := ⟨#[c]⟩
theorem str_empty : (Str.ofString "").cps = #[] := by decide +kernel
theorem join_signs : ∀ l : List Nat, Txt.join (Str.ofString "") (l.map sS) = ⟨l.toArray⟩ := by
  intro l
  show PySem.Builtin.Str.glued (Str.ofString "") (l.map sS) = _
  rw [PySem.StrLaws.glued_eq_join]
  induction l with
  | nil => rfl
  | cons c l ih =>
    cases l with
    | nil => rfl
    | cons d l =>
      show sS c ++ Str.ofString "" ++ Str.join (Str.ofString "") ((d :: l).map sS) = _
      rw [ih]
      show (⟨(#[c] ++ (Str.ofString "").cps) ++ (d :: l).toArray⟩ : Str) = _
      rw [str_empty]
      simp
theorem ltCps_one {a b : Nat} (h : ltCps [a] [b] = false) : b ≤ a := by
  simp [ltCps] at h
  exact h
theorem rising_signs : ∀ (l : List Nat) (c : Nat), risingS (sS c) (l.map sS) = true → (c :: l).Pairwise (· ≤ ·)
  | [], c, _ => List.pairwise_singleton _ _
  | d :: l, c, h => by
    have h' : (!ltCps [d] [c] && risingS (sS d) (l.map sS)) = true := h
    rw [Bool.and_eq_true, Bool.not_eq_true'] at h'
    have hd := ltCps_one h'.1
    have ih := rising_signs l d h'.2
    refine List.Pairwise.cons (fun x hx => ?_) ih
    rcases List.mem_cons.mp hx with e | hx
    · rw [e]
      exact hd
    · exact Nat.le_trans hd ((List.pairwise_cons.mp ih).1 x hx)
theorem sorted_signs : ∀ (l : List Nat), sortedS (l.map sS) = true → l.Pairwise (· ≤ ·)
  | [], _ => List.Pairwise.nil
  | c :: l, h => rising_signs l c h
theorem perm_signs {ys : List Str} {l : List Nat} (h : ys.Perm (l.map sS)) : ∃ l' : List Nat, ys = l'.map sS ∧ l'.Perm l := by
  let hd : Str → Nat := fun z => z.cps.toList.headD 0
  refine ⟨ys.map hd, ?_, ?_⟩
  · rw [List.map_map]
    have e : ∀ y ∈ ys, (sS ∘ hd) y = y := fun y hy => by
      obtain ⟨c, _, rfl⟩ := List.mem_map.mp (h.mem_iff.mp hy)
      rfl
    conv => lhs; rw [← List.map_id ys]
    exact (List.map_congr_left e).symm
  · have e := h.map hd
    rw [List.map_map] at e
    have e2 : l.map (hd ∘ sS) = l := by
      conv => rhs; rw [← List.map_id l]
      exact List.map_congr_left fun c _ => rfl
    rw [e2] at e
    exact e
theorem strict_of {l : List Nat} (h : l.Pairwise (· ≤ ·)) (n : l.Nodup) : l.Pairwise (· < ·) := by
  refine (h.and n).imp fun {a b} q => ?_
  have h1 := q.1
  have h2 : a ≠ b := q.2
  omega
theorem map_sg (l : List Nat) : l.map sg = (l.map sS).map V.str := by
  rw [List.map_map]
  rfl
theorem erase_map {α β : Type} (f : α → β) : ∀ (l : List α) (k : Nat), (l.map f).eraseIdx k = (l.eraseIdx k).map f
  | [], _ => rfl
  | _ :: _, 0 => rfl
  | a :: l, k + 1 => by
    show f a :: (l.map f).eraseIdx k = f a :: (l.eraseIdx k).map f
    rw [erase_map f l k]
theorem pop_perm : ∀ {l : List Nat} {k : Nat} {y : Nat}, l[k]? = some y → (y :: l.eraseIdx k).Perm l
  | [], k, y, h => by simp at h
  | a :: l, 0, y, h => by
    have e : a = y := Option.some.inj h
    rw [e]
    exact List.Perm.refl _
  | a :: l, k + 1, y, h => by
    have ih := pop_perm (l := l) (k := k) (y := y) h
    exact (List.Perm.swap a y (l.eraseIdx k)).trans (ih.cons a)
theorem popped {l : List Nat} {k : Nat} {y : Nat} (h : l[k]? = some y) (f : List Nat) : (l.eraseIdx k ++ (f ++ [y])).Perm (l ++ f) := by
  have p := pop_perm h
  have p1 : (l.eraseIdx k ++ (f ++ [y])).Perm ([y] ++ (l.eraseIdx k ++ f)) := by
    rw [← List.append_assoc]
    exact List.perm_append_comm
  refine p1.trans ?_
  rw [← List.append_assoc]
  exact p.append_right f
section
variable {X : Cx}
theorem call_list_txt (hc : X.calm = true := by rfl) : CallR X (.type "list") (fun xs H Q => ∃ z : Str, xs = [.str z] ∧ z.length ≤ sizeLine ∧ ∀ l, H l = none → Q (.ref l) (upd H l (.lst (z.cps.toList.map sg)))) := by
  intro pins s σ H xs us Q I r h
  obtain ⟨z, rfl, hz, q⟩ := h
  obtain ⟨u, rfl, rx⟩ := vals1 r
  obtain ⟨t, rfl⟩ := rx
  refine PySem.call_list_str (I.ok.hd hc) z t (fun h' tk acc c kp e hi => ?_) hz
  have hv := signs_vals hi
  exact ⟨.ref s.heap.objs.size, _, I.laid (t' := tk) kp (Nat.le_refl _) (show ObjOk X.prog X.w _ h' _ (.lst (z.cps.toList.map sg)) from ⟨by rw [List.length_map, Array.length_toList]; exact hz, acc.toList, c, hv, by rw [Array.toArray_toList]; exact e⟩), rfl, q _ (I.hok.fresh (Nat.le_refl _))⟩
end
end My

set_option Elab.async false
set_option linter.all false
set_option maxRecDepth 100000
set_option maxHeartbeats 1000000
namespace My
open PySem PySem.Spec PyProof.Rows L2
/-! ### enumerate over a text, over a tuple -/
def ItEg (go : Nat → Hp → Prop) (val : Nat → Hp → V → Prop) (stop : Nat → Hp → Prop) : It :=
  ⟨go, fun i H v H' => ∃ T x, v = .ref T ∧ H T = none ∧ H' = upd H T (.tup [.int (i : Nat), x]) ∧ val i H x, stop⟩
theorem turn_eg {P : Program} {w : World} {K : PySem.W.Frag} {elts : List Expr} {kk : Nat} {tpos : Pos} {e it : Addr} {Sub : Nat → Heap → Prop} {go stop : Nat → Hp → Prop} {val : Nat → Hp → V → Prop} (hne : e ≠ it)
    (obj : ∀ i h, Sub i h → ∃ o, h.get? it = some o ∧ ∀ v, o.data ≠ .cell v)
    (keep : ∀ i h h', Sub i h → (∀ o, h.get? it = some o → h'.get? it = some o) → Sub i h')
    (draw : ∀ (X : Cx) (pins : List (Addr × Obj)) (σ : L2.St) (H : Hp) (s : Shared) (i : Nat), X.prog = P → X.w = w → X.K = K → X.calm = true → Inv X pins σ H s → (∃ old, IsEnum s.heap e it ((i : Nat) : Int) old) → Sub i s.heap → go i H ∨ stop i H →
      ∃ (fp : List Addr) (n : Nat) (Pd : Nat → Value → Prop) (St : Nat → Heap → Prop), Draws P w X.A.in1 it fp n Pd St ∧ St i s.heap ∧ (∀ j h, St j h → Sub j h) ∧ e ∉ fp ∧ (go i H → i < n) ∧ (stop i H → i = n) ∧ (go i H → ∀ u, Pd i u → ∃ x, RelV x u ∧ val i H x)) :
    Turn P w K (.Tuple elts kk tpos) (ItEg go val stop) [e, it] e (fun i h => (∃ old, IsEnum h e it ((i : Nat) : Int) old) ∧ Sub i h) where
  mem := by simp
  obj := fun i h st b hb => by
    obtain ⟨⟨old, he⟩, hs⟩ := st
    have hb2 : b = e ∨ b = it := by simpa using hb
    rcases hb2 with z | z
    · rw [z]
      exact ⟨_, he, fun v q => nomatch q⟩
    · rw [z]
      exact obj i h hs
  keep := fun i h h' st k => by
    obtain ⟨⟨old, he⟩, hs⟩ := st
    exact ⟨⟨old, k e (by simp) _ he⟩, keep i h h' hs fun o q => k it (by simp) o q⟩
  item := by
    intro X hP hw hK hc i pins s σ H E I hf st hg
    obtain ⟨fp, n, Pd, St, D, hst, hsub, hef, hlt, _, hval⟩ := draw X pins σ H s i hP hw hK hc I st.1 st.2 (.inl hg)
    obtain ⟨⟨old, he⟩, hs⟩ := st
    subst hP hw hK
    have hel : e < s.heap.objs.size := Heap.lt_size he
    have hil : it < s.heap.objs.size := by
      obtain ⟨o, q, _⟩ := obj i _ hs
      exact Heap.lt_size q
    refine wpAny_pyNext_enum_itemC D he hst (hlt hg) hne hef fun u h' tk hu ho hst' hT hsz hk => ?_
    obtain ⟨x, ru, hv⟩ := hval hg u hu
    refine ⟨_, rfl, wpAny_letOwnedTupleGo_enum (s := { s with heap := h', toks := tk + 1 }) ho fun h'' he' sb => ?_⟩
    have hT2 : h''.get? s.heap.objs.size = some { cls := .type "tuple", data := .seq #[.int i tk, u] } := (sb.2 _ (Nat.ne_of_gt hel)).trans hT
    have new : ObjOk X.prog X.w (upd H s.heap.objs.size (.tup [.int (i : Nat), x])) h'' s.heap.objs.size (.tup [.int (i : Nat), x]) := ⟨by show 2 ≤ sizeLine; decide, [.int i tk, u], .cons ⟨_, rfl⟩ (.cons ru .nil), ⟨_, hT2, rfl, _, rfl⟩⟩
    have I1 : Inv X pins σ (upd H s.heap.objs.size (.tup [.int (i : Nat), x])) { s with heap := h'', toks := tk + 1 } :=
      I.turnedNew (ch := [e, it]) (fun b ob hb q => (sb.2 b fun z => hb (by simp [z])).trans (hk b ob (fun z => hb (by simp [z])) (fun z => hb (by simp [z])) q)) hf (Nat.le_refl _) new
    refine ⟨.ref s.heap.objs.size, _, I1, rfl, ⟨_, x, rfl, I.hok.fresh (Nat.le_refl _), rfl, hv⟩, ⟨⟨u, ?_⟩, keep _ _ _ (hsub _ _ hst') fun o q => (sb.2 it (Ne.symm hne)).trans q⟩, fun b hb => ?_⟩
    · have e1 : ((i + 1 : Nat) : Int) = (i : Int) + 1 := by omega
      rw [e1]
      exact he'
    · have hb2 : b = e ∨ b = it := by simpa using hb
      have hb' : b < s.heap.objs.size := by
        rcases hb2 with z | z
        · rw [z]
          exact hel
        · rw [z]
          exact hil
      rw [upd_ne (Nat.ne_of_lt hb')]
      exact (hf b hb).1
  done := by
    intro X hP hw hK hc i pins s σ H E I hf st hg
    obtain ⟨fp, n, Pd, St, D, hst, hsub, hef, _, heq, _⟩ := draw X pins σ H s i hP hw hK hc I st.1 st.2 (.inr hg)
    obtain ⟨⟨old, he⟩, hs⟩ := st
    subst hP hw hK
    have ei := heq hg
    subst ei
    obtain ⟨f0, f1, f2, f3, f4, f5⟩ := hf it (by simp)
    exact wpAny_pyNext_enum_endD D he hst fun h' eb => ⟨rfl, I.turned (t' := s.toks) (fun b o hb q => eb b o hb q) f0 f1 f3 f4 f5⟩
  self := fun A i s Q E st h => by
    obtain ⟨⟨old, he⟩, _⟩ := st
    exact wpAny_pyIter_enum he h
/-- the signs of a text with their places -/
def Ites (z : Str) : It := ItEg (fun i _ => i < z.cps.size) (fun i _ x => ∃ c, z.cps[i]? = some c ∧ x = sg c) (fun i _ => i = z.cps.size)
theorem turn_es {P : Program} {w : World} {K : PySem.W.Frag} {elts : List Expr} {kk : Nat} {tpos : Pos} {e it : Addr} (z : Str) (t : Tok) (hne : e ≠ it) :
    Turn P w K (.Tuple elts kk tpos) (Ites z) [e, it] e (fun i h => (∃ old, IsEnum h e it ((i : Nat) : Int) old) ∧ h.IsStrIter it (strIterType z) z t i) := by
  refine turn_eg hne (fun i h st => ?_) (fun i h h' st k => ?_) (fun X pins σ H s i hP hw hK hc I hen st hg => ?_)
  · obtain ⟨o, e1, c, d⟩ := st
    exact ⟨o, e1, fun v q => by rw [d] at q; cases q⟩
  · obtain ⟨o, ho, r⟩ := st
    exact ⟨o, k o ho, r⟩
  · have hh : X.A.in1.handled = none := I.ok.hd hc
    subst hP hw hK
    refine ⟨_, _, _, _, Draws.text hh it z t, st, fun _ _ q => q, fun q => hne (by simpa using q), fun q => q, fun q => q, fun _ u hu => ?_⟩
    obtain ⟨c, tk, e1, e2⟩ := hu
    exact ⟨sg c, ⟨tk, e2⟩, c, e1, rfl⟩
section
variable {X : Cx}
def iEnumS (ta : TA) : TI := fun σ H R => ta σ H fun vs H1 => ∃ z, vs = [.str z] ∧ R (Ites z) H1
theorem fresh2 {pins : List (Addr × Obj)} {σ : L2.St} {H : Hp} {s : Shared} (I : Inv X pins σ H s) : ∀ b ∈ [s.heap.objs.size + 1, s.heap.objs.size], FpOk X pins H b := fun b hb => by
  have hb2 : b = s.heap.objs.size + 1 ∨ b = s.heap.objs.size := by simpa using hb
  have hle : s.heap.objs.size ≤ b := by
    rcases hb2 with z | z
    · rw [z]
      exact Nat.le_succ _
    · rw [z]
      exact Nat.le_refl _
  exact I.fpOk hle (I.hok.fresh hle)
theorem pi_enumS {e : Expr} {ta : TA} {p pos tpos : Pos} {elts : List Expr} {kk : Nat} (hg : Gl X "enumerate") (hm : X.mg "enumerate" = none) (ha : PA X [e] ta) (hs : starEach [e] X.env = [(false, eval e X.env)] := by rfl) :
    PI X (.Tuple elts kk tpos) (.Call (.Name "enumerate" p) [e] [] pos) (iEnumS ta) := by
  refine ⟨fun pins s σ H R I h => ?_⟩
  refine Call_ (ld_blt I hg hm boot_enumerate (PyProof.Rows.callWith_type1 (thn (ha.run pos pins s σ H _ I h) fun us s1 ⟨vs, H1, I1, r1, q1⟩ => ?_) hs rfl))
  obtain ⟨z, rfl, q⟩ := q1
  obtain ⟨u, rfl, ru⟩ := vals1 r1
  obtain ⟨t, rfl⟩ := ru
  refine call_enumerate_str fun h' he hit hsz hk => wpAny_pyIter_enum he ?_
  exact ⟨s1.heap.objs.size + 1, [s1.heap.objs.size + 1, s1.heap.objs.size], _, _, H1, rfl, I1.kept (t' := s1.toks) hk, turn_es z t (Nat.succ_ne_self _), ⟨⟨.none, he⟩, hit⟩, fresh2 I1, q⟩
end
theorem walk_es {z : Str} : Walk (Ites z) z.cps.size (fun _ => True) (YPair (fun i => some (.int (i : Nat))) (fun i => z.cps[i]?.map sg)) := by
  refine ⟨fun _ _ hi _ => hi, fun _ _ => rfl, fun i H v H' hi _ y => ?_⟩
  obtain ⟨T, x, h1, h2, h3, c, h4, h5⟩ := y
  exact ⟨T, .int (i : Nat), x, h1, h2, h3, rfl, by show Option.map sg z.cps[i]? = some x; rw [h4, h5]; rfl⟩
end My

set_option Elab.async false
set_option linter.all false
set_option maxRecDepth 100000
set_option maxHeartbeats 1000000
namespace My
open PySem PySem.Spec PyProof.Rows L2
/-! ### calls by named readings -/
def rLenSq (K : PySem.W.Frag) : List V → Hp → VK → Prop := fun xs H Q => ∃ p ys, xs = [.ref p] ∧ (SqL K H p ys ∨ SqT K H p ys) ∧ Q (.int (ys.length : Nat)) H
def rListSq (K : PySem.W.Frag) : List V → Hp → VK → Prop := fun xs H Q => ∃ p ys, xs = [.ref p] ∧ (SqL K H p ys ∨ SqT K H p ys) ∧ ∀ l, H l = none → Q (.ref l) (upd H l (.lst ys))
def rTupSq (K : PySem.W.Frag) : List V → Hp → VK → Prop := fun xs H Q => ∃ p ys, xs = [.ref p] ∧ ((SqL K H p ys ∧ ∀ l, H l = none → Q (.ref l) (upd H l (.tup ys))) ∨ (SqT K H p ys ∧ Q (.ref p) H))
section
variable (K : PySem.W.Frag) {X : Cx}
theorem cLenSq (hK : X.K = K := by rfl) : CallR X (.builtin "len") (rLenSq K) := by
  subst hK
  exact call_len_seq
theorem cListSq (hK : X.K = K := by rfl) : CallR X (.type "list") (rListSq K) := by
  subst hK
  exact call_list_of
theorem cTupSq (hK : X.K = K := by rfl) : CallR X (.type "tuple") (rTupSq K) := by
  subst hK
  exact call_tuple_of
theorem ixL (hK : X.K = K := by rfl) : IxR X (rIxL K) := by
  subst hK
  exact ix_list
theorem ixT (hK : X.K = K := by rfl) : IxR X (rIxT K) := by
  subst hK
  exact ix_tup
theorem piL {tg l : Expr} {tl : TE} (hl : PE X l tl) (hK : X.K = K := by rfl) : PI X tg l (iList K tl) := by
  subst hK
  exact pi_list hl
theorem piT {tg l : Expr} {tl : TE} (hl : PE X l tl) (hK : X.K = K := by rfl) : PI X tg l (iTup K tl) := by
  subst hK
  exact pi_tup hl
theorem pgT {es : List Expr} {k : Nat} {t : TGs} {n : Nat} {pos : Pos} (h : PGs X es t) (hK : X.K = K := by rfl) (hc : X.calm = true := by rfl) (hn : (assignEach es X.env).length = n := by rfl) (hst : (assignEach es X.env).findIdx? (·.1) = none := by rfl) : PG X (.Tuple es k pos) (gTup K n t) := by
  subst hK
  exact pg_tup hc h hn hst
theorem inSq (hK : X.K = K := by rfl) : OpR X (compareOp .In) (rIn K false) := by
  subst hK
  exact op_in_seq
theorem notInSq (hK : X.K = K := by rfl) : OpR X (compareOp .NotIn) (rIn K true) := by
  subst hK
  exact op_notIn_seq
theorem eqDK (hu : X.A.units + 64 < cLine) (hK : X.K = K := by rfl) : OpR X (compareOp .Eq) (rEqD K) := by
  subst hK
  exact op_eqD hu
theorem neDK (hu : X.A.units + 64 < cLine) (hK : X.K = K := by rfl) : OpR X (compareOp .NotEq) (rNeD K) := by
  subst hK
  exact op_neD hu
theorem bmK {T id : String} {name : Str} {r : V → List V → Hp → VK → Prop} {o e : Expr} {es : List Expr} {to : TE} {t : TA} {apos cpos : Pos} (pa : PlainAttrs T) (slot : Slot T name id) (hty : typeOf (.builtin id) = pure (.type "method_descriptor")) (hm : MtR X id r) (ho : PE X o to) (ha : PA X (e :: es) t) (hK : X.K = K := by rfl)
    (hbase : attributeBase o name X.env (eval o X.env) = eval o X.env := by rfl)
    (hfew : ((backTo cpos (starEach (e :: es) X.env)).all (fun x => !x.1) && (backToKw cpos (keywordEach [] X.env)).all (fun x => x.1.isSome) && decide ((e :: es).length + ([] : List Keyword).length + (if ([] : List Keyword).isEmpty then 0 else 1) < 30)) = true := by rfl)
    (hline : (apos.endLine == cpos.line) = true := by rfl) (hs : starEach (e :: es) X.env = (false, eval e X.env) :: starEach es X.env := by rfl) (hplain : (backTo cpos (starEach es X.env)).any (·.1) = false := by rfl) :
    PE X (.Call (.Attribute o name apos) (e :: es) [] cpos) (tBM K T r to t) := by
  subst hK
  exact pe_bm pa slot hty hm ho ha hbase hfew hline hs hplain
theorem zipAK {e e2 : Expr} {ta : TA} {p pos tpos : Pos} {elts : List Expr} {kk : Nat} (hg : Gl X "zip") (hm : X.mg "zip" = none) (ha : PA X [e, e2] ta) (hK : X.K = K := by rfl)
    (hs : starEach [e, e2] X.env = (false, eval e X.env) :: starEach [e2] X.env := by rfl) (hpl : (backTo pos (starEach [e2] X.env)).any (·.1) = false := by rfl) :
    PI X (.Tuple elts kk tpos) (.Call (.Name "zip" p) [e, e2] [] pos) (RZ.iZipA K ta) := by
  subst hK
  exact RZ.pi_zipA hg hm ha hs hpl
theorem isiK (hK : X.K = K := by rfl) : CallR X (.builtin "isinstance") (rIsi K) := by
  subst hK
  exact call_isi
end
/-! ### frozen data: numbers, texts, None, truths, tuples of these -/
mutual
inductive Fz (H : Hp) : V → PyData → Prop
  | non : Fz H .non .none
  | bl (b : Bool) : Fz H (.bl b) (.bool b)
  | int (i : Int) : Fz H (.int i) (.int i)
  | str (x : Str) : Fz H (.str x) (.str x)
  | tup {a : Addr} {xs : List V} {ds : List PyData} : H a = some (.tup xs) → FzA H xs ds → Fz H (.ref a) (.tuple ds)
inductive FzA (H : Hp) : List V → List PyData → Prop
  | nil : FzA H [] []
  | cons {v : V} {vs : List V} {d : PyData} {ds : List PyData} : Fz H v d → FzA H vs ds → FzA H (v :: vs) (d :: ds)
end
/-- tuples stay -/
def Kt (H H' : Hp) : Prop := ∀ b xs, H b = some (.tup xs) → H' b = some (.tup xs)
theorem Kt.rfl' {H : Hp} : Kt H H := fun _ _ h => h
theorem Kt.trans {H H1 H2 : Hp} (a : Kt H H1) (b : Kt H1 H2) : Kt H H2 := fun c o h => b c o (a c o h)
theorem Kt.new {H : Hp} {p : Addr} {o : HO} (n : H p = none) : Kt H (upd H p o) := fun b xs h => by
  rw [upd_ne (ne_of_none h n)]
  exact h
theorem Kt.lst {H : Hp} {p : Addr} {xs : List V} {o : HO} (n : H p = some (.lst xs)) : Kt H (upd H p o) := fun b ys h => by
  have e : b ≠ p := fun z => by
    rw [z, n] at h
    cases h
  rw [upd_ne e]
  exact h
theorem Kp.kt {r : Addr} {H H' : Hp} {xs : List V} (k : Kp r H H') (h : H r = some (.lst xs)) : Kt H H' := fun b ys e => k b _ (fun z => by
  rw [z, h] at e
  cases e) e
theorem Same.kt {H H' : Hp} (k : Same H H') : Kt H H' := fun b ys e => k b _ e
mutual
theorem Fz.mono {H H' : Hp} (k : Kt H H') : ∀ (d : PyData) (v : V), Fz H v d → Fz H' v d
  | .none, _, .non => .non
  | .bool _, _, .bl b => .bl b
  | .int _, _, .int i => .int i
  | .str _, _, .str x => .str x
  | .tuple ds, _, .tup h a => .tup (k _ _ h) (FzA.mono k ds _ a)
theorem FzA.mono {H H' : Hp} (k : Kt H H') : ∀ (ds : List PyData) (vs : List V), FzA H vs ds → FzA H' vs ds
  | [], _, .nil => .nil
  | d :: ds, _, .cons h a => .cons (Fz.mono k d _ h) (FzA.mono k ds _ a)
end
theorem Fz.kt {H H' : Hp} {v : V} {d : PyData} (h : Fz H v d) (k : Kt H H') : Fz H' v d := Fz.mono k d v h
theorem FzA.kt {H H' : Hp} {vs : List V} {ds : List PyData} (h : FzA H vs ds) (k : Kt H H') : FzA H' vs ds := FzA.mono k ds vs h
mutual
theorem Fz.dp {K : PySem.W.Frag} {H : Hp} : ∀ (d : PyData) (v : V), Fz H v d → Dp K H v d
  | .none, _, .non => .non
  | .bool _, _, .bl b => .bl b
  | .int _, _, .int i => .int i
  | .str _, _, .str x => .str x
  | .tuple ds, _, .tup h a => .tup (.inl (.inl h)) (FzA.dp ds _ a)
theorem FzA.dp {K : PySem.W.Frag} {H : Hp} : ∀ (ds : List PyData) (vs : List V), FzA H vs ds → DpAll K H vs ds
  | [], _, .nil => .nil
  | d :: ds, _, .cons h a => .cons (Fz.dp d _ h) (FzA.dp ds _ a)
end
theorem Fz.to {K : PySem.W.Frag} {H : Hp} {v : V} {d : PyData} (h : Fz H v d) : Dp K H v d := Fz.dp d v h
theorem FzA.len : ∀ {H : Hp} {vs : List V} {ds : List PyData}, FzA H vs ds → vs.length = ds.length
  | _, _, _, .nil => rfl
  | _, _, _, .cons _ a => by
    rw [List.length_cons, List.length_cons, FzA.len a]
theorem FzA.get : ∀ {H : Hp} {vs : List V} {ds : List PyData} {i : Nat} {d : PyData}, FzA H vs ds → ds[i]? = some d → ∃ v, vs[i]? = some v ∧ Fz H v d
  | _, _, _, _, _, .nil, h => by simp at h
  | _, _, _, 0, _, .cons a _, h => ⟨_, rfl, Option.some.inj h ▸ a⟩
  | _, _, _, i + 1, _, .cons _ a, h => FzA.get (i := i) a h
theorem FzA.getV : ∀ {H : Hp} {vs : List V} {ds : List PyData} {i : Nat} {v : V}, FzA H vs ds → vs[i]? = some v → ∃ d, ds[i]? = some d ∧ Fz H v d
  | _, _, _, _, _, .nil, h => by simp at h
  | _, _, _, 0, _, .cons a _, h => ⟨_, rfl, Option.some.inj h ▸ a⟩
  | _, _, _, i + 1, _, .cons _ a, h => FzA.getV (i := i) a h
theorem FzA.app : ∀ {H : Hp} {vs ws : List V} {ds es : List PyData}, FzA H vs ds → FzA H ws es → FzA H (vs ++ ws) (ds ++ es)
  | _, _, _, _, _, .nil, b => b
  | _, _, _, _, _, .cons a r, b => .cons a (FzA.app r b)
theorem FzA.snoc {H : Hp} {vs : List V} {ds : List PyData} {v : V} {d : PyData} (a : FzA H vs ds) (b : Fz H v d) : FzA H (vs ++ [v]) (ds ++ [d]) := a.app (.cons b .nil)
theorem FzA.ints : ∀ {H : Hp} {ns : List Int} {vs : List V}, FzA H vs (ns.map PyData.int) → vs = ns.map V.int
  | _, [], _, .nil => rfl
  | _, n :: ns, _, .cons (.int _) a => by
    rw [FzA.ints (ns := ns) a]
    rfl
theorem FzA.ofInts : ∀ {H : Hp} {ns : List Int}, FzA H (ns.map V.int) (ns.map PyData.int)
  | _, [] => .nil
  | _, n :: ns => .cons (.int n) (FzA.ofInts (ns := ns))
/-- a tuple, opened -/
theorem Fz.open {H : Hp} {v : V} {ds : List PyData} (h : Fz H v (.tuple ds)) : ∃ (a : Addr) (xs : List V), v = .ref a ∧ H a = some (.tup xs) ∧ FzA H xs ds := by
  cases h with
  | tup h a => exact ⟨_, _, rfl, h, a⟩
theorem FzA.one {H : Hp} {vs : List V} {d : PyData} (h : FzA H vs [d]) : ∃ x, vs = [x] ∧ Fz H x d := by
  cases h with
  | cons a r =>
    cases r
    exact ⟨_, rfl, a⟩
theorem FzA.two {H : Hp} {vs : List V} {d e : PyData} (h : FzA H vs [d, e]) : ∃ x y, vs = [x, y] ∧ Fz H x d ∧ Fz H y e := by
  cases h with
  | cons a r =>
    obtain ⟨y, rfl, b⟩ := r.one
    exact ⟨_, y, rfl, a, b⟩
theorem FzA.three {H : Hp} {vs : List V} {d e f : PyData} (h : FzA H vs [d, e, f]) : ∃ x y z, vs = [x, y, z] ∧ Fz H x d ∧ Fz H y e ∧ Fz H z f := by
  cases h with
  | cons a r =>
    obtain ⟨y, z, rfl, b, c⟩ := r.two
    exact ⟨_, y, z, rfl, a, b, c⟩
theorem Fz.isStr {H : Hp} {v : V} {x : Str} (h : Fz H v (.str x)) : v = .str x := by
  cases h
  rfl
theorem Fz.isInt {H : Hp} {v : V} {i : Int} (h : Fz H v (.int i)) : v = .int i := by
  cases h
  rfl
theorem Fz.isNon {H : Hp} {v : V} (h : Fz H v .none) : v = .non := by
  cases h
  rfl
/-- a tuple just made -/
theorem Fz.made {H : Hp} {p : Addr} {xs : List V} {ds : List PyData} (n : H p = Option.none) (h : FzA H xs ds) : Fz (upd H p (.tup xs)) (.ref p) (.tuple ds) := .tup upd_same (h.kt (.new n))
theorem at_ints {ns : List Int} {d : Int} (h0 : 0 ≤ d) (h1 : d < (ns.length : Nat)) : ∃ t ∈ ns, atI (ns.map V.int) d = some (.int t) := by
  have hd : d.toNat < ns.length := by omega
  refine ⟨ns[d.toNat], List.getElem_mem hd, L2.at_of (j := d.toNat) (by omega) ?_⟩
  rw [List.getElem?_map, List.getElem?_eq_getElem hd]
  rfl
/-! ### tables -/
abbrev rowD (row : List Int) : PyData := .tuple (row.map PyData.int)
abbrev rowsD (rows : List (List Int)) : PyData := .tuple (rows.map rowD)
abbrev tabD (cols : List Nat) (rows : List (List Int)) : PyData := .tuple [.str ⟨cols.toArray⟩, rowsD rows]
/-- rising unlike letters -/
structure Cols (l : List Nat) : Prop where
  up : l.Pairwise (· < ·)
  az : ∀ c ∈ l, 97 ≤ c ∧ c ≤ 122
theorem Cols.nd {l : List Nat} (c : Cols l) : l.Nodup := c.up.imp fun {a b} h => by
  have : a < b := h
  omega
def RowOk (n : Nat) (row : List Int) : Prop := row.length = n ∧ ∀ x ∈ row, 0 ≤ x ∧ x < 1000
def RowsOk (n : Nat) (rows : List (List Int)) : Prop := ∀ row ∈ rows, RowOk n row
theorem row_open {H : Hp} {v : V} {row : List Int} (h : Fz H v (rowD row)) : ∃ a, v = .ref a ∧ H a = some (.tup (row.map V.int)) := by
  obtain ⟨a, xs, rfl, ha, f⟩ := h.open
  rw [FzA.ints f] at ha
  exact ⟨a, rfl, ha⟩
theorem row_made {H : Hp} {p : Addr} {row : List Int} (n : H p = none) : Fz (upd H p (.tup (row.map V.int))) (.ref p) (rowD row) := Fz.made n FzA.ofInts
theorem tab_open {H : Hp} {v : V} {cols : List Nat} {rows : List (List Int)} (h : Fz H v (tabD cols rows)) : ∃ (t R : Addr) (vs : List V), v = .ref t ∧ H t = some (.tup [tx cols, .ref R]) ∧ H R = some (.tup vs) ∧ FzA H vs (rows.map rowD) := by
  obtain ⟨t, xs, rfl, ht, f⟩ := h.open
  obtain ⟨x, y, rfl, fx, fy⟩ := f.two
  obtain ⟨R, vs, rfl, hR, fv⟩ := fy.open
  rw [fx.isStr] at ht
  exact ⟨t, R, vs, rfl, ht, hR, fv⟩
theorem can_row (row : List Int) : PyData.canLay0 (rowD row) = true := by
  show PyData.canLayAll0 (row.map PyData.int) = true
  induction row with
  | nil => rfl
  | cons a r ih =>
    show (PyData.canLay0 (.int a) && PyData.canLayAll0 (r.map PyData.int)) = true
    rw [ih]
    rfl
theorem can_rows (rows : List (List Int)) : PyData.canLay0 (rowsD rows) = true := by
  show PyData.canLayAll0 (rows.map rowD) = true
  induction rows with
  | nil => rfl
  | cons a r ih =>
    show (PyData.canLay0 (rowD a) && PyData.canLayAll0 (r.map rowD)) = true
    rw [ih, can_row]
    rfl
theorem dep_row (row : List Int) : PyData.depth (rowD row) ≤ 1 := by
  show PyData.depthAll (row.map PyData.int) + 1 ≤ 1
  induction row with
  | nil => exact Nat.le_refl _
  | cons a r ih =>
    show max (PyData.depth (.int a)) (PyData.depthAll (r.map PyData.int)) + 1 ≤ 1
    have e : PyData.depth (.int a) = 0 := rfl
    rw [e]
    omega
theorem dep_rows (rows : List (List Int)) : PyData.depth (rowsD rows) ≤ 2 := by
  show PyData.depthAll (rows.map rowD) + 1 ≤ 2
  induction rows with
  | nil => decide
  | cons a r ih =>
    show max (PyData.depth (rowD a)) (PyData.depthAll (r.map rowD)) + 1 ≤ 2
    have := dep_row a
    omega
theorem shaped_rows (rows : List (List Int)) : SeqAt.shaped (rowsD rows) = true := by
  unfold SeqAt.shaped
  rw [can_rows, Bool.true_and]
  have := dep_rows rows
  exact decide_eq_true (by omega)
/-! ### questions -/
abbrev eqD (p : Nat × Int) : PyData := .tuple [.str ⟨#[p.1]⟩, .int p.2]
abbrev eqsD (es : List (Nat × Int)) : PyData := .tuple (es.map eqD)
abbrev rchD : Option (Nat × Int × Int) → PyData
  | none => .none
  | some (c, lo, hi) => .tuple [.str ⟨#[c]⟩, .int lo, .int hi]
abbrev qD (es : List (Nat × Int)) (rc : Option (Nat × Int × Int)) : PyData := .tuple [eqsD es, rchD rc]
structure QOk (cols : List Nat) (es : List (Nat × Int)) (rc : Option (Nat × Int × Int)) : Prop where
  up : (es.map (·.1)).Pairwise (· < ·)
  ok : ∀ p ∈ es, p.1 ∈ cols ∧ 0 ≤ p.2 ∧ p.2 < 1000
  len : es.length ≤ cols.length
  rc : ∀ c lo hi, rc = some (c, lo, hi) → c ∈ cols ∧ c ∉ es.map (·.1) ∧ 0 ≤ lo ∧ lo ≤ hi ∧ hi < 1000
theorem dp_signs {K : PySem.W.Frag} {H : Hp} : ∀ l : List Nat, DpAll K H (l.map sg) (l.map fun c => PyData.str (sS c))
  | [] => .nil
  | c :: l => .cons (.str _) (dp_signs l)
end My

set_option Elab.async false
set_option linter.all false
set_option maxRecDepth 100000
set_option maxHeartbeats 1000000
namespace My
open PySem PySem.Spec PyProof.Rows L2
/-! ### name = {.. for ..} on one line -/
section
variable {X : Cx} {pins : List (Addr × Obj)} {σ : L2.St} {H : Hp} {s : Shared}
end
/-! ### spans: letters with their bounds -/
theorem sS_inj {a b : Nat} (h : sS a = sS b) : a = b := by
  have z3 : (#[a] : Array Nat) = #[b] := congrArg Str.cps h
  simpa using z3
def spanL (es : List (Nat × Int)) (rc : Option (Nat × Int × Int)) : List (Nat × Int × Int) := es.map (fun p => (p.1, p.2, p.2)) ++ rc.toList
/-! ### what fits -/
def rowAt (cols : List Nat) (row : List Int) (c : Nat) : Int := row.getD (cols.idxOf c) 0
/-! ### data with lists -/
mutual
inductive Ft (H : Hp) : V → PyData → Prop
  | non : Ft H .non .none
  | bl (b : Bool) : Ft H (.bl b) (.bool b)
  | int (i : Int) : Ft H (.int i) (.int i)
  | str (x : Str) : Ft H (.str x) (.str x)
  | lst {a : Addr} {xs : List V} {ds : List PyData} : H a = some (.lst xs) → FtA H xs ds → Ft H (.ref a) (.list ds)
  | tup {a : Addr} {xs : List V} {ds : List PyData} : H a = some (.tup xs) → FtA H xs ds → Ft H (.ref a) (.tuple ds)
inductive FtA (H : Hp) : List V → List PyData → Prop
  | nil : FtA H [] []
  | cons {v : V} {vs : List V} {d : PyData} {ds : List PyData} : Ft H v d → FtA H vs ds → FtA H (v :: vs) (d :: ds)
end
mutual
theorem Ft.mono {H H' : Hp} (k : Same H H') : ∀ (d : PyData) (v : V), Ft H v d → Ft H' v d
  | .none, _, .non => .non
  | .bool _, _, .bl b => .bl b
  | .int _, _, .int i => .int i
  | .str _, _, .str x => .str x
  | .list ds, _, .lst h a => .lst (k _ _ h) (FtA.mono k ds _ a)
  | .tuple ds, _, .tup h a => .tup (k _ _ h) (FtA.mono k ds _ a)
theorem FtA.mono {H H' : Hp} (k : Same H H') : ∀ (ds : List PyData) (vs : List V), FtA H vs ds → FtA H' vs ds
  | [], _, .nil => .nil
  | d :: ds, _, .cons h a => .cons (Ft.mono k d _ h) (FtA.mono k ds _ a)
end
mutual
theorem Fz.ft {H : Hp} : ∀ (d : PyData) (v : V), Fz H v d → Ft H v d
  | .none, _, .non => .non
  | .bool _, _, .bl b => .bl b
  | .int _, _, .int i => .int i
  | .str _, _, .str x => .str x
  | .tuple ds, _, .tup h a => .tup h (FzA.ft ds _ a)
theorem FzA.ft {H : Hp} : ∀ (ds : List PyData) (vs : List V), FzA H vs ds → FtA H vs ds
  | [], _, .nil => .nil
  | d :: ds, _, .cons h a => .cons (Fz.ft d _ h) (FzA.ft ds _ a)
end
theorem FtA.len : ∀ {H : Hp} {vs : List V} {ds : List PyData}, FtA H vs ds → vs.length = ds.length
  | _, _, _, .nil => rfl
  | _, _, _, .cons _ a => by
    rw [List.length_cons, List.length_cons, FtA.len a]
theorem FtA.getV : ∀ {H : Hp} {vs : List V} {ds : List PyData} {i : Nat} {v : V}, FtA H vs ds → vs[i]? = some v → ∃ d, ds[i]? = some d ∧ Ft H v d
  | _, _, _, _, _, .nil, h => by simp at h
  | _, _, _, 0, _, .cons a _, h => ⟨_, rfl, Option.some.inj h ▸ a⟩
  | _, _, _, i + 1, _, .cons _ a, h => FtA.getV (i := i) a h
theorem FtA.ofInts : ∀ {H : Hp} (ns : List Int), FtA H (ns.map V.int) (ns.map PyData.int)
  | _, [] => .nil
  | _, n :: ns => .cons (.int n) (FtA.ofInts ns)
mutual
def wd : PyData → Nat
  | .list xs => max xs.length (wdA xs)
  | .tuple xs => max xs.length (wdA xs)
  | _ => 0
def wdA : List PyData → Nat
  | [] => 0
  | x :: xs => max (wd x) (wdA xs)
end
/-! ### what isinstance tells of data -/
def tyN : PyData → String
  | .none => "NoneType"
  | .bool _ => "bool"
  | .int _ => "int"
  | .str _ => "str"
  | .list _ => "list"
  | .tuple _ => "tuple"
  | .dict _ => "dict"
def isTp : PyData → Bool
  | .tuple _ => true
  | _ => false
def isLs : PyData → Bool
  | .list _ => true
  | _ => false
def isBl : PyData → Bool
  | .bool _ => true
  | _ => false
def isSt : PyData → Bool
  | .str _ => true
  | _ => false
theorem ty_ft {K : PySem.W.Frag} {H : Hp} {v : V} {d : PyData} (h : Ft H v d) : TyX K H v (.type (tyN d)) := by
  cases h with
  | non => exact .base .non
  | bl b => exact .base (.bl b)
  | int i => exact .base (.int i)
  | str x => exact .base (.str x)
  | lst h _ => exact .base (.lst h)
  | tup h _ => exact .base (.tup h)
theorem kit_tp {K : PySem.W.Frag} (d : PyData) : PySem.W.kitOne K (.type (tyN d)) (.type "tuple") = some (isTp d) := by
  cases d <;> exact kit_ty (by kernel_rfl)
theorem kit_ls {K : PySem.W.Frag} (d : PyData) : PySem.W.kitOne K (.type (tyN d)) (.type "list") = some (isLs d) := by
  cases d <;> exact kit_ty (by kernel_rfl)
theorem kit_bl {K : PySem.W.Frag} (d : PyData) : PySem.W.kitOne K (.type (tyN d)) (.type "bool") = some (isBl d) := by
  cases d <;> exact kit_ty (by kernel_rfl)
theorem kit_st {K : PySem.W.Frag} (d : PyData) : PySem.W.kitOne K (.type (tyN d)) (.type "str") = some (isSt d) := by
  cases d <;> exact kit_ty (by kernel_rfl)
theorem walk_zipT {K : PySem.W.Frag} {a b : Addr} {xs ys : List V} {n : Nat} (h1 : n = xs.length) (h2 : n = ys.length) : Walk (RZ.ItzT K a b) n (fun H => SqT K H a xs ∧ SqT K H b ys) (YPair (fun i => xs[i]?) (fun i => ys[i]?)) := by
  refine ⟨fun i _ hi q => ?_, fun _ q => ⟨xs, ys, q.1, q.2, by omega⟩, fun i H v H' _ q y => ?_⟩
  · have e1 : i < xs.length := by omega
    have e2 : i < ys.length := by omega
    exact ⟨xs, ys, xs[i], ys[i], q.1, q.2, by simp [e1], by simp [e2]⟩
  · obtain ⟨T, x, z, q1, q2, q3, q4, q5⟩ := y
    exact ⟨T, x, z, q1, q2, q3, q4 xs q.1, q5 ys q.2⟩
theorem depA_ints : ∀ ns : List Int, PyData.depthAll (ns.map PyData.int) = 0
  | [] => rfl
  | n :: ns => by
    show max (PyData.depth (.int n)) (PyData.depthAll (ns.map PyData.int)) = 0
    rw [depA_ints ns]
    rfl
theorem dep_ints (ns : List Int) : PyData.depth (.list (ns.map PyData.int)) = 1 := by
  show PyData.depthAll (ns.map PyData.int) + 1 = 1
  rw [depA_ints]
theorem wdA_mem : ∀ {ds : List PyData} {d : PyData}, d ∈ ds → wd d ≤ wdA ds
  | x :: xs, d, h => by
    show wd d ≤ max (wd x) (wdA xs)
    rcases List.mem_cons.mp h with e | e
    · rw [e]
      exact Nat.le_max_left _ _
    · exact Nat.le_trans (wdA_mem e) (Nat.le_max_right _ _)
theorem depA_mem : ∀ {ds : List PyData} {d : PyData}, d ∈ ds → d.depth ≤ PyData.depthAll ds
  | x :: xs, d, h => by
    show d.depth ≤ max x.depth (PyData.depthAll xs)
    rcases List.mem_cons.mp h with e | e
    · rw [e]
      exact Nat.le_max_left _ _
    · exact Nat.le_trans (depA_mem e) (Nat.le_max_right _ _)
end My

set_option Elab.async false
set_option linter.all false
set_option maxRecDepth 100000
set_option maxHeartbeats 1000000
namespace My
open PySem PySem.Spec PyProof.Rows L2
/-! ### lists of numbers compared -/
theorem dp_ints {K : PySem.W.Frag} {H : Hp} : ∀ ns : List Int, DpAll K H (ns.map V.int) (ns.map PyData.int)
  | [] => .nil
  | n :: ns => .cons (.int n) (dp_ints ns)
theorem can_ints : ∀ ns : List Int, PyData.canLayAll0 (ns.map PyData.int) = true
  | [] => rfl
  | n :: ns => by
    show (PyData.canLay0 (.int n) && PyData.canLayAll0 (ns.map PyData.int)) = true
    rw [can_ints ns]
    rfl
theorem shaped_ints (ns : List Int) : SeqAt.shaped (.list (ns.map PyData.int)) = true := by
  unfold SeqAt.shaped
  show (PyData.canLayAll0 (ns.map PyData.int) && decide (PyData.depth (.list (ns.map PyData.int)) ≤ 64)) = true
  rw [can_ints, dep_ints]
  rfl
/-! ### questions and what fits -/
theorem QOk.sub {cols : List Nat} {es es' : List (Nat × Int)} {rc : Option (Nat × Int × Int)} (h : QOk cols es rc) (s : es'.Sublist es) : QOk cols es' none :=
  ⟨h.up.sublist (s.map _), fun p hp => h.ok p (s.subset hp), Nat.le_trans s.length_le h.len, fun _ _ _ z => nomatch z⟩
theorem QOk.reach {cols : List Nat} {es : List (Nat × Int)} {rc : Option (Nat × Int × Int)} (h : QOk cols es rc) {c : Nat} {lo hi : Int} (h1 : c ∈ cols) (h2 : c ∉ es.map (·.1)) (h3 : 0 ≤ lo) (h4 : lo ≤ hi) (h5 : hi < 1000) : QOk cols es (some (c, lo, hi)) :=
  ⟨h.up, h.ok, h.len, fun c' lo' hi' z => by
    have z2 := Option.some.inj z
    have e1 : c = c' := congrArg (·.1) z2
    have e2 : lo = lo' := congrArg (·.2.1) z2
    have e3 : hi = hi' := congrArg (·.2.2) z2
    rw [← e1, ← e2, ← e3]
    exact ⟨h1, h2, h3, h4, h5⟩⟩
end My

set_option Elab.async false
set_option linter.all false
set_option maxRecDepth 100000
set_option maxHeartbeats 2000000
namespace My
open PySem PySem.Spec PyProof.Rows L2
/-! ### generator expressions whose element changes nothing -/
section
variable {X : Cx} {pins : List (Addr × Obj)} {σ : L2.St} {H : Hp} {s : Shared}
/-- the code object of a generator expression comes out of its maker's table, or is made and written into it; then the built-ins are looked up -/
theorem gen_code {c P : Addr} {gpos : Pos} {qn : Str} {scope : Scope} {R : Value → Addr → Shared → Prop} (I : Inv X pins σ H s) (TB : LamX.TabB X.base X.mg c P) (hcode : X.env.code = .ref c) (hT : GxR.TabG H P)
    (h : ∀ (code : Value) (H2 : Hp) (s2 : Shared), GxR.Tabbed P H H2 → Inv X pins σ H2 s2 → (∀ b u, b ≠ P → s.heap.get? b = some u → s2.heap.get? b = some u) → s.heap.objs.size ≤ s2.heap.objs.size → R code builtinsNs s2) :
    wpAny (model X.prog X.w) X.A (genexprCode X.env gpos qn scope) (fun code s3 => wpAny (model X.prog X.w) X.A (builtinsFor X.env.globals X.env.builtins) (R code) X.xe s3) X.xe s := by
  obtain ⟨ps, hP, tri⟩ := hT
  have rawP := I.hok P _ hP
  have hd : PySem.W.CodeHd s.heap c P := TB.code.keeps I.bk
  have go : ∀ (code : Value) (g : Heap) (tk : Nat) (more : Array Value), Heap.ExtBut P s.heap g → s.heap.objs.size ≤ g.objs.size → g.get? P = some { cls := .none, data := .fields (ps ++ more) } → TriplesOk (ps ++ more).toList →
      wpAny (model X.prog X.w) X.A (builtinsFor X.env.globals X.env.builtins) (R code) X.xe { s with heap := g, toks := tk } := fun code g tk more ext le tab tri' => by
    have J : Inv X pins σ (upd H P (.tbl (ps ++ more))) { s with heap := g, toks := tk } := GxR.inv_tab (g' := s.gens) (d' := s.drawn) I hP ext tab I.bare
    obtain ⟨bm, ob, b1, b2, _, _, b5, b6, b7, b8⟩ := TB.bm
    refine wpAny_builtinsFor (m := X.mg) ?_ b1 b2 (J.bk _ _ b5) b6 b7 b8 (h code _ _ ⟨⟨_, upd_same, tri'⟩, fun b ne => upd_ne ne⟩ J ext le)
    rw [J.ok.glob]
    exact J.mod.glob.keeps J.bk
  match hf : codeAmong gpos ps.toList with
  | some cv => exact wpAny_genexprCode_hit hcode (hd.code rawP tri) hf (go cv s.heap s.toks #[] (Heap.ExtBut.refl _ _) (Nat.le_refl _) (by rw [Array.append_empty]; exact rawP) (by rw [Array.append_empty]; exact tri))
  | none =>
    refine wpAny_genexprCodeX hcode (hd.code rawP tri) (hd.tab rawP) hf fun c' g tk ext ge lt isC _ isT _ => go _ g tk _ ext (Nat.le_trans ge (Nat.le_of_lt lt)) isT.2 ?_
    obtain ⟨_, _, _, _, _, _, _, _, _, _, _, _, _, _, _, _, _, _, _, z, _⟩ := isC
    exact z
/-! tuple(elt for x in text): numbers -/
/-! all(elt for x in ..) -/
/-! ### what a captured name holds -/
/-! x in y, y a captured text -/
/-! r[y.index(x)], r a captured tuple of numbers, y a captured text -/
end
end My

set_option Elab.async false
set_option linter.all false
set_option maxRecDepth 100000
set_option maxHeartbeats 2000000
namespace My
open PySem PySem.Spec PyProof.Rows L2
/-! ### tables of code objects: they may grow, all else stays -/
def TG (Ps : List Addr) (H : Hp) : Prop := ∀ P ∈ Ps, GxR.TabG H P
def Sx (Ps : List Addr) (H H' : Hp) : Prop := ∀ b o, b ∉ Ps → H b = some o → H' b = some o
theorem Sx.rfl' {Ps : List Addr} {H : Hp} : Sx Ps H H := fun _ _ _ h => h
theorem Sx.trans {Ps : List Addr} {H H1 H2 : Hp} (a : Sx Ps H H1) (b : Sx Ps H1 H2) : Sx Ps H H2 := fun c o n h => b c o n (a c o n h)
theorem Same.sx {Ps : List Addr} {H H' : Hp} (s : Same H H') : Sx Ps H H' := fun b o _ h => s b o h
theorem TG.same {Ps : List Addr} {H H' : Hp} (t : TG Ps H) (s : Same H H') : TG Ps H' := fun P hP => by
  obtain ⟨ps, h, r⟩ := t P hP
  exact ⟨ps, s _ _ h, r⟩
theorem TG.not {Ps : List Addr} {H : Hp} {b : Addr} {o : HO} (t : TG Ps H) (h : H b = some o) (ho : ∀ q, o ≠ .tbl q) : b ∉ Ps := fun hb => by
  obtain ⟨ps, h2, _⟩ := t b hb
  rw [h2] at h
  exact ho ps (Option.some.inj h).symm
theorem TG.kp {Ps : List Addr} {H H' : Hp} {r : Addr} {xs : List V} (t : TG Ps H) (hr : H r = some (.lst xs)) (k : Kp r H H') : TG Ps H' := fun P hP => by
  obtain ⟨ps, h, q⟩ := t P hP
  refine ⟨ps, k _ _ (fun z => ?_) h, q⟩
  rw [z, hr] at h
  cases h
theorem TG.new {Ps : List Addr} {H : Hp} {p : Addr} {o : HO} (t : TG Ps H) (n : H p = none) : TG Ps (upd H p o) := t.same (Same.new (Same.refl H) n)
theorem Sx.kt {Ps : List Addr} {H H' : Hp} (t : TG Ps H) (s : Sx Ps H H') : Kt H H' := fun b xs h => s b _ (t.not h fun q z => nomatch z) h
theorem Sx.lst {Ps : List Addr} {H H' : Hp} {b : Addr} {xs : List V} (t : TG Ps H) (s : Sx Ps H H') (h : H b = some (.lst xs)) : H' b = some (.lst xs) := s b _ (t.not h fun q z => nomatch z) h
theorem Sx.new {Ps : List Addr} {H H1 : Hp} {p : Addr} {o : HO} (s : Sx Ps H H1) (n : H1 p = none) : Sx Ps H (upd H1 p o) := fun b x nb h => keep_new (s b x nb h) n
theorem Sx.mut {Ps : List Addr} {H H1 : Hp} {p : Addr} {o : HO} (s : Sx Ps H H1) (n : H p = none) : Sx Ps H (upd H1 p o) := fun b x nb h => keep_ne (s b x nb h) (ne_of_none h n)
theorem Sx.free {Ps : List Addr} {H H' : Hp} {p : Addr} (t : TG Ps H') (s : Sx Ps H H') (h : H' p = none) : H p = none := by
  cases q : H p with
  | none => rfl
  | some o =>
    by_cases hp : p ∈ Ps
    · obtain ⟨ps, h2, _⟩ := t p hp
      rw [h] at h2
      cases h2
    · rw [s p o hp q] at h
      cases h
/-- one table of them has grown -/
theorem Tabbed.sx {Ps : List Addr} {P : Addr} {H H' : Hp} (hP : P ∈ Ps) (t : GxR.Tabbed P H H') : Sx Ps H H' := fun b o nb h => by
  rw [t.2 b fun z => nb (z ▸ hP)]
  exact h
theorem Tabbed.tg {Ps : List Addr} {P : Addr} {H H' : Hp} (g : TG Ps H) (t : GxR.Tabbed P H H') : TG Ps H' := fun P' hP' => by
  by_cases e : P' = P
  · rw [e]
    exact t.1
  · obtain ⟨ps, h, q⟩ := g P' hP'
    exact ⟨ps, (t.2 P' e).trans h, q⟩
/-! ### a def whose code object is told -/
def FunC (K : PySem.W.Frag) (x qual : Str) (st : Stmt) (f : Addr) (fd : FuncData) (c : Addr) : Prop :=
  ∃ (oc : Value) (od : Option Addr) (kV doc pm : Value) (an : Option Addr) (ct : Value) (osl : Array (Option Value)), fd = PySem.W.fnOf x qual (defArgs st) (defBody st) (defScope st) .none kV doc pm an (.ref c) ct ∧ K.lookup f = some ⟨oc, od, .func fd, osl⟩ ∧ PySem.W.codeIn K (.ref c) qual = true
theorem FunC.ok {P : Program} {w : World} {K : PySem.W.Frag} {mg : Str → Option Value} {base : Heap} {x qual : Str} {st : Stmt} {f c : Addr} {fd : FuncData} {N ps : List Str} {k : Nat} {sp : Sp} (F : FunC K x qual st f fd c) (S : FnScope N ps (defScope st)) (len : ∀ vs H Q E, sp vs H Q E → vs.length = ps.length)
    (hbody : ∀ (A : Around) (outer : List Env) (s : Shared) (H : Hp) (vs : List V) (Q : VK) (E : XK), Room k (A.deeper (envOfC qual (defScope st) s.heap.objs.size f (.ref c))) → sp vs H Q E →
      ∃ t, PSs (cxOf CX0 P w K mg base N qual (defScope st) f (.ref c) A outer s H E).nox (defBody st) t ∧ t { nx := fun _ H' => Q .non H', rt := Q } (start N vs) H) : FnOk P w K mg base CX0 (k + 1) f fd ps sp := by
  obtain ⟨oc, od, kV, doc, pm, an, ct, osl, rfl, lk, hcd⟩ := F
  refine fn_of lk hcd S len fun A outer s H vs Q E hr hsp => ?_
  obtain ⟨t, h, q⟩ := hbody A outer s H vs Q E hr hsp
  exact ⟨t, h.nox, q⟩
theorem FunC.fn {K : PySem.W.Frag} {x qual : Str} {st : Stmt} {f c : Addr} {fd : FuncData} (F : FunC K x qual st f fd c) (k : PySem.W.keepIn K (.ref f) = true) : Fun K x qual st f fd := by
  obtain ⟨oc, od, kV, doc, pm, an, ct, osl, e, lk, hcd⟩ := F
  exact ⟨⟨oc, od, kV, doc, pm, an, .ref c, ct, osl, e, lk, hcd⟩, k⟩
/-! ### the generator expressions that we met -/
/-! ### the end: the tables of all defs are empty -/
end My

set_option Elab.async false
set_option linter.all false
set_option maxRecDepth 100000
set_option maxHeartbeats 2000000
namespace My
open PySem PySem.Spec PyProof.Rows L2
/-! ### texts by their codes -/
theorem inV_signs (c : Nat) : ∀ l : List Nat, inV (sg c) (l.map sg) = decide (c ∈ l)
  | [] => rfl
  | d :: l => by
    have ih := inV_signs c l
    show (((sS d) == (sS c)) || inV (sg c) (l.map sg)) = decide (c ∈ d :: l)
    rw [ih]
    by_cases e : d = c
    · rw [e]
      simp
    · have e2 : ((sS d) == (sS c)) = false := by
        rw [Bool.eq_false_iff]
        intro z
        exact e (sS_inj (by simpa using z))
      have e3 : ¬ c = d := fun z => e z.symm
      rw [e2]
      simp [e3]
theorem cut_take (l : List Nat) (k : Nat) : cutS ⟨l.toArray⟩ none (some (k : Int)) = ⟨(l.take k).toArray⟩ := by
  unfold cutS
  rw [HT.sIx_none, HT.sIx_nat]
  show (⟨((l.toArray.toList.drop 0).take (min k l.toArray.size - 0)).toArray⟩ : Str) = _
  have e1 : l.toArray.toList = l := by simp
  have e2 : l.toArray.size = l.length := by simp
  rw [e1, e2, List.drop_zero, Nat.sub_zero]
  congr 2
  rw [List.take_eq_take_iff]
  omega
theorem tx_inj {a b : List Nat} (h : tx a = tx b) : a = b := by
  have h2 : (⟨a.toArray⟩ : Str) = ⟨b.toArray⟩ := V.str.inj h
  have h3 : a.toArray = b.toArray := congrArg Str.cps h2
  simpa using h3
/-! ### the letters that a question uses -/
section
variable (K : PySem.W.Frag) {X : Cx}
end
/-! ### the bounds that a question asks of a letter -/
def spanOf (es : List (Nat × Int)) (rc : Option (Nat × Int × Int)) (c : Nat) : Int × Int := match (spanL es rc).find? (fun t => decide (t.1 = c)) with
  | some t => t.2
  | none => (0, 0)
theorem TG.mut {Ps : List Addr} {H : Hp} {p : Addr} {xs : List V} {o : HO} (t : TG Ps H) (h : H p = some (.lst xs)) : TG Ps (upd H p o) := fun P hP => by
  obtain ⟨ps, h2, q⟩ := t P hP
  refine ⟨ps, ?_, q⟩
  rw [upd_ne (fun z => ?_)]
  · exact h2
  · rw [z, h] at h2
    cases h2
/-! ### stretches -/
end My

set_option Elab.async false
set_option linter.all false
set_option maxRecDepth 100000
set_option maxHeartbeats 2000000
namespace My
open PySem PySem.Spec PyProof.Rows L2
/-! ### tuples whose own object is told: without a dict of its own -/
def rTupF (K : PySem.W.Frag) : List V → Hp → VK → Prop := fun xs H Q => ∃ (p : Addr) (ys : List V), xs = [.ref p] ∧ SqL K H p ys ∧ ∀ (l : Addr) (o : Obj), H l = none → o.dict = none → Q (.ref l) (upd H l (.frz o (.tup ys)))
section
variable (K : PySem.W.Frag) {X : Cx}
theorem cTupF (hK : X.K = K := by rfl) : CallR X (.type "tuple") (rTupF K) := by
  subst hK
  intro pins s σ H xs us Q I r h
  obtain ⟨p, ys, rfl, hq, q⟩ := h
  obtain ⟨u, rfl, rx⟩ := vals1 r
  cases rx
  obtain ⟨its, rv, pl, hz⟩ := I.list hq
  have hlen := rv.length
  refine call_tuple_list pl.isList (fun h2 kp => ?_) (by rw [List.size_toArray]; omega)
  have I1 : Inv X pins σ H { s with heap := h2 } := I.kept (t' := s.toks) kp
  have new : ObjOk X.prog X.w (upd H h2.objs.size (.frz { cls := .type "tuple", data := .seq its.toArray } (.tup ys))) (h2.push { cls := .type "tuple", data := .seq its.toArray }) h2.objs.size (.frz { cls := .type "tuple", data := .seq its.toArray } (.tup ys)) := ⟨Heap.get?_push_size _ rfl, hz, its, rv, IsTup.new _ _⟩
  have I2 := I1.laid (t' := s.toks) (fun b o e => Heap.get?_push_of_some _ e) (Nat.le_refl _) new
  exact ⟨.ref h2.objs.size, _, I2, rfl, q _ _ (I1.hok.fresh (Nat.le_refl _)) rfl⟩
end
/-! ### questions: their equals are such a tuple -/
def KT (H H' : Hp) : Prop := Kt H H' ∧ ∀ b o xs, H b = some (.frz o (.tup xs)) → H' b = some (.frz o (.tup xs))
theorem KT.rfl' {H : Hp} : KT H H := ⟨Kt.rfl', fun _ _ _ h => h⟩
theorem KT.trans {H H1 H2 : Hp} (a : KT H H1) (b : KT H1 H2) : KT H H2 := ⟨a.1.trans b.1, fun c o xs h => b.2 c o xs (a.2 c o xs h)⟩
theorem Same.kT {H H' : Hp} (s : Same H H') : KT H H' := ⟨Same.kt s, fun b o xs h => s b _ h⟩
theorem Kp.kT {r : Addr} {H H' : Hp} {xs : List V} (k : Kp r H H') (hr : H r = some (.lst xs)) : KT H H' := ⟨k.kt hr, fun b o ys h => k b _ (fun z => by
  rw [z, hr] at h
  cases h) h⟩
theorem Sx.kT {Ps : List Addr} {H H' : Hp} (t : TG Ps H) (s : Sx Ps H H') : KT H H' := ⟨s.kt t, fun b o xs h => s b _ (t.not h fun q z => nomatch z) h⟩
theorem KT.new {H : Hp} {p : Addr} {o : HO} (n : H p = none) : KT H (upd H p o) := ⟨Kt.new n, fun b u xs h => keep_new h n⟩
theorem KT.lst {H : Hp} {p : Addr} {xs : List V} {o : HO} (n : H p = some (.lst xs)) : KT H (upd H p o) := ⟨Kt.lst n, fun b u ys h => keep_ne h fun z => by
  rw [z, n] at h
  cases h⟩
def EZ (H : Hp) (ev : V) (es : List (Nat × Int)) : Prop := ∃ (ea : Addr) (o : Obj) (ps : List V), ev = .ref ea ∧ o.dict = none ∧ H ea = some (.frz o (.tup ps)) ∧ FzA H ps (es.map eqD)
def QZ (H : Hp) (qv : V) (es : List (Nat × Int)) (rc : Option (Nat × Int × Int)) : Prop := ∃ (qa : Addr) (ev y : V), qv = .ref qa ∧ H qa = some (.tup [ev, y]) ∧ EZ H ev es ∧ Fz H y (rchD rc)
theorem EZ.kT {H H' : Hp} {ev : V} {es : List (Nat × Int)} (h : EZ H ev es) (k : KT H H') : EZ H' ev es := by
  obtain ⟨ea, o, ps, rfl, h1, h2, h3⟩ := h
  exact ⟨ea, o, ps, rfl, h1, k.2 _ _ _ h2, h3.kt k.1⟩
theorem QZ.kT {H H' : Hp} {qv : V} {es : List (Nat × Int)} {rc : Option (Nat × Int × Int)} (h : QZ H qv es rc) (k : KT H H') : QZ H' qv es rc := by
  obtain ⟨qa, ev, y, rfl, h1, h2, h3⟩ := h
  exact ⟨qa, ev, y, rfl, k.1 _ _ h1, h2.kT k, h3.kt k.1⟩
theorem EZ.made {H : Hp} {te : Addr} {o : Obj} {ps : List V} {es : List (Nat × Int)} (n : H te = none) (ho : o.dict = none) (f : FzA H ps (es.map eqD)) : EZ (upd H te (.frz o (.tup ps))) (.ref te) es := ⟨te, o, ps, rfl, ho, upd_same, f.kt (.new n)⟩
theorem QZ.made {H : Hp} {v : Addr} {ev y : V} {es : List (Nat × Int)} {rc : Option (Nat × Int × Int)} (n : H v = none) (e : EZ H ev es) (f : Fz H y (rchD rc)) : QZ (upd H v (.tup [ev, y])) (.ref v) es rc := ⟨v, ev, y, rfl, upd_same, e.kT (.new n), f.kt (.new n)⟩
end My

set_option Elab.async false
set_option linter.all false
set_option maxRecDepth 100000
set_option maxHeartbeats 2000000
namespace My
open PySem PySem.Spec PyProof.Rows L2
section
variable (K : PySem.W.Frag) {X : Cx}
end
/-! ### the order of keys, by a sign -/
def sgn (k lo hi : Int) : Int := (if decide (hi < k) = true then 1 else 0) - (if decide (k < lo) = true then 1 else 0)
def signF (k lo hi : Nat → Int) (u : List Nat) (s : Int) : Int := u.foldl (fun s c => if s = 0 then sgn (k c) (lo c) (hi c) else s) s
def signM (cols : List Nat) (row : List Int) (es : List (Nat × Int)) (rc : Option (Nat × Int × Int)) (u : List Nat) : Int := signF (rowAt cols row) (fun c => (spanOf es rc c).1) (fun c => (spanOf es rc c).2) u 0
end My

set_option Elab.async false
set_option linter.all false
set_option maxRecDepth 100000
set_option maxHeartbeats 2000000
namespace My
open PySem PySem.Spec PyProof.Rows L2
section
variable (K : PySem.W.Frag) {X : Cx}
theorem slLK (hK : X.K = K := by rfl) : SlR X (rSlL K) := by
  subst hK
  exact sl_list
end
/-! ### what a stretch of the sorted rows holds -/
def below (cols : List Nat) (rows : List (List Int)) (es : List (Nat × Int)) (rc : Option (Nat × Int × Int)) (u : List Nat) (n : Int) (o : Nat) : Bool := decide (signM cols (rows.getD o []) es rc u < n)
end My

set_option Elab.async false
set_option linter.all false
set_option maxRecDepth 100000
set_option maxHeartbeats 2000000
namespace My
open PySem PySem.Spec PyProof.Rows L2
theorem nodup_sub_len : ∀ {l m : List Nat}, l.Nodup → (∀ c ∈ l, c ∈ m) → l.length ≤ m.length
  | [], _, _, _ => Nat.zero_le _
  | a :: l, m, h, hs => by
    have h2 := List.nodup_cons.mp h
    have ha := hs a (by simp)
    have ih := nodup_sub_len (m := m.erase a) h2.2 (fun c hc => (List.mem_erase_of_ne (fun e => h2.1 (by rw [← e]; exact hc))).mpr (hs c (by simp [hc])))
    rw [List.length_erase_of_mem ha] at ih
    have hp : 0 < m.length := List.length_pos_of_mem ha
    rw [List.length_cons]
    omega
end My

set_option Elab.async false
set_option linter.all false
set_option maxRecDepth 100000
set_option maxHeartbeats 2000000
namespace My
open PySem PySem.Spec PyProof.Rows L2
section
variable (K : PySem.W.Frag) {X : Cx}
theorem paStarK {e : Expr} {te : TE} {es : List Expr} {t : TA} {p : Pos} (he : PE X e te) (hr : PA X es t) (hK : X.K = K := by rfl) (hs : starEach (.Starred e p :: es) X.env = (true, eval e X.env) :: starEach es X.env := by rfl) : PA X (.Starred e p :: es) (StX.tStar K te t) := by
  subst hK
  exact StX.pa_star he hr hs
/-! ### the least of a list -/
end
/-! ### keys of a merged dict -/
/-! ### choices: texts in a row -/
abbrev txS (l : List Nat) : Str := ⟨l.toArray⟩
theorem txS_inj {a b : List Nat} (h : txS a = txS b) : a = b := tx_inj (congrArg V.str h)
/-! ### prices -/
end My

set_option Elab.async false
set_option linter.all false
set_option maxRecDepth 100000
set_option maxHeartbeats 2000000
namespace My
open PySem PySem.Spec PyProof.Rows L2
theorem signs_len (l : List Nat) : ((l.map sS).map fun x : Str => x.length).sum = l.length := by
  induction l with
  | nil => rfl
  | cons a k ih =>
    rw [List.map_cons, List.map_cons, List.sum_cons, ih, List.length_cons]
    show 1 + k.length = k.length + 1
    omega
/-! ### texts cut -/
theorem cut_mid (l : List Nat) (a b : Nat) : cutS ⟨l.toArray⟩ (some (a : Int)) (some (b : Int)) = ⟨((l.drop a).take (b - a)).toArray⟩ := by
  unfold cutS
  rw [HT.sIx_nat, HT.sIx_nat]
  have e1 : (⟨l.toArray⟩ : Str).cps.toList = l := by simp
  have e2 : (⟨l.toArray⟩ : Str).length = l.length := by simp [Str.length]
  rw [e1, e2]
  congr 2
  by_cases h : a ≤ l.length
  · rw [Nat.min_eq_left h, List.take_eq_take_iff, List.length_drop]
    omega
  · rw [List.drop_of_length_le (by omega), List.drop_of_length_le (by omega), List.take_nil, List.take_nil]
theorem cut_from (l : List Nat) (a : Nat) : cutS ⟨l.toArray⟩ (some (a : Int)) none = ⟨(l.drop a).toArray⟩ := by
  unfold cutS
  rw [HT.sIx_nat, HT.sIx_none]
  have e1 : (⟨l.toArray⟩ : Str).cps.toList = l := by simp
  have e2 : (⟨l.toArray⟩ : Str).length = l.length := by simp [Str.length]
  rw [e1, e2]
  congr 2
  by_cases h : a ≤ l.length
  · rw [Nat.min_eq_left h, List.take_of_length_le (by rw [List.length_drop]; omega)]
  · rw [List.drop_of_length_le (by omega), List.drop_of_length_le (by omega), List.take_nil]
/-! ### list(x), x a text or a row -/
/-! ### a need and a list: two ways to look -/
end My

set_option Elab.async false
set_option linter.all false
set_option maxRecDepth 100000
set_option maxHeartbeats 2000000
namespace My
open PySem PySem.Spec PyProof.Rows L2
/-! ### sorted again -/
/-! ### rows of lists of numbers -/
mutual
theorem Ft.dp {K : PySem.W.Frag} {H : Hp} : ∀ (d : PyData) (v : V), Ft H v d → Dp K H v d
  | .none, _, .non => .non
  | .bool _, _, .bl b => .bl b
  | .int _, _, .int i => .int i
  | .str _, _, .str z => .str z
  | .list ds, _, .lst h a => .lst (.inl (.inl h)) (FtA.dp ds _ a)
  | .tuple ds, _, .tup h a => .tup (.inl (.inl h)) (FtA.dp ds _ a)
theorem FtA.dp {K : PySem.W.Frag} {H : Hp} : ∀ (ds : List PyData) (vs : List V), FtA H vs ds → DpAll K H vs ds
  | [], _, .nil => .nil
  | d :: ds, _, .cons h a => .cons (Ft.dp d _ h) (FtA.dp ds _ a)
end
theorem FtA.snoc {H : Hp} : ∀ {vs : List V} {ds : List PyData} {v : V} {d : PyData}, FtA H vs ds → Ft H v d → FtA H (vs ++ [v]) (ds ++ [d])
  | _, _, _, _, .nil, h => .cons h .nil
  | _, _, _, _, .cons a r, h => .cons a (r.snoc h)
end My
namespace My
open PySem PySem.Spec PyProof.Rows L2
end My

set_option Elab.async false
set_option linter.all false
set_option maxRecDepth 100000
set_option maxHeartbeats 2000000
namespace My
open PySem PySem.Spec PyProof.Rows L2
/-! ### generator expressions whose element calls defs -/
/-- the context of a generator expression's own frame -/
abbrev gxC (X : Cx) (A : Around) (s : Shared) (H : Hp) (cenv : Env) (fp : List Addr) (pn : List (Addr × Obj)) : Cx :=
  { X with A := A, s_0 := s, H_0 := H, env := cenv, outer := X.stack, stack := cenv :: X.stack, ex := fp, fn := fun _ => false, pn := pn, xe := fun _ _ => False }
theorem over_gen {A : Around} {elt : Expr} {gs : List Comprehension} {scope : Scope} {pos : Pos} {it acc : Value} {env : Env} : A.over (.compLoop (.GeneratorExp elt gs scope pos) 0 it acc env) [] = A.deeper env := rfl
section
variable {X : Cx} {pins : List (Addr × Obj)} {σ : L2.St} {H : Hp} {s : Shared}
/-- what its consumer wrote at S while it slept -/
theorem woke {S : Addr} {o o' : Obj} {pins0 : List (Addr × Obj)} {s' : Shared} (I : Inv X ((S, o) :: pins0) σ H s) (h0 : X.s_0.heap.objs.size ≤ S) (hc : ∀ x c, X.env.cells.lookup x = some c → c ≠ S) (hpn : ∀ p ∈ X.pn ++ pins0, p.1 ≠ S)
    (os : s'.os = s.os) (bare : AllBare s'.gens) (keep : ∀ b u, b ≠ S → s.heap.get? b = some u → s'.heap.get? b = some u) (own : s'.heap.get? S = some o') (hd : ∀ v, o'.data ≠ .cell v) : Inv X ((S, o') :: pins0) σ H s' := by
  obtain ⟨p1, p2, p3, p4, p5⟩ := I.pin (S, o) (List.mem_append_right _ List.mem_cons_self)
  have I0 : Inv X pins0 σ H s := I.pins_of fun p hp => I.pin p (List.mem_append_right _ (List.mem_cons_of_mem _ hp))
  have J : Inv X pins0 σ H { s with heap := s'.heap, toks := s.toks } := I0.turned (t' := s.toks) keep p2 p3 (.inr h0) hc hpn
  have J2 : Inv X pins0 σ H s' := J.call' (ch := []) os (Un.kept fun b o e => e) J.hok bare (fun b hb => absurd hb (by simp))
  refine J2.pins_of fun p hp => ?_
  rcases List.mem_cons.mp hp with z | z
  · rw [z]
    exact ⟨own, p2, p3, p4, hd⟩
  · exact J2.pin p (List.mem_append_right _ z)
/-- a scope without cells makes none -/
theorem none_made : ∀ {names : List (Str × NameKind)}, (∀ y ∈ names, y.2 ≠ .cell) → (∀ n acc, cellsFrom n names acc = acc) ∧ ∀ h, pushCells h names = h
  | [], _ => ⟨fun _ _ => rfl, fun _ => rfl⟩
  | y :: r, no => by
    have hy : (y.2 == NameKind.cell) = false := beq_eq_false_iff_ne.mpr (no y List.mem_cons_self)
    have ⟨p, q⟩ := none_made (names := r) fun z hz => no z (List.mem_cons_of_mem y hz)
    exact ⟨fun n acc => by rw [cellsFrom, hy]; exact p n acc, fun h => by rw [pushCells, hy]; exact q h⟩
/-- names keep their places when only their kinds change -/
theorem lookup_kinds {f : Str × NameKind → Str × NameKind} (same : ∀ p, (f p).1 = p.1) {x : Str} {k : NameKind} : ∀ {names : List (Str × NameKind)}, names.lookup x = some k → (names.map f).lookup x = some (f (x, k)).2
  | [], e => nomatch e
  | (n, j) :: r, e => by
    rw [List.map_cons, show f (n, j) = (n, (f (n, j)).2) from Prod.ext (same _) rfl]
    cases hx : x == n with
    | true =>
      rw [List.lookup_cons, hx] at e ⊢
      obtain rfl : j = k := Option.some.inj e
      rw [eq_of_beq hx]
    | false =>
      rw [List.lookup_cons, hx] at e ⊢
      exact lookup_kinds same e
/-- a free name stays free or is a cell in the block's scope -/
theorem relab_free {env : Env} {scope : Scope} {x : Str} (e : scope.names.lookup x = some .free) : (relabel scope env).names.lookup x = some .cell ∨ (relabel scope env).names.lookup x = some .free := by
  unfold relabel
  rw [lookup_kinds (fun p => ?_) e]
  · dsimp only
    split
    · exact .inl rfl
    · exact .inr rfl
  · dsimp only
    split <;> rfl
/-- the generator's frame as it begins: what a block's frame would know, with the iterator under its own name -/
theorem gx_start {scope : Scope} {own : List (Str × Nat)} {fp : List Addr} {A : Around} {code : Value} {it : Value} {h' : Heap} {go : Obj} {G : Array GenState} {tk : Nat} (I : Inv X pins σ H s) (ok : BlkOk X.N X.env.scope scope own) (hcell : ∀ y ∈ scope.names, y.2 ≠ .cell) (hN : X.N.Nodup)
    (hfp : ∀ b ∈ fp, FpOk X pins H b ∧ b < s.heap.objs.size) (hA : A.handled = none) (hfr : A.frames = some X.stack) (hn : h'.Ns s.heap.objs.size (fun y => if y = ".0" then some it else none))
    (hs : Heap.SameBut s.heap.objs.size (s.heap.push { cls := .type "frame", data := .dict #[] }) h') (hG : AllBare G) (hgp : (h'.push go).get? h'.objs.size = some go) (hgd : ∀ v, go.data ≠ .cell v) :
    Inv (gxC X (A.deeper (genEnv scope (cloFrom X.env.cells scope.names []) s.heap.objs.size code builtinsNs X.env)) s H (genEnv scope (cloFrom X.env.cells scope.names []) s.heap.objs.size code builtinsNs X.env) fp [(h'.objs.size, go)]) [] (wipe σ (own.map (·.2))) H
      { s with gens := G, toks := tk, heap := h'.push go } := by
  have J := block_start I ok hN hfp
  rw [(none_made hcell).1, (none_made hcell).2] at J
  have lt : s.heap.objs.size < h'.objs.size := hn.lt
  have kp : ∀ b o, s.heap.get? b = some o → (h'.push go).get? b = some o := fun b o e => Heap.get?_push_of_some _ (hs.extBut b o (Nat.ne_of_lt (Heap.lt_size e)) (Heap.get?_push_of_some _ e))
  have cells : ∀ {c : Addr} {v : Option Value}, (s.heap.push { cls := .type "dict", data := .dict #[] }).IsCell c v → (h'.push go).IsCell c v := by
    rintro c v ⟨o, e, d⟩
    have ne : c ≠ s.heap.objs.size := fun z => by
      rw [z, Heap.get?_push_size _ rfl] at e
      rw [← Option.some.inj e] at d
      cases d
    exact ⟨o, kp c o (Heap.get?_push_ne _ _ _ ne ▸ e), d⟩
  have outside : ∀ {y : Str}, scope.names.lookup y = some .cell ∨ scope.names.lookup y = some .free → (relabel scope X.env).names.lookup y = some .cell ∨ (relabel scope X.env).names.lookup y = some .free := fun z => z.elim (fun e => absurd rfl (hcell _ (PySem.mem_of_lookup e))) relab_free
  refine { ok := { mod := J.ok.mod, kind := ok.kind, glob := J.ok.glob, blt := rfl, above := Nat.le_refl _, inj := J.ok.inj, has := fun y z => J.ok.has y (outside z), cab := (fun _ _ z => nomatch z), hd := fun _ => hA, frames := Around.frames_deeper hfr, stk := .inr ⟨rfl, rfl⟩,
                   exf := J.ok.exf, bs := J.ok.bs, bsz := J.ok.bsz, noex := J.ok.noex, exfs := J.ok.exfs, funs := J.ok.funs, frf := J.ok.frf }
           os := rfl, bare := hG, base := Un.kept kp, loc := ⟨_, hn.push go, fun i y v hy hv vis => ?_⟩, cell := fun y c e => (J.cell y c e).imp fun _ => cells, free := J.free, freeC := J.freeC, pin := ?_, hok := I.hok.kept kp, len := J.len }
  · obtain ⟨m, hm, all⟩ := J.loc
    have blank : m y = none := hm.agree (Heap.Ns.new s.heap (.type "dict")) y
    have get := all i y v hy hv
    rcases vis with l | l
    · have l2 : (relabel scope X.env).names.lookup y = some .local := lookup_relabel_local l
      obtain ⟨u, _, z | z⟩ := get (.inl l2)
      · rw [blank] at z
        exact nomatch z.2
      · rcases z.1 with z | z <;> exact nomatch l2.symm.trans z
    · obtain ⟨u, r, z | ⟨_, c, e, k⟩⟩ := get (.inr (outside l))
      · rw [blank] at z
        exact nomatch z.2
      · exact ⟨u, r, .inr ⟨l, c, e, cells k⟩⟩
  · intro p hp
    obtain rfl : p = (h'.objs.size, go) := by simpa using hp
    refine ⟨hgp, I.hok.fresh (Nat.le_of_lt lt), Nat.ne_of_gt lt, fun z => ?_, hgd⟩
    rcases List.mem_cons.mp (I.stkSub _ z) with e | e
    · exact Nat.lt_irrefl _ (Nat.lt_trans lt (show h'.objs.size < _ from (show h'.objs.size = X.env.locals from e) ▸ I.lt))
    · exact I.nofs (Nat.le_of_lt lt) e
end
end My

set_option Elab.async false
set_option linter.all false
set_option maxRecDepth 100000
set_option maxHeartbeats 2000000
namespace My
open PySem PySem.Spec PyProof.Rows L2
/-- where such a generator stands: i items are out; S: what its consumer keeps -/
structure GxAt (X : Cx) (fp : List Addr) (tn : Nat → Heap → Prop) (σ0 : L2.St) (W : Nat → Hp → Prop) (S : Addr) (i : Nat) (o : Obj) (H : Hp) (s : Shared) : Prop where
  inv : Inv X [(S, o)] σ0 H s
  st : tn i s.heap
  nfp : ∀ b ∈ fp, H b = none
  w : W i H
/-- the consumer wrote at S alone -/
structure Wrote (S : Addr) (s s' : Shared) (o' : Obj) : Prop where
  os : s'.os = s.os
  bare : AllBare s'.gens
  keep : ∀ b u, b ≠ S → s.heap.get? b = some u → s'.heap.get? b = some u
  own : s'.heap.get? S = some o'
  nc : ∀ v, o'.data ≠ .cell v
def gxY (X : Cx) (fp : List Addr) (tn : Nat → Heap → Prop) (σ0 : L2.St) (W : Nat → Hp → Prop) (S : Addr) (n : Nat) (F : Nat → V) : Protocol := fun m s₀ v s kap =>
  ∃ i o H, m + i + 1 = n ∧ RelV (F i) v ∧ s₀.heap.get? S = some o ∧ GxAt X fp tn σ0 W S (i + 1) o H s ∧ ∀ s'' o', Wrote S s s'' o' → kap (.send .none) s''
def gxP (X : Cx) (σ0 : L2.St) (W : Nat → Hp → Prop) (S : Addr) (n : Nat) : Nat → Shared → Shared → Prop := fun m s₀ s₁ => m = 0 ∧ ∃ o H, Inv X [(S, o)] σ0 H s₁ ∧ W n H
section
variable {X : Cx}
/-- one item's reading -/
def gxStep (J : It) (g : L2.TG) (te : TE) (vs : List Nat) (σ0 : L2.St) (W : Nat → Hp → Prop) (n : Nat) (F : Nat → V) : Prop :=
  ∀ i H, W i H → (i < n → J.go i H ∧ ∀ x H', J.yld i H x H' → g x σ0 H' fun σ2 H2 => wipe σ2 vs = σ0 ∧ te σ2 H2 fun y H3 => y = F i ∧ W (i + 1) H3) ∧ (i = n → J.stop i H)
theorem gx_loop {A : Around} {elt tg iter : Expr} {scope : Scope} {pos : Pos} {J : It} {fp : List Addr} {it : Addr} {tn : Nat → Heap → Prop} {g : L2.TG} {te : TE} {vs : List Nat} {σ0 : L2.St} {W : Nat → Hp → Prop} {n : Nat} {F : Nat → V} {S : Addr}
    (hA : A.deeper X.env = X.A) (T : Turn X.prog X.w X.K tg J fp it tn) (hc : X.calm = true) (hex : X.ex = fp) (hSf : S ∉ fp) (hpf : ∀ p ∈ X.pn, p.1 ∉ fp) (hxe : ∀ e s, X.xe e s → False) (hco : X.env.scope.isCoroutine = false)
    (h0 : X.s_0.heap.objs.size ≤ S) (hcs : ∀ x c, X.env.cells.lookup x = some c → c ≠ S) (hpS : ∀ p ∈ X.pn, p.1 ≠ S)
    (pg : PG X tg g) (pe : PE X elt te) (step : gxStep J g te vs σ0 W n F) :
    ∀ (k i : Nat) (s₀ s : Shared) (o : Obj) (H : Hp), i + k = n → s₀.heap.get? S = some o → GxAt X fp tn σ0 W S i o H s →
      Seg (model X.prog X.w) A (fun m s₀ r s₁ => r = .ok .next ∧ gxP X σ0 W S n m s₀ s₁) (gxY X fp tn σ0 W S n F) k s₀
        (.compLoop (.GeneratorExp elt [⟨tg, iter, [], 0⟩] scope pos) 0 (.ref it) .none X.env)
        ((model X.prog X.w).den (.compLoop (.GeneratorExp elt [⟨tg, iter, [], 0⟩] scope pos) 0 (.ref it) .none X.env)) [] s := by
  have stat : ∀ {o : Obj} {σ' : L2.St} {H' : Hp} {s' : Shared}, Inv X [(S, o)] σ' H' s' → (∀ b ∈ fp, H' b = none) → ∀ b ∈ fp, FpOk X [(S, o)] H' b := fun {o σ' H' s'} I' hn b hb =>
    ⟨hn b hb, (I'.ok.exf b (hex ▸ hb)).1, I'.ok.exfs b (hex ▸ hb), .inl (hex ▸ hb), fun x c e => (I'.ok.exf b (hex ▸ hb)).2 x c e, fun p hp z => by
      rcases List.mem_append.mp hp with q | q
      · exact hpf p q (z ▸ hb)
      · have e : p = (S, o) := by simpa using q
        rw [e] at z
        exact hSf (by rw [show S = b from z]; exact hb)⟩
  intro k
  induction k with
  | zero =>
    intro i s₀ s o H hk hs0 G
    have hin : i = n := by omega
    subst hin
    show Seg _ A _ _ _ s₀ _ ((compTurn (.GeneratorExp elt [⟨tg, iter, [], 0⟩] scope pos) 0 (.ref it) .none X.env).onRaise (leaving X.env)) [] s
    rw [compTurn_gen, Sem.onRaise_eq_wrap]
    refine seg_bind_wrap (wpAny_standAt ?_)
    refine seg_bind_wrap ?_
    rw [over_gen, hA]
    refine thnF (T.done X rfl rfl rfl hc i [(S, o)] s σ0 H (fun _ _ => False) G.inv (stat G.inv G.nfp) G.st ((step i H G.w).2 rfl)) fun r s6 ⟨hr, I6⟩ => ?_
    subst hr
    exact seg_end (.ok .next) ⟨rfl, rfl, o, H, I6, G.w⟩
  | succ k ih =>
    intro i s₀ s o H hk hs0 G
    have hlt : i < n := by omega
    obtain ⟨go, st⟩ := (step i H G.w).1 hlt
    show Seg _ A _ _ _ s₀ _ ((compTurn (.GeneratorExp elt [⟨tg, iter, [], 0⟩] scope pos) 0 (.ref it) .none X.env).onRaise (leaving X.env)) [] s
    rw [compTurn_gen, Sem.onRaise_eq_wrap]
    refine seg_bind_wrap (wpAny_standAt ?_)
    refine seg_bind_wrap ?_
    rw [over_gen, hA]
    refine thnF (T.item X rfl rfl rfl hc i [(S, o)] s σ0 H (fun _ _ => False) G.inv (stat G.inv G.nfp) G.st go) fun r s6 ⟨u, hr, h6⟩ => ?_
    subst hr
    refine seg_bind_wrap ?_
    rw [over_gen, hA]
    refine thnF h6 fun _ s7 ⟨x, H7, I7, r7, y7, st7, n7⟩ => ?_
    have I7' := I7.pinned (stat I7 n7) (T.obj _ _ st7)
    refine seg_bind_wrap ?_
    rw [over_gen, hA]
    refine wpAny_mono (pg.run _ s7 _ H7 x u _ I7' r7 (st x H7 y7)) (fun _ s8 h8 => ?_) (fun e s' z => (hxe e s' z).elim)
    obtain ⟨σ8, H8, I8, hw8, q8⟩ := h8
    refine seg_bind_wrap (wpAny_tests_nil ?_)
    simp only [if_true]
    have hy : ∀ v, yieldOut X.env v = yieldValue v := fun v => by simp only [yieldOut, hco, Bool.false_eq_true, if_false]
    simp only [hy]
    rw [Sem.bind_eq_wrap', Sem.bind_eq_wrap', Sem.wrap_wrap, Sem.wrap_wrap]
    refine seg_wrap ?_
    rw [over_gen, hA]
    refine wpAny_mono (pe.run _ s8 σ8 H8 _ I8 q8) (fun yv s10 h10 => ?_) (fun e s' z => (hxe e s' z).elim)
    obtain ⟨y, H10, I10, r10, ey, w10⟩ := h10
    have pin' : ∀ b ∈ fp, ∀ ob, s7.heap.get? b = some ob → s10.heap.get? b = some ob ∧ H10 b = none := fun b hb ob e =>
      let z := I10.pin (b, ob) (List.mem_append_right _ (List.mem_append_right _ (mem_pinsAt hb e)))
      ⟨z.1, z.2.1⟩
    have hl : σ0.length = σ8.length := by rw [← hw8, wipe_length]
    have I11 : Inv X [(S, o)] σ0 H10 s10 := (I10.unpinned (pins := [(S, o)])).weak hl fun j v e => by
      rw [← hw8] at e
      exact (wipe_some e).1
    have G11 : GxAt X fp tn σ0 W S (i + 1) o H10 s10 := ⟨I11, T.keep _ _ _ st7 fun b hb ob e => (pin' b hb ob e).1, fun b hb => by
      obtain ⟨ob, e, _⟩ := T.obj _ _ st7 b hb
      exact (pin' b hb ob e).2, w10⟩
    refine seg_at (seg_yield rfl rfl rfl ⟨i, o, H10, by omega, by rw [← ey]; exact r10, hs0, G11, fun s'' o' z => ?_⟩)
    refine seg_again rfl (ih (i + 1) s'' s'' o' H10 (by omega) z.own ⟨woke G11.inv h0 hcs (fun p hp => hpS p (by simpa using hp)) z.os z.bare z.keep z.own z.nc, T.keep _ _ _ G11.st fun b hb ob e => z.keep b ob (fun q => hSf (q ▸ hb)) e, G11.nfp, G11.w⟩)
/-- from its beginning -/
theorem gx_begin {A : Around} {elt tg iter : Expr} {scope : Scope} {pos : Pos} {J : It} {fp : List Addr} {it : Addr} {tn : Nat → Heap → Prop} {R : GenEnd} {Y : Protocol} {k : Nat} {s₀ s : Shared} (T : Turn X.prog X.w X.K tg J fp it tn) (st : tn 0 s.heap)
    (loop : Seg (model X.prog X.w) A R Y k s₀ (.compLoop (.GeneratorExp elt [⟨tg, iter, [], 0⟩] scope pos) 0 (.ref it) .none X.env)
        ((model X.prog X.w).den (.compLoop (.GeneratorExp elt [⟨tg, iter, [], 0⟩] scope pos) 0 (.ref it) .none X.env)) [] s) :
    Seg (model X.prog X.w) A R Y k s₀ (.compStart (.GeneratorExp elt [⟨tg, iter, [], 0⟩] scope pos) 0 (.ref it) .none X.env)
        ((model X.prog X.w).den (.compStart (.GeneratorExp elt [⟨tg, iter, [], 0⟩] scope pos) 0 (.ref it) .none X.env)) [] s := by
  show Seg _ A _ _ _ s₀ _ ((compStart (.GeneratorExp elt [⟨tg, iter, [], 0⟩] scope pos) 0 (.ref it) .none X.env).onRaise (leaving X.env)) [] s
  unfold compStart
  rw [Sem.onRaise_eq_wrap]
  show Seg _ A _ _ _ s₀ _ ((ask >>= _).wrap _ _ _ _) [] s
  refine seg_bind_wrap (wpAny_askSetting ?_)
  split
  · exact seg_again rfl loop
  · refine seg_bind_wrap (wpAny_rule ?_)
    show Seg _ A _ _ _ s₀ _ ((standAt iter.pos >>= _).wrap _ _ _ _) [] s
    exact seg_bind_wrap (wpAny_standAt (seg_bind_wrap (T.self _ 0 s _ _ st (seg_again rfl loop))))
end
end My

set_option Elab.async false
set_option linter.all false
set_option maxRecDepth 100000
set_option maxHeartbeats 2000000
namespace My
open PySem PySem.Spec PyProof.Rows L2
section
variable {X : Cx}
/-- what sum() walks: the generator at a sleeps, k items are still to come -/
structure GxSt (X : Cx) (A : Around) (fp : List Addr) (tn : Nat → Heap → Prop) (σ0 : L2.St) (W : Nat → Hp → Prop) (S : Addr) (n : Nat) (F : Nat → V) (a : Addr) (g k : Nat) (s : Shared) : Prop where
  gen : s.heap.IsGen a g
  lim : s.heap.NoLimit
  bare : AllBare s.gens
  go : ∃ gs, s.gens[g]? = some gs ∧ ∀ s'' o', Wrote S s s'' o' → gs.Goes (model X.prog X.w) A (fun m s₀ r s₁ => r = .ok .next ∧ gxP X σ0 W S n m s₀ s₁) (gxY X fp tn σ0 W S n F) k (.send .none) s''
end
end My

set_option Elab.async false
set_option linter.all false
set_option maxRecDepth 100000
set_option maxHeartbeats 2000000
namespace My
open PySem PySem.Spec PyProof.Rows L2
section
variable {X : Cx} {pins : List (Addr × Obj)} {σ : L2.St} {H : Hp} {s : Shared}
/-- the generator expression's scope -/
structure GxS (X : Cx) (scope : Scope) (own : List (Str × Nat)) : Prop where
  blk : BlkOk X.N X.env.scope scope own
  co : scope.isCoroutine = false
  cell : ∀ y ∈ scope.names, y.2 ≠ .cell
  dot : scope.names.lookup (".0" : Str) = some NameKind.local
/-- the generator at a, as it was made -/
def GxNew (X : Cx) (pins : List (Addr × Obj)) (σ : L2.St) (elt tg iter : Expr) (scope : Scope) (pos : Pos) (own : List (Str × Nat)) (J : It) (H2 : Hp) (a : Addr) (s5 : Shared) : Prop :=
  ∃ (s4 : Shared) (code : Value) (cenv : Env) (fp : List Addr) (it : Addr) (tn : Nat → Heap → Prop) (go : Obj),
    cenv = genEnv scope (cloFrom X.env.cells scope.names []) s4.heap.objs.size code builtinsNs X.env ∧ Inv X pins σ H2 s4 ∧ (∀ b ∈ fp, FpOk X pins H2 b ∧ b < s4.heap.objs.size) ∧ Turn X.prog X.w X.K tg J fp it tn ∧ tn 0 s5.heap ∧
    s5.gens = s4.gens.push (.fresh (.compStart (.GeneratorExp elt [⟨tg, iter, [], 0⟩] scope pos) 0 (.ref it) .none cenv)) ∧ (∀ h : Heap, h.get? a = some go → h.IsGen a s4.gens.size) ∧ s5.heap.get? a = some go ∧ s4.heap.objs.size < a ∧
    (∀ A : Around, A.handled = none → A.frames = some X.stack → Inv (gxC X (A.deeper cenv) s4 H2 cenv fp [(a, go)]) [] (wipe σ (own.map (·.2))) H2 s5)
theorem gx_make {c P : Addr} {elt tg iter : Expr} {gpos : Pos} {scope : Scope} {own : List (Str × Nat)} {wi : TI} {k : Nat} {Q' : Value → Shared → Prop} {R : It → Hp → Prop}
    (hr : Room k X.A) (TB : LamX.TabB X.base X.mg c P) (hcode : X.env.code = .ref c) (S : GxS X scope own) (hN : X.N.Nodup) (hi : PI X tg iter wi)
    (hs : ∀ v, genFold iter X.env v = pure v) (I : Inv X pins σ H s) (h : wi σ H fun J H1 => GxR.TabG H1 P ∧ R J H1)
    (hQ : ∀ J H1 H2 a s5, R J H1 → GxR.Tabbed P H1 H2 → GxNew X pins σ elt tg iter scope gpos own J H2 a s5 → Q' (.ref a) s5) :
    wpAny (model X.prog X.w) X.A (eval (.GeneratorExp elt [⟨tg, iter, [], 0⟩] scope gpos) X.env) Q' X.xe s := by
  have caught : ∀ y ∈ scope.names, y.2 = .free → ∃ c, X.env.cells.lookup y.1 = some c := fun y hy e => I.ok.has _ (S.blk.free y hy e)
  have deep : X.A.depth < recursionLimit := by
    have := hr.dp
    omega
  refine wpAny_GeneratorExp_make S.co (closure_ok caught) S.cell S.dot S.blk.kind deep (thn (hi.run pins s σ H _ I h) fun xv s1 hx => thn hx fun itv s2 h2 => ?_) hs
  obtain ⟨it, fp, tn, J, H1, rfl, I2, T, st2, f2, hT, hR⟩ := h2
  refine ⟨I2.nolimit, gen_code I2 TB hcode hT fun code H2 s4 tab I4 kp _ h' hn' hs' => ?_⟩
  have apart : ∀ b ∈ fp, b ≠ P := fun b hb z => by
    obtain ⟨_, e, _⟩ := hT
    rw [← z, (f2 b hb).1] at e
    cases e
  have kp5 : ∀ (go : Obj) b u, s4.heap.get? b = some u → (h'.push go).get? b = some u := fun go b u e => Heap.get?_push_of_some _ (hs'.extBut b u (Nat.ne_of_lt (Heap.lt_size e)) (Heap.get?_push_of_some _ e))
  have f4 : ∀ b ∈ fp, FpOk X pins H2 b ∧ b < s4.heap.objs.size := fun b hb => by
    obtain ⟨o, e, _⟩ := T.obj _ _ st2 b hb
    exact ⟨⟨(tab.2 b (apart b hb)).trans (f2 b hb).1, (f2 b hb).2⟩, Heap.lt_size (kp b o (apart b hb) e)⟩
  generalize hgo : ({ cls := .type "generator", data := .fields #[.int s4.gens.size 0, .str "<genexpr>" (s4.toks + 1), .str (X.env.qual ++ "<genexpr>") (s4.toks + 1 + 1)] } : Obj) = go
  have hgp : (h'.push go).get? h'.objs.size = some go := Heap.get?_push_size _ (by rw [← hgo]; rfl)
  have hgd : ∀ v, go.data ≠ .cell v := fun v z => by
    rw [← hgo] at z
    cases z
  exact hQ J H1 H2 h'.objs.size _ hR tab ⟨s4, code, _, fp, it, tn, go, rfl, I4, f4, T, T.keep _ _ _ st2 fun b hb u e => kp5 go b u (kp b u (apart b hb) e), rfl, fun hh e => ⟨go, _, _, e, by rw [← hgo], by rw [← hgo], by rw [← hgo]⟩, hgp, hn'.lt,
    fun A hA hfr => gx_start I4 S.blk S.cell hN f4 hA hfr hn' hs' (I4.bare.push rfl) hgp hgd⟩
end
end My

set_option Elab.async false
set_option linter.all false
set_option maxRecDepth 100000
set_option maxHeartbeats 2000000
namespace My
open PySem PySem.Spec PyProof.Rows L2
def gxCk (scope : Scope) : Bool := !scope.isCoroutine && (scope.names.all fun y => match y.2 with | .cell => false | _ => true) && (match scope.names.lookup (".0" : Str) with | some .local => true | _ => false)
theorem gxS_by {X : Cx} {scope : Scope} {own : List (Str × Nat)} (b : BlkOk X.N X.env.scope scope own) (h : gxCk scope = true) : GxS X scope own := by
  unfold gxCk at h
  simp only [Bool.and_eq_true] at h
  obtain ⟨⟨h1, h2⟩, h3⟩ := h
  rw [List.all_eq_true] at h2
  refine ⟨b, by simpa using h1, fun y hy z => ?_, ?_⟩
  · have q := h2 y hy
    rw [z] at q
    cases q
  · revert h3
    cases scope.names.lookup (".0" : Str) with
    | none => simp
    | some k => cases k <;> simp
/-! sums -/
/-! works -/
end My

set_option Elab.async false
set_option linter.all false
set_option maxRecDepth 100000
set_option maxHeartbeats 2000000
namespace My
open PySem PySem.Spec PyProof.Rows L2
/-! ### slices of a tuple of its own, sorted(tuple of texts) -/
theorem cut_to (xs : List V) (b : Nat) : cutV xs none (some (b : Int)) = xs.take b := by
  unfold cutV
  rw [HT.sIx_nat, HT.sIx_none, List.drop_zero, Nat.sub_zero]
  by_cases h : b ≤ xs.length
  · rw [Nat.min_eq_left h]
  · rw [Nat.min_eq_right (by omega), List.take_length, List.take_of_length_le (by omega)]
theorem cut_of (xs : List V) (a : Nat) (h : a ≤ xs.length) : cutV xs (some (a : Int)) none = xs.drop a := by
  unfold cutV
  rw [HT.sIx_nat, HT.sIx_none, Nat.min_eq_left h]
  exact List.take_of_length_le (by rw [List.length_drop]; omega)
/-! ### prices of more lists -/
end My

set_option Elab.async false
set_option linter.all false
set_option maxRecDepth 100000
set_option maxHeartbeats 2000000
namespace My
open PySem PySem.Spec PyProof.Rows L2
/-! ### a promise where no repr is under way -/
/-! ### repr of data -/
structure Sh (n m : Nat) (d : PyData) : Prop where
  ok : d.showable = true
  nd : d.hasDict = false
  sh : d.leavesShort 100 = true
  dp : d.depth ≤ n
  wt : d.weight ≤ m
  ly : d.canLay0 = true
theorem Sh.mono {n n' m m' : Nat} {d : PyData} (h : Sh n m d) (h1 : n ≤ n') (h2 : m ≤ m') : Sh n' m' d := ⟨h.ok, h.nd, h.sh, Nat.le_trans h.dp h1, Nat.le_trans h.wt h2, h.ly⟩
theorem Sh.none {n m : Nat} : Sh n m .none := ⟨rfl, rfl, rfl, Nat.zero_le _, Nat.zero_le _, rfl⟩
theorem Sh.bool {n m : Nat} (b : Bool) : Sh n m (.bool b) := ⟨rfl, rfl, rfl, Nat.zero_le _, Nat.zero_le _, rfl⟩
theorem Sh.str {n m : Nat} {l : List Nat} (h : ∀ c ∈ l, c < 1000) (hl : l.length ≤ m) : Sh n m (.str (txS l)) := by
  refine ⟨rfl, rfl, ?_, Nat.zero_le _, ?_, ?_⟩
  · have e : l.toArray.toList = l := by simp
    simp only [PyData.leavesShort, List.all_eq_true, decide_eq_true_eq]
    intro c hc
    have := h c hc
    omega
  · show l.toArray.size ≤ m
    simpa using hl
  · show (txS l).cps.all (· < 0x110000) = true
    rw [Array.all_eq_true']
    intro c hc
    have hc2 : c ∈ l := by simpa using hc
    have := h c hc2
    exact decide_eq_true (by omega)
theorem log2_small {i : Int} (h : i.natAbs < 10 ^ 60) : i.natAbs.log2 < 200 := by
  by_cases e : i.natAbs = 0
  · rw [e]
    decide
  · rw [Nat.log2_lt e]
    exact Nat.lt_of_lt_of_le h (by decide)
theorem Sh.int {n m : Nat} {i : Int} (h : i.natAbs < 10 ^ 60) (hm : 200 ≤ m) : Sh n m (.int i) := by
  have h1 := log2_small h
  refine ⟨?_, rfl, ?_, Nat.zero_le _, ?_, rfl⟩
  · simp only [PyData.showable, decide_eq_true_eq]
    omega
  · simp only [PyData.leavesShort, decide_eq_true_eq]
    show (Str.ofString (toString i)).length ≤ 100
    have h2 := int_text_length_le10 (a := i) (k := 60) (by decide) h
    rw [PySem.ofString_length]
    omega
  · simp only [PyData.weight]
    split <;> omega
theorem sh_all {n m : Nat} : ∀ {xs : List PyData}, (∀ x ∈ xs, Sh n m x) → PyData.showableAll xs = true ∧ PyData.hasDictAll xs = false ∧ PyData.leavesShortAll 100 xs = true ∧ PyData.depthAll xs ≤ n ∧ PyData.weightAll xs ≤ (m + 1) * xs.length ∧ PyData.canLayAll0 xs = true
  | [], _ => ⟨rfl, rfl, rfl, Nat.zero_le _, Nat.zero_le _, rfl⟩
  | x :: xs, h => by
    obtain ⟨a1, a2, a3, a4, a5, a6⟩ := sh_all (xs := xs) fun y hy => h y (List.mem_cons_of_mem _ hy)
    have b := h x (List.mem_cons_self ..)
    refine ⟨by simp only [PyData.showableAll, b.ok, a1, Bool.and_self], by simp only [PyData.hasDictAll, b.nd, a2, Bool.or_self], by simp only [PyData.leavesShortAll, b.sh, a3, Bool.and_self], ?_, ?_, by simp only [PyData.canLayAll0, b.ly, a6, Bool.and_self]⟩
    · have := b.dp
      simp only [PyData.depthAll]
      omega
    · have := b.wt
      simp only [PyData.weightAll, List.length_cons, Nat.mul_add, Nat.mul_one]
      omega
theorem Sh.lst {n m : Nat} {xs : List PyData} (h : ∀ x ∈ xs, Sh n m x) : Sh (n + 1) ((m + 1) * xs.length) (.list xs) := by
  obtain ⟨a1, a2, a3, a4, a5, a6⟩ := sh_all h
  exact ⟨a1, a2, a3, Nat.succ_le_succ a4, a5, a6⟩
theorem Sh.tup {n m : Nat} {xs : List PyData} (h : ∀ x ∈ xs, Sh n m x) : Sh (n + 1) ((m + 1) * xs.length) (.tuple xs) := by
  obtain ⟨a1, a2, a3, a4, a5, a6⟩ := sh_all h
  exact ⟨a1, a2, a3, Nat.succ_le_succ a4, a5, a6⟩
/-! ### the law's own call -/
section
variable {P : Program} {w : World} {K : PySem.W.Frag} {mg mb : Str → Option Value} {cs : List (Addr × Addr)} {a : Addr} {vs : List Value} {ns : List Int} {s : Shared} {H : Hp}
open Classical in
end
end My

set_option Elab.async false
set_option linter.all false
set_option maxRecDepth 100000
set_option maxHeartbeats 2000000
namespace My
open PySem PySem.Spec PyProof.Rows L2
/-! ### all(elt for target in iter), any(..), the element of any kind -/
section
variable {X : Cx}
theorem repin {A : Around} {s s' : Shared} {H H' : Hp} {cenv : Env} {fp : List Addr} {pn pins : List (Addr × Obj)} {σ : L2.St} (I : Inv (gxC X A s H cenv fp pn) pins σ H' s') : Inv (gxC X A s H cenv fp []) (pn ++ pins) σ H' s' :=
  ⟨⟨I.ok.mod, I.ok.kind, I.ok.glob, I.ok.blt, I.ok.above, I.ok.inj, I.ok.has, I.ok.cab, I.ok.hd, I.ok.frames, I.ok.stk, I.ok.exf, I.ok.bs, I.ok.bsz, I.ok.noex, I.ok.exfs, I.ok.funs, I.ok.frf⟩, I.os, I.bare, I.base, I.loc, I.cell, I.free, I.freeC, I.pin, I.hok, I.len⟩
theorem all_loopC {A : Around} {fp : List Addr} {tn : Nat → Heap → Prop} {σ0 : L2.St} {W : Nat → Hp → Prop} {n : Nat} {tr : Nat → Bool} {a : Addr} {g : Nat} {go : Obj} {R : Result → Shared → Prop}
    (hh : A.handled = none) (hd : A.depth < recursionLimit) (hgo : ∀ h : Heap, h.get? a = some go → h.IsGen a g) (hnc : ∀ v, go.data ≠ .cell v)
    (hR1 : ∀ s' o H, (∀ j, j < n → tr j = true) → Inv X [(a, o)] σ0 H s' → W n H → R (.ok (.ret (.bool true))) s')
    (hR0 : ∀ s' o H j, j < n → tr j = false → (∀ i, i < j → tr i = true) → Inv X [(a, o)] σ0 H s' → W (j + 1) H → R (.ok (.ret (.bool false))) s') :
    ∀ (k i : Nat) (s : Shared), i + k = n → (∀ j, j < i → tr j = true) → GxSt X A.in1.in1 fp tn σ0 W a n (fun i => .bl (tr i)) a g k s → s.heap.get? a = some go →
      codeAny (model X.prog X.w) A (.builtin "all.loop" ⟨[.ref a], []⟩) R s := by
  intro k
  induction k with
  | zero =>
    intro i s hk hall Z hS
    have hin : i = n := by omega
    subst hin
    obtain ⟨hg, hl, hb, gs, hgs, hgoes⟩ := Z
    refine codeAny_builtin F.entry_all_loop ?_
    rw [Around.under_plainId F.plain_all_loop _]
    show wpAny _ A.in1 (pyNext (.ref a) >>= _) _ _ s
    refine wpAny_bind (wpAny_pyNext_genexpQ (A := A.in1) hh hl hd hg hgs (hgoes (s.setGen g .running) _ ⟨rfl, allBare_setGen hb rfl, fun b u _ e => e, hS, hnc⟩) (fun v s₁ gs' hbare hv => ?_) fun s₁ hp h' hk' => ?_)
    · obtain ⟨i', o, H, _, _, _, G, hkap⟩ := hv
      obtain ⟨p1, _, _, _, p5⟩ := G.inv.pin (a, o) (List.mem_append_right _ List.mem_cons_self)
      exact (hkap s₁ o ⟨rfl, G.inv.bare, fun b u _ e => e, p1, p5⟩).elim
    · obtain ⟨_, o, H, I, w⟩ := hp
      refine wpAny_bind (wpAny_rule (wpAny_pure (hR1 _ o H hall ?_ w)))
      exact I.call' (ch := []) rfl (Un.kept hk') (I.hok.kept hk') (allBare_setGen I.bare rfl) (fun b hb => absurd hb (by simp))
  | succ k ih =>
    intro i s hk hall Z hS
    have hlt : i < n := by omega
    obtain ⟨hg, hl, hb, gs, hgs, hgoes⟩ := Z
    have hgl : g < s.gens.size := (Array.getElem?_eq_some_iff.mp hgs).1
    refine codeAny_builtin F.entry_all_loop ?_
    rw [Around.under_plainId F.plain_all_loop _]
    show wpAny _ A.in1 (pyNext (.ref a) >>= _) _ _ s
    refine wpAny_bind (GenW.wpAny_gsz (n := g + 1) hgl (wpAny_pyNext_genexpQ (A := A.in1) hh hl hd hg hgs (hgoes (s.setGen g .running) _ ⟨rfl, allBare_setGen hb rfl, fun b u _ e => e, hS, hnc⟩) (fun v s₁ gs' hbare hv => ?_) fun s₁ hp h' hk' => ?_))
    · intro hsz
      obtain ⟨i', o, H, hi', hrel, hs0, G, hkap⟩ := hv
      have ei : i' = i := by omega
      subst ei
      obtain rfl : v = .bool (tr i') := hrel
      have eo : o = go := by
        have h1 : s.heap.get? a = some o := hs0
        rw [hS] at h1
        exact (Option.some.inj h1).symm
      subst eo
      obtain ⟨p1, _, _, _, p5⟩ := G.inv.pin (a, o) (List.mem_append_right _ List.mem_cons_self)
      refine wpAny_bind (wpAny_holding (wpAny_truthy_bool (wpAny_bind (wpAny_letGo ?_))))
      cases hb : tr i' with
      | true =>
        simp only [if_true]
        have hsz1 : g < s₁.gens.size := by
          have q : (s₁.setGen g gs').gens.size = s₁.gens.size := GenW.setGen_size _ _ _
          have hsz' : g + 1 ≤ (s₁.setGen g gs').gens.size := hsz
          omega
        refine wpAny_pure ⟨plainId_quiet F.plain_all_loop _, ih (i' + 1) _ (by omega) (fun j hj => ?_) ⟨hgo _ p1, G.inv.nolimit, allBare_setGen (s := s₁) G.inv.bare hbare, gs', setGen_at (s := s₁) hsz1, fun s'' o'' z => ?_⟩ p1⟩
        · by_cases e : j = i'
          · rw [e]
            exact hb
          · exact hall j (by omega)
        · exact hkap s'' o'' ⟨z.os, z.bare, z.keep, z.own, z.nc⟩
      | false =>
        simp only [Bool.false_eq_true, if_false]
        refine wpAny_bind (wpAny_rule (wpAny_pure (hR0 _ o H i' hlt hb hall ?_ G.w)))
        exact G.inv.call' (ch := []) rfl (Un.kept fun b u e => e) G.inv.hok (allBare_setGen G.inv.bare hbare) (fun b hb => absurd hb (by simp))
    · exact absurd hp.1 (Nat.succ_ne_zero k)
/-- all(..) -/
def tAllC (P : Addr) (wi : TI) (g : L2.TG) (te : TE) (vs : List Nat) : TE := fun σ H Q => wi σ H fun J H1 => GxR.TabG H1 P ∧ ∀ H2, GxR.Tabbed P H1 H2 →
  ∃ (n : Nat) (tr : Nat → Bool) (W : Nat → Hp → Prop), W 0 H2 ∧ gxStep J g te vs (wipe σ vs) W n (fun i => .bl (tr i)) ∧ (∀ H3, W n H3 → (∀ j, j < n → tr j = true) → Q (.bl true) H3) ∧ ∀ j H3, j < n → tr j = false → (∀ i, i < j → tr i = true) → W (j + 1) H3 → Q (.bl false) H3
theorem pe_allC {c P : Addr} {elt tg iter : Expr} {p pos gpos : Pos} {scope : Scope} {own : List (Str × Nat)} {wi : TI} {g : L2.TG} {te : TE} {k : Nat}
    (hr : Room (k + 3) X.A) (hg : Gl X "all") (hm : X.mg "all" = none) (TB : LamX.TabB X.base X.mg c P) (hcode : X.env.code = .ref c) (S : GxS X scope own) (hN : X.N.Nodup) (hc : X.calm = true) (hi : PI X tg iter wi)
    (pg : ∀ (A : Around) (s : Shared) (H : Hp) (C : Addr) (cl : List (Str × Addr)) (code : Value) (fp : List Addr) (pn : List (Addr × Obj)), PG (gxC X A s H (genEnv scope cl C code builtinsNs X.env) fp pn) tg g)
    (pe : ∀ (A : Around) (s : Shared) (H : Hp) (C : Addr) (cl : List (Str × Addr)) (code : Value) (fp : List Addr) (pn : List (Addr × Obj)), Room k A → PE (gxC X A s H (genEnv scope cl C code builtinsNs X.env) fp pn) elt te)
    (hb : bootBuiltins "all" = some (.builtin "all") := by decide +kernel) (hs : ∀ v, genFold iter X.env v = pure v := by intro _; rfl)
    (he : starEach [.GeneratorExp elt [⟨tg, iter, [], 0⟩] scope gpos] X.env = (false, eval (.GeneratorExp elt [⟨tg, iter, [], 0⟩] scope gpos) X.env) :: starEach [] X.env := by rfl) :
    PE X (.Call (.Name "all" p) [.GeneratorExp elt [⟨tg, iter, [], 0⟩] scope gpos] [] pos) (tAllC P wi g te (own.map (·.2))) := by
  refine ⟨fun pins s σ H Q I h => ?_⟩
  refine wpAny_Call_Name_kw (ld_blt I hg hm hb (PyProof.Rows.callWith_builtin1 ?_ he (by rfl)))
  rw [he]
  refine Calls.spliced_cons (gx_make hr TB hcode S hN hi hs I h fun J H1 H2 a s5 hR hTb hG => ?_)
  refine Calls.spliced_nil ?_
  obtain ⟨n, tr, W, w0, step, hend1, hend0⟩ := hR H2 hTb
  obtain ⟨s4, code, cenv, fp, it, tn, go, ec, I4, f4, T, st5, egs, hgen, hga, hlt, hInv⟩ := hG
  have I5 := repin (hInv X.A.in1.in1 hr.hd I4.ok.frames)
  have hroom : Room k (X.A.in1.in1.deeper cenv) := hr.in1.in1.deeper cenv
  have pg' := pg (X.A.in1.in1.deeper cenv) s4 H2 s4.heap.objs.size (cloFrom X.env.cells scope.names []) code fp []
  have pe' := pe (X.A.in1.in1.deeper cenv) s4 H2 s4.heap.objs.size (cloFrom X.env.cells scope.names []) code fp [] hroom
  rw [← ec] at pg' pe'
  have hgen5 : s5.heap.IsGen a s4.gens.size := hgen _ hga
  obtain ⟨_, ga, gb, gc, hnc⟩ := I5.pin (a, go) (by simp)
  have haf : a ∉ fp := fun hb => Nat.lt_irrefl _ (Nat.lt_trans (f4 a hb).2 hlt)
  have hcl : ∀ x c, cenv.cells.lookup x = some c → c ≠ a := fun x c e z => by
    obtain ⟨v, o, e1, e2⟩ := I5.cell x c e
    rw [z, hga] at e1
    cases e1
    exact hnc _ e2
  refine call_function_tree F.kind_all F.plain_all F.entry_all (F.args_all1 _) ?_
  unfold Builtin.«all»
  refine wpAny_bind (m := oneArg "all" _) (wpAny_pure ?_)
  refine wpAny_bind (wpAny_pyIter_gen hgen5 ?_)
  refine wpAny_pure ⟨plainId_quiet F.plain_all_loop _, all_loopC (X := gxC X (X.A.in1.in1.deeper cenv) s4 H2 cenv fp []) (A := X.A) (fp := fp) (tn := tn) (σ0 := wipe σ (own.map (·.2))) (W := W) (n := n) (tr := tr) (a := a) (g := s4.gens.size) (go := go)
    hr.hd (by have := hr.dp; omega) hgen hnc (fun s' o H3 hdone I' w' => ?_) (fun s' o H3 j hj hsj hal I' w' => ?_) n 0 _ (Nat.zero_add n) (fun j hj => absurd hj (Nat.not_lt_zero j)) ⟨hgen5, I5.nolimit, I5.bare, .fresh (.compStart (.GeneratorExp elt [⟨tg, iter, [], 0⟩] scope gpos) 0 (.ref it) .none cenv), ?_, fun s'' o' z => ⟨rfl, ?_⟩⟩ hga⟩
  · refine ⟨.bl true, H3, ?_, rfl, hend1 H3 w' hdone⟩
    exact I4.call' (ch := fp) I'.os I'.base I'.hok I'.bare fun b hb => ⟨(f4 b hb).1.2.2.2.1, (f4 b hb).1.2.1, (f4 b hb).1.2.2.2.2.1, (f4 b hb).1.2.2.2.2.2⟩
  · refine ⟨.bl false, H3, ?_, rfl, hend0 j H3 hj hsj hal w'⟩
    exact I4.call' (ch := fp) I'.os I'.base I'.hok I'.bare fun b hb => ⟨(f4 b hb).1.2.2.2.1, (f4 b hb).1.2.1, (f4 b hb).1.2.2.2.2.1, (f4 b hb).1.2.2.2.2.2⟩
  · show s5.gens[s4.gens.size]? = _
    rw [egs]
    exact Array.getElem?_push_size ..
  · have Iz : Inv (gxC X (X.A.in1.in1.deeper cenv) s4 H2 cenv fp []) [(a, o')] (wipe σ (own.map (·.2))) H2 s'' := woke I5 (Nat.le_of_lt hlt) hcl (fun p hp => absurd hp (by simp)) z.os z.bare z.keep z.own z.nc
    have stz : tn 0 s''.heap := T.keep _ _ _ st5 fun b hb u e => z.keep b u (fun q => haf (q ▸ hb)) e
    exact gx_begin (X := gxC X (X.A.in1.in1.deeper cenv) s4 H2 cenv fp []) T stz (gx_loop (X := gxC X (X.A.in1.in1.deeper cenv) s4 H2 cenv fp []) rfl T hc rfl haf (fun p hp => absurd hp List.not_mem_nil) (fun _ _ q => q) (by rw [ec]; exact S.co) (Nat.le_of_lt hlt) hcl (fun p hp => absurd hp List.not_mem_nil) pg' pe' step n 0 s'' s'' o' H2 (Nat.zero_add n) z.own ⟨Iz, stz, fun b hb => (f4 b hb).1.1, w0⟩)
end
end My

set_option Elab.async false
set_option linter.all false
set_option maxRecDepth 100000
set_option maxHeartbeats 2000000
namespace My
open PySem PySem.Spec PyProof.Rows L2
theorem gx_step {J : It} {n : Nat} {G : Hp → Prop} {Y : Nat → Hp → V → Hp → Prop} (w : Walk J n G Y) {g : L2.TG} {te : TE} {vs : List Nat} {σ0 : L2.St} {F : Nat → V} {Pv : Nat → Hp → Prop}
    (hG : ∀ i H, i ≤ n → Pv i H → G H) (hs : ∀ i x H H', i < n → Pv i H → Y i H x H' → g x σ0 H' fun σ2 H2 => wipe σ2 vs = σ0 ∧ te σ2 H2 fun y H3 => y = F i ∧ i + 1 ≤ n ∧ Pv (i + 1) H3) :
    gxStep J g te vs σ0 (fun i H => i ≤ n ∧ Pv i H) n F := fun i H hW => ⟨fun hi => ⟨w.goes i H hi (hG i H hW.1 hW.2), fun x H' y => hs i x H H' hi hW.2 (w.yields i H x H' hi (hG i H hW.1 hW.2) y)⟩, fun e => by
    subst e
    exact w.stops H (hG i H hW.1 hW.2)⟩
/-! ### data that lies away from some places -/
def hidS (L : List Addr) (H : Hp) : Hp := fun b => if b ∈ L then none else H b
theorem hid_some {L : List Addr} {H : Hp} {b : Addr} {o : HO} : hidS L H b = some o ↔ b ∉ L ∧ H b = some o := by
  unfold hidS
  split
  · rename_i h
    exact ⟨(fun z => nomatch z), (fun z => absurd h z.1)⟩
  · rename_i h
    exact ⟨fun z => ⟨h, z⟩, fun z => z.2⟩
abbrev Fl (L : List Addr) (H : Hp) (v : V) (d : PyData) : Prop := Ft (hidS L H) v d
abbrev FlA (L : List Addr) (H : Hp) (vs : List V) (ds : List PyData) : Prop := FtA (hidS L H) vs ds
theorem hid_same {L : List Addr} {H : Hp} : Same (hidS L H) H := fun _ _ e => (hid_some.mp e).2
theorem hid_keep {L : List Addr} {H H' : Hp} (k : ∀ b o, b ∉ L → H b = some o → H' b = some o) : Same (hidS L H) (hidS L H') := fun b o e => hid_some.mpr ⟨(hid_some.mp e).1, k b o (hid_some.mp e).1 (hid_some.mp e).2⟩
theorem hid_sub {L L' : List Addr} {H : Hp} (h : ∀ b ∈ L', b ∈ L) : Same (hidS L H) (hidS L' H) := fun b o e => hid_some.mpr ⟨fun z => (hid_some.mp e).1 (h b z), (hid_some.mp e).2⟩
theorem Fl.to {L : List Addr} {H : Hp} {v : V} {d : PyData} (h : Fl L H v d) : Ft H v d := Ft.mono hid_same _ _ h
theorem FlA.to {L : List Addr} {H : Hp} {vs : List V} {ds : List PyData} (h : FlA L H vs ds) : FtA H vs ds := FtA.mono hid_same _ _ h
theorem Fl.keep {L : List Addr} {H H' : Hp} {v : V} {d : PyData} (h : Fl L H v d) (k : ∀ b o, b ∉ L → H b = some o → H' b = some o) : Fl L H' v d := Ft.mono (hid_keep k) _ _ h
theorem FlA.keep {L : List Addr} {H H' : Hp} {vs : List V} {ds : List PyData} (h : FlA L H vs ds) (k : ∀ b o, b ∉ L → H b = some o → H' b = some o) : FlA L H' vs ds := FtA.mono (hid_keep k) _ _ h
theorem Fl.sub {L L' : List Addr} {H : Hp} {v : V} {d : PyData} (h : Fl L H v d) (hs : ∀ b ∈ L', b ∈ L) : Fl L' H v d := Ft.mono (hid_sub hs) _ _ h
theorem FlA.sub {L L' : List Addr} {H : Hp} {vs : List V} {ds : List PyData} (h : FlA L H vs ds) (hs : ∀ b ∈ L', b ∈ L) : FlA L' H vs ds := FtA.mono (hid_sub hs) _ _ h
theorem Fl.same {L : List Addr} {H H' : Hp} {v : V} {d : PyData} (h : Fl L H v d) (k : Same H H') : Fl L H' v d := h.keep fun b o _ e => k b o e
theorem FlA.same {L : List Addr} {H H' : Hp} {vs : List V} {ds : List PyData} (h : FlA L H vs ds) (k : Same H H') : FlA L H' vs ds := h.keep fun b o _ e => k b o e
theorem Fl.sx {Ps L : List Addr} {H H' : Hp} {v : V} {d : PyData} (h : Fl L H v d) (k : Sx Ps H H') (hs : ∀ b ∈ Ps, b ∈ L) : Fl L H' v d := h.keep fun b o nb e => k b o (fun z => nb (hs b z)) e
theorem FlA.sx {Ps L : List Addr} {H H' : Hp} {vs : List V} {ds : List PyData} (h : FlA L H vs ds) (k : Sx Ps H H') (hs : ∀ b ∈ Ps, b ∈ L) : FlA L H' vs ds := h.keep fun b o nb e => k b o (fun z => nb (hs b z)) e
theorem Fl.kp {r : Addr} {L : List Addr} {H H' : Hp} {v : V} {d : PyData} (h : Fl L H v d) (k : Kp r H H') (hs : r ∈ L) : Fl L H' v d := h.keep fun b o nb e => k b o (fun z => nb (z ▸ hs)) e
theorem FlA.kp {r : Addr} {L : List Addr} {H H' : Hp} {vs : List V} {ds : List PyData} (h : FlA L H vs ds) (k : Kp r H H') (hs : r ∈ L) : FlA L H' vs ds := h.keep fun b o nb e => k b o (fun z => nb (z ▸ hs)) e
theorem Fl.tup {L : List Addr} {H : Hp} {p : Addr} {xs : List V} {ds : List PyData} (n : p ∉ L) (h : H p = some (.tup xs)) (a : FlA L H xs ds) : Fl L H (.ref p) (.tuple ds) := Ft.tup (hid_some.mpr ⟨n, h⟩) a
theorem Fl.lst {L : List Addr} {H : Hp} {p : Addr} {xs : List V} {ds : List PyData} (n : p ∉ L) (h : H p = some (.lst xs)) (a : FlA L H xs ds) : Fl L H (.ref p) (.list ds) := Ft.lst (hid_some.mpr ⟨n, h⟩) a
theorem Fl.openT {L : List Addr} {H : Hp} {v : V} {ds : List PyData} (h : Fl L H v (.tuple ds)) : ∃ (a : Addr) (xs : List V), v = .ref a ∧ a ∉ L ∧ H a = some (.tup xs) ∧ FlA L H xs ds := by
  cases h with
  | tup e a => exact ⟨_, _, rfl, (hid_some.mp e).1, (hid_some.mp e).2, a⟩
theorem Fl.isStr {L : List Addr} {H : Hp} {v : V} {z : Str} (h : Fl L H v (.str z)) : v = .str z := by
  cases h
  rfl
theorem Fl.isInt {L : List Addr} {H : Hp} {v : V} {i : Int} (h : Fl L H v (.int i)) : v = .int i := by
  cases h
  rfl
theorem FlA.one {L : List Addr} {H : Hp} {vs : List V} {a : PyData} (h : FlA L H vs [a]) : ∃ x, vs = [x] ∧ Fl L H x a := by
  cases h with
  | cons f g =>
    cases g
    exact ⟨_, rfl, f⟩
theorem FlA.two {L : List Addr} {H : Hp} {vs : List V} {a b : PyData} (h : FlA L H vs [a, b]) : ∃ x y, vs = [x, y] ∧ Fl L H x a ∧ Fl L H y b := by
  cases h with
  | cons f g =>
    obtain ⟨y, rfl, fy⟩ := FlA.one g
    exact ⟨_, y, rfl, f, fy⟩
theorem FlA.three {L : List Addr} {H : Hp} {vs : List V} {a b c : PyData} (h : FlA L H vs [a, b, c]) : ∃ x y z, vs = [x, y, z] ∧ Fl L H x a ∧ Fl L H y b ∧ Fl L H z c := by
  cases h with
  | cons f g =>
    obtain ⟨y, z, rfl, fy, fz⟩ := FlA.two g
    exact ⟨_, y, z, rfl, f, fy, fz⟩
theorem FlA.at {L : List Addr} {H : Hp} {vs : List V} {ds : List PyData} (h : FlA L H vs ds) {i : Int} (h0 : 0 ≤ i) (h1 : i < ds.length) : ∃ v d, atI vs i = some v ∧ ds[i.toNat]? = some d ∧ Fl L H v d := by
  have hl := FtA.len h
  have hi : i.toNat < vs.length := by omega
  obtain ⟨d, e, f⟩ := FtA.getV h (List.getElem?_eq_getElem hi)
  refine ⟨_, d, ?_, e, f⟩
  have e2 := atI_nat (List.getElem?_eq_getElem hi)
  rw [show ((i.toNat : Nat) : Int) = i by omega] at e2
  exact e2
theorem FlA.app {L : List Addr} {H : Hp} : ∀ {vs us : List V} {ds es : List PyData}, FlA L H vs ds → FlA L H us es → FlA L H (vs ++ us) (ds ++ es)
  | _, _, _, _, .nil, h => h
  | _, _, _, _, .cons a r, h => .cons a (FlA.app r h)
theorem FlA.take {L : List Addr} {H : Hp} : ∀ (n : Nat) {vs : List V} {ds : List PyData}, FlA L H vs ds → FlA L H (vs.take n) (ds.take n)
  | 0, _, _, _ => .nil
  | _ + 1, _, _, .nil => .nil
  | n + 1, _, _, .cons a r => .cons a (FlA.take n r)
theorem FlA.drop {L : List Addr} {H : Hp} : ∀ (n : Nat) {vs : List V} {ds : List PyData}, FlA L H vs ds → FlA L H (vs.drop n) (ds.drop n)
  | 0, _, _, h => h
  | _ + 1, _, _, .nil => .nil
  | n + 1, _, _, .cons _ r => FlA.drop n r
/-! ### what isinstance tells of data, more -/
def isIn : PyData → Bool
  | .int _ => true
  | .bool _ => true
  | _ => false
theorem kit_in {K : PySem.W.Frag} (d : PyData) : PySem.W.kitOne K (.type (tyN d)) (.type "int") = some (isIn d) := by
  cases d <;> exact kit_ty (by kernel_rfl)
/-! ### questions, of any data -/
def isNumD : PyData → Bool
  | .int i => decide (0 ≤ i) && decide (i ≤ 999)
  | _ => false
def sgD : PyData → Option Nat
  | .str z => match z.cps.toList with
    | [c] => some c
    | _ => none
  | _ => none
def isLetD (cols : List Nat) (d : PyData) : Bool := match sgD d with
  | some c => decide (c ∈ cols)
  | none => false
def leD : PyData → PyData → Bool
  | .int i, .int j => decide (i ≤ j)
  | _, _ => false
def isEqD (cols : List Nat) : PyData → Bool
  | .tuple [a, b] => isLetD cols a && isNumD b
  | _ => false
def letD : PyData → Nat
  | .tuple (a :: _) => (sgD a).getD 0
  | _ => 0
def risB : List Nat → Bool
  | a :: b :: l => decide (a < b) && risB (b :: l)
  | _ => true
def isEqsD (cols : List Nat) : PyData → Bool
  | .tuple ps => ps.all (isEqD cols) && risB (ps.map letD)
  | _ => false
def isReD (cols : List Nat) : PyData → Bool
  | .tuple [a, b, c] => isLetD cols a && isNumD b && isNumD c && leD b c
  | _ => false
def letsD : PyData → List Nat
  | .tuple ps => ps.map letD
  | _ => []
def isQD (cols : List Nat) : PyData → Bool
  | .tuple [e, r] => isEqsD cols e && (match r with
    | .none => true
    | r => isReD cols r && !decide (letD r ∈ letsD e))
  | _ => false
theorem sg_of {z : Str} (h : z.length = 1) : ∃ c, z = sS c := by
  obtain ⟨⟨l⟩⟩ := z
  have h1 : l.length = 1 := h
  match l, h1 with
  | [c], _ => exact ⟨c, rfl⟩
theorem sg_none {z : Str} (h : z.length ≠ 1) : sgD (.str z) = none := by
  obtain ⟨⟨l⟩⟩ := z
  have h1 : l.length ≠ 1 := h
  match l, h1 with
  | [], _ => rfl
  | [c], h1 => exact absurd rfl h1
  | _ :: _ :: _, _ => rfl
theorem isLet_open {cols : List Nat} {d : PyData} (h : isLetD cols d = true) : ∃ c, d = .str (sS c) ∧ c ∈ cols ∧ sgD d = some c := by
  cases d with
  | str z =>
    by_cases e : z.length = 1
    · obtain ⟨c, rfl⟩ := sg_of e
      exact ⟨c, rfl, by simpa [isLetD, sgD, sS] using h, rfl⟩
    · unfold isLetD at h
      rw [sg_none e] at h
      cases h
  | _ => cases h
theorem isNum_open {d : PyData} (h : isNumD d = true) : ∃ i, d = .int i ∧ 0 ≤ i ∧ i ≤ 999 := by
  cases d with
  | int i =>
    unfold isNumD at h
    rw [Bool.and_eq_true, decide_eq_true_eq, decide_eq_true_eq] at h
    exact ⟨i, rfl, h.1, h.2⟩
  | _ => cases h
theorem isEq_open {cols : List Nat} {d : PyData} (h : isEqD cols d = true) : ∃ c i, d = .tuple [.str (sS c), .int i] ∧ c ∈ cols ∧ 0 ≤ i ∧ i ≤ 999 ∧ letD d = c := by
  unfold isEqD at h
  split at h
  · rw [Bool.and_eq_true] at h
    obtain ⟨c, rfl, hc, _⟩ := isLet_open h.1
    obtain ⟨i, rfl, h0, h1⟩ := isNum_open h.2
    exact ⟨c, i, rfl, hc, h0, h1, rfl⟩
  · cases h
theorem ris_get : ∀ (l : List Nat), risB l = true ↔ ∀ i, i + 1 < l.length → l.getD i 0 < l.getD (i + 1) 0
  | [] => by simp [risB]
  | [a] => by simp [risB]
  | a :: b :: l => by
    have ih := ris_get (b :: l)
    unfold risB
    rw [Bool.and_eq_true, decide_eq_true_eq, ih]
    constructor
    · rintro ⟨h1, h2⟩ i hi
      cases i with
      | zero => exact h1
      | succ i => exact h2 i (by simpa using hi)
    · intro h
      exact ⟨h 0 (by simp), fun i hi => h (i + 1) (by simpa using hi)⟩
end My
namespace My
open PySem PySem.Spec PyProof.Rows L2
theorem shA_mem {n m : Nat} : ∀ {ds : List PyData}, PyData.showableAll ds = true → PyData.hasDictAll ds = false → PyData.leavesShortAll 100 ds = true → PyData.depthAll ds ≤ n → PyData.weightAll ds ≤ m → PyData.canLayAll0 ds = true → ∀ d ∈ ds, Sh n m d
  | [], _, _, _, _, _, _, d, h => nomatch h
  | x :: xs, h1, h2, h3, h4, h5, h6, d, h => by
    simp only [PyData.canLayAll0, Bool.and_eq_true] at h6
    simp only [PyData.showableAll, Bool.and_eq_true] at h1
    simp only [PyData.hasDictAll, Bool.or_eq_false_iff] at h2
    simp only [PyData.leavesShortAll, Bool.and_eq_true] at h3
    simp only [PyData.depthAll] at h4
    simp only [PyData.weightAll] at h5
    rcases List.mem_cons.mp h with e | e
    · rw [e]
      exact ⟨h1.1, h2.1, h3.1, by omega, by omega, h6.1⟩
    · exact shA_mem h1.2 h2.2 h3.2 (by omega) (by omega) h6.2 d e
theorem Sh.memT {n m : Nat} {ds : List PyData} (h : Sh n m (.tuple ds)) : ∀ d ∈ ds, Sh n m d := by
  have h4 : PyData.depthAll ds + 1 ≤ n := h.dp
  exact shA_mem h.ok h.nd h.sh (by omega) h.wt h.ly
theorem Sh.len {n m : Nat} {z : Str} (h : Sh n m (.str z)) (hm : m ≤ 100000) : z.length ≤ sizeLine := by
  have h1 : z.cps.size ≤ m := h.wt
  have h2 : z.length = z.cps.size := rfl
  rw [sizeLine_eq, h2]
  omega
theorem tp_open {d : PyData} (h : isTp d = true) : ∃ ds, d = .tuple ds := by
  cases d with
  | tuple ds => exact ⟨ds, rfl⟩
  | _ => cases h
theorem st_open {d : PyData} (h : isSt d = true) : ∃ z, d = .str z := by
  cases d with
  | str z => exact ⟨z, rfl⟩
  | _ => cases h
theorem int_open {d : PyData} (h : (isIn d && !isBl d) = true) : ∃ i, d = .int i := by
  cases d with
  | int i => exact ⟨i, rfl⟩
  | bool b => cases h
  | _ => cases h
theorem cps_lt (a b : Nat) : decide ((sS a).cps.toList < (sS b).cps.toList) = decide (a < b) := by
  refine decide_eq_decide.mpr ?_
  show [a] < [b] ↔ a < b
  constructor
  · intro h
    cases h with
    | rel h => exact h
    | cons h => cases h
  · exact fun h => List.Lex.rel h
/-- a frozen thing among data away from places that hold no tuple -/
theorem Fz.fl {L : List Addr} {H : Hp} (hL : ∀ b ∈ L, ∀ xs, H b ≠ some (.tup xs)) : ∀ {d : PyData} {v : V}, Fz H v d → Fl L H v d := by
  have key : ∀ n, ∀ (d : PyData) (v : V), d.depth < n → Fz H v d → Fl L H v d := by
    intro n
    induction n with
    | zero => exact fun d v h => absurd h (Nat.not_lt_zero _)
    | succ n ih =>
      intro d v hd f
      have all : ∀ (ds : List PyData) (vs : List V), PyData.depthAll ds < n → FzA H vs ds → FlA L H vs ds := by
        intro ds
        induction ds with
        | nil =>
          intro vs _ g
          cases g
          exact .nil
        | cons d ds ih2 =>
          intro vs hn g
          simp only [PyData.depthAll] at hn
          cases g with
          | cons a r => exact .cons (ih d _ (by omega) a) (ih2 _ (by omega) r)
      cases f with
      | non => exact .non
      | bl b => exact .bl b
      | int i => exact .int i
      | str x => exact .str x
      | tup h a =>
        have h4 : PyData.depthAll _ + 1 < n + 1 := hd
        exact Fl.tup (fun z => hL _ z _ h) h (all _ _ (by omega) a)
  exact fun {d v} f => key (d.depth + 1) d v (Nat.lt_succ_self _) f
end My

set_option Elab.async false
set_option linter.all false
set_option maxRecDepth 100000
set_option maxHeartbeats 2000000
namespace My
open PySem PySem.Spec PyProof.Rows L2 HT
/-! ### t[::-1] of a tuple -/
section
variable {X : Cx}
end
end My
namespace My
open PySem PySem.Spec PyProof.Rows L2
/-! ### tuple + tuple, both of one's own -/
/-! ### some data -/
theorem all1 {α : Type} {p : α → Prop} {a : α} (ha : p a) : ∀ x ∈ [a], p x := fun x h => by
  rw [List.mem_singleton.mp h]
  exact ha
theorem allC {α : Type} {p : α → Prop} {a : α} {l : List α} (ha : p a) (hl : ∀ x ∈ l, p x) : ∀ x ∈ a :: l, p x := fun x h => by
  rcases List.mem_cons.mp h with z | z
  · rw [z]
    exact ha
  · exact hl x z
end My
namespace My
open PySem PySem.Spec PyProof.Rows L2
theorem isQ_none {cols : List Nat} {ps : List PyData} (h1 : ps.all (isEqD cols) = true) (h2 : risB (ps.map letD) = true) : isQD cols (.tuple [.tuple ps, .none]) = true := by
  show (ps.all (isEqD cols) && risB (ps.map letD) && true) = true
  rw [h1, h2]
  rfl
theorem isQ_some {cols : List Nat} {ps : List PyData} {d2 : PyData} (h1 : ps.all (isEqD cols) = true) (h2 : risB (ps.map letD) = true) (hd : d2 ≠ .none) : isQD cols (.tuple [.tuple ps, d2]) = (isReD cols d2 && !decide (letD d2 ∈ ps.map letD)) := by
  cases d2 with
  | none => exact absurd rfl hd
  | _ =>
    show (ps.all (isEqD cols) && risB (ps.map letD) && _) = _
    rw [h1, h2, Bool.true_and, Bool.true_and]
    rfl
end My
namespace My
open PySem PySem.Spec PyProof.Rows L2
end My
namespace My
open PySem PySem.Spec PyProof.Rows L2
end My

set_option Elab.async false
set_option linter.all false
set_option maxRecDepth 100000
set_option maxHeartbeats 2000000
namespace My
open PySem PySem.Spec PyProof.Rows L2
theorem let_eqs (es : List (Nat × Int)) : (es.map eqD).map letD = es.map (·.1) := by
  rw [List.map_map]
  rfl
theorem isQ_drawn {cols : List Nat} {es : List (Nat × Int)} {rc : Option (Nat × Int × Int)} (h : QOk cols es rc) : isQD cols (qD es rc) = true := by
  have h1 : (es.map eqD).all (isEqD cols) = true := by
    rw [List.all_map, List.all_eq_true]
    intro p hp
    obtain ⟨a1, a2, a3⟩ := h.ok p hp
    show (decide (p.1 ∈ cols) && (decide (0 ≤ p.2) && decide (p.2 ≤ 999))) = true
    rw [decide_eq_true a1, decide_eq_true a2, decide_eq_true (by omega)]
    rfl
  have h2 : risB ((es.map eqD).map letD) = true := by
    rw [let_eqs]
    refine (ris_get _).mpr fun i hi => ?_
    have := List.pairwise_iff_getElem.mp h.up i (i + 1) (by omega) hi (by omega)
    rw [List.getD_eq_getElem?_getD, List.getD_eq_getElem?_getD, List.getElem?_eq_getElem (by omega), List.getElem?_eq_getElem hi]
    exact this
  cases rc with
  | none => exact isQ_none h1 h2
  | some t =>
    obtain ⟨c, lo, hi⟩ := t
    obtain ⟨b1, b2, b3, b4, b5⟩ := h.rc c lo hi rfl
    have h3 := isQ_some (d2 := rchD (some (c, lo, hi))) h1 h2 (fun z => nomatch z)
    rw [let_eqs] at h3
    show isQD cols (.tuple [.tuple (es.map eqD), rchD (some (c, lo, hi))]) = true
    rw [h3]
    show ((decide (c ∈ cols) && (decide (0 ≤ lo) && decide (lo ≤ 999)) && (decide (0 ≤ hi) && decide (hi ≤ 999)) && decide (lo ≤ hi)) && !decide (c ∈ es.map (·.1))) = true
    rw [decide_eq_true b1, decide_eq_true b3, decide_eq_true (show lo ≤ 999 by omega), decide_eq_true (show 0 ≤ hi by omega), decide_eq_true (show hi ≤ 999 by omega), decide_eq_true b4, decide_eq_false b2]
    rfl
theorem sh_eq {cols : List Nat} {p : Nat × Int} (h1 : p.1 < 1000) (h2 : 0 ≤ p.2) (h3 : p.2 < 1000) : Sh 2 1000 (eqD p) ∧ wd (eqD p) ≤ 1000 := by
  refine ⟨(Sh.tup (n := 1) (m := 240) (allC (Sh.str (l := [p.1]) (all1 h1) (Nat.le_of_ble_eq_true rfl)) (all1 (Sh.int (by omega) (by decide))))).mono (by decide) (Nat.le_of_ble_eq_true rfl), ?_⟩
  show max 2 (max 0 (max 0 0)) ≤ 1000
  decide
theorem sh_rc {cols : List Nat} {es : List (Nat × Int)} {rc : Option (Nat × Int × Int)} (h : QOk cols es rc) (hc : ∀ c ∈ cols, c < 1000) : Sh 2 1000 (rchD rc) ∧ wd (rchD rc) ≤ 1000 := by
  cases rc with
  | none => exact ⟨Sh.none, Nat.zero_le _⟩
  | some t =>
    obtain ⟨c, lo, hi⟩ := t
    obtain ⟨b1, b2, b3, b4, b5⟩ := h.rc c lo hi rfl
    have hc9 := hc c b1
    refine ⟨(Sh.tup (n := 1) (m := 240) (allC (Sh.str (l := [c]) (all1 hc9) (Nat.le_of_ble_eq_true rfl)) (allC (Sh.int (by omega) (by decide)) (all1 (Sh.int (by omega) (by decide)))))).mono (by decide) (Nat.le_of_ble_eq_true rfl), ?_⟩
    show max 3 (max 0 (max 0 (max 0 0))) ≤ 1000
    decide
end My
namespace My
open PySem PySem.Spec PyProof.Rows L2
end My

set_option Elab.async false
set_option linter.all false
set_option maxRecDepth 100000
set_option maxHeartbeats 2000000
namespace My
open PySem PySem.Spec PyProof.Rows L2
/-! ### lists of columns, of any data -/
theorem upper_tx {l : List Nat} (h : ∀ c ∈ l, c < 128) : V.str (Txt.upper ⟨l.toArray⟩) = tx (l.map up1) := by
  rw [upper_ascii (x := ⟨l.toArray⟩) (by simpa using h)]
  show V.str ⟨l.toArray.map up1⟩ = V.str ⟨(l.map up1).toArray⟩
  simp
end My

set_option Elab.async false
set_option linter.all false
set_option maxRecDepth 100000
set_option maxHeartbeats 2000000
namespace My
open PySem PySem.Spec PyProof.Rows L2
/-! ### calls of defs that are promised where no repr is under way -/
/-! ### tables, of any data -/
theorem shaped_of {l : List Nat} (h : ∀ c ∈ l, c < 0x110000) : SeqAt.shaped (.list (l.map fun c => PyData.str (sS c))) = true := by
  have e1 : PyData.canLayAll0 (l.map fun c => PyData.str (sS c)) = true := by
    induction l with
    | nil => rfl
    | cons c l ih =>
      show (PyData.canLay0 (.str (sS c)) && PyData.canLayAll0 (l.map fun c => PyData.str (sS c))) = true
      rw [ih fun x hx => h x (List.mem_cons_of_mem _ hx), Bool.and_true]
      have := h c (List.mem_cons_self ..)
      show (#[c] : Array Nat).all (· < 0x110000) = true
      simp [this]
  have e2 : PyData.depthAll (l.map fun c => PyData.str (sS c)) ≤ 0 := by
    clear e1 h
    induction l with
    | nil => exact Nat.le_refl _
    | cons c l ih =>
      show max 0 (PyData.depthAll (l.map fun c => PyData.str (sS c))) ≤ 0
      omega
  unfold SeqAt.shaped
  show (PyData.canLayAll0 (l.map fun c => PyData.str (sS c)) && decide (PyData.depthAll (l.map fun c => PyData.str (sS c)) + 1 ≤ 64)) = true
  rw [e1, decide_eq_true (by omega)]
  rfl
theorem Sh.codes {n m : Nat} {l : List Nat} (h : Sh n m (.str (txS l))) : ∀ c ∈ l, c < 0x110000 := fun c hc => by
  have h1 : (txS l).cps.all (· < 0x110000) = true := h.ly
  rw [Array.all_eq_true'] at h1
  exact of_decide_eq_true (h1 c (by simpa using hc))
end My
namespace My
open PySem PySem.Spec PyProof.Rows L2
theorem inV_no : ∀ bs : List Bool, inV (.bl false) (bs.map V.bl) = !bs.all id
  | [] => rfl
  | b :: bs => by
    have ih := inV_no bs
    cases b with
    | false => rfl
    | true => exact ih
end My

set_option Elab.async false
set_option linter.all false
set_option maxRecDepth 100000
set_option maxHeartbeats 2000000
namespace My
open PySem PySem.Spec PyProof.Rows L2
theorem at_memZ {α : Type} {vs : List α} {i : Int} (h0 : -(vs.length : Int) ≤ i) (h1 : i < vs.length) : ∃ v ∈ vs, atI vs i = some v := by
  by_cases h : 0 ≤ i
  · have hi : i.toNat < vs.length := by omega
    refine ⟨vs[i.toNat], List.getElem_mem hi, ?_⟩
    have e2 := atI_nat (List.getElem?_eq_getElem hi)
    rw [show ((i.toNat : Nat) : Int) = i by omega] at e2
    exact e2
  · have hj : ((vs.length : Int) + i).toNat < vs.length := by omega
    refine ⟨vs[((vs.length : Int) + i).toNat], List.getElem_mem hj, ?_⟩
    unfold atI
    have e : ixN vs.length i = some ((vs.length : Int) + i).toNat := by
      unfold ixN
      rw [if_neg h]
      first
        | (rw [if_pos (by omega)]; congr 1; omega)
        | (split <;> first | (congr 1; omega) | omega)
    rw [e]
    exact List.getElem?_eq_getElem hj
end My
namespace My
open PySem PySem.Spec PyProof.Rows L2
end My

set_option Elab.async false
set_option linter.all false
set_option maxRecDepth 100000
set_option maxHeartbeats 2000000
namespace My
open PySem PySem.Spec PyProof.Rows L2
/-! ### what is a need -/
theorem risB_pw : ∀ (l : List Nat), risB l = true ↔ l.Pairwise (· < ·)
  | [] => by simp [risB]
  | [a] => by simp [risB]
  | a :: b :: l => by
    have ih := risB_pw (b :: l)
    unfold risB
    rw [Bool.and_eq_true, decide_eq_true_eq, ih, List.pairwise_cons (a := a)]
    constructor
    · rintro ⟨h1, h2⟩
      refine ⟨fun x hx => ?_, h2⟩
      rcases List.mem_cons.mp hx with e | e
      · omega
      · have := (List.pairwise_cons.mp h2).1 x e
        omega
    · rintro ⟨h1, h2⟩
      exact ⟨h1 b (by simp), h2⟩
theorem Sh.lim {n m : Nat} {l : List Nat} (h : Sh n m (.str (txS l))) : ∀ c ∈ l, c < 0x110000 := fun c hc => by
  have e1 : (txS l).cps.all (· < 0x110000) = true := h.ly
  rw [Array.all_eq_true'] at e1
  exact of_decide_eq_true (e1 c (by simpa using hc))
theorem Sh.cat {n m m' : Nat} {a b : List Nat} (h1 : Sh n m (.str (txS a))) (h2 : Sh n m' (.str (txS b))) : Sh n (m + m') (.str (txS (a ++ b))) := by
  refine ⟨rfl, rfl, ?_, h1.dp, ?_, ?_⟩
  · have e1 := h1.sh
    have e2 := h2.sh
    simp only [PyData.leavesShort, List.all_eq_true, decide_eq_true_eq] at e1 e2 ⊢
    simp at e1 e2 ⊢
    intro c hc
    rcases hc with z | z
    · exact e1 c z
    · exact e2 c z
  · have e1 : a.toArray.size ≤ m := h1.wt
    have e2 : b.toArray.size ≤ m' := h2.wt
    show (a ++ b).toArray.size ≤ m + m'
    simp at e1 e2 ⊢
    omega
  · have e1 : (txS a).cps.all (· < 0x110000) = true := h1.ly
    have e2 : (txS b).cps.all (· < 0x110000) = true := h2.ly
    show (txS (a ++ b)).cps.all (· < 0x110000) = true
    rw [Array.all_eq_true'] at e1 e2 ⊢
    intro c hc
    have hc2 : c ∈ a ∨ c ∈ b := by simpa using hc
    rcases hc2 with z | z
    · exact e1 c (by simpa using z)
    · exact e2 c (by simpa using z)
end My

set_option Elab.async false
set_option linter.all false
set_option maxRecDepth 100000
set_option maxHeartbeats 2000000
namespace My
open PySem PySem.Spec PyProof.Rows L2
/-! ### sorted texts -/
/-! ### used beginnings -/
/-! ### lists cut -/
/-! ### texts in lists -/
theorem inV_texts (o : List Nat) : ∀ l : List (List Nat), inV (tx o) (l.map tx) = decide (o ∈ l)
  | [] => rfl
  | a :: l => by
    have ih := inV_texts o l
    show ((txS a == txS o) || inV (tx o) (l.map tx)) = decide (o ∈ a :: l)
    rw [ih]
    by_cases e : a = o
    · rw [e]
      simp
    · have e2 : (txS a == txS o) = false := by
        rw [Bool.eq_false_iff]
        intro z
        exact e (txS_inj (by simpa using z))
      have e3 : ¬ o = a := fun z => e z.symm
      rw [e2]
      simp [e3]
theorem flat_texts (l : List (List Nat)) : (l.map tx).all flatV = true := by
  rw [List.all_eq_true]
  intro v hv
  obtain ⟨c, _, rfl⟩ := List.mem_map.mp hv
  rfl
end My

set_option Elab.async false
set_option linter.all false
set_option maxRecDepth 100000
set_option maxHeartbeats 2000000
namespace My
open PySem PySem.Spec PyProof.Rows L2
/-! ### needs, one ahead of the other -/
abbrev Nd2 := List Nat × List Nat
/-! whether one list may serve both -/
/-! ### pairs, one right ahead of the other -/
def Cl (n : Nat) (R : Nat → Nat → Bool) (m : Nat → Option Nat) (F : Nat → Prop) : Prop := ∀ t, F t → ∃ a, m t = some a ∧ ∀ j, j < n → R a j = true → F j
end My

set_option Elab.async false
set_option linter.all false
set_option maxRecDepth 100000
set_option maxHeartbeats 2000000
namespace My
open PySem PySem.Spec PyProof.Rows L2
/-! ### needs in a list; what stays -/
def Off (L : List Addr) (H : Hp) : Prop := ∀ b xs, (H b = some (.tup xs) ∨ H b = some (.lst xs)) → b ∉ L
theorem Off.nil {H : Hp} : Off [] H := fun b xs _ h => nomatch h
theorem Off.cons {L : List Addr} {H : Hp} {a : Addr} {kvs : List (Key × V)} (o : Off L H) (h : H a = some (.dK kvs)) : Off (a :: L) H := fun b xs hb hm => by
  rcases List.mem_cons.mp hm with e | e
  · rw [e, h] at hb
    rcases hb with z | z <;> cases z
  · exact o b xs hb e
theorem TG.off {Ps : List Addr} {H : Hp} (t : TG Ps H) : Off Ps H := fun b xs h => by
  rcases h with h | h
  · exact t.not h fun q z => nomatch z
  · exact t.not h fun q z => nomatch z
theorem Sx.more {L L' : List Addr} {H H' : Hp} (s : Sx L H H') (h : ∀ b ∈ L, b ∈ L') : Sx L' H H' := fun b o nb e => s b o (fun z => nb (h b z)) e
theorem Sx.cons {L : List Addr} {H H' : Hp} (s : Sx L H H') (a : Addr) : Sx (a :: L) H H' := s.more fun b h => List.mem_cons_of_mem _ h
theorem TG.upd {Ps : List Addr} {H : Hp} {a : Addr} {o : HO} (t : TG Ps H) (h : a ∉ Ps) : TG Ps (L2.upd H a o) := fun P hP => by
  obtain ⟨ps, h1, r⟩ := t P hP
  exact ⟨ps, keep_ne h1 fun z => h (z ▸ hP), r⟩
end My

set_option Elab.async false
set_option linter.all false
set_option maxRecDepth 100000
set_option maxHeartbeats 2000000
namespace My
open PySem PySem.Spec PyProof.Rows L2
/-! ### chains -/
/-! ### the first of like ones -/
def ixN (p : Nd2) : List Nd2 → Nat
  | [] => 0
  | q :: l => if q = p then 0 else ixN p l + 1
/-! ### the fewest lists -/
/-! ### the list for a chain, bounds -/
end My

set_option Elab.async false
set_option linter.all false
set_option maxRecDepth 100000
set_option maxHeartbeats 2000000
namespace My
open PySem PySem.Spec PyProof.Rows L2
open NdefX (NScope nscB nscope_by)
/-! ### what is told of a lambda's text -/
/-! ### how many lists there are -/
theorem filter_snoc {α : Type} (p : α → Bool) (l : List α) (i : Nat) (a : α) (h : l[i]? = some a) : (l.take (i + 1)).filter p = (l.take i).filter p ++ (if p a = true then [a] else []) := by
  obtain ⟨lt, e⟩ := List.getElem?_eq_some_iff.mp h
  rw [List.take_succ_eq_append_getElem lt, List.filter_append, e]
  congr 1
  by_cases q : p a = true <;> simp [q]
end My

set_option Elab.async false
set_option linter.all false
set_option maxRecDepth 100000
set_option maxHeartbeats 2000000
namespace My
open PySem PySem.Spec PyProof.Rows L2
/-! ### walks over what is a list or a tuple; the turns of a zip of three -/
section
variable {X : Cx}
end
/-- all but tables stays -/
theorem Sx.ext {Ps : List Addr} {H H' : Hp} (t : TG Ps H) (s : Sx Ps H H') : LamX.ExtN H H' := fun b o h n => s b o (t.not h n) h
theorem TG.free {Ps : List Addr} {H : Hp} {p : Addr} (t : TG Ps H) (h : H p = none) : p ∉ Ps := fun hp => by
  obtain ⟨ps, h2, _⟩ := t p hp
  rw [h] at h2
  cases h2
end My

set_option Elab.async false
set_option linter.all false
set_option maxRecDepth 100000
set_option maxHeartbeats 2000000
namespace My
open PySem PySem.Spec PyProof.Rows L2
/-! ### what a choice saves; the most that one more list saves -/
theorem Rd.same {H H' : Hp} {a : Addr} {u : HO} (h : Rd H a u) (s : Same H H') : Rd H' a u := h.imp (fun e => s _ _ e) fun ⟨o, e⟩ => ⟨o, s _ _ e⟩
/-! ### the search for an order, one step -/
section
variable {sv most : List (List Nat) → Int} {ch : List (List Nat)} {many d : Nat} {ahead : List (List Nat)}
end
end My

set_option Elab.async false
set_option linter.all false
set_option maxRecDepth 100000
set_option maxHeartbeats 2000000
namespace My
open PySem PySem.Spec PyProof.Rows L2
/-! ### defs whose facts are told by names -/
abbrev DefAt (K : PySem.W.Frag) (p : He.Defn) (x qual : Str) (st : Stmt) (fd : FuncData) : Prop := FunD K x qual (defArgs st) (defBody st) (defScope st) [] [] (He.fAd K p) fd
theorem DefAt.fn {K : PySem.W.Frag} {p : He.Defn} {x qual : Str} {st : Stmt} {fd : FuncData} (D : DefAt K p x qual st fd) : Fun K x qual st (He.fAd K p) fd := by
  obtain ⟨⟨oc, od, dV, kV, doc, pm, an, cd, ct, sl, e, l, c, dfl, _⟩, kp⟩ := D
  rcases dfl with ⟨_, rfl⟩ | ⟨ne, _⟩
  · exact ⟨⟨oc, od, kV, doc, pm, an, cd, ct, sl, e, l, c⟩, kp⟩
  · exact absurd rfl ne
theorem DefAt.fc {K : PySem.W.Frag} {p : He.Defn} {x qual : Str} {st : Stmt} {fd : FuncData} (D : DefAt K p x qual st fd) : FunC K x qual st (He.fAd K p) fd (He.codeOf K p) := by
  obtain ⟨⟨oc, od, dV, kV, doc, pm, an, cd, ct, sl, e, l, c, dfl, _⟩, kp⟩ := D
  obtain ⟨c', rfl⟩ := He.codeIn_ref c
  rcases dfl with ⟨_, rfl⟩ | ⟨ne, _⟩
  · have ec : He.codeOf K p = c' := He.codeOf_eq l (by rw [e])
    rw [ec]
    exact ⟨oc, od, kV, doc, pm, an, ct, sl, e, l, c⟩
  · exact absurd rfl ne
end My

set_option Elab.async false
set_option linter.all false
set_option maxRecDepth 100000
set_option maxHeartbeats 2000000
namespace My
open PySem PySem.Spec PyProof.Rows L2
/-! ### things looked at: == of data of any depth with shallow data; any thing in a list of texts -/
/-! ### data under tables that change -/
mutual
theorem Ft.keepG {H H' : Hp} (k1 : ∀ b xs, H b = some (.tup xs) → H' b = some (.tup xs)) (k2 : ∀ b xs, H b = some (.lst xs) → H' b = some (.lst xs)) : ∀ (d : PyData) (v : V), Ft H v d → Ft H' v d
  | .none, _, .non => .non
  | .bool _, _, .bl b => .bl b
  | .int _, _, .int i => .int i
  | .str _, _, .str x => .str x
  | .list ds, _, .lst h a => .lst (k2 _ _ h) (FtA.keepG k1 k2 ds _ a)
  | .tuple ds, _, .tup h a => .tup (k1 _ _ h) (FtA.keepG k1 k2 ds _ a)
theorem FtA.keepG {H H' : Hp} (k1 : ∀ b xs, H b = some (.tup xs) → H' b = some (.tup xs)) (k2 : ∀ b xs, H b = some (.lst xs) → H' b = some (.lst xs)) : ∀ (ds : List PyData) (vs : List V), FtA H vs ds → FtA H' vs ds
  | [], _, .nil => .nil
  | d :: ds, _, .cons h a => .cons (Ft.keepG k1 k2 d _ h) (FtA.keepG k1 k2 ds _ a)
end
theorem Ft.sx {Ps : List Addr} {H H' : Hp} {d : PyData} {v : V} (h : Ft H v d) (t : TG Ps H) (s : Sx Ps H H') : Ft H' v d := Ft.keepG (s.kt t) (fun _ _ e => s.lst t e) d v h
theorem Ft.same {H H' : Hp} {d : PyData} {v : V} (h : Ft H v d) (s : Same H H') : Ft H' v d := Ft.mono s d v h
theorem Ft.to {K : PySem.W.Frag} {H : Hp} {v : V} {d : PyData} (h : Ft H v d) : Dp K H v d := Ft.dp d v h
theorem Fz.toFt {H : Hp} {v : V} {d : PyData} (h : Fz H v d) : Ft H v d := Fz.ft d v h
theorem Ft.open {H : Hp} {v : V} {ds : List PyData} (h : Ft H v (.tuple ds)) : ∃ (a : Addr) (xs : List V), v = .ref a ∧ H a = some (.tup xs) ∧ FtA H xs ds := by
  cases h with
  | tup h a => exact ⟨_, _, rfl, h, a⟩
end My

set_option Elab.async false
set_option linter.all false
set_option maxRecDepth 100000
set_option maxHeartbeats 2000000
namespace My
open PySem PySem.Spec PyProof.Rows L2
/-! ### data in a list of data -/
/-! ### questions as data -/
theorem QZ.dp {K : PySem.W.Frag} {H : Hp} {v : V} {es : List (Nat × Int)} {rc : Option (Nat × Int × Int)} (h : QZ H v es rc) : Dp K H v (qD es rc) := by
  obtain ⟨qa, ev, y, rfl, h1, ⟨ea, o, ps, rfl, ho, hea, fps⟩, fy⟩ := h
  exact .tup (.inl (.inl h1)) (.cons (.tup (.inl (.inr ⟨_, hea⟩)) (FzA.dp _ _ fps)) (.cons fy.to .nil))
/-! ### how many rows fit; the lists of a choice -/
end My

set_option Elab.async false
set_option linter.all false
set_option maxRecDepth 100000
set_option maxHeartbeats 2000000
namespace My
open PySem PySem.Spec PyProof.Rows L2
/-! ### rows by their numbers, as a dict holds them -/
abbrev Nmd := List (Nat × List Int)
section
variable {H H' : Hp} {kvs : List (Key × V)} {th : Nmd}
/-- rows numbered from n -/
def thN : Nat → List (List Int) → Nmd
  | _, [] => []
  | n, r :: rs => (n, r) :: thN (n + 1) rs
end
/-! ### the numbers sorted by a list -/
section
variable {cols one : List Nat}
end
/-! ### the list by which a question is read -/
end My

set_option Elab.async false
set_option linter.all false
set_option maxRecDepth 100000
set_option maxHeartbeats 2000000
namespace My
open PySem PySem.Spec PyProof.Rows L2
/-! ### a list in order, by the places of the rows -/
section
variable {cols one : List Nat} {th : Nmd} {w n : Nat} {es : List (Nat × Int)} {rc : Option (Nat × Int × Int)}
/-- the number of the row at a place -/
def numAt (th : Nmd) (i : Nat) : Nat := (th.getD i (0, [])).1
theorem getD_at {th : Nmd} {i : Nat} (h : i < th.length) : th.getD i (0, []) = th[i] := by
  rw [List.getD_eq_getElem?_getD, List.getElem?_eq_getElem h]
  rfl
/-- rows numbered anew -/
theorem anew (th : Nmd) : th = (thN 0 (th.map (·.2))).map fun x => (numAt th x.1, x.2) := by
  have key : ∀ (k : Nat) (l : Nmd), th.drop k = l → l = (thN k (l.map (·.2))).map fun x => (numAt th x.1, x.2) := fun k l => by
    induction l generalizing k with
    | nil => intro _; rfl
    | cons a l ih =>
      intro h
      have hk : k < th.length := by
        apply Nat.lt_of_not_le
        intro z
        rw [List.drop_eq_nil_of_le z] at h
        cases h
      have ha : th[k] = a := by
        have := List.drop_eq_getElem_cons hk
        rw [h] at this
        exact (List.cons.inj this).1.symm
      have hl : th.drop (k + 1) = l := by
        have := List.drop_eq_getElem_cons hk
        rw [h] at this
        exact (List.cons.inj this).2.symm
      have e := ih (k + 1) hl
      show a :: l = (numAt th k, a.2) :: (thN (k + 1) (l.map (·.2))).map fun x => (numAt th x.1, x.2)
      rw [← e]
      unfold numAt
      rw [getD_at hk, ha]
  exact key 0 th rfl
end
end My

set_option Elab.async false
set_option linter.all false
set_option maxRecDepth 100000
set_option maxHeartbeats 2000000
namespace My
open PySem PySem.Spec PyProof.Rows L2
/-! ### dicts of numbers whose keys are tuples of any depth -/
section
variable {X : Cx} {pins : List (Addr × Obj)} {σ : L2.St} {H : Hp} {s : Shared}
end
abbrev KvQ := List (NestedKey × Addr × Int)
section
variable {kvs : KvQ} {xs : List (NestedKey × Addr × Value)} {k : NestedKey} {a : Addr} {n : Int} {v : Value}
end
section
variable {X : Cx} {pins : List (Addr × Obj)} {σ : L2.St} {H : Hp} {s : Shared} {d : Addr} {kvs : KvQ} {K : PySem.W.Frag}
/-! #### the operations -/
/-! #### tuple(d.items()) -/
/-- many new objects at once -/
theorem _root_.L2.Inv.many {H' : Hp} {h' : Heap} {tk : Nat} (I : L2.Inv X pins σ H s) (k : ∀ b o, s.heap.get? b = some o → h'.get? b = some o) (sm : Same H H') (low : ∀ b o, s.heap.get? b = some o → H b = none → H' b = none) (new : ∀ b o, H' b = some o → H b = none → ObjOk X.prog X.w H' h' b o) : L2.Inv X pins σ H' { s with heap := h', toks := tk } := by
  refine I.un ⟨fun b o e _ _ _ => k b o e, fun b o e _ _ _ => ⟨o.slots, k b o e⟩, fun b o e n _ => low b o e n, fun b o e _ => ⟨o, k b o e⟩, fun b xs e => sm _ _ e, fun b o u e => sm _ _ e, fun b ps e => ⟨#[], by rw [sm _ _ e]; simp⟩⟩ fun b o e => ?_
  cases z : H b with
  | none => exact new b o e z
  | some o2 =>
    have e2 := sm _ _ z
    rw [e] at e2
    cases e2
    exact (I.hok b _ z).stay (fun c u _ q => k c u q) (fun c q => sm _ _ q) fun c xs q => sm _ _ q
end
end My

set_option Elab.async false
set_option linter.all false
set_option maxRecDepth 100000
set_option maxHeartbeats 2000000
namespace My
open PySem PySem.Spec PyProof.Rows L2
/-! ### questions as keys -/
theorem QZ.ref {H : Hp} {v : V} {es : List (Nat × Int)} {rc : Option (Nat × Int × Int)} (h : QZ H v es rc) : ∃ a, v = .ref a := by
  obtain ⟨qa, ev, y, rfl, _⟩ := h
  exact ⟨qa, rfl⟩
/-! ### what is wanted -/
/-! ### data in a list of data, questions compared -/
end My

set_option Elab.async false
set_option linter.all false
set_option maxRecDepth 100000
set_option maxHeartbeats 4000000
namespace My
open PySem PySem.Spec PyProof.Rows L2
/-! ### the part of a question that a list uses -/
section
variable {cols : List Nat} {rows : List (List Int)} {o : List Nat} {es : List (Nat × Int)} {rc : Option (Nat × Int × Int)}
def esP (es : List (Nat × Int)) (u : List Nat) : List (Nat × Int) := es.filter fun p => decide (p.1 ∈ u)
def rcP : Option (Nat × Int × Int) → List Nat → Option (Nat × Int × Int)
  | none, _ => none
  | some t, u => if t.1 ∈ u then some t else none
theorem rcP_mem {t : Nat × Int × Int} {u : List Nat} : t ∈ (rcP rc u).toList ↔ t ∈ rc.toList ∧ t.1 ∈ u := by
  cases rc with
  | none =>
    constructor
    · intro h
      cases h
    · rintro ⟨h, _⟩
      cases h
  | some s =>
    show t ∈ (if s.1 ∈ u then some s else none).toList ↔ _
    by_cases c : s.1 ∈ u
    · rw [if_pos c]
      constructor
      · intro h
        have : t = s := by simpa using h
        rw [this]
        exact ⟨by simp, c⟩
      · exact fun h => h.1
    · rw [if_neg c]
      constructor
      · intro h
        cases h
      · rintro ⟨h, h2⟩
        have : t = s := by simpa using h
        exact absurd (this ▸ h2) c
theorem QOk.part (h : QOk cols es rc) (u : List Nat) : QOk cols (esP es u) (rcP rc u) := by
  refine ⟨List.Pairwise.sublist (List.filter_sublist.map _) h.up, fun p hp => h.ok p (List.mem_filter.mp hp).1, Nat.le_trans (List.length_filter_le _ _) h.len, fun c lo hi e => ?_⟩
  have m : (c, lo, hi) ∈ (rcP rc u).toList := by rw [e]; simp
  obtain ⟨m1, m2⟩ := rcP_mem.mp m
  have e2 : rc = some (c, lo, hi) := by simpa using m1
  obtain ⟨a, b, r⟩ := h.rc c lo hi e2
  refine ⟨a, fun z => b ?_, r⟩
  obtain ⟨p, hp, e3⟩ := List.mem_map.mp z
  exact List.mem_map.mpr ⟨p, (List.mem_filter.mp hp).1, e3⟩
end
end My

set_option Elab.async false
set_option linter.all false
set_option maxRecDepth 100000
set_option maxHeartbeats 2000000
namespace My
open PySem PySem.Spec PyProof.Rows L2
/-! ### asks by their places -/
/-! ### asks in a list of values -/
/-! ### data whose tuples may be frozen -/
mutual
inductive Fg (H : Hp) : V → PyData → Prop
  | non : Fg H .non .none
  | bl (b : Bool) : Fg H (.bl b) (.bool b)
  | int (i : Int) : Fg H (.int i) (.int i)
  | str (x : Str) : Fg H (.str x) (.str x)
  | lst {a : Addr} {xs : List V} {ds : List PyData} : H a = some (.lst xs) → FgA H xs ds → Fg H (.ref a) (.list ds)
  | tup {a : Addr} {xs : List V} {ds : List PyData} : Rd H a (.tup xs) → FgA H xs ds → Fg H (.ref a) (.tuple ds)
inductive FgA (H : Hp) : List V → List PyData → Prop
  | nil : FgA H [] []
  | cons {v : V} {vs : List V} {d : PyData} {ds : List PyData} : Fg H v d → FgA H vs ds → FgA H (v :: vs) (d :: ds)
end
theorem Rd.mono {H H' : Hp} {a : Addr} {o : HO} (k : Same H H') (h : Rd H a o) : Rd H' a o := by
  rcases h with h | ⟨b, h⟩
  · exact .inl (k _ _ h)
  · exact .inr ⟨b, k _ _ h⟩
mutual
theorem Fg.mono {H H' : Hp} (k : Same H H') : ∀ (d : PyData) (v : V), Fg H v d → Fg H' v d
  | .none, _, .non => .non
  | .bool _, _, .bl b => .bl b
  | .int _, _, .int i => .int i
  | .str _, _, .str x => .str x
  | .list ds, _, .lst h a => .lst (k _ _ h) (FgA.mono k ds _ a)
  | .tuple ds, _, .tup h a => .tup (Rd.mono k h) (FgA.mono k ds _ a)
theorem FgA.mono {H H' : Hp} (k : Same H H') : ∀ (ds : List PyData) (vs : List V), FgA H vs ds → FgA H' vs ds
  | [], _, .nil => .nil
  | d :: ds, _, .cons h a => .cons (Fg.mono k d _ h) (FgA.mono k ds _ a)
end
mutual
theorem Ft.fg {H : Hp} : ∀ (d : PyData) (v : V), Ft H v d → Fg H v d
  | .none, _, .non => .non
  | .bool _, _, .bl b => .bl b
  | .int _, _, .int i => .int i
  | .str _, _, .str x => .str x
  | .list ds, _, .lst h a => .lst h (FtA.fg ds _ a)
  | .tuple ds, _, .tup h a => .tup (.inl h) (FtA.fg ds _ a)
theorem FtA.fg {H : Hp} : ∀ (ds : List PyData) (vs : List V), FtA H vs ds → FgA H vs ds
  | [], _, .nil => .nil
  | d :: ds, _, .cons h a => .cons (Ft.fg d _ h) (FtA.fg ds _ a)
end
theorem FgA.len : ∀ {H : Hp} {vs : List V} {ds : List PyData}, FgA H vs ds → vs.length = ds.length
  | _, _, _, .nil => rfl
  | _, _, _, .cons _ a => congrArg (· + 1) (FgA.len a)
theorem FgA.getV : ∀ {H : Hp} {vs : List V} {ds : List PyData} {i : Nat} {v : V}, FgA H vs ds → vs[i]? = some v → ∃ d, ds[i]? = some d ∧ Fg H v d
  | _, _, _, 0, _, .cons a _, h => ⟨_, rfl, Option.some.inj h ▸ a⟩
  | _, _, _, i + 1, _, .cons _ a, h => FgA.getV (i := i) a h
theorem ty_fg {K : PySem.W.Frag} {H : Hp} {v : V} {d : PyData} (h : Fg H v d) : TyX K H v (.type (tyN d)) := by
  cases h with
  | non => exact .base .non
  | bl b => exact .base (.bl b)
  | int i => exact .base (.int i)
  | str x => exact .base (.str x)
  | lst h _ => exact .base (.lst h)
  | tup h _ =>
    rcases h with h | ⟨b, h⟩
    · exact .base (.tup h)
    · exact .fTuple h
theorem FzA.fg {H : Hp} {vs : List V} {ds : List PyData} (h : FzA H vs ds) : FgA H vs ds := FtA.fg _ _ (FzA.ft _ _ h)
theorem Fz.fg {H : Hp} {v : V} {d : PyData} (h : Fz H v d) : Fg H v d := Ft.fg _ _ h.toFt
theorem QZ.fg {H : Hp} {v : V} {es : List (Nat × Int)} {rc : Option (Nat × Int × Int)} (h : QZ H v es rc) : Fg H v (qD es rc) := by
  obtain ⟨qa, ev, y, rfl, h1, ⟨ea, o, ps, rfl, _, hea, fps⟩, fy⟩ := h
  exact .tup (.inl h1) (.cons (.tup (.inr ⟨o, hea⟩) fps.fg) (.cons fy.fg .nil))
end My

set_option Elab.async false
set_option linter.all false
set_option maxRecDepth 100000
set_option maxHeartbeats 2000000
namespace My
open PySem PySem.Spec PyProof.Rows L2
/-! ### an exception kept behind its except clause -/
/-- an exception object of the class cls, with the dict d, at a -/
def ExD (cls : Value) (d : Option Addr) (a : Addr) : HO := .ext fun h => ∃ (oe : Obj) (vs : Array Value), h.get? a = some oe ∧ Zc cls d oe ∧ oe.data = .fields vs
section
variable {X : Cx} {pins : List (Addr × Obj)} {σ : L2.St} {H : Hp} {s : Shared} {a : Addr}
/-- an object that nothing of ours speaks of is tracked from now on -/
theorem Inv.noted {o : HO} (I : Inv X pins σ H s) (n : H a = none) (n0 : X.s_0.heap.get? a = none) (nL : a ≠ X.env.locals) (nC : ∀ x c, X.env.cells.lookup x = some c → c ≠ a) (nP : ∀ p ∈ X.pn ++ pins, p.1 ≠ a) (ok : ObjOk X.prog X.w (upd H a o) s.heap a o) : Inv X pins σ (upd H a o) s := by
  have up : ∀ {b : Addr} {u : HO}, H b = some u → upd H a o b = some u := fun {b u} e => keep_new e n
  have off : ∀ {b : Addr}, b ≠ a → upd H a o b = H b := fun h => upd_ne h
  have old : ∀ {b : Addr} {u : Obj}, X.s_0.heap.get? b = some u → b ≠ a := fun {b u} e z => by
    rw [z, n0] at e
    cases e
  exact { ok := I.ok, os := I.os, bare := I.bare, loc := I.loc, cell := I.cell, len := I.len
          base := { keep := I.base.keep, slot := I.base.slot, there := I.base.there
                    free := fun b u e1 e2 e3 => (off (old e1)).trans (I.base.free b u e1 e2 e3)
                    tups := fun b xs e => up (I.base.tups b xs e)
                    frzs := fun b u v e => up (I.base.frzs b u v e)
                    tbls := fun b ps e => let ⟨m, z⟩ := I.base.tbls b ps e; ⟨m, up z⟩ }
          free := (off (Ne.symm nL)).trans I.free
          freeC := fun x c e => (off (nC x c e)).trans (I.freeC x c e)
          pin := fun p hp => let ⟨e, z, r⟩ := I.pin p hp; ⟨e, (off (nP p hp)).trans z, r⟩
          hok := fun b u e => by
            by_cases c : b = a
            · subst c
              rw [upd_same] at e
              exact Option.some.inj e ▸ ok
            · exact (I.hok b u ((off c).symm.trans e)).stay (fun _ _ _ q => q) (fun _ q => up q) fun _ _ q => up q }
end
/-- .. that may have a dict -/
def wNoteD (K : PySem.W.Frag) (c : Value) (i j : Nat) (D : Ends) : WX := fun cls d σ H => PySem.W.exmOne K cls c = some true ∧ ∀ a, H a = none → D.nx ((σ.set i (some (.ref a))).set j (some (.ref a)) |>.set i none) (upd H a (ExD cls d a))
/-- where an exception has come down: the state with it -/
structure Fell (X : Cx) (pins : List (Addr × Obj)) (a : Addr) (cls : Value) (d : Option Addr) (σ : L2.St) (H : Hp) (s : Shared) (oe : Obj) : Prop where
  inv : Inv X pins σ H s
  at' : s.heap.get? a = some oe
  zc : Zc cls d oe
  da : ∃ vs, oe.data = .fields vs
  na : H a = none
  nL : a ≠ X.env.locals
  nF : a ∉ X.fs
  n0 : X.s_0.heap.get? a = none
  nP : ∀ p ∈ X.pn ++ pins, p.1 ≠ a
section
variable {X : Cx} {pins : List (Addr × Obj)} {σ : L2.St} {H : Hp} {s sI s' : Shared} {a : Addr} {B : Heap} {cls : Value} {d : Option Addr}
theorem fell_of (hs : X.stack = X.env :: X.outer) (hf : X.env.frame = some X.env.locals) (hex : X.ex = []) (J : Inv X pins σ H sI) (nb : ∀ b o, sI.heap.get? b = some o → b ∉ frs X.stack → B.get? b = some o) (fl : HandSPX.FlyingZ B (X.env :: X.outer) a (Zc cls d) s'.heap) (up : sI.heap.UpToSlots s'.heap) (os : s'.os = sI.os) (ag : AllBare s'.gens) (na : H a = none) : ∃ oe, Fell X pins a cls d σ H s' oe := by
  obtain ⟨oe, vs, h⟩ := fl.there
  obtain ⟨he, hz, hd⟩ := h
  have nS : a ∉ frs (X.env :: X.outer) := fun hm => by
    obtain ⟨_, o2, e2, n2⟩ := fl.2.2.1.mem hm
    cases he.symm.trans e2
    exact n2 vs hd
  have no : ∀ o, sI.heap.get? a = some o → False := fun o e => by
    have := nb a o e (by rw [hs]; exact nS)
    rw [fl.2.1] at this
    cases this
  refine ⟨oe, J.landed nb fl.1 up os ag, he, hz, ⟨vs, hd⟩, na, fun z => nS (List.mem_filterMap.mpr ⟨_, List.mem_cons_self, hf.trans (congrArg some z.symm)⟩), fun hm => ?_, ?_, fun p hp z => ?_⟩
  · obtain ⟨e, h1, h2⟩ := List.mem_filterMap.mp hm
    exact nS (List.mem_filterMap.mpr ⟨e, List.mem_cons_of_mem _ h1, h2⟩)
  · cases e : X.s_0.heap.get? a with
    | none => rfl
    | some o =>
      obtain ⟨o2, e2⟩ := J.base.there a o e (by rw [hex]; exact List.not_mem_nil)
      exact (no o2 e2).elim
  · have := (J.pin p hp).1
    rw [z] at this
    exact no _ this
end
/-- try: .. except x as n: m = n -/
theorem ps_try_noteG {Wn : Ends → WX} {X : Cx} {x n m : Str} {c : Value} {i j : Nat} {body : List Stmt} {np mp qp ap pos pos' : Pos} {tb : WX → TS} (hs : X.stack = X.env :: X.outer) (hf : X.env.frame = some X.env.locals) (hex : X.ex = []) (hN : X.N.Nodup) (hi : X.N[i]? = some n) (hj : X.N[j]? = some m) (hln : X.env.kindOf n = some .local) (hlm : X.env.kindOf m = some .local) (hlm2 : X.env.scope.names.lookup m = some .local) (hc : Names X x c)
    (hnd : (n == ("__debug__" : Str)) = false) (hncd : (n == ("__classdict__" : Str)) = false)
    (hsw : swapsWith (.Name n qp) (some (.Name m mp)) ap.line X.env = pure false)
    (hb : ∀ (W : WX) (pn : List (Addr × Obj)) (xe : Value → Shared → Prop), Takes (X.tr pn xe) W → PassesOwn (model X.prog X.w) X.A X.env xe → PSs (X.tr pn xe) body (tb W))
    (hW : ∀ D cls d σ H, Wn D cls d σ H → wNoteD X.K c i j D cls d σ H) :
    PS X (.Try body [.ExceptHandler (some (.Name x np)) (some n) [.Assign [.Name m mp] (.Name n qp) ap] pos'] [] [] pos) (fun D σ H => tb (Wn D) D σ H) := by
  refine ⟨fun pins s σ H D I h => wpAny_Try_except ?_⟩
  have ok := I.ok
  refine wpAny_mono ((hb (Wn D) (X.pn ++ pins) _ (fun u s' air => ?air) PassesOwn.looking).run [] s σ H D (I.toTry _) h) (fun f s1 hsp => ?_) fun _ _ he => he
  case air =>
    obtain ⟨a, B, sI, pins', σ1, H1, cls, d, rfl, J', nb, up, sky, na, os, ag, hxg⟩ := air
    obtain ⟨hx, go⟩ := hW _ _ _ _ _ hxg
    have J : Inv X pins σ1 H1 sI := J'.ofTry ok
    refine Sky.land (outer := X.outer) (B := B) Zc.steady (ok.frames.trans (congrArg some hs)) hf (by rw [← hs]; exact sky) fun h3 fl3 up3 => ?_
    obtain ⟨o3, F3⟩ := fell_of (s' := { s' with heap := h3 }) hs hf hex J nb fl3 (up.trans up3) os ag na
    obtain ⟨v3, d3⟩ := F3.da
    have S3 := F3.inv.suite F3.at' d3 F3.na F3.nL F3.nF
    refine wpAny_handleBy_cons (codeAny_handlers_test ?_) (fun z => nomatch z)
    have look : PySem.W.Looks (model X.prog X.w) h3 (typeOf (.ref a)) cls := fun _ _ _ _ k q => wpAny_typeOf_ref (k _ _ F3.at') (by rw [F3.zc.1]; exact q)
    have hit := (PySem.W.exm_one F3.inv.kIn look hx)
    suffices thenit : wpAny (model X.prog X.w) (X.A.mark (some (.ref a))) (eval (.Name x np) X.env) (fun v t => v = c ∧ t = { s' with heap := h3 }) (fun _ _ => False) { s' with heap := h3 } by
      refine wpAny_mono thenit (fun v t e => ?_) fun _ _ z => z.elim
      obtain ⟨rfl, rfl⟩ := e
      refine hit.here ?_
      refine codeAny_handlers_suite_as (HandSPX.lands_againZ fl3 fun h4 fl4 up4 => ?_)
      obtain ⟨o4, F4⟩ := fell_of (s' := { s' with heap := h4 }) hs hf hex J nb fl4 ((up.trans up3).trans up4) os ag na
      obtain ⟨v4, d4⟩ := F4.da
      have S4 := F4.inv.suite F4.at' d4 F4.na F4.nL F4.nF
      refine store_ok (X := X.suite a ((a, o4) :: (X.pn ++ pins))) (v := .ref a) S4 hN hi (.inl hln) rfl (fun s5 S5 => ?_) (.inr hln)
      have li : i < σ1.length := by
        have := S4.len
        rw [this]
        exact (List.getElem?_eq_some_iff.mp hi).1
      have asg := pss_one (ps_set (X := X.suite a ((a, o4) :: (X.pn ++ pins))) (pos' := mp) (pos := ap) (i := j) hN hj (.inl hlm) (pv i hi (.inl hln) hnd hncd) hsw (.inr hlm2))
      refine wpAny_mono (asg.run [] s5 _ H1 { nx := fun σ6 H6 => σ6 = (σ1.set i (some (.ref a))).set j (some (.ref a)) ∧ H6 = H1, rt := fun _ _ => False, bk := fun _ _ => False, ct := fun _ _ => False } S5 ⟨.ref a, List.getElem?_set_self li, rfl, rfl⟩) (fun f s6 hsp => ?_) fun _ _ z => z.elim
      cases f with
      | next =>
        obtain ⟨σ6, H6, S6, rfl, rfl⟩ := hsp
        refine gone_ok (X := X.suite a ((a, o4) :: (X.pn ++ pins))) S6 hN hi hln fun s7 S7 => ?_
        obtain ⟨e7, _, _, _, nd7⟩ := S7.pin (a, o4) (List.mem_append_left _ List.mem_cons_self)
        have J7 := S7.unsuite ok
        exact ⟨_, _, Inv.noted (o := ExD cls d a) J7 F4.na F4.n0 F4.nL (fun y c2 e z => by
          obtain ⟨v, oc, ho, hd⟩ := J7.cell y c2 e
          rw [z, e7] at ho
          exact nd7 v (Option.some.inj ho ▸ hd)) F4.nP ⟨⟨o4, v4, e7, F4.zc, d4⟩, ⟨o4, e7⟩, fun _ _ ⟨u, w', q, r⟩ k => ⟨u, w', k u q, r⟩⟩, go a na⟩
      | brk => exact hsp.elim fun _ h => h.elim fun _ h => h.2.elim
      | cont => exact hsp.elim fun _ h => h.elim fun _ h => h.2.elim
      | ret u => exact hsp.elim fun _ h => h.elim fun _ h => h.elim fun _ h => h.2.2.elim
    obtain ⟨hg, hdb, hm | ⟨hm, hv, hnn⟩⟩ := hc
    · exact ld_glob (X := X.suite a ((a, o3) :: (X.pn ++ pins))) S3 hg hm ⟨rfl, rfl⟩ hdb
    · exact ld_blt (X := X.suite a ((a, o3) :: (X.pn ++ pins))) S3 hg hm hv ⟨rfl, rfl⟩ hnn hdb
  · cases f with
    | next => exact let ⟨_, _, J, q⟩ := hsp; wpAny_execs_nil ⟨_, _, J.ofTry ok, q⟩
    | brk => exact let ⟨_, _, J, q⟩ := hsp; ⟨_, _, J.ofTry ok, q⟩
    | cont => exact let ⟨_, _, J, q⟩ := hsp; ⟨_, _, J.ofTry ok, q⟩
    | ret u => exact let ⟨_, _, _, J, q⟩ := hsp; ⟨_, _, _, J.ofTry ok, q⟩
theorem ps_try_noteD {X : Cx} {x n m : Str} {c : Value} {i j : Nat} {body : List Stmt} {np mp qp ap pos pos' : Pos} {tb : WX → TS} (hs : X.stack = X.env :: X.outer) (hf : X.env.frame = some X.env.locals) (hex : X.ex = []) (hN : X.N.Nodup) (hi : X.N[i]? = some n) (hj : X.N[j]? = some m) (hln : X.env.kindOf n = some .local) (hlm : X.env.kindOf m = some .local) (hlm2 : X.env.scope.names.lookup m = some .local) (hc : Names X x c)
    (hnd : (n == ("__debug__" : Str)) = false) (hncd : (n == ("__classdict__" : Str)) = false)
    (hsw : swapsWith (.Name n qp) (some (.Name m mp)) ap.line X.env = pure false)
    (hb : ∀ (W : WX) (pn : List (Addr × Obj)) (xe : Value → Shared → Prop), Takes (X.tr pn xe) W → PassesOwn (model X.prog X.w) X.A X.env xe → PSs (X.tr pn xe) body (tb W)) :
    PS X (.Try body [.ExceptHandler (some (.Name x np)) (some n) [.Assign [.Name m mp] (.Name n qp) ap] pos'] [] [] pos) (fun D σ H => tb (wNoteD X.K c i j D) D σ H) :=
  ps_try_noteG hs hf hex hN hi hj hln hlm hlm2 hc hnd hncd hsw hb fun D cls d σ H h => h
end My

set_option Elab.async false
set_option linter.all false
set_option maxRecDepth 100000
set_option maxHeartbeats 2000000
namespace My
open PySem PySem.Spec PyProof.Rows L2
/-! ### isinstance of a noted exception -/
/-! ### a method that may raise, called in a try or where the raise goes on -/
/-! ### the program's exceptions -/
abbrev veL : List Value := [.type "ValueError", .type "Exception", .type "BaseException", .type "object"]
/-- an own exception class, made with a text, that leaves by raise and is caught under LE -/
structure XCls (K : PySem.W.Frag) (C LE : Addr) : Prop where
  q : PySem.W.excIn K C veL "ValueError.__new__" = true
  kp : PySem.W.keepIn K (.ref C) = true
  bE : PySem.W.subIn K (.ref C) (.type "BaseException") = some true
  tE : PySem.W.typeIn K (.ref C) = some (.type "type")
  ex : ExcC K C
  le : PySem.W.exmOne K (.ref C) (.ref LE) = some true
  se : PySem.W.exmOne K (.ref C) (.ref C) = some true
  ve : PySem.W.kitOne K (.ref C) (.type "ValueError") = some true
def xclsB (K : PySem.W.Frag) (C LE : Addr) : Bool :=
  PySem.W.excIn K C veL "ValueError.__new__" && (PySem.W.keepIn K (.ref C) && (decide (PySem.W.subIn K (.ref C) (.type "BaseException") = some true) && (decide (PySem.W.typeIn K (.ref C) = some (.type "type")) &&
    ((decide (PySem.W.findIn K (.ref C) "__getattribute__" = some (some (.builtin "BaseException.__getattribute__"))) && (decide (PySem.W.findIn K (.ref C) "__getattr__" = some none) && (PySem.W.hasDictIn K C && (decide (PySem.W.findIn K (.ref C) "__class__" = some (some (.builtin "object.__class__"))) &&
      (decide (PySem.W.specialIn K (.builtin "object.__class__") "__get__" = some (some (.builtin "getset_descriptor.__get__"))) && (decide (PySem.W.takesIn K (.builtin "object.__class__") = some true) && decide (PySem.W.mroIn K C (.type "object") = some true))))))) &&
    (decide (PySem.W.exmOne K (.ref C) (.ref LE) = some true) && (decide (PySem.W.exmOne K (.ref C) (.ref C) = some true) && decide (PySem.W.kitOne K (.ref C) (.type "ValueError") = some true)))))))
theorem xcls_of {K : PySem.W.Frag} {C LE : Addr} (h : xclsB K C LE = true) : XCls K C LE := by
  unfold xclsB at h
  simp only [Bool.and_eq_true, decide_eq_true_eq] at h
  obtain ⟨h1, h2, h3, h4, ⟨g1, g2, g3, g4, g5, g6, g7⟩, h5, h6, h7⟩ := h
  exact ⟨h1, h2, h3, h4, ⟨g1, g2, h3, g3, g4, g5, g6, g7⟩, h5, h6, h7⟩
/-- the exceptions R that are raised and caught, among those that are asked for, A -/
structure XFam (K : PySem.W.Frag) (xa : Str → Addr) (R A : List Str) : Prop where
  cls : ∀ n ∈ R, XCls K (xa n) (xa "ListError")
  kit : ∀ n ∈ R, ∀ m ∈ A, PySem.W.kitOne K (.ref (xa n)) (.ref (xa m)) = some (n == m)
def xfamB (K : PySem.W.Frag) (xa : Str → Addr) (R A : List Str) : Bool :=
  R.all (fun n => xclsB K (xa n) (xa "ListError")) && R.all fun n => A.all fun m => decide (PySem.W.kitOne K (.ref (xa n)) (.ref (xa m)) = some (n == m))
theorem xfam_of {K : PySem.W.Frag} {xa : Str → Addr} {R A : List Str} (h : xfamB K xa R A = true) : XFam K xa R A := by
  obtain ⟨h1, h2⟩ := (Bool.and_eq_true _ _).mp h
  exact ⟨fun n hn => xcls_of (List.all_eq_true.mp h1 n hn), fun n hn m hm => of_decide_eq_true (List.all_eq_true.mp (List.all_eq_true.mp h2 n hn) m hm)⟩
end My

set_option Elab.async false
set_option linter.all false
set_option maxRecDepth 100000
set_option maxHeartbeats 2000000
namespace My
open PySem PySem.Spec PyProof.Rows L2
/-! ### xs.count(y) of flat values -/
/-! ### a() within a try, a the lambda that was handed in -/
theorem Takes.len {X : Cx} {W : WX} (tk : Takes X W) : Takes X fun cls d σ H => σ.length = X.N.length → W cls d σ H := fun u s' ⟨a, B, sI, pins, σ, H, cls, d, e, I, nb, up, sky, na, os, ag, w⟩ =>
  tk u s' ⟨a, B, sI, pins, σ, H, cls, d, e, I, nb, up, sky, na, os, ag, w I.len⟩
/-! ### x(lambda: body): of all else that stands nothing is lost -/
end My

set_option Elab.async false
set_option linter.all false
set_option maxRecDepth 100000
set_option maxHeartbeats 2000000
namespace My
open PySem PySem.Spec PyProof.Rows L2
/-! ### a method that may raise, called where it doesn't; x(lambda: body) by the fact of the def x -/
theorem passNo {P : Program} {w : World} {X : Cx} (σ : L2.St) : PassesAt (L2.CX P w) X σ (fun _ _ _ => False) := fun _ _ _ _ _ _ h => by
  obtain ⟨_, _, _, _, _, _, _, _, _, _, _, _, z⟩ := h
  exact z.elim
end My

set_option Elab.async false
set_option linter.all false
set_option maxRecDepth 100000
namespace My
open PySem PySem.Spec PyProof.Rows L2
/-! ### f-strings: their reading under a name, so that a comprehension's element can be one -/
def tFs (ts : List TE) : TE := fun σ H Q => tJs ts Str.empty σ H fun out H1 => Q (.str out) H1
theorem pe_fs {X : Cx} {v1 v2 : Expr} {more : List Expr} {ts : List TE} {pos : Pos} (h : PJ X (v1 :: v2 :: more) ts) : PE X (.JoinedStr (v1 :: v2 :: more) pos) (tFs ts) := pe_joined h
end My

set_option Elab.async false
set_option linter.all false
set_option maxRecDepth 100000
set_option maxHeartbeats 2000000
namespace My
open PySem PySem.Spec PyProof.Rows L2
open NdefX (NF NScope CellsAt ncx startF envF inv_startN)
/-! ### super().__init__(text) in an own exception's __init__ -/
abbrev veInit : String := "ValueError.__init__"
/-- what the written part says of a class C over ValueError whose __init__ asks for super() -/
structure NtC (K : PySem.W.Frag) (C : Addr) : Prop where
  o : OexC K C
  x : XfC K C
  any : PySem.W.nsIn K cStatics "thirdparty.any" = some none
  up : PySem.W.ks_superIn K C C "__init__" = some (some (.builtin veInit))
  ve : PySem.W.subIn K (.ref C) (.type "ValueError") = some true
  me : PySem.W.mroIn K C (.ref C) = some true
/-- what it says of that __init__: its function at f, with the cell __class__ that holds C, and its code's file -/
structure SupD (K : PySem.W.Frag) (file name qual : Str) (st : Stmt) (C f : Addr) (fd : FuncData) : Prop where
  ex : ∃ (oc : Value) (od : Option Addr) (kV doc pm : Value) (an : Option Addr) (cda cc : Addr) (ct : Value) (osl : Array (Option Value)),
    fd = PySem.W.fnX name qual (defArgs st) (defBody st) (defScope st) [("__class__", cc)] .none kV doc pm an (.ref cda) ct ∧ K.lookup f = some ⟨oc, od, .func fd, osl⟩ ∧ PySem.W.codeIn K (.ref cda) qual = true ∧
    (∃ (ccl : Value) (cdd : Option Addr) (vs : Array Value) (ccs : Array (Option Value)) (tf : Tok), K.lookup cda = some ⟨ccl, cdd, .fields vs, ccs⟩ ∧ vs[2]? = some (.str file tf)) ∧
    ∃ (cl : Value) (cld : Option Addr) (csl : Array (Option Value)), K.lookup cc = some ⟨cl, cld, .cell (some (.ref C)), csl⟩
  fn : PySem.W.findIn K (.ref C) "__init__" = some (some (.ref f))
  ty : PySem.W.typeIn K (.ref f) = some (.type "function")
section
variable {P : Program} {w : World} {A : Around} {E : Value → Shared → Prop} {h : Heap} {g : Array GenState} {d : Drawn} {t : Nat} {os : OsState}
/-- the wrapper that super() hands out, called: the exception's arguments are laid anew -/
theorem call_wrap {nm q : Str} {C N u e t0 : Addr} {bs bm : List Value} {hdct : Bool} {sn : List Str} {sub : List Value} {ab : Bool} {col : Option Bool} {dd : Option Addr} {k0 k1 k2 k3 k5 : Option Value} {rest : List Value} {Q : Value → Shared → Prop}
    (hC : h.get? C = some (excClassObj nm q C N bs bm hdct sn sub ab col dd k0 k1 k2 k3 k5 "ValueError.__new__")) (he : h.get? e = some (HandSPX.excO C t0)) (hu : h.get? u = some (PySem.W.kxs_mw veInit e)) (hz : rest.length ≤ sizeLine)
    (hq : ∀ h' t1, (∀ b o, b ≠ e → h.get? b = some o → h'.get? b = some o) → h'.get? e = some (HandSPX.excO C t1) → Q .none ⟨h', g, d, t, os⟩) : wpAny (model P w) A (call (.ref u) rest) Q E ⟨h, g, d, t, os⟩ := by
  have FB := F.excBase_ValueError
  refine wpAny_call (codeAny_of_tree (show wpAny _ A.in1 (callAny (.ref u) ⟨rest, []⟩) _ _ _ from ?_))
  unfold callAny
  refine wpAny_bind (wpAny_load hu ?_)
  show wpAny _ _ (if (Value.type "method-wrapper" == Value.type "method" || Value.type "method-wrapper" == Value.type "builtin_function_or_method" || Value.type "method-wrapper" == Value.type "method-wrapper") = true then _ else _) _ _ _
  rw [if_pos (by decide)]
  refine wpAny_bind (PySem.W.check_bound_init FB.toExcCallFacts hC he rfl (wpAny_bind (wpAny_pure (wpAny_pure ⟨plainId_quiet FB.init.plain _, codeAny_builtin FB.initEntry ?_⟩))))
  exact PySem.W.exc_init_tree (cls := .ref C) (t0 := t0) (dv := none) (c2 := .none) (c3 := .none) (b4 := .bool false) he hz fun h' k x _ => hq h' _ k x
end
section
variable {X : Cx} {pins : List (Addr × Obj)} {σ : L2.St} {H : Hp} {s : Shared} {a C f cda cc : Addr}
/-- the statement super().__init__(text), self at slot 0 -/
theorem sup_stmt {x : Str} {p0 p1 pa p2 p3 pc : Pos} {j : Nat} {body : List Stmt} {of : Obj} {fd : FuncData} {ar : Arg} {vs : Array Value} {file : Str} {tf : Tok} {ccl cl : Value} {cdd cld : Option Addr} {ccs csl : Array (Option Value)} {Q : Flow → Shared → Prop} {E : Value → Shared → Prop}
    (I : Inv X pins σ H s) (T : NtC X.K C) (ha : H a = some (exo a C none)) (hs0 : σ[0]? = some (some (.ref a))) (hN : X.N[0]? = some ar.arg) (hself : X.env.kindOf ar.arg = some .local)
    (hks : X.env.kindOf "super" = some .globalImplicit) (hkc : X.env.kindOf "__class__" = some .free) (hfu : X.env.func = some f) (hf : X.K.lookup f = some of) (hfd : of.data = .func fd)
    (hp : (fd.params.posonlyargs ++ fd.params.args).head? = some ar) (hco : X.env.code = .ref cda) (hcc : X.K.lookup cda = some ⟨ccl, cdd, .fields vs, ccs⟩) (hvs : vs[2]? = some (.str file tf)) (hfile : (X.prog.main.file : Str) = file)
    (htop : (X.prog.main.scope.names.lookup ("super" : Str)).isSome = false) (hcel : X.env.cells.lookup ("__class__" : Str) = some cc) (hcv : X.K.lookup cc = some ⟨cl, cld, .cell (some (.ref C)), csl⟩) (hms : X.mg "super" = none)
    (hi : interactive X.env = false) (hsw : swapsWith (.Call (.Attribute (.Call (.Name "super" p0) [] [] p1) "__init__" pa) [.Constant (.str x) j pc] [] p2) none p3.line X.env = pure false)
    {pl : Sem Bool} (he : eval (.Call (.Attribute (.Call (.Name "super" p0) [] [] p1) "__init__" pa) [.Constant (.str x) j pc] [] p2) X.env = (do
      let ov ← attributeBase (.Call (.Name "super" p0) [] [] p1) "__init__" X.env (eval (.Call (.Name "super" p0) [] [] p1) X.env)
      standAt pa.atName
      let (f, first) ← holding [ov] (getMethod ov "__init__" pl)
      callWith p2 f first (backTo p2 (starEach [.Constant (.str x) j pc] X.env)) []))
    (h : ∀ s', Inv X pins σ H s' → Q .next s') :
    _root_.PySem.wpAt (model X.prog X.w) X.A (.func body X.env) (exec (.Expr (.Call (.Attribute (.Call (.Name "super" p0) [] [] p1) "__init__" pa) [.Constant (.str x) j pc] [] p2) p3) X.env) Q E s := by
  obtain ⟨nm, q, N, bs, bm, sn, sub, ab, col, dd, k0, k1, k2, k3, k5, hC, hbm⟩ := T.o.cls
  obtain ⟨cd, hcd⟩ : ∃ cd, PySem.W.clsIn X.K C = some cd := ⟨_, by unfold PySem.W.clsIn; rw [hC] <;> rfl⟩
  have up := T.up
  unfold PySem.W.ks_superIn at up
  rw [hcd] at up
  refine PySem.ks_wpAt_Expr_any (PySem.ks_wpAt_MethodCall ?_ he) hi hsw
  refine PySem.ks_wpAt_super_base hks hkc (by decide) hfu (I.kIn _ _ hf) hfd hp hco (I.kIn _ _ hcc) rfl hvs (by rw [hfile]; exact beq_self_eq_true _) htop ?_
  refine PySem.W.ks_loadName_global I.ok.kind hks ?_
  obtain ⟨mb, b1, b2⟩ := I.mod.blt
  refine Calls.loadGlobal_builtin (by rw [I.ok.glob]; exact I.mod.glob.keeps I.bk) hms (by rw [I.ok.blt]; exact b1.keeps I.bk) ((b2 "super" (by decide)).trans (show bootBuiltins "super" = some (.type "super") by kernel_rfl)) ⟨rfl, ?_⟩
  refine wpAny_loadName_free I.ok.kind hkc hcel ⟨_, I.kIn _ _ hcv, rfl⟩ ?_
  obtain ⟨m, hns, look⟩ := I.loc
  obtain ⟨u, ru, lk⟩ := look 0 ar.arg (.ref a) hN hs0 (.inl hself)
  obtain rfl : u = .ref a := ru
  have hm : m ar.arg = some (.ref a) := by
    rcases lk with ⟨_, z⟩ | ⟨z, _⟩
    · exact z
    · rcases z with z | z
      · rw [hself] at z; cases z
      · rw [hself] at z; cases z
  refine wpAny_loadName_local I.ok.kind hself hns hm ?_
  obtain ⟨t1, ho⟩ := exo_at I.hok ha
  obtain ⟨hp, g, dr, tk, os⟩ := s
  have hCh := I.kIn _ _ hC
  refine PySem.ks_wpAny_isType_cls hCh rfl ⟨rfl, ?_⟩
  refine PySem.ks_wpAny_call_super hCh rfl ho rfl (fun c z => nomatch z) (PySem.W.looks_mroIn I.kIn T.me) fun h1 e1 kp1 => ?_
  have I1 : Inv X pins σ H ⟨h1, g, dr, tk, os⟩ := I.kept (t' := tk) kp1
  have o1 := kp1 _ _ ho
  have J1 : PySem.W.InstAt h1 a (HandSPX.excO C t1) C none := ⟨o1, rfl, rfl, trivial⟩
  have aC : a ≠ C := fun z => by
    rw [z, kp1 _ _ hCh] at o1
    cases o1
  refine PySem.W.kxs_getMethod PySem.W.kxs_ValueError e1 (PySem.W.looks_opaque I1.kIn T.any) (l₀ := cd.mro) ((PySem.W.looks_clsIn I1.kIn hcd).andThen .now) rfl I1.kIn up (J1.type.andThen (PySem.W.looks_subIn I1.kIn T.ve)) aC (by decide) ?_
  have kp2 : ∀ b o, h1.get? b = some o → (h1.push (PySem.W.kxs_mw veInit a)).get? b = some o := fun b o e => Heap.get?_push_of_some _ e
  have hu : (h1.push (PySem.W.kxs_mw veInit a)).get? h1.objs.size = some (PySem.W.kxs_mw veInit a) := Heap.get?_push_at rfl rfl
  have I2 : Inv X pins σ H ⟨h1.push (PySem.W.kxs_mw veInit a), g, dr, tk + 1, os⟩ := I1.kept (t' := tk + 1) kp2
  have o2 := kp2 _ _ o1
  generalize h1.push (PySem.W.kxs_mw veInit a) = h2 at hu I2 o2 ⊢
  generalize h1.objs.size = u at hu ⊢
  have N2 : News (PySem.W.hideAll h2 [u]) u h2 [] := fun p hp => absurd hp (by simp)
  refine PySem.W.kxs_callWith (i := veInit) (x := a) rfl (Calls.evalArgs_plain (Calls.spliced_cons (Calls.Constant_str (k := j) (pos := pc) (Calls.spliced_nil ⟨hu, ?_⟩))))
  refine call_wrap (I2.kIn _ _ hC) o2 hu (by show 1 ≤ sizeLine; decide) fun h3 t3 k3 o3 => ?_
  have J := I2.write (t' := tk + 1 + 1) (x := a) (e := a) (o := exo a C none) (by rw [ha]; exact True.intro) (.inl rfl) k3 ⟨_, o3⟩ (exo_ok o3)
  have eu : upd H a (exo a C none) = H := by
    funext b
    by_cases hb : b = a
    · rw [hb, upd_same, ha]
    · rw [upd_ne hb]
  rw [eu] at J
  exact h _ J
end
/-- what NoText's __init__ does: the exception has one field -/
def spNo (C : Addr) (fld : Str) : Sp := fun vs H Q _ => ∃ (a : Addr) (x : V), vs = [.ref a, x] ∧ H a = some (exo a C none) ∧ ∀ dx, H dx = none → dx ≠ a → Q .non (upd (upd H dx (exd dx [(fld, x)])) a (exo a C (some dx)))
section
variable {CX : CXT} {P : Program} {w : World} {K : PySem.W.Frag} {mg : Str → Option Value} {base : Heap} {k : Nat} {C f : Addr} {fd : FuncData} {file name qual fld px tx : Str} {st : Stmt} {ar : Arg} {p0 p1 pa p2 p3 pc q1 q2 q3 q4 : Pos} {j : Nat}
/-- def __init__(self, x): super().__init__(text); self.fld = x -/
theorem fn_sup (S : SupD K file name qual st C f fd) (T : NtC K C) (hfile : (P.main.file : Str) = file) (htop : (P.main.scope.names.lookup ("super" : Str)).isSome = false) (hms : mg "super" = none)
    (Sc : NScope ["self", px, "__class__"] ["self", px] ["__class__"] (defScope st)) (hks : (defScope st).names.lookup ("super" : Str) = some .globalImplicit)
    (hbody : defBody st = [.Expr (.Call (.Attribute (.Call (.Name "super" p0) [] [] p1) "__init__" pa) [.Constant (.str tx) j pc] [] p2) p3, .Assign [.Attribute (.Name "self" q1) fld q2] (.Name px q3) q4])
    (hpar : ((defArgs st).posonlyargs ++ (defArgs st).args).head? = some ar) (har : ar.arg = "self") (hno : PySem.W.findIn K (.ref C) fld = some none)
    (hd1 : (px == ("__debug__" : Str)) = false) (hd2 : (px == ("__classdict__" : Str)) = false)
    (he : ∀ env, ∃ pl : Sem Bool, eval (.Call (.Attribute (.Call (.Name "super" p0) [] [] p1) "__init__" pa) [.Constant (.str tx) j pc] [] p2) env = (do
      let ov ← attributeBase (.Call (.Name "super" p0) [] [] p1) "__init__" env (eval (.Call (.Name "super" p0) [] [] p1) env)
      standAt pa.atName
      let (f, first) ← holding [ov] (getMethod ov "__init__" pl)
      callWith p2 f first (backTo p2 (starEach [.Constant (.str tx) j pc] env)) [])) : FnOk P w K mg base CX (k + 1) f fd ["self", px] (spNo C fld) := by
  refine ⟨fun vs H Q E h => ?_, fun A outer s H args us vs Q E hr e0 hb r hsp => ?_⟩
  · obtain ⟨a, x, rfl, _⟩ := h
    rfl
  obtain ⟨a, x, rfl, ha, q⟩ := hsp
  obtain ⟨oc, od, kV, doc, pm, an, cda, cc, ct, osl, rfl, lk, hcd, ⟨ccl, cdd, vsx, ccs, tf, hcc, hvs⟩, cl, cld, csl, hcv⟩ := S.ex
  have inK : K.In s.heap := e0.mod.kin.keeps fun b o e => (e0.bs b o e).1
  have lim : s.heap.NoLimit := e0.mod.nolimit.keeps fun b o e => (e0.bs b o e).1
  obtain ⟨F, hF⟩ : ∃ F : NF, F = ⟨name, qual, defArgs st, defBody st, defScope st, [("__class__", cc)], cda⟩ := ⟨_, rfl⟩
  obtain ⟨c1, c2⟩ := e0.bs _ _ (e0.mod.kin _ _ hcv)
  have one : ∀ {y : Str} {c : Addr}, F.cl.lookup y = some c → y = "__class__" ∧ c = cc := fun {y c} e => by
    rw [hF] at e
    have e : (match y == "__class__" with | true => some cc | false => none) = some c := e
    split at e
    · next z => exact ⟨beq_iff_eq.mp z, (Option.some.inj e).symm⟩
    · cases e
  have has : F.cl.lookup ("__class__" : Str) = some cc := by rw [hF]; rfl
  have Cl : CellsAt F.cl ["__class__"] [none] s.heap H := by
    refine ⟨rfl, fun y c e => ?_, fun y z c e1 e2 => (one e1).1.trans (one e2).1.symm, fun i y e => ?_⟩
    · obtain ⟨_, rfl⟩ := one e
      exact ⟨c2, _, _, c1, rfl⟩
    · match i, e with
      | 0, e =>
        obtain rfl := Option.some.inj e
        exact ⟨cc, has, fun v z => nomatch z⟩
  refine PySem.ks_codeAny_call_defAt hr.depth (inK _ _ lk) rfl lim (PySem.W.codeRec_of inK hcd) rfl hb Sc.nocell (fun y hy => ?_) (fun h₀ hns kp => ?_) Sc.co Sc.gen Sc.kind
  · exact Sc.par y.1 (List.of_mem_zip (show (y.1, y.2) ∈ (["self", px] : List Str).zip us from hy)).1
  have I : Inv (ncx CX P w K mg base ["self", px, "__class__"] F f A outer s H E) [] (startF ["self", px, "__class__"] [.ref a, x] [none]) H { s with heap := h₀, toks := s.toks + ((["self", px] : List Str).zip us).length } :=
    inv_startN (by rw [hF]; exact Sc) hr.hd e0 rfl r Cl hns kp
  have sel : (defScope st).names.lookup ("self" : Str) = some .local := Sc.par "self" List.mem_cons_self
  have pxl : (defScope st).names.lookup px = some .local := Sc.par px (List.mem_cons_of_mem _ List.mem_cons_self)
  have go : ∀ s', Inv (ncx CX P w K mg base ["self", px, "__class__"] F f A outer s H E) [] (startF ["self", px, "__class__"] [.ref a, x] [none]) H s' →
      wpAny (model P w) (A.deeper (envF F f s.heap.objs.size)) (execs [.Assign [.Attribute (.Name "self" q1) fld q2] (.Name px q3) q4] (envF F f s.heap.objs.size)) (fun fl s' => CR CX outer P w H s Q E (.ok (.ret (match fl with | .ret v => v | _ => .none))) s')
        (ncx CX P w K mg base ["self", px, "__class__"] F f A outer s H E).xe s' := fun s' J => by
    have st2 := pss_one (ps_ost (X := ncx CX P w K mg base ["self", px, "__class__"] F f A outer s H E) (pos := q4) (p' := q2) (f := fld) (pe_var (i := 0) (x := "self") (pos := q1) rfl (.inl (by rw [hF]; exact sel))) (pe_var (i := 1) (x := px) (pos := q3) rfl (.inl (by rw [hF]; exact pxl)) hd1 hd2))
    refine wpAny_mono (st2.run [] s' _ H { nx := fun _ H' => Q .non H', rt := Q } J ⟨x, rfl, .ref a, rfl, a, C, rfl, T.o, hno, .inl ⟨ha, q⟩⟩) (fun fl s2 hs => ?_) fun e s' hs => hs
    cases fl with
    | ret u =>
      obtain ⟨v, σ', H', J, rv, q⟩ := hs
      exact ⟨v, H', J.os, J.bare, J.base, J.hok, rv, q⟩
    | next =>
      obtain ⟨σ', H', J, q⟩ := hs
      exact ⟨.non, H', J.os, J.bare, J.base, J.hok, rfl, q⟩
    | brk =>
      obtain ⟨_, _, _, q⟩ := hs
      exact False.elim q
    | cont =>
      obtain ⟨_, _, _, q⟩ := hs
      exact False.elim q
  subst hF
  show _root_.PySem.wpAt (model P w) (A.deeper (envF (⟨name, qual, defArgs st, defBody st, defScope st, [("__class__", cc)], cda⟩ : NF) f s.heap.objs.size)) (.func (defBody st) (envF (⟨name, qual, defArgs st, defBody st, defScope st, [("__class__", cc)], cda⟩ : NF) f s.heap.objs.size)) (execs (defBody st) (envF ⟨name, qual, defArgs st, defBody st, defScope st, [("__class__", cc)], cda⟩ f s.heap.objs.size)) _ _ _
  have eb : ∀ env, execs (defBody st) env = execs [.Expr (.Call (.Attribute (.Call (.Name "super" p0) [] [] p1) "__init__" pa) [.Constant (.str tx) j pc] [] p2) p3, .Assign [.Attribute (.Name "self" q1) fld q2] (.Name px q3) q4] env := fun env => by rw [hbody]
  rw [eb]
  obtain ⟨pl, hpl⟩ := he (envF ⟨name, qual, defArgs st, defBody st, defScope st, [("__class__", cc)], cda⟩ f s.heap.objs.size)
  exact PySem.ks_wpAt_execs_cons (sup_stmt (X := ncx CX P w K mg base ["self", px, "__class__"] ⟨name, qual, defArgs st, defBody st, defScope st, [("__class__", cc)], cda⟩ f A outer s H E) (ar := ar) I T ha rfl (by rw [har]; rfl) (by rw [har]; exact sel) hks (Sc.frk _ List.mem_cons_self) rfl lk rfl hpar rfl hcc hvs hfile htop has hcv hms (by
      unfold interactive
      show (decide ((defScope st).kind = .module) && _) = false
      rw [Sc.kind]
      rfl) rfl hpl
    fun s' J => wpAt_of_wpAny (go s' J))
end
end My

set_option Elab.async false
set_option linter.all false
set_option maxRecDepth 100000
set_option maxHeartbeats 2000000
namespace My
open PySem PySem.Spec PyProof.Rows L2
/-! ### the head's facts with classes that ask for super() -/
def oclB (K : PySem.W.Frag) (C : Addr) : Bool := match K.lookup C with
  | some ⟨.type t, _, .cls cd, sl⟩ => (match cd.mro, sl.toList with
    | .ref C' :: bm, [_, _, _, _, some (.builtin n), _] => decide (t = "type") && (decide (C' = C) && (decide (n = "ValueError.__new__") && (cd.hasDict && (!cd.hasDel && HandSPX.refsVE bm))))
    | _, _ => false)
  | _ => false
theorem ocl_of {K : PySem.W.Frag} {C : Addr} (h : oclB K C = true) : ∃ nm q N bs bm sn sub ab col dd k0 k1 k2 k3 k5, K.lookup C = some (excClassObj nm q C N bs bm true sn sub ab col dd k0 k1 k2 k3 k5 "ValueError.__new__") ∧ HandSPX.refsVE bm = true := by
  unfold oclB at h
  split at h
  · next t dd cd sl hl =>
    obtain ⟨nm, bs, mro, N, q, hdct, sn, sub, ab, col, del⟩ := cd
    obtain ⟨sl⟩ := sl
    dsimp only at h
    split at h
    · next C' bm k0 k1 k2 k3 n k5 =>
      simp only [Bool.and_eq_true, decide_eq_true_eq, Bool.not_eq_true'] at h
      obtain ⟨rfl, rfl, rfl, rfl, rfl, hb⟩ := h
      exact ⟨nm, q, N, bs, bm, sn, sub, ab, col, dd, k0, k1, k2, k3, k5, hl, hb⟩
    · cases h
  · cases h
def ntB (K : PySem.W.Frag) (C : Addr) : Bool :=
  oclB K C && (decide (PySem.W.findIn K (.ref C) "__setattr__" = some (some (.builtin "object.__setattr__"))) && (decide (PySem.W.subIn K (.ref C) (.type "BaseException") = some true) && (decide (PySem.W.typeIn K (.ref C) = some (.type "type")) && (PySem.W.keepIn K (.ref C) &&
    (xfB K C && (decide (PySem.W.nsIn K cStatics "thirdparty.any" = some none) && (decide (PySem.W.ks_superIn K C C "__init__" = some (some (.builtin veInit))) && (decide (PySem.W.subIn K (.ref C) (.type "ValueError") = some true) && decide (PySem.W.mroIn K C (.ref C) = some true)))))))))
theorem nt_of {K : PySem.W.Frag} {C : Addr} (h : ntB K C = true) : NtC K C := by
  unfold ntB at h
  simp only [Bool.and_eq_true, decide_eq_true_eq] at h
  obtain ⟨h1, h2, h3, h4, h5, h6, h7, h8, h9, h10⟩ := h
  exact ⟨⟨ocl_of h1, h2, h3, h4, h5⟩, xfB_ok h6, h7, h8, h9, h10⟩
/-- the def at d.at_, by what its function object says -/
abbrev FnS : Type := Option (Str × Str × Arguments × FuncBody × Scope × Addr × List Str × Addr)
def fnS (K : PySem.W.Frag) (d : He.DefD) : FnS := match K.lookup (He.fAd K d.at_) with
  | some ⟨_, _, .func fd, _⟩ => some (fd.name, fd.qualname, fd.params, fd.body, fd.scope, fd.globals, fd.closure.map (·.1), fd.builtins)
  | _ => none
def fnSv (d : He.DefD) : FnS := some (d.name, d.qual, d.params, .stmts d.body, d.scope, mainGlobals, [("__class__" : Str)], builtinsNs)
def isTx (x : Str) : Option Value → Bool
  | some (.str y _) => decide (y = x)
  | _ => false
theorem isTx_of {x : Str} {o : Option Value} (h : isTx x o = true) : ∃ t, o = some (.str x t) := by
  unfold isTx at h
  split at h
  · next y t => exact ⟨t, by rw [of_decide_eq_true h]⟩
  · cases h
def supB (K : PySem.W.Frag) (file : Str) (d : He.DefD) (C : Addr) : Bool := decide (PySem.W.findIn K (.ref C) "__init__" = some (some (.ref (He.fAd K d.at_)))) && (decide (PySem.W.typeIn K (.ref (He.fAd K d.at_)) = some (.type "function")) && match K.lookup (He.fAd K d.at_) with
  | some ⟨_, _, .func fd, _⟩ => (match fd.closure, fd.code, fd.defaults with
    | [(_, cc)], .ref cda, .none => PySem.W.codeIn K (.ref cda) d.qual && ((match K.lookup cda with
      | some ⟨_, _, .fields vs, _⟩ => isTx file (vs[2]?)
      | _ => false) && (match K.lookup cc with
      | some ⟨_, _, .cell (some (.ref D)), _⟩ => decide (D = C)
      | _ => false))
    | _, _, _ => false)
  | _ => false)
theorem sup_of {K : PySem.W.Frag} {file : Str} {d : He.DefD} {C : Addr} {st : Stmt} (e : fnS K d = fnSv d) (h : supB K file d C = true) (e1 : d.params = defArgs st) (e2 : d.body = defBody st) (e3 : d.scope = defScope st) : ∃ fd, SupD K file d.name d.qual st C (He.fAd K d.at_) fd := by
  unfold supB at h
  simp only [Bool.and_eq_true, decide_eq_true_eq] at h
  obtain ⟨h1, h2, h3⟩ := h
  unfold fnS fnSv at e
  split at h3
  · next oc od fd osl hl =>
    rw [hl] at e
    obtain ⟨n1, n2, n3, n4, n5, n6, n7, n8, n9, n10, n11, n12, n13, n14, n15⟩ := fd
    simp only [Option.some.injEq, Prod.mk.injEq] at e
    obtain ⟨rfl, rfl, rfl, rfl, rfl, rfl, e7, rfl⟩ := e
    dsimp only at h3
    split at h3
    · next nm cc cda =>
      obtain rfl : nm = "__class__" := by simpa using e7
      simp only [Bool.and_eq_true] at h3
      obtain ⟨k1, k2, k3⟩ := h3
      split at k2
      · next ccl cdd vs ccs hc =>
        obtain ⟨tf, hx⟩ := isTx_of k2
        split at k3
        · next cl cld D csl hcv =>
          obtain rfl := of_decide_eq_true k3
          refine ⟨_, ⟨oc, od, n9, n10, n11, n12, cda, cc, n14, osl, ?_, hl, k1, ⟨_, _, vs, _, tf, hc, hx⟩, _, _, _, hcv⟩, h1, h2⟩
          rw [← e1, ← e2, ← e3]
        · cases k3
      · cases k2
    · cases h3
  · cases h3
/-! ### the Hook -/
structure SaysS (fa : List He.Fa) (fn : List He.DefD) (ts : List He.Tab) (tf : List He.Defn) (ex : PySem.W.Frag → Bool) (sn : List He.DefD) (w : World) (h : Heap) (K : PySem.W.Frag) : Prop where
  x : He.SaysX fa fn ts tf ex w h K
  sup : ∀ d ∈ sn, fnS K d = fnSv d
abbrev AlS : Type := He.AlX × List FnS
/-- the part of the heap that is looked at: what the module's names reach, and the statics -/
def asS (g : Addr → Option Obj) (n : Nat) : List Addr := cStatics :: He.asD g n
def obsS (n : Nat) (fa : List He.Fa) (fn : List He.DefD) (ts : List He.Tab) (tf : List He.Defn) (ex : PySem.W.Frag → Bool) (sn : List He.DefD) (g : Addr → Option Obj) : AlS :=
  ((He.obsT fa fn ts (He.frT g (asS g n)), ex (He.frT g (asS g n)) && He.tabsB g tf (He.frT g (asS g n))), sn.map (fnS (He.frT g (asS g n))))
def valSu (fn : List He.DefD) (ts : List He.Tab) (sn : List He.DefD) (w : World) : AlS := (He.valX fn ts w, sn.map fnSv)
theorem says_at {fa : List He.Fa} {fn : List He.DefD} {ts : List He.Tab} {tf : List He.Defn} {ex : PySem.W.Frag → Bool} {w : World} {h : Heap} {as : List Addr} (e : He.obsT fa fn ts (He.frT h.get? as) = He.valT fn ts w) (m : ex (He.frT h.get? as) = true)
    (tb : He.tabsB h.get? tf (He.frT h.get? as) = true) : He.SaysX fa fn ts tf ex w h (He.frT h.get? as) := by
  generalize hK : He.frT h.get? as = K at *
  have each : ∀ p ∈ tf, PySem.W.codeHdIn K (He.cT K p).1 (He.cT K p).2 = true ∧ ∃ o, h.get? (He.cT K p).2 = some o ∧ He.emptyTab o = true := fun p hp => by
    have z := List.all_eq_true.mp tb p hp
    rw [Bool.and_eq_true] at z
    cases q : h.get? (He.cT K p).2 with
    | none => rw [q] at z; cases z.2
    | some o => rw [q] at z; exact ⟨z.1, o, rfl, z.2⟩
  refine ⟨e, m, fun p hp => (each p hp).1, fun p hp => ?_, fun p hp => ?_⟩
  all_goals obtain ⟨_, o, q, z⟩ := each p hp
  · rw [← hK] at q ⊢
    exact He.frT_none q z
  · rw [q, He.emptyTab_eq z]
def hookS (n : Nat) (fa : List He.Fa) (fn : List He.DefD) (ts : List He.Tab) (tf : List He.Defn) (ex : PySem.W.Frag → Bool) (sn : List He.DefD) : PySem.W.Hook where
  α := AlS
  obs := fun s => obsS n fa fn ts tf ex sn s.heap.get?
  val := fun w => valSu fn ts sn w
  says := fun w h => ∃ K : PySem.W.Frag, K.In h ∧ SaysS fa fn ts tf ex sn w h K
  of := fun w s e => by
    have e1 : (He.obsT fa fn ts (He.frT s.heap.get? (asS s.heap.get? n)), ex (He.frT s.heap.get? (asS s.heap.get? n)) && He.tabsB s.heap.get? tf (He.frT s.heap.get? (asS s.heap.get? n))) = He.valX fn ts w := congrArg (fun z : AlS => z.1) e
    have e2 : sn.map (fnS (He.frT s.heap.get? (asS s.heap.get? n))) = sn.map fnSv := congrArg (fun z : AlS => z.2) e
    have e3 : (ex (He.frT s.heap.get? (asS s.heap.get? n)) && He.tabsB s.heap.get? tf (He.frT s.heap.get? (asS s.heap.get? n))) = true := congrArg (fun z : He.AlX => z.2) e1
    rw [Bool.and_eq_true] at e3
    exact ⟨_, He.frT_in, says_at (congrArg (fun z : He.AlX => z.1) e1) e3.1 e3.2, fun d hd => List.map_inj_left.mp e2 d hd⟩
  keeps := fun w h h' ⟨K, hK, c⟩ k => ⟨K, PySem.W.Frag.In.keeps hK k, ⟨⟨c.x.t, c.x.more, c.x.hd, c.x.out, fun p hp => k _ _ (c.x.empty p hp)⟩, c.sup⟩⟩
theorem obsS_eq {n : Nat} {fa : List He.Fa} {fn : List He.DefD} {ts : List He.Tab} {tf : List He.Defn} {ex : PySem.W.Frag → Bool} {sn : List He.DefD} {g : Addr → Option Obj} {s : Shared} (h : ∀ a, g a = s.heap.get? a) :
    obsS n fa fn ts tf ex sn g = (hookS n fa fn ts tf ex sn).obs s := by
  obtain rfl : g = s.heap.get? := funext h
  rfl
end My

set_option Elab.async false
set_option linter.all false
set_option maxRecDepth 100000
set_option maxHeartbeats 2000000
namespace My
open PySem PySem.Spec PyProof.Rows L2
/-! ### a noted exception that may have a dict: isinstance, its field -/
section
variable {P : Program} {w : World} {A : Around} {E : Value → Shared → Prop} {s : Shared} {K : PySem.W.Frag} {x D : Addr} {ox : Obj} {od : Option Obj}
theorem find_class (C : ExcC K D) : PySem.W.findObj K D od "__class__" = some (.bind (.builtin "getset_descriptor.__get__") (.builtin "object.__class__")) := by
  obtain ⟨cd, hcd⟩ : ∃ cd, PySem.W.clsIn K D = some cd := by
    have h := C.hd
    unfold PySem.W.hasDictIn at h
    cases e : PySem.W.clsIn K D with
    | none => rw [e] at h; cases h
    | some cd => exact ⟨cd, rfl⟩
  unfold PySem.W.findObj
  rw [hcd, C.ha]
  simp only [Option.bind_some, C.hn, C.ht]
theorem class_asked {Q : Option Value → Shared → Prop} (C : ExcC K D) (X : K.In s.heap) (I : PySem.W.InstAt s.heap x ox D od) (h : Q (some (.ref D)) { s with toks := s.toks + 1 }) : wpAny (model P w) A (getAttr? (.ref x) "__class__") Q E s := by
  obtain ⟨hp, g, d, t, os⟩ := s
  have T := I.type (M := model P w)
  have G := PySem.W.looks_findIn (M := model P w) X C.hg
  have N := PySem.W.looks_findIn (M := model P w) X C.hk
  have W := PySem.W.looks_find (M := model P w) X I (find_class C)
  have sub : PySem.W.Looks (model P w) hp (isInstance (.ref x) (.type "BaseException")) true := T.andThen (PySem.W.looks_subIn X C.hs)
  unfold getAttr? getAttrBy? getAttrBy
  refine wpAny_bind (wpAny_mkText (wpAny_bind (wpAny_attempt (wpAny_holding (wpAny_bind (T.at (wpAny_bind (G.at ?_))))))))
  refine wpAny_mono (Q := fun v s' => v = .ref D ∧ s' = ⟨hp, g, d, t + 1, os⟩) (E := fun _ _ => False) ?_ (fun v s' e => ?_) fun _ _ z => z.elim
  · show wpAny _ _ (getAttrByItsOwn (.ref x) (.str "__class__" t) (.ref D) (.builtin "BaseException.__getattribute__") false false) _ _ _
    unfold getAttrByItsOwn hookBefore callGetattribute boundAndCalled
    refine wpAny_bind (N.at (wpAny_bind (wpAny_attempt (wpAny_holding ?_))))
    show wpAny _ _ (bindSpecial (.builtin "BaseException.__getattribute__") (.ref x) >>= _) _ _ _
    refine wpAny_bind (wpAny_of_eq (PySem.F.excAttr_ValueError.ga.bind (.ref x)) ?_)
    refine wpAny_mono (Q := fun v s' => v = .ref D ∧ s' = ⟨hp, g, d, t + 1, os⟩) (E := fun _ _ => False) (wpAny_call (codeAny_call_builtin PySem.F.excAttr_ValueError.ga.plain PySem.F.entry_bexc_ga
      (@PySem.W.check_slot (model P w) _ _ ⟨hp, g, d, t + 1, os⟩ "BaseException.__getattribute__" "BaseException" "__getattribute__" (.ref x) [.str "__class__" t] [] _ (by decide +kernel) (by decide +kernel) sub (PySem.F.args_bexc_ga (.ref x) (.str "__class__" t)) ?_))) (fun v s' e => ?_) fun _ _ z => z.elim
    · unfold Builtin.«object.__getattribute__»
      refine wpAny_bind (wpAny_of_eq (a := ((Value.ref x : Value), [Value.str "__class__" t])) (by first | rfl | (simp only [slotArgs]; rfl)) (wpAny_bind (wpAny_pure (wpAny_bind (T.at (wpAny_bind (W.at ?_)))))))
      show wpAny _ _ (holding [Value.builtin "object.__class__"] (call (.builtin "getset_descriptor.__get__") [.builtin "object.__class__", .ref x, .ref D]) >>= ret) _ _ _
      exact wpAny_bind (wpAny_holding (wpAny_call (PySem.W.class_get (s := ⟨hp, g, d, t + 1, os⟩) (ox := ox) (od := od) X I C.hm (wpAny_pure ⟨rfl, rfl⟩))))
    · obtain ⟨rfl, rfl⟩ := e
      show wpAny _ _ (handedOut (.ref D)) _ _ _
      rw [PySem.W.handedOut_of (v := .ref D) rfl]
      exact wpAny_pure ⟨rfl, rfl⟩
  · obtain ⟨rfl, rfl⟩ := e
    exact wpAny_pure h
theorem kit_exc (C : ExcC K D) : PySem.W.KitX K (.ref x) (.ref D) (fun h => PySem.W.InstAt h x ox D od) where
  ty := fun _ _ _ I => I.type
  ca := fun X I k => class_asked C X I k
  it := fun M h X _ A Q E s k q => by
    obtain ⟨o, ho, hc⟩ : ∃ (o : Obj) (cd : ClassData), K.lookup D = some o ∧ o.data = .cls cd := by
      have h := C.hd
      unfold PySem.W.hasDictIn PySem.W.clsIn at h
      split at h
      · next c d cd sl ho => exact ⟨_, cd, ho, rfl⟩
      · cases h
    obtain ⟨oc, od, odt, osl⟩ := o
    obtain ⟨ho, hc⟩ := hc
    obtain rfl := hc
    unfold isType loadHead
    exact wpAny_bind (wpAny_loadPart (k _ _ (X _ _ ho)) (wpAny_pure q))
  ne := fun h tp dd its n sl X htp => by
    rw [beq_eq_false_iff_ne]
    rintro e
    obtain rfl := Value.ref.inj e
    have h := C.hd
    unfold PySem.W.hasDictIn PySem.W.clsIn at h
    split at h
    · next c d cd sl ho =>
      have z := X _ _ ho
      rw [htp] at z
      cases z
    · cases h
end
/-- isinstance(e, c), isinstance(e, (c, ..)), e noted, with a dict -/
def rIsD (K : PySem.W.Frag) : List V → Hp → VK → Prop := fun xs H Q => ∃ (a D d : Addr) (fs : List (Str × V)) (c : V) (b : Bool), xs = [.ref a, c] ∧ H a = some (ExD (.ref D) (some d) a) ∧ H d = some (.xd fs) ∧ ExcC K D ∧
  ((∃ cv : Value, (∀ u, RelV c u → u = cv) ∧ PySem.W.kitOne K (.ref D) cv = some b) ∨ ∃ (t : Addr) (cs : List V) (cvs : List Value), c = .ref t ∧ H t = some (.tup cs) ∧ (∀ us, Vals cs us → us = cvs) ∧ PySem.W.kitAny K (.ref D) cvs = some b) ∧ Q (.bl b) H
theorem noted_inst {X : Cx} {pins : List (Addr × Obj)} {σ : L2.St} {H : Hp} {s : Shared} {a D d : Addr} {fs : List (Str × V)} (I : Inv X pins σ H s) (ha : H a = some (ExD (.ref D) (some d) a)) (hd : H d = some (.xd fs)) :
    ∃ (oe od : Obj), PySem.W.InstAt s.heap a oe D (some od) ∧ ∀ n, ∃ r, PySem.W.lookIn n od = some r ∧ RelO (fs.lookup n) r := by
  obtain ⟨⟨oe, vs, ho, hz, hdt⟩, _, _⟩ := I.hok a _ ha
  have hx : ObjOk X.prog X.w H s.heap d (.xd fs) := I.hok d _ hd
  obtain ⟨mA, hns, hr⟩ := hx
  obtain ⟨od, hod, hl⟩ := lookIn_ns hns
  refine ⟨oe, od, ⟨ho, hz.1, ?_, ?_⟩, fun n => ⟨_, hl n, hr n⟩⟩
  · unfold PySem.W.notCls
    rw [hdt] <;> rfl
  · rw [hz.2]
    exact hod
theorem isD (K : PySem.W.Frag) {X : Cx} (hK : X.K = K := by rfl) : CallR X (.builtin "isinstance") (rIsD K) := by
  subst hK
  intro pins s σ H xs us Q I r ⟨a, D, d, fs, c, b, ex, ha, hd, C, hc, q⟩
  subst ex
  obtain ⟨x, y, rfl, rx, ry⟩ : ∃ x y, us = [x, y] ∧ RelV (.ref a) x ∧ RelV c y := by
    cases r with
    | cons r1 r2 => cases r2 with
      | cons r3 r4 => cases r4; exact ⟨_, _, rfl, r1, r3⟩
  obtain rfl : x = .ref a := rx
  obtain ⟨oe, od, J, _⟩ := noted_inst I ha hd
  have fin : ∀ tk, EP X pins σ Q (.bool b) { s with toks := tk } := fun tk => ⟨.bl b, H, I.kept (t' := tk) fun _ _ z => z, rfl, q⟩
  rcases hc with ⟨cv, hcv, e⟩ | ⟨t, cs, cvs, rfl, ht, hcv, e⟩
  · exact PySem.W.kia_one (kit_exc C) I.kIn J (hcv _ ry ▸ e) (fun z => nomatch z) fin
  · obtain rfl : y = .ref t := ry
    obtain ⟨_, its, rv, ⟨oc, od, oda, osl⟩, ht2, hcl, ⟨n, hdt⟩⟩ := I.hok t _ ht
    obtain rfl : oc = .type "tuple" := hcl
    obtain rfl : oda = .seq its.toArray n := hdt
    exact PySem.W.kia_tup (kit_exc C) I.kIn J ht2 (hcv _ rv ▸ e) (fun z => nomatch z) fin
/-- e.n, e a noted exception -/
def tXfN (K : PySem.W.Frag) (n : Str) (te : TE) : TE := fun σ H Q => te σ H fun x H1 => ∃ (a C d : Addr) (fs : List (Str × V)) (v : V), x = .ref a ∧ XfC K C ∧ PySem.W.findIn K (.ref C) n = some none ∧ H1 a = some (ExD (.ref C) (some d) a) ∧ H1 d = some (.xd fs) ∧ fs.lookup n = some v ∧ Q v H1
theorem pe_xfN {X : Cx} {e : Expr} {te : TE} {pos : Pos} {n : Str} (he : PE X e te) (hb : attributeBase e n X.env (eval e X.env) = eval e X.env := by rfl) : PE X (.Attribute e n pos) (tXfN X.K n te) := by
  refine ⟨fun pins s σ H Q I h => attr_of hb (thn (he.run pins s σ H _ I h) fun u s1 ⟨x, H1, I1, rx, a, C, d, fs, v, ex, T, hno, ha, hd, hl, q⟩ => ?_)⟩
  subst ex
  obtain rfl : u = Value.ref a := rx
  obtain ⟨oe, od, J, look⟩ := noted_inst I1 ha hd
  obtain ⟨r, e1, e2⟩ := look n
  obtain ⟨u, hu, ru⟩ := RelO.some_of (v := v) (o := r) (by rw [← hl]; exact e2)
  exact HandSPX.exc_get I1.kIn J T.ga T.gg T.exC (PySem.W.findObj_own T.hdC hno rfl (by rw [e1, hu])) (handed_of ru) ⟨v, H1, I1.tok _, ru, q⟩
/-! ### the class NoText: what a law's text leans on -/
/-- the program's file, and its module has no name super of its own -/
class PF (P : Program) : Prop where
  file : (P.main.file : Str) = "/claim/cut.py"
  top : (P.main.scope.names.lookup ("super" : Str)).isSome = false
structure NtF (K : PySem.W.Frag) (xa : Str → Addr) (A : List Str) : Prop where
  nt : NtC K (xa "NoText")
  ex : ExcC K (xa "NoText")
  le : PySem.W.exmOne K (.ref (xa "NoText")) (.ref (xa "ListError")) = some true
  se : PySem.W.exmOne K (.ref (xa "NoText")) (.ref (xa "NoText")) = some true
  ve : PySem.W.kitOne K (.ref (xa "NoText")) (.type "ValueError") = some true
  kit : ∀ m ∈ A, PySem.W.kitOne K (.ref (xa "NoText")) (.ref (xa m)) = some ((("NoText" : Str)) == m)
  no : PySem.W.findIn K (.ref (xa "NoText")) "number" = some none
def ntfB (K : PySem.W.Frag) (xa : Str → Addr) (A : List Str) : Bool :=
  ntB K (xa "NoText") && (decide (PySem.W.findIn K (.ref (xa "NoText")) "__class__" = some (some (.builtin "object.__class__"))) && (decide (PySem.W.specialIn K (.builtin "object.__class__") "__get__" = some (some (.builtin "getset_descriptor.__get__"))) &&
    (decide (PySem.W.takesIn K (.builtin "object.__class__") = some true) && (decide (PySem.W.mroIn K (xa "NoText") (.type "object") = some true) && (decide (PySem.W.exmOne K (.ref (xa "NoText")) (.ref (xa "ListError")) = some true) && (decide (PySem.W.exmOne K (.ref (xa "NoText")) (.ref (xa "NoText")) = some true) &&
      (decide (PySem.W.kitOne K (.ref (xa "NoText")) (.type "ValueError") = some true) && (A.all (fun m => decide (PySem.W.kitOne K (.ref (xa "NoText")) (.ref (xa m)) = some ((("NoText" : Str)) == m))) && decide (PySem.W.findIn K (.ref (xa "NoText")) "number" = some none)))))))))
theorem ntf_of {K : PySem.W.Frag} {xa : Str → Addr} {A : List Str} (h : ntfB K xa A = true) : NtF K xa A := by
  unfold ntfB at h
  simp only [Bool.and_eq_true, decide_eq_true_eq, List.all_eq_true] at h
  obtain ⟨h1, h2, h3, h4, h5, h6, h7, h8, h9, h10⟩ := h
  have N := nt_of h1
  exact ⟨N, ⟨N.x.ga, N.x.gg, N.x.exC, N.x.hdC, h2, h3, h4, h5⟩, h6, h7, h8, h9, h10⟩
end My

set_option Elab.async false
set_option linter.all false
set_option maxRecDepth 100000
set_option maxHeartbeats 2000000
namespace My
open PySem PySem.Spec PyProof.Rows L2
/-! ### text * number; text.replace(old, new, 1) -/
def rMulS : R2 := fun x y H Q => ∃ (z : Str) (n : Int), x = .str z ∧ y = .int n ∧ MulOk z n ∧ Q (.str (Txt.mul z n)) H
theorem op_mulS {X : Cx} : OpR X (binaryOp .Mult) rMulS := by
  intro pins s σ H x y v u Q I rx ry h
  obtain ⟨z, n, rfl, rfl, ok, q⟩ := h
  obtain ⟨t, rfl⟩ := rx
  obtain ⟨t2, rfl⟩ := ry
  exact SB.mul ok fun t' k => ⟨.str (Txt.mul z n), H, I.tok k, ⟨t', rfl⟩, q⟩
/-- a text, its first y exchanged with z -/
def rep1 (x y z : Str) : Str := if (Builtin.Str.occurrences x y 0 x.length 1).isEmpty = true then x else Builtin.Str.glued z (Builtin.Str.partsBetween x (Builtin.Str.occurrences x y 0 x.length 1) y.length)
section
open Builtin Builtin.Str
variable {P : Program} {w : World} {A : Around} {E : Value → Shared → Prop} {s : Shared} {x y z : Str} {t u v k : Tok} {Q : Value → Shared → Prop}
theorem rep1_len (h : (occurrences x y 0 x.length 1).isEmpty = false) : ∃ i, partsBetween x (occurrences x y 0 x.length 1) y.length = [strSub x 0 i, strSub x (i + y.length) x.length] := by
  have hl := StrLaws.occ_length_le x y 0 x.length 1
  match h1 : occurrences x y 0 x.length 1, h, hl with
  | [i], _, _ => exact ⟨i, rfl⟩
theorem glued2 (a b : Str) : glued z [a, b] = a ++ z ++ b := rfl
theorem sub_le (a b : Nat) : (strSub x a b).length ≤ b - a ∧ (strSub x a b).length ≤ x.length - a := by
  unfold strSub
  simp [Str.length]
  omega
theorem rep1_at (hz : 0 < y.length) : (rep1 x y z).length ≤ x.length + z.length ∧ ∀ c ∈ (rep1 x y z).cps.toList, c ∈ x.cps.toList ∨ c ∈ z.cps.toList := by
  unfold rep1
  cases h : (occurrences x y 0 x.length 1).isEmpty
  · obtain ⟨i, e⟩ := rep1_len h
    rw [if_neg (by decide), e, glued2]
    have h1 := (sub_le (x := x) 0 i)
    have h2 := (sub_le (x := x) (i + y.length) x.length)
    refine ⟨?_, fun c hc => ?_⟩
    · rw [Str.length_append, Str.length_append]
      omega
    · rw [Str.cps_append, Str.cps_append, Array.toList_append, Array.toList_append] at hc
      have sub : ∀ (a b : Nat), c ∈ (strSub x a b).cps.toList → c ∈ x.cps.toList := fun a b hx => by
        unfold strSub at hx
        simp only [Array.toList_extract, List.extract_eq_drop_take] at hx
        exact List.mem_of_mem_drop (List.mem_of_mem_take hx)
      rcases List.mem_append.mp hc with hc | hc
      · rcases List.mem_append.mp hc with hc | hc
        · exact .inl (sub _ _ hc)
        · exact .inr hc
      · exact .inl (sub _ _ hc)
  · rw [if_pos rfl]
    exact ⟨Nat.le_add_right _ _, fun c hc => .inl hc⟩
theorem replace_one (hu : u ≠ 0) (hv : v ≠ 0) (huv : u ≠ v) (hyz : (y == z) = false) (hy : 0 < y.length) (hb : x.length + z.length ≤ 16000000) (hq : ∀ t' k', Q (.str (rep1 x y z) t') { s with toks := k' }) :
    wpAny (model P w) A (call (.builtin "str.replace") [.str x t, .str y u, .str z v, .int 1 k]) Q E s := by
  have tree : «str.replace» ⟨[.str x t, .str y u, .str z v, .int 1 k], []⟩ =
      (if ((occurrences x y 0 x.length 1).isEmpty || (y.length == 0 && z.length == 0)) = true then (do rule "str.replace.nothing"; ret (.str x t)) else
        (do let same ← isSame (.str y u) (.str z v)
            if same = true then (do rule "str.replace.old-is-new"; ret (.str x t)) else
            if tooLong (x.length + (occurrences x y 0 x.length 1).length * z.length) = true then unsupported "str.replace:memory" else
            retStr (glued z (partsBetween x (occurrences x y 0 x.length 1) y.length)))) := by
    show (do let limit ← countLimit "str.replace" (some (.int 1 k)) (x.length + 1); _) = _
    rw [countLimit_int "str.replace" 1 k (x.length + 1) (by decide)]
    rfl
  have y0 : (y.length == 0 && z.length == 0) = false := by
    rw [show (y.length == 0) = false from beq_eq_false_iff_ne.mpr (by omega)]
    rfl
  rw [y0, Bool.or_false] at tree
  have line : (16777216 : Nat) ≤ sizeLine := by rw [sizeLine_eq]; decide
  have hl : tooLong (x.length + (occurrences x y 0 x.length 1).length * z.length) = false := by
    have h1 := StrLaws.occ_length_le x y 0 x.length 1
    have h2 : (occurrences x y 0 x.length 1).length * z.length ≤ 1 * z.length := Nat.mul_le_mul_right _ h1
    unfold tooLong
    exact decide_eq_false (by omega)
  have hlen := (rep1_at (x := x) (y := y) (z := z) hy).1
  unfold rep1 at hq hlen
  cases hc : (occurrences x y 0 x.length 1).isEmpty
  · rw [hc] at tree hq hlen
    refine call_gives PySem.F.slot_str_replace (typeIs_str _ _ _) PySem.F.entry_str_replace (PySem.F.args_str_replace_4 _ _ _ _) (m := .str (glued z (partsBetween x (occurrences x y 0 x.length 1) y.length))) ?_ ⟨by rw [if_neg (by decide)] at hlen; omega, ?_⟩
    · rw [tree, if_neg (by decide), PySem.isSame_str_other y z u v (by simp [hu, hv]) (by simp [huv]) hyz, hl]
      exact .of_eq rfl
    · exact hq _ _
  · rw [hc] at tree hq
    refine call_gives PySem.F.slot_str_replace (typeIs_str _ _ _) PySem.F.entry_str_replace (PySem.F.args_str_replace_4 _ _ _ _) (m := .val (.str x t)) ?_ (hq t s.toks)
    rw [tree, if_pos rfl]
    exact .rule (.of_eq rfl)
end
def tRep1 (to : TE) (y z : Str) : TE := fun σ H Q => to σ H fun v H1 => ∃ x, v = .str x ∧ x.length + z.length ≤ 16000000 ∧ Q (.str (rep1 x y z)) H1
section
variable {X : Cx} {o e f : Expr} {es : List Expr} {te tf to : TE} {ta : TA} {y z c : Str} {j k l : Nat} {c0 c1 c2 apos pos : Pos}
/-- o.replace(old, new, 1), a token out -/
theorem pet_rep1 (ho : PE X o to) (hyz : (y == z) = false := by decide) (hy : 0 < y.length := by decide)
    (hst : starEach [.Constant (.str y) j c0, .Constant (.str z) k c1, .Constant (.int 1) l c2] X.env = [(false, eval (.Constant (.str y) j c0) X.env), (false, eval (.Constant (.str z) k c1) X.env), (false, eval (.Constant (.int 1) l c2) X.env)] := by rfl)
    (hbase : attributeBase o "replace" X.env (eval o X.env) = eval o X.env := by rfl) (hline : (apos.endLine == pos.line) = true := by rfl)
    (hfew : ((backTo pos (starEach [.Constant (.str y) j c0, .Constant (.str z) k c1, .Constant (.int 1) l c2] X.env)).all (fun x => !x.1) && (backToKw pos (keywordEach [] X.env)).all (fun x => x.1.isSome)
      && decide (([.Constant (.str y) j c0, .Constant (.str z) k c1, .Constant (.int 1) l c2] : List Expr).length + ([] : List Keyword).length + (if ([] : List Keyword).isEmpty then 0 else 1) < 30)) = true := by rfl) :
    PET X (.Call (.Attribute o "replace" apos) [.Constant (.str y) j c0, .Constant (.str z) k c1, .Constant (.int 1) l c2] [] pos) (tRep1 to y z) := by
  intro pins s σ H Q h0 I h
  refine wpAny_Call_method_late hbase hfew hline rfl (wpAny_mono (PySem.wpAny_toks (ho.run pins s σ H _ I h)) (fun v s1 q => ?_) fun _ _ z => z.2)
  obtain ⟨hk, vv, H1, I1, rv, x, ex, hb, q⟩ := q
  subst ex
  obtain ⟨tk, et⟩ := rv
  subst et
  refine ⟨"str", "str.replace", PySem.F.plainAttrs_str, PySem.F.slot_str_replace, PySem.F.type_str_replace, typeIs_str _ _ _, (fun _ e => nomatch e), ?_⟩
  rw [hst]
  refine Calls.callWith_builtin rfl (Calls.evalArgs_plain (Calls.spliced_cons ?_))
  refine Calls.Constant_str (k := j) (pos := c0) (Calls.spliced_cons (Calls.Constant_str (k := k) (pos := c1) (Calls.spliced_cons ?_)))
  refine wpAny_Constant_int (k := l) (pos := c2) (Calls.spliced_nil ?_)
  exact replace_one (by show s1.toks ≠ 0; omega) (by show s1.toks + 1 ≠ 0; omega) (by show s1.toks ≠ s1.toks + 1; omega) hyz hy hb fun t' k => ⟨.str (rep1 x y z), H1, I1.tok k, ⟨t', rfl⟩, q⟩
/-- an expression behind which a token is out -/
def PEP (X : Cx) (e : Expr) (t : TE) : Prop := ∀ (pins : List (Addr × Obj)) (s : Shared) (σ : L2.St) (H : Hp) (Q : VK), Inv X pins σ H s → t σ H Q → wpAny (model X.prog X.w) X.A (eval e X.env) (fun v s' => 1 ≤ s'.toks ∧ EP X pins σ Q v s') X.xe s
theorem pep_op {op : Operator} {r : R2} (hr : OpR X (binaryOp op) r) (he : PE X e te) : PEP X (.BinOp (.Constant (.str c) j c0) op e pos) (tOp r (tC (.str c)) te) := by
  intro pins s σ H Q I h
  refine wpAny_BinOp (Calls.Constant_str ?_)
  have step := thn (he.run pins { s with toks := s.toks + 1 } σ H _ (I.tok _) h) fun u s2 ⟨y, H2, I2, r2, q2⟩ => hr pins s2 σ H2 (.str c) y (.str c s.toks) u Q I2 ⟨s.toks, rfl⟩ r2 q2
  refine wpAny_mono (PySem.wpAny_toks step) (fun u s2 q => ?_) fun _ _ z => z.2
  have hk : s.toks + 1 ≤ s2.toks := q.1
  refine wpAny_mono (PySem.wpAny_toks q.2) (fun v s3 q3 => ⟨?_, q3.2⟩) fun _ _ z => z.2
  have := q3.1
  omega
theorem pa_consP (ha : PEP X e te) (hr : PAT X es ta) (hs : starEach (e :: es) X.env = (false, eval e X.env) :: starEach es X.env := by rfl) : PA X (e :: es) (tCons te ta) := by
  refine ⟨fun pos pins s σ H Q I h => ?_⟩
  rw [hs]
  show wpAny _ _ (spliced ((false, eval e X.env) :: backTo pos (starEach es X.env))) _ _ s
  refine Calls.spliced_cons (thn (ha pins s σ H _ I h) fun v s1 ⟨hk, x, H1, I1, r1, q1⟩ => ?_)
  exact thn (hr pos pins s1 σ H1 _ hk I1 q1) fun us s2 ⟨xs, H2, I2, r2, q2⟩ => ⟨x :: xs, H2, I2, .cons r1 r2, q2⟩
end
end My

set_option Elab.async false
set_option linter.all false
set_option maxRecDepth 100000
set_option maxHeartbeats 2000000
namespace My
open PySem PySem.Spec PyProof.Rows L2
/-! ### texts of which only a bound is told -/
/-- a text of at most m signs, all below 1000 -/
structure Tbd (m : Nat) (w : Str) : Prop where
  len : w.length ≤ m
  ok : ∀ c ∈ w.cps.toList, c < 1000
theorem Tbd.mono {m n : Nat} {w : Str} (h : Tbd m w) (e : m ≤ n) : Tbd n w := ⟨Nat.le_trans h.len e, h.ok⟩
theorem Tbd.app {m n : Nat} {v w : Str} (h : Tbd m v) (g : Tbd n w) : Tbd (m + n) (v ++ w) := by
  refine ⟨?_, fun c hc => ?_⟩
  · rw [Str.length_append]
    exact Nat.add_le_add h.len g.len
  · rw [Str.cps_append, Array.toList_append] at hc
    rcases List.mem_append.mp hc with z | z
    · exact h.ok c z
    · exact g.ok c z
theorem Tbd.tx {m : Nat} {l : List Nat} (h1 : l.length ≤ m) (h2 : ∀ c ∈ l, c < 1000) : Tbd m (txS l) := ⟨by show l.toArray.size ≤ m; simpa using h1, fun c hc => h2 c (by simpa using hc)⟩
/-- an expression that tells some text of at most m signs -/
def Txy (m : Nat) (t : TE) (σ : L2.St) : Prop := ∀ (H : Hp) (Q : VK), (∀ w, Tbd m w → Q (.str w) H) → t σ H Q
abbrev tAddS (a b : TE) : TE := tOp (fun x y H Q => ∃ i j, x = V.str i ∧ y = V.str j ∧ i.length + j.length ≤ sizeLine ∧ Q (V.str (i ++ j)) H) a b
theorem Txy.c {σ : L2.St} {w : Str} (h : ∀ c ∈ w.cps.toList, c < 1000) : Txy w.length (tC (.str w)) σ := fun H Q q => q w ⟨Nat.le_refl _, h⟩
theorem Txy.v {σ : L2.St} {m i : Nat} {w : Str} (e : σ[i]? = some (some (.str w))) (h : Tbd m w) : Txy m (tVar i) σ := fun H Q q => ⟨_, e, q w h⟩
theorem Txy.app {σ : L2.St} {m n : Nat} {a b : TE} (h : Txy m a σ) (g : Txy n b σ) (e : m + n ≤ 1000000) : Txy (m + n) (tAddS a b) σ := fun H Q q =>
  h H _ fun v hv => g H _ fun w hw => ⟨v, w, rfl, rfl, by
    have line : (1000000 : Nat) ≤ sizeLine := by rw [sizeLine_eq]; decide
    have := hv.len
    have := hw.len
    omega, q _ (hv.app hw)⟩
theorem Txy.mul {σ : L2.St} {w : Str} {n : Int} (ok : MulOk w n) (h : ∀ c ∈ (Txt.mul w n).cps.toList, c < 1000) : Txy (Txt.mul w n).length (tOp rMulS (tC (.str w)) (tC (.int n))) σ := fun H Q q => ⟨w, n, rfl, rfl, ok, q _ ⟨Nat.le_refl _, h⟩⟩
/-- a display of such texts -/
def TxL (M n : Nat) (t : TA) (σ : L2.St) : Prop := ∀ (H : Hp) (Q : List V → Hp → Prop), (∀ ws : List Str, ws.length = n → (∀ w ∈ ws, Tbd M w) → Q (ws.map V.str) H) → t σ H Q
theorem TxL.nil {M : Nat} {σ : L2.St} : TxL M 0 tNil σ := fun H Q q => q [] rfl fun _ h => nomatch h
theorem TxL.cons {M m n : Nat} {σ : L2.St} {e : TE} {t : TA} (h : Txy m e σ) (hm : m ≤ M) (g : TxL M n t σ) : TxL M (n + 1) (tCons e t) σ := fun H Q q =>
  h H _ fun w hw => g H _ fun ws h1 h2 => q (w :: ws) (congrArg (· + 1) h1) fun x hx => by
    rcases List.mem_cons.mp hx with rfl | hx
    · exact hw.mono hm
    · exact h2 x hx
theorem TxL.lst {M n : Nat} {σ : L2.St} {t : TA} {H : Hp} {Q : VK} (h : TxL M n t σ) (hn : n ≤ 10000) (q : ∀ (ws : List Str) (p : Addr), ws.length = n → (∀ w ∈ ws, Tbd M w) → H p = none → Q (.ref p) (upd H p (.lst (ws.map V.str)))) : tLst t σ H Q :=
  h H _ fun ws h1 h2 => ⟨by rw [List.length_map, h1]; exact Nat.le_trans hn (by rw [sizeLine_eq]; decide), fun p np => q ws p h1 h2 np⟩
/-- c.upper(), c one sign -/
theorem Txy.upper {σ : L2.St} {i c : Nat} (e : σ[i]? = some (some (tx [c]))) (h : c < 128) : Txy 1 (tM0 (fun x xs H Q => ∃ a, x = .str a ∧ xs = [] ∧ a.length ≤ 5592405 ∧ Q (.str (Txt.upper a)) H) (tVar i)) σ := fun H Q q =>
  ⟨_, e, ⟨_, rfl⟩, _, rfl, rfl, (by show 1 ≤ 5592405; decide), by
    rw [upper_tx (l := [c]) (fun x hx => by rw [List.mem_singleton.mp hx]; exact h)]
    exact q _ (Tbd.tx (Nat.le_refl _) fun x hx => by
      obtain rfl := List.mem_singleton.mp hx
      have : ∀ k, k < 128 → up1 k < 1000 := by decide +kernel
      exact this c h)⟩
/-! texts joined by blanks -/
def wtS (ws : List Str) : Nat := (ws.map fun w => w.length + 1).sum
theorem wtS_app (a b : List Str) : wtS (a ++ b) = wtS a + wtS b := by
  unfold wtS
  rw [List.map_append, List.sum_append]
theorem wtS_td (a : List Str) (i : Nat) : wtS (a.take i) + wtS (a.drop i) = wtS a := by
  rw [← wtS_app, List.take_append_drop]
theorem join_tb : ∀ {ws : List Str}, (∀ w ∈ ws, ∀ c ∈ w.cps.toList, c < 1000) → Tbd (wtS ws) (Txt.join (Str.ofString " ") ws)
  | [], _ => ⟨Nat.le_refl _, fun c hc => by cases hc⟩
  | [w], h => by
    refine ⟨?_, h w List.mem_cons_self⟩
    show w.length ≤ w.length + 1 + 0
    omega
  | w :: v :: ws, h => by
    have ih := join_tb (ws := v :: ws) fun x hx => h x (List.mem_cons_of_mem _ hx)
    have e : Txt.join (Str.ofString " ") (w :: v :: ws) = w ++ Str.ofString " " ++ Txt.join (Str.ofString " ") (v :: ws) := by
      rw [TL.join_eq, TL.join_eq]
      rfl
    rw [e]
    have hw : Tbd w.length w := ⟨Nat.le_refl _, h w List.mem_cons_self⟩
    have hb : Tbd 1 (Str.ofString " ") := ⟨by decide, by decide +kernel⟩
    exact ((hw.app hb).app ih).mono (by
      show w.length + 1 + wtS (v :: ws) ≤ (w.length + 1) + wtS (v :: ws)
      omega)
end My

set_option Elab.async false
set_option linter.all false
set_option maxRecDepth 100000
set_option maxHeartbeats 2000000
namespace My
open PySem PySem.Spec PyProof.Rows L2
/-! ### expressions that tell a list of texts, taken from a list W at wl -/
def LsE (wl : Addr) (W : List Str) (t : TE) (σ : L2.St) (ws : List Str) : Prop := ∀ (H : Hp) (Q : VK), H wl = some (.lst (W.map V.str)) → (∀ p H', Same H H' → H' p = some (.lst (ws.map V.str)) → Q (.ref p) H') → t σ H Q
section
variable {K : PySem.W.Frag} {wl : Addr} {W : List Str} {σ : L2.St} {i j : Nat} {k : Nat}
abbrev tPlus1 (j : Nat) : TE := tOp (rI0 fun i j => V.int (i + j)) (tVar j) (tC (.int 1))
theorem LsE.v (e : σ[i]? = some (some (.ref wl))) : LsE wl W (tVar i) σ W := fun H Q h q => ⟨_, e, q wl H (Same.refl H) h⟩
theorem LsE.to (e : σ[i]? = some (some (.ref wl))) (ej : σ[j]? = some (some (.int (k : Nat)))) : LsE wl W (tSl (rSlL K) (tVar i) tNoPart (tPart (tVar j))) σ (W.take k) := fun H Q h q =>
  ⟨_, e, _, ej, _, rfl, wl, _, rfl, .inl (.inl h), fun p np => q p _ (Same.new (Same.refl H) np) (by rw [upd_same, cut_to, List.map_take])⟩
theorem LsE.of (e : σ[i]? = some (some (.ref wl))) (ej : σ[j]? = some (some (.int (k : Nat)))) (hk : k ≤ W.length) : LsE wl W (tSl (rSlL K) (tVar i) (tPart (tVar j)) tNoPart) σ (W.drop k) := fun H Q h q =>
  ⟨_, e, _, ej, _, rfl, wl, _, rfl, .inl (.inl h), fun p np => q p _ (Same.new (Same.refl H) np) (by rw [upd_same, cut_of _ _ (by rw [List.length_map]; exact hk), List.map_drop])⟩
theorem LsE.of1 (e : σ[i]? = some (some (.ref wl))) (ej : σ[j]? = some (some (.int (k : Nat)))) (hk : k < W.length) : LsE wl W (tSl (rSlL K) (tVar i) (tPart (tPlus1 j)) tNoPart) σ (W.drop (k + 1)) := fun H Q h q =>
  ⟨_, e, _, ej, _, _, rfl, rfl, _, rfl, wl, _, rfl, .inl (.inl h), fun p np => q p _ (Same.new (Same.refl H) np) (by
    rw [upd_same, show ((k : Int) + 1) = ((k + 1 : Nat) : Int) by omega, cut_of _ _ (by rw [List.length_map]; exact hk), List.map_drop])⟩
theorem cut_midV (xs : List V) (a b : Nat) (ha : a ≤ xs.length) : cutV xs (some (a : Int)) (some (b : Int)) = (xs.drop a).take (b - a) := by
  unfold cutV
  rw [HT.sIx_nat, HT.sIx_nat, Nat.min_eq_left ha]
  by_cases hb : b ≤ xs.length
  · rw [Nat.min_eq_left hb]
  · rw [Nat.min_eq_right (by omega), List.take_of_length_le (by rw [List.length_drop]; omega), List.take_of_length_le (by rw [List.length_drop]; omega)]
theorem LsE.one (e : σ[i]? = some (some (.ref wl))) (ej : σ[j]? = some (some (.int (k : Nat)))) (hk : k ≤ W.length) : LsE wl W (tSl (rSlL K) (tVar i) (tPart (tVar j)) (tPart (tPlus1 j))) σ ((W.drop k).take 1) := fun H Q h q =>
  ⟨_, e, _, ej, _, rfl, _, ej, _, _, rfl, rfl, _, rfl, wl, _, rfl, .inl (.inl h), fun p np => q p _ (Same.new (Same.refl H) np) (by
    rw [upd_same, show ((k : Int) + 1) = ((k + 1 : Nat) : Int) by omega, cut_midV _ _ _ (by rw [List.length_map]; exact hk), show k + 1 - k = 1 by omega, List.map_take, List.map_drop])⟩
theorem LsE.dis {w : Str} (e : σ[i]? = some (some (.str w))) : LsE wl W (tLst (tCons (tVar i) tNil)) σ [w] := fun H Q h q =>
  ⟨_, e, (by show 1 ≤ sizeLine; decide), fun p np => q p _ (Same.new (Same.refl H) np) upd_same⟩
theorem LsE.cat {a b : TE} {ws vs : List Str} (h : LsE wl W a σ ws) (g : LsE wl W b σ vs) (hl : ws.length + vs.length ≤ 1000000) : LsE wl W (tOp rCat a b) σ (ws ++ vs) := fun H Q hw q =>
  h H _ hw fun p1 H1 sm1 h1 => g H1 _ (sm1 _ _ hw) fun p2 H2 sm2 h2 => ⟨p1, p2, _, _, rfl, rfl, sm2 _ _ h1, h2, by
    have line : (1000000 : Nat) ≤ sizeLine := by rw [sizeLine_eq]; decide
    rw [List.length_map, List.length_map]
    omega, fun p3 np3 => q p3 _ (Same.new (Same.trans sm1 sm2) np3) (by rw [upd_same, List.map_append])⟩
theorem wtS_len (ws : List Str) : (ws.map fun w => w.length).sum + ws.length = wtS ws := by
  induction ws with
  | nil => rfl
  | cons w ws ih =>
    show w.length + (ws.map fun w => w.length).sum + (ws.length + 1) = w.length + 1 + wtS ws
    omega
theorem LsE.join {t : TE} {ws : List Str} (h : LsE wl W t σ ws) (hs : wtS ws ≤ 1000000) {H : Hp} {Q : VK} (hw : H wl = some (.lst (W.map V.str))) (q : ∀ H', Same H H' → Q (.str (Txt.join (Str.ofString " ") ws)) H') :
    tM1 (fun x xs H Q => ∃ a p, ∃ ys : List Str, x = .str a ∧ xs = [.ref p] ∧ (SqL K H p (ys.map V.str) ∨ SqT K H p (ys.map V.str)) ∧ (ys.map (·.length)).sum + ys.length * a.length ≤ 16777216 ∧ Q (.str (Txt.join a ys)) H) (tC (.str (Str.ofString " "))) t σ H Q := by
  refine ⟨⟨_, rfl⟩, h H _ hw fun p H' sm hp => ⟨_, p, ws, rfl, rfl, .inl (.inl (.inl hp)), ?_, q H' sm⟩⟩
  have e := wtS_len ws
  rw [show (Str.ofString " ").length = 1 from rfl, Nat.mul_one]
  omega
end
end My

set_option Elab.async false
set_option linter.all false
set_option maxRecDepth 100000
set_option maxHeartbeats 1000000
namespace My
open PySem PySem.Spec PyProof.Rows L2
def topS (i : Nat) : Stmt := PySem.Challenge.pw_stretchkeep_k50_questions_written_and_re.main.body.getD i (.Pass ⟨0, 0, 0, 0⟩)
abbrev s_is_whole : Stmt := topS 9
theorem sc_is_whole : FnScope ["thing"] ["thing"] (defScope s_is_whole) := ⟨rfl, rfl, rfl, by decide +kernel, rfl, by decide +kernel, by decide +kernel⟩
abbrev s_is_number : Stmt := topS 10
theorem sc_is_number : FnScope ["thing"] ["thing"] (defScope s_is_number) := ⟨rfl, rfl, rfl, by decide +kernel, rfl, by decide +kernel, by decide +kernel⟩
abbrev s_is_rising : Stmt := topS 11
theorem sc_is_rising : FnScope ["things", "at"] ["things"] (defScope s_is_rising) := ⟨rfl, rfl, rfl, by decide +kernel, rfl, by decide +kernel, by decide +kernel⟩
abbrev s_is_letter : Stmt := topS 13
theorem sc_is_letter : FnScope ["columns", "thing"] ["columns", "thing"] (defScope s_is_letter) := ⟨rfl, rfl, rfl, by decide +kernel, rfl, by decide +kernel, by decide +kernel⟩
abbrev s_is_equal : Stmt := topS 14
theorem sc_is_equal : FnScope ["columns", "thing", "letter", "number"] ["columns", "thing"] (defScope s_is_equal) := ⟨rfl, rfl, rfl, by decide +kernel, rfl, by decide +kernel, by decide +kernel⟩
abbrev s_letters_of : Stmt := topS 15
theorem sc_letters_of : FnScope ["equals", "letter", "number"] ["equals"] (defScope s_letters_of) := ⟨rfl, rfl, rfl, by decide +kernel, rfl, by decide +kernel, by decide +kernel⟩
abbrev s_is_equals : Stmt := topS 16
theorem sc_is_equals : FnScope ["columns", "thing", "part"] ["columns", "thing"] (defScope s_is_equals) := ⟨rfl, rfl, rfl, by decide +kernel, rfl, by decide +kernel, by decide +kernel⟩
abbrev s_is_reach : Stmt := topS 17
theorem sc_is_reach : FnScope ["columns", "thing", "letter", "low", "high"] ["columns", "thing"] (defScope s_is_reach) := ⟨rfl, rfl, rfl, by decide +kernel, rfl, by decide +kernel, by decide +kernel⟩
abbrev s_is_question : Stmt := topS 18
theorem sc_is_question : FnScope ["columns", "thing", "equals", "reach"] ["columns", "thing"] (defScope s_is_question) := ⟨rfl, rfl, rfl, by decide +kernel, rfl, by decide +kernel, by decide +kernel⟩
abbrev s_joined : Stmt := topS 20
theorem sc_joined : FnScope ["words"] ["words"] (defScope s_joined) := ⟨rfl, rfl, rfl, by decide +kernel, rfl, by decide +kernel, by decide +kernel⟩
abbrev s_question_text : Stmt := topS 21
theorem sc_question_text : FnScope ["question", "equals", "reach", "letter", "words", "low", "high", "number"] ["question"] (defScope s_question_text) := ⟨rfl, rfl, rfl, by decide +kernel, rfl, by decide +kernel, by decide +kernel⟩
abbrev s_read_number : Stmt := topS 22
theorem sc_read_number : FnScope ["word", "greatest", "number", "sign"] ["word", "greatest"] (defScope s_read_number) := ⟨rfl, rfl, rfl, by decide +kernel, rfl, by decide +kernel, by decide +kernel⟩
abbrev s_with_word : Stmt := topS 23
theorem sc_with_word : FnScope ["question", "word", "equals", "reach", "letter", "sign", "rest", "low", "dots", "high"] ["question", "word"] (defScope s_with_word) := ⟨rfl, rfl, rfl, by decide +kernel, rfl, by decide +kernel, by decide +kernel⟩
abbrev s_read_question : Stmt := topS 24
theorem sc_read_question : FnScope ["columns", "text", "question", "at", "word"] ["columns", "text"] (defScope s_read_question) := ⟨rfl, rfl, rfl, by decide +kernel, rfl, by decide +kernel, by decide +kernel⟩
abbrev s_l_bag : Stmt := topS 26
theorem sc_l_bag : FnScope ["script"] ["script"] (defScope s_l_bag) := ⟨rfl, rfl, rfl, by decide +kernel, rfl, by decide +kernel, by decide +kernel⟩
abbrev s_l_lot : Stmt := topS 27
theorem sc_l_lot : FnScope ["bag", "many", "at", "cell", "one", "two", "three", "found"] ["bag", "many"] (defScope s_l_lot) := ⟨rfl, rfl, rfl, by decide +kernel, rfl, by decide +kernel, by decide +kernel⟩
abbrev s_l_columns : Stmt := topS 28
theorem sc_l_columns : FnScope ["bag", "most", "left", "found", "k"] ["bag", "most"] (defScope s_l_columns) := ⟨rfl, rfl, rfl, by decide +kernel, rfl, by decide +kernel, by decide +kernel⟩
abbrev s_l_table : Stmt := topS 29
theorem sc_l_table : FnScope ["bag", "most", "rows", "columns", "spread", "found", "k", "letter"] ["bag", "most", "rows"] (defScope s_l_table) := ⟨rfl, rfl, rfl, by decide +kernel, rfl, by decide +kernel, by decide +kernel⟩
abbrev s_l_near : Stmt := topS 30
theorem sc_l_near : FnScope ["bag", "table", "at", "way", "number"] ["bag", "table", "at"] (defScope s_l_near) := ⟨rfl, rfl, rfl, by decide +kernel, rfl, by decide +kernel, by decide +kernel⟩
abbrev s_l_question : Stmt := topS 31
theorem sc_l_question : FnScope ["bag", "table", "columns", "equals", "others", "at", "letter", "some"] ["bag", "table"] (defScope s_l_question) := ⟨rfl, rfl, rfl, by decide +kernel, rfl, by decide +kernel, by decide +kernel⟩
abbrev s_l_same : Stmt := topS 32
theorem sc_l_same : FnScope ["found", "due", "one", "other"] ["found", "due"] (defScope s_l_same) := ⟨rfl, rfl, rfl, by decide +kernel, rfl, by decide +kernel, by decide +kernel⟩
abbrev s_l_question_text : Stmt := topS 33
theorem sc_l_question_text : FnScope ["question", "letter", "words", "low", "high", "number"] ["question"] (defScope s_l_question_text) := ⟨rfl, rfl, rfl, by decide +kernel, rfl, by decide +kernel, by decide +kernel⟩
abbrev s_l_number : Stmt := topS 34
theorem sc_l_number : FnScope ["word", "sign"] ["word"] (defScope s_l_number) := ⟨rfl, rfl, rfl, by decide +kernel, rfl, by decide +kernel, by decide +kernel⟩
abbrev s_l_word : Stmt := topS 35
theorem sc_l_word : FnScope ["columns", "word", "letters", "number", "low", "dots", "high", "bounds"] ["columns", "word", "letters"] (defScope s_l_word) := ⟨rfl, rfl, rfl, by decide +kernel, rfl, by decide +kernel, by decide +kernel⟩
abbrev s_l_read : Stmt := topS 36
theorem sc_l_read : FnScope ["columns", "text", "equals", "reach", "at", "word", "found", "letter", "number"] ["columns", "text"] (defScope s_l_read) := ⟨rfl, rfl, rfl, by decide +kernel, rfl, by decide +kernel, by decide +kernel⟩
abbrev s_l_bent : Stmt := topS 37
theorem sc_l_bent : FnScope ["bag", "columns", "text", "words", "at", "letter", "other", "number", "odd", "word", "way", "some"] ["bag", "columns", "text"] (defScope s_l_bent) := ⟨rfl, rfl, rfl, by decide +kernel, rfl, by decide +kernel, by decide +kernel⟩
abbrev s_l_sign_spoilt : Stmt := topS 38
theorem sc_l_sign_spoilt : FnScope ["bag", "text", "at", "signs", "sign"] ["bag", "text"] (defScope s_l_sign_spoilt) := ⟨rfl, rfl, rfl, by decide +kernel, rfl, by decide +kernel, by decide +kernel⟩
abbrev s_l_told : Stmt := topS 39
theorem sc_l_told : FnScope ["columns", "text", "caught", "found", "e"] ["columns", "text"] (defScope s_l_told) := ⟨rfl, rfl, rfl, by decide +kernel, rfl, by decide +kernel, by decide +kernel⟩
abbrev s_law : Stmt := topS 40
theorem sc_law : FnScope ["script", "bag", "turn", "table", "question", "first", "text", "k", "spoilt"] ["script"] (defScope s_law) := ⟨rfl, rfl, rfl, by decide +kernel, rfl, by decide +kernel, by decide +kernel⟩
abbrev s_NoText___init__ : Stmt := inClass (topS 6) 0
structure Ad where
  f_is_whole : Addr
  d_is_whole : FuncData
  f_is_number : Addr
  d_is_number : FuncData
  f_is_rising : Addr
  d_is_rising : FuncData
  c_is_rising : Addr
  P_is_rising : Addr
  f_is_letter : Addr
  d_is_letter : FuncData
  f_is_equal : Addr
  d_is_equal : FuncData
  f_letters_of : Addr
  d_letters_of : FuncData
  f_is_equals : Addr
  d_is_equals : FuncData
  c_is_equals : Addr
  P_is_equals : Addr
  f_is_reach : Addr
  d_is_reach : FuncData
  f_is_question : Addr
  d_is_question : FuncData
  f_joined : Addr
  d_joined : FuncData
  f_question_text : Addr
  d_question_text : FuncData
  f_read_number : Addr
  d_read_number : FuncData
  c_read_number : Addr
  P_read_number : Addr
  f_with_word : Addr
  d_with_word : FuncData
  f_read_question : Addr
  d_read_question : FuncData
  f_l_bag : Addr
  d_l_bag : FuncData
  f_l_lot : Addr
  d_l_lot : FuncData
  f_l_columns : Addr
  d_l_columns : FuncData
  f_l_table : Addr
  d_l_table : FuncData
  f_l_near : Addr
  d_l_near : FuncData
  f_l_question : Addr
  d_l_question : FuncData
  f_l_same : Addr
  d_l_same : FuncData
  f_l_question_text : Addr
  d_l_question_text : FuncData
  f_l_number : Addr
  d_l_number : FuncData
  f_l_word : Addr
  d_l_word : FuncData
  f_l_read : Addr
  d_l_read : FuncData
  f_l_bent : Addr
  d_l_bent : FuncData
  f_l_sign_spoilt : Addr
  d_l_sign_spoilt : FuncData
  f_l_told : Addr
  d_l_told : FuncData
  f_law : Addr
  d_law : FuncData
  k_GREATEST : Tok
  xa : Str → Addr
  f_NoText___init__ : Addr
  d_NoText___init__ : FuncData
abbrev Ad.Ps (Z : Ad) : List Addr := [Z.P_is_rising, Z.P_is_equals, Z.P_read_number]
structure Tb (base : Heap) (mg : Str → Option Value) (Z : Ad) : Prop where
  t_is_rising : LamX.TabB base mg Z.c_is_rising Z.P_is_rising
  t_is_equals : LamX.TabB base mg Z.c_is_equals Z.P_is_equals
  t_read_number : LamX.TabB base mg Z.c_read_number Z.P_read_number
structure Tx (K : PySem.W.Frag) (mg : Str → Option Value) (Z : Ad) : Prop where
  F_is_whole : Fun K "is_whole" "is_whole" s_is_whole Z.f_is_whole Z.d_is_whole
  b_is_whole : Binds K Z.d_is_whole ["thing"] []
  g_is_whole : mg "is_whole" = some (.ref Z.f_is_whole)
  F_is_number : Fun K "is_number" "is_number" s_is_number Z.f_is_number Z.d_is_number
  b_is_number : Binds K Z.d_is_number ["thing"] []
  g_is_number : mg "is_number" = some (.ref Z.f_is_number)
  F_is_rising : Fun K "is_rising" "is_rising" s_is_rising Z.f_is_rising Z.d_is_rising
  C_is_rising : FunC K "is_rising" "is_rising" s_is_rising Z.f_is_rising Z.d_is_rising Z.c_is_rising
  b_is_rising : Binds K Z.d_is_rising ["things"] []
  g_is_rising : mg "is_rising" = some (.ref Z.f_is_rising)
  F_is_letter : Fun K "is_letter" "is_letter" s_is_letter Z.f_is_letter Z.d_is_letter
  b_is_letter : Binds K Z.d_is_letter ["columns", "thing"] []
  g_is_letter : mg "is_letter" = some (.ref Z.f_is_letter)
  F_is_equal : Fun K "is_equal" "is_equal" s_is_equal Z.f_is_equal Z.d_is_equal
  b_is_equal : Binds K Z.d_is_equal ["columns", "thing"] []
  g_is_equal : mg "is_equal" = some (.ref Z.f_is_equal)
  F_letters_of : Fun K "letters_of" "letters_of" s_letters_of Z.f_letters_of Z.d_letters_of
  b_letters_of : Binds K Z.d_letters_of ["equals"] []
  g_letters_of : mg "letters_of" = some (.ref Z.f_letters_of)
  F_is_equals : Fun K "is_equals" "is_equals" s_is_equals Z.f_is_equals Z.d_is_equals
  C_is_equals : FunC K "is_equals" "is_equals" s_is_equals Z.f_is_equals Z.d_is_equals Z.c_is_equals
  b_is_equals : Binds K Z.d_is_equals ["columns", "thing"] []
  g_is_equals : mg "is_equals" = some (.ref Z.f_is_equals)
  F_is_reach : Fun K "is_reach" "is_reach" s_is_reach Z.f_is_reach Z.d_is_reach
  b_is_reach : Binds K Z.d_is_reach ["columns", "thing"] []
  g_is_reach : mg "is_reach" = some (.ref Z.f_is_reach)
  F_is_question : Fun K "is_question" "is_question" s_is_question Z.f_is_question Z.d_is_question
  b_is_question : Binds K Z.d_is_question ["columns", "thing"] []
  g_is_question : mg "is_question" = some (.ref Z.f_is_question)
  F_joined : Fun K "joined" "joined" s_joined Z.f_joined Z.d_joined
  b_joined : Binds K Z.d_joined ["words"] []
  g_joined : mg "joined" = some (.ref Z.f_joined)
  F_question_text : Fun K "question_text" "question_text" s_question_text Z.f_question_text Z.d_question_text
  b_question_text : Binds K Z.d_question_text ["question"] []
  g_question_text : mg "question_text" = some (.ref Z.f_question_text)
  F_read_number : Fun K "read_number" "read_number" s_read_number Z.f_read_number Z.d_read_number
  C_read_number : FunC K "read_number" "read_number" s_read_number Z.f_read_number Z.d_read_number Z.c_read_number
  b_read_number : Binds K Z.d_read_number ["word", "greatest"] []
  g_read_number : mg "read_number" = some (.ref Z.f_read_number)
  F_with_word : Fun K "with_word" "with_word" s_with_word Z.f_with_word Z.d_with_word
  b_with_word : Binds K Z.d_with_word ["question", "word"] []
  g_with_word : mg "with_word" = some (.ref Z.f_with_word)
  F_read_question : Fun K "read_question" "read_question" s_read_question Z.f_read_question Z.d_read_question
  b_read_question : Binds K Z.d_read_question ["columns", "text"] []
  g_read_question : mg "read_question" = some (.ref Z.f_read_question)
  F_l_bag : Fun K "_law_bag" "_law_bag" s_l_bag Z.f_l_bag Z.d_l_bag
  b_l_bag : Binds K Z.d_l_bag ["script"] []
  g_l_bag : mg "_law_bag" = some (.ref Z.f_l_bag)
  F_l_lot : Fun K "_law_lot" "_law_lot" s_l_lot Z.f_l_lot Z.d_l_lot
  b_l_lot : Binds K Z.d_l_lot ["bag", "many"] []
  g_l_lot : mg "_law_lot" = some (.ref Z.f_l_lot)
  F_l_columns : Fun K "_law_columns" "_law_columns" s_l_columns Z.f_l_columns Z.d_l_columns
  b_l_columns : Binds K Z.d_l_columns ["bag", "most"] []
  g_l_columns : mg "_law_columns" = some (.ref Z.f_l_columns)
  F_l_table : Fun K "_law_table" "_law_table" s_l_table Z.f_l_table Z.d_l_table
  b_l_table : Binds K Z.d_l_table ["bag", "most", "rows"] []
  g_l_table : mg "_law_table" = some (.ref Z.f_l_table)
  F_l_near : Fun K "_law_near" "_law_near" s_l_near Z.f_l_near Z.d_l_near
  b_l_near : Binds K Z.d_l_near ["bag", "table", "at"] []
  g_l_near : mg "_law_near" = some (.ref Z.f_l_near)
  F_l_question : Fun K "_law_question" "_law_question" s_l_question Z.f_l_question Z.d_l_question
  b_l_question : Binds K Z.d_l_question ["bag", "table"] []
  g_l_question : mg "_law_question" = some (.ref Z.f_l_question)
  F_l_same : Fun K "_law_same" "_law_same" s_l_same Z.f_l_same Z.d_l_same
  b_l_same : Binds K Z.d_l_same ["found", "due"] []
  g_l_same : mg "_law_same" = some (.ref Z.f_l_same)
  F_l_question_text : Fun K "_law_question_text" "_law_question_text" s_l_question_text Z.f_l_question_text Z.d_l_question_text
  b_l_question_text : Binds K Z.d_l_question_text ["question"] []
  g_l_question_text : mg "_law_question_text" = some (.ref Z.f_l_question_text)
  F_l_number : Fun K "_law_number" "_law_number" s_l_number Z.f_l_number Z.d_l_number
  b_l_number : Binds K Z.d_l_number ["word"] []
  g_l_number : mg "_law_number" = some (.ref Z.f_l_number)
  F_l_word : Fun K "_law_word" "_law_word" s_l_word Z.f_l_word Z.d_l_word
  b_l_word : Binds K Z.d_l_word ["columns", "word", "letters"] []
  g_l_word : mg "_law_word" = some (.ref Z.f_l_word)
  F_l_read : Fun K "_law_read" "_law_read" s_l_read Z.f_l_read Z.d_l_read
  b_l_read : Binds K Z.d_l_read ["columns", "text"] []
  g_l_read : mg "_law_read" = some (.ref Z.f_l_read)
  F_l_bent : Fun K "_law_bent" "_law_bent" s_l_bent Z.f_l_bent Z.d_l_bent
  b_l_bent : Binds K Z.d_l_bent ["bag", "columns", "text"] []
  g_l_bent : mg "_law_bent" = some (.ref Z.f_l_bent)
  F_l_sign_spoilt : Fun K "_law_sign_spoilt" "_law_sign_spoilt" s_l_sign_spoilt Z.f_l_sign_spoilt Z.d_l_sign_spoilt
  b_l_sign_spoilt : Binds K Z.d_l_sign_spoilt ["bag", "text"] []
  g_l_sign_spoilt : mg "_law_sign_spoilt" = some (.ref Z.f_l_sign_spoilt)
  F_l_told : Fun K "_law_told" "_law_told" s_l_told Z.f_l_told Z.d_l_told
  b_l_told : Binds K Z.d_l_told ["columns", "text"] []
  g_l_told : mg "_law_told" = some (.ref Z.f_l_told)
  F_law : Fun K "law" "law" s_law Z.f_law Z.d_law
  b_law : Binds K Z.d_law ["script"] []
  g_law : mg "law" = some (.ref Z.f_law)
  m_len : mg "len" = none
  m_range : mg "range" = none
  m_list : mg "list" = none
  m_sorted : mg "sorted" = none
  m_tuple : mg "tuple" = none
  m_min : mg "min" = none
  m_max : mg "max" = none
  m_enumerate : mg "enumerate" = none
  m_isinstance : mg "isinstance" = none
  m_zip : mg "zip" = none
  m_int : mg "int" = none
  m_bool : mg "bool" = none
  m_all : mg "all" = none
  m_any : mg "any" = none
  m_str : mg "str" = none
  m_ValueError : mg "ValueError" = none
  m_super : mg "super" = none
  c_GREATEST : mg "GREATEST" = some (.int 999 Z.k_GREATEST)
  xf : XFam K Z.xa ["TooMany", "NoNumber"] ["TooMany", "NoNumber", "NoQuestion", "NoRow", "NoText"]
  gx_ListError : mg "ListError" = some (.ref (Z.xa "ListError"))
  gx_TooMany : mg "TooMany" = some (.ref (Z.xa "TooMany"))
  gx_NoNumber : mg "NoNumber" = some (.ref (Z.xa "NoNumber"))
  gx_NoQuestion : mg "NoQuestion" = some (.ref (Z.xa "NoQuestion"))
  gx_NoRow : mg "NoRow" = some (.ref (Z.xa "NoRow"))
  gx_NoText : mg "NoText" = some (.ref (Z.xa "NoText"))
  nt_NoText : NtF K Z.xa ["TooMany", "NoNumber", "NoQuestion", "NoRow", "NoText"]
  sd_NoText : SupD K "/claim/cut.py" "__init__" "NoText.__init__" s_NoText___init__ (Z.xa "NoText") Z.f_NoText___init__ Z.d_NoText___init__
section
variable {P : Program} {w : World} {K : PySem.W.Frag} {mg : Str → Option Value} {base : Heap} {Z : Ad} [PF P]
/-! ### a bag of numbers -/
def Bag (b bl : Addr) (H : Hp) : Prop := ∃ (ns : List Int) (k : Nat) (n : Int), b ≠ bl ∧ H b = some (.lst [.ref bl, .int k, .int n]) ∧ H bl = some (.lst (ns.map V.int))
theorem Bag.same {b bl : Addr} {H H' : Hp} (h : Bag b bl H) (s : Same H H') : Bag b bl H' := by
  obtain ⟨ns, k, n, e, h1, h2⟩ := h
  exact ⟨ns, k, n, e, s _ _ h1, s _ _ h2⟩
theorem Bag.upd {b bl p : Addr} {H : Hp} {o : HO} (h : Bag b bl H) (h1 : p ≠ b) (h2 : p ≠ bl) : Bag b bl (L2.upd H p o) := by
  obtain ⟨ns, k, n, e, g1, g2⟩ := h
  exact ⟨ns, k, n, e, keep_ne g1 (fun z => h1 z.symm), keep_ne g2 (fun z => h2 z.symm)⟩
theorem Bag.new {b bl p : Addr} {H : Hp} {o : HO} (h : Bag b bl H) (n : H p = none) : Bag b bl (L2.upd H p o) := h.same (Same.new (Same.refl H) n)
theorem Bag.ne {b bl p : Addr} {H : Hp} (h : Bag b bl H) (n : H p = none) : p ≠ b ∧ p ≠ bl := by
  obtain ⟨ns, k, m, e, g1, g2⟩ := h
  exact ⟨(ne_of_none g1 n).symm, (ne_of_none g2 n).symm⟩
theorem Kp.kTb {b bl : Addr} {H H' : Hp} (k : Kp b H H') (h : Bag b bl H) : KT H H' := by
  obtain ⟨ns, m, n, e, g1, g2⟩ := h
  exact k.kT g1
def spBag (K : PySem.W.Frag) : Sp := fun vs H Q _ => ∃ (a : Addr) (ns : List Int), vs = [.ref a] ∧ SqL K H a (ns.map V.int) ∧ ns.length ≤ 63 ∧ ∀ (b bl : Addr) (H' : Hp), Same H H' → H b = none → H bl = none → Bag b bl H' → Q (.ref b) H'
theorem ok_bag (T : Tx K mg Z) : FnOk P w K mg base CX0 1 Z.f_l_bag Z.d_l_bag ["script"] (spBag K) := by
  refine T.F_l_bag.ok sc_l_bag (fun vs H Q E h => ?_) (fun cdv A outer s H vs Q E hr h => ?_)
  · obtain ⟨a, ns, rfl, _⟩ := h
    rfl
  · obtain ⟨a, ns, rfl, hS, hl, q⟩ := h
    refine ⟨_, (pss_one (ps_ret (pe_lst (pa_cons (pe_callTy (cListSq K) (by rfl) T.m_list (by decide +kernel) (pa_cons (pe_slice (slLK K) (pv 0) po_none (po_some pe_int)) pa_nil)) (pa_cons pe_int (pa_cons pe_int pa_nil)))))), ?_⟩
    refine ⟨.ref a, rfl, _, rfl, a, _, rfl, hS, fun p np => ?_⟩
    have ecut : cutV (ns.map V.int) none (some (63 : Int)) = ns.map V.int := by
      unfold cutV
      rw [HT.sIx_none, show (63 : Int) = ((63 : Nat) : Int) from rfl, HT.sIx_nat, List.drop_zero, List.take_of_length_le (by rw [List.length_map]; omega)]
    rw [ecut]
    refine ⟨p, _, rfl, .inl (.inl (.inl upd_same)), fun l nl => ?_⟩
    refine ⟨(by show 3 ≤ sizeLine; decide), fun b nb => ?_⟩
    have s1 : Same H (upd H p (.lst (ns.map V.int))) := Same.new (Same.refl H) np
    have s2 : Same H (upd (upd H p (.lst (ns.map V.int))) l (.lst (ns.map V.int))) := Same.new s1 nl
    exact q b l _ (Same.new s2 nb) (Same.free s2 nb) (Same.free s1 nl) ⟨ns, (0 : Nat), (0 : Int), (fun e => by rw [e, upd_same] at nb; cases nb), upd_same, keep_new upd_same nb⟩
/-! ### _law_lot -/
def spLot (K : PySem.W.Frag) : Sp := fun vs H Q _ => ∃ (b bl : Addr) (m : Int), vs = [.ref b, .int m] ∧ Bag b bl H ∧ 0 < m ∧ m < 1073741824 ∧ ∀ (d : Int) (H' : Hp), Kp b H H' → Bag b bl H' → 0 ≤ d → d < m → Q (.int d) H'
set_option maxHeartbeats 4000000 in
theorem ok_lot (T : Tx K mg Z) : FnOk P w K mg base CX0 1 Z.f_l_lot Z.d_l_lot ["bag", "many"] (spLot K) := by
  refine T.F_l_lot.ok sc_l_lot (fun vs H Q E h => ?_) (fun cdv A outer s H vs Q E hr h => ?_)
  · obtain ⟨b, bl, m, rfl, _⟩ := h
    rfl
  · obtain ⟨b, bl, m, rfl, hB, h0, h1, q⟩ := h
    obtain ⟨ns, k, n, hne, hb, hbl⟩ := hB
    refine ⟨_, (pss_mid (ps_if (pt_cmpR op_eq (pe_ix (ixL K) (pv 0) pe_int (fun _ _ => rfl)) pe_int (nomark _)) (pss_cons (ps_set (i := 2) sc_l_lot.nd rfl (.inl rfl) (pe_ix (ixL K) (pv 0) pe_int (fun _ _ => rfl)))
      (pss_cons (ps_asg (pe_op op_add (pv 2) pe_int) (pg_sub (pv 0) pe_int set_list))
      (pss_cons (ps_set (i := 3) sc_l_lot.nd rfl (.inl rfl) pe_int)
      (pss_mid (ps_if (pt_cmpR op_lt (pv 2) (pe_callB (cLenSq K) (by rfl) T.m_len (by decide +kernel) (pa_cons (pe_ix (ixL K) (pv 0) pe_int (fun _ _ => rfl)) pa_nil)) (nomark _)) (pss_one (ps_set (i := 3) sc_l_lot.nd rfl (.inl rfl) (pe_ix (ixL K) (pe_ix (ixL K) (pv 0) pe_int (fun _ _ => rfl)) (pv 2) (fun _ _ => rfl)))) (pss_one (ps_if (pt_cmpR op_gt (pe_callB (cLenSq K) (by rfl) T.m_len (by decide +kernel) (pa_cons (pe_ix (ixL K) (pv 0) pe_int (fun _ _ => rfl)) pa_nil)) pe_int (nomark _)) (pss_one (ps_set (i := 3) sc_l_lot.nd rfl (.inl rfl) (pe_op op_add (pe_op op_mod (pe_ix (ixL K) (pe_ix (ixL K) (pv 0) pe_int (fun _ _ => rfl)) (pe_op op_mod (pe_op op_mul (pv 2) pe_int) (pe_callB (cLenSq K) (by rfl) T.m_len (by decide +kernel) (pa_cons (pe_ix (ixL K) (pv 0) pe_int (fun _ _ => rfl)) pa_nil))) (fun _ _ => rfl)) pe_int) (pe_op op_mul pe_int (pv 2))))) pss_nil)))
      (pss_cons (ps_set (i := 4) sc_l_lot.nd rfl (.inl rfl) (pe_op op_mod (pe_op op_mul (pe_op op_add (pe_op op_add (pe_op op_mod (pv 3) pe_int) (pe_op op_mul pe_int (pv 2))) pe_int) pe_int) pe_int))
      (pss_cons (ps_set (i := 5) sc_l_lot.nd rfl (.inl rfl) (pe_op op_mod (pe_op op_add (pe_op op_add (pe_op op_mul (pv 4) (pv 4)) (pe_op op_mul pe_int (pv 2))) pe_int) pe_int))
      (pss_cons (ps_set (i := 6) sc_l_lot.nd rfl (.inl rfl) (pe_op op_mod (pe_op op_add (pe_op op_add (pe_op op_mul (pv 5) (pv 5)) (pe_op op_mul pe_int (pv 4))) pe_int) pe_int))
      (pss_cons (ps_asg (pe_op op_add (pe_op op_fdivW (pe_op op_add (pe_op op_mul (pv 5) pe_int) (pv 6)) pe_int) pe_int) (pg_sub (pv 0) pe_int set_list))
      (pss_one (ps_if (pt_cmpR op_ge (pv 3) (pe_op op_pow pe_int pe_int) (nomark _)) (pss_one (ps_asg (pe_op op_fdivW (pv 3) (pe_op op_pow pe_int pe_int)) (pg_sub (pv 0) pe_int set_list))) pss_nil)))))))))) pss_nil)
      (pss_cons (ps_set (i := 7) sc_l_lot.nd rfl (.inl rfl) (pe_op op_mod (pe_ix (ixL K) (pv 0) pe_int (fun _ _ => rfl)) (pv 1)))
      (pss_cons (ps_asg (pe_op op_fdivW (pe_ix (ixL K) (pv 0) pe_int (fun _ _ => rfl)) (pv 1)) (pg_sub (pv 0) pe_int set_list))
      (pss_one (ps_ret (pv 7)))))), ?_⟩
    refine ⟨fun σ H' => ∃ (y2 y3 y4 y5 y6 : Option V) (k2 : Nat) (n2 : Int), σ = [some (.ref b), some (.int m), y2, y3, y4, y5, y6, none] ∧ Kp b H H' ∧ H' b = some (.lst [.ref bl, .int k2, .int n2]) ∧ H' bl = some (.lst (ns.map V.int)), ?_, fun σ H1 hM => ?_⟩
    · refine ⟨.ref b, rfl, b, _, 2, .int n, rfl, rfl, .inl (.inl hb), rfl, rfl, _, rfl, ite2 (fun e => ?_) (fun e => ?_)⟩
      · refine ⟨.ref b, rfl, b, _, 1, .int k, rfl, rfl, .inl (.inl hb), rfl, ?_⟩
        refine ⟨.int k, rfl, _, 1, rfl, rfl, .ref b, rfl, b, _, 1, 1, rfl, rfl, hb, rfl, ?_⟩
        have hb2 : (upd H b (.lst ([V.ref bl, .int k, .int n].set 1 (.int ((k : Int) + 1))))) b = some (.lst [.ref bl, .int ((k + 1 : Nat) : Int), .int n]) := by
          rw [upd_same]
          rfl
        have hbl2 : (upd H b (.lst ([V.ref bl, .int k, .int n].set 1 (.int ((k : Int) + 1))))) bl = some (.lst (ns.map V.int)) := keep_ne hbl (fun z => hne z.symm)
        have kp2 : Kp b H (upd H b (.lst ([V.ref bl, .int k, .int n].set 1 (.int ((k : Int) + 1))))) := fun c o hc hh => keep_ne hh hc
        refine ⟨fun σ H' => ∃ c : Int, σ = [some (.ref b), some (.int m), some (.int k), some (.int c), none, none, none, none] ∧ Kp b H H' ∧ H' b = some (.lst [.ref bl, .int ((k + 1 : Nat) : Int), .int n]) ∧ H' bl = some (.lst (ns.map V.int)), ?_, fun σ H2 hM => ?_⟩
        · refine ⟨.int k, rfl, .ref b, rfl, b, _, 0, .ref bl, rfl, rfl, .inl (.inl hb2), rfl, bl, _, rfl, .inl (.inl (.inl hbl2)), _, _, rfl, rfl, _, rfl, ite2 (fun e2 => ?_) (fun e2 => ?_)⟩
          · have e3 : (k : Int) < ((ns.map V.int).length : Nat) := of_decide_eq_true e2
            have e4 : k < ns.length := by
              rw [List.length_map] at e3
              omega
            refine ⟨.ref b, rfl, b, _, 0, .ref bl, rfl, rfl, .inl (.inl hb2), rfl, .int k, rfl, bl, _, _, .int ns[k], rfl, rfl, .inl (.inl hbl2), atI_nat (by rw [List.getElem?_map, List.getElem?_eq_getElem e4]; rfl), ?_⟩
            exact ⟨_, rfl, kp2, hb2, hbl2⟩
          · refine ⟨.ref b, rfl, b, _, 0, .ref bl, rfl, rfl, .inl (.inl hb2), rfl, bl, _, rfl, .inl (.inl (.inl hbl2)), _, _, rfl, rfl, _, rfl, ite2 (fun e3 => ?_) (fun e3 => ?_)⟩
            · have e4 : (0 : Int) < ((ns.map V.int).length : Nat) := of_decide_eq_true e3
              have hl0 : 0 < ns.length := by
                rw [List.length_map] at e4
                omega
              refine ⟨.ref b, rfl, b, _, 0, .ref bl, rfl, rfl, .inl (.inl hb2), rfl, .int k, rfl, _, 5, rfl, rfl, .inr ⟨by decide, by decide⟩, .ref b, rfl, b, _, 0, .ref bl, rfl, rfl, .inl (.inl hb2), rfl, bl, _, rfl, .inl (.inl (.inl hbl2)), _, _, rfl, rfl, e4, ?_⟩
              rw [List.length_map]
              have g0 : 0 ≤ ((k : Int) * 5) % (ns.length : Int) := Int.emod_nonneg _ (by omega)
              have g1 : ((k : Int) * 5) % (ns.length : Int) < (ns.length : Int) := Int.emod_lt_of_pos _ (by omega)
              have hj : (((k : Int) * 5) % (ns.length : Int)).toNat < ns.length := by omega
              refine ⟨bl, _, _, .int ns[(((k : Int) * 5) % (ns.length : Int)).toNat], rfl, rfl, .inl (.inl hbl2), L2.at_of (j := (((k : Int) * 5) % (ns.length : Int)).toNat) (by omega) (by rw [List.getElem?_map, List.getElem?_eq_getElem hj]; rfl), _, 1000003, rfl, rfl, (by show (0 : Int) < 1000003; decide), .int k, rfl, 97, _, rfl, rfl, .inl ⟨by decide, by decide⟩, _, _, rfl, rfl, ?_⟩
              exact ⟨_, rfl, kp2, hb2, hbl2⟩
            · exact ⟨_, rfl, kp2, hb2, hbl2⟩
        · obtain ⟨c, rfl, kp3, hb3, hbl3⟩ := hM
          have em : ∀ (x : Int) (d : Int), 0 < d → 0 ≤ x % d ∧ x % d < d := fun x d hd => ⟨Int.emod_nonneg _ (by omega), Int.emod_lt_of_pos _ hd⟩
          have b64 : ∀ x : Int, 0 ≤ x → x < 2147483647 → -(2 ^ 64) < x ∧ x < 2 ^ 64 := fun x h0 h1 => ⟨by omega, by omega⟩
          refine ⟨.int c, rfl, c, 2147483629, rfl, rfl, (by show (0 : Int) < 2147483629; decide), .int k, rfl, 83, _, rfl, rfl, .inl ⟨by decide, by decide⟩, _, _, rfl, rfl, _, 5, rfl, rfl, _, 48271, rfl, rfl, .inr ⟨by decide, by decide⟩, _, 998244353, rfl, rfl, (by show (0 : Int) < 998244353; decide), ?_⟩
          refine ⟨_, rfl, _, rfl, _, _, rfl, rfl, .inl (b64 _ (em _ 998244353 (by decide)).1 (Int.lt_trans (em _ 998244353 (by decide)).2 (by decide))), .int k, rfl, 69621, _, rfl, rfl, .inl ⟨by decide, by decide⟩, _, _, rfl, rfl, _, 17, rfl, rfl, _, 2147483647, rfl, rfl, (by show (0 : Int) < 2147483647; decide), ?_⟩
          refine ⟨_, rfl, _, rfl, _, _, rfl, rfl, .inl (b64 _ (em _ 2147483647 (by decide)).1 (em _ 2147483647 (by decide)).2), _, rfl, 3, _, rfl, rfl, .inl ⟨by decide, by decide⟩, _, _, rfl, rfl, _, 1, rfl, rfl, _, 1000000007, rfl, rfl, (by show (0 : Int) < 1000000007; decide), ?_⟩
          refine ⟨_, rfl, _, 1000000007, rfl, rfl, .inr ⟨by decide, by decide⟩, _, rfl, _, _, rfl, rfl, _, 4, rfl, rfl, wide_div (b := 4) (by decide) (by decide) (by decide) (by decide), _, 1, rfl, rfl, .ref b, rfl, b, _, 2, 2, rfl, rfl, hb3, rfl, ?_⟩
          refine ⟨.int c, rfl, 10, 18, rfl, rfl, ⟨by decide, by decide, by decide⟩, _, _, rfl, rfl, _, rfl, ite2 (fun e6 => ?_) (fun e6 => ?_)⟩
          · refine ⟨.int c, rfl, 10, 18, rfl, rfl, ⟨by decide, by decide, by decide⟩, _, _, rfl, rfl, wide_div (b := 60) (by decide) (by decide) (by decide) (by decide), .ref b, rfl, b, _, 2, 2, rfl, rfl, upd_same, rfl, ?_⟩
            exact ⟨_, _, _, _, _, k + 1, _, rfl, fun c o hc hh => keep_ne (keep_ne (kp3 c o hc hh) hc) hc, upd_same, keep_ne (keep_ne hbl3 (fun z => hne z.symm)) (fun z => hne z.symm)⟩
          · exact ⟨_, _, _, _, _, k + 1, _, rfl, fun c o hc hh => keep_ne (kp3 c o hc hh) hc, upd_same, keep_ne hbl3 (fun z => hne z.symm)⟩
      · exact ⟨_, _, _, _, _, k, n, rfl, Kp.rfl', hb, hbl⟩
    · obtain ⟨y2, y3, y4, y5, y6, k2, n2, rfl, kp1, hb1, hbl1⟩ := hM
      refine ⟨.ref b, rfl, b, _, 2, .int n2, rfl, rfl, .inl (.inl hb1), rfl, .int m, rfl, n2, m, rfl, rfl, h0, ?_⟩
      refine ⟨.ref b, rfl, b, _, 2, .int n2, rfl, rfl, .inl (.inl hb1), rfl, .int m, rfl, n2, m, rfl, rfl, wide_div (b := 30) h0 (by omega) (by decide) (by decide), ?_⟩
      refine ⟨.ref b, rfl, b, _, 2, 2, rfl, rfl, hb1, rfl, _, rfl, ?_⟩
      refine q _ _ ?_ ⟨ns, k2, n2 / m, hne, upd_same, keep_ne hbl1 (fun z => hne z.symm)⟩ (Int.emod_nonneg _ (by omega)) (Int.emod_lt_of_pos _ h0)
      exact fun c o hc hh => keep_ne (kp1 c o hc hh) hc

/-! ### _law_columns -/
def alpha : List Nat := [97, 98, 99, 100, 101, 102, 103, 104, 105, 106, 107, 108, 109, 110, 111, 112, 113, 114, 115, 116, 117, 118, 119, 120, 121, 122]
def spColumns (K : PySem.W.Frag) : Sp := fun vs H Q _ => ∃ (b bl : Addr) (m : Nat), vs = [.ref b, .int m] ∧ Bag b bl H ∧ 1 ≤ m ∧ m ≤ 26 ∧ ∀ (l : List Nat) (H' : Hp), Kp b H H' → Bag b bl H' → Cols l → 1 ≤ l.length → l.length ≤ m → Q (tx l) H'
theorem ok_columns (T : Tx K mg Z) : FnOk P w K mg base CX0 2 Z.f_l_columns Z.d_l_columns ["bag", "most"] (spColumns K) := by
  have G_l_lot : FnOk P w K mg base CX0 1 Z.f_l_lot Z.d_l_lot ["bag", "many"] (spLot K) := ok_lot T
  refine T.F_l_columns.ok sc_l_columns (fun vs H Q E h => ?_) (fun cdv A outer s H vs Q E hr h => ?_)
  · obtain ⟨b, bl, m, rfl, _⟩ := h
    rfl
  · obtain ⟨b, bl, m, rfl, hB, hm1, hm, q⟩ := h
    refine ⟨_, (pss_cons (ps_set (i := 2) sc_l_columns.nd rfl (.inl rfl) (pe_callTy call_list_txt (by rfl) T.m_list (by decide +kernel) (pa_cons pe_str pa_nil)))
      (pss_cons (ps_set (i := 3) sc_l_columns.nd rfl (.inl rfl) (pe_lst pa_nil))
      (pss_cons (ps_for PassesOwn.never rfl (pi_range1 (by rfl) T.m_range (pa_cons (pe_op op_add pe_int (pe_call G_l_lot (hr.mono (by omega)) (by rfl) T.g_l_lot T.F_l_lot.kp T.b_l_lot .nil pass0 (pa_cons (pv 0) (pa_cons (pv 1) pa_nil)))) pa_nil)) (pg_name (i := 4) sc_l_columns.nd rfl (.inl rfl)) (pss_one (ps_expr (bmK K PySem.F.plainAttrs_list PySem.F.slot_list_append PySem.F.type_list_append mt_append (pv 3) (pa_cons (bmK K PySem.F.plainAttrs_list PySem.F.slot_list_pop PySem.F.type_list_pop mt_popAt (pv 2) (pa_cons (pe_call G_l_lot (hr.mono (by omega)) (by rfl) T.g_l_lot T.F_l_lot.kp T.b_l_lot .nil pass0 (pa_cons (pv 0) (pa_cons (pe_callB (cLenSq K) (by rfl) T.m_len (by decide +kernel) (pa_cons (pv 2) pa_nil)) pa_nil))) pa_nil)) pa_nil)))))
      (pss_one (ps_ret (pe_join pe_str (pe_callB cr_sortedS (by rfl) T.m_sorted (by decide +kernel) (pa_cons (pv 3) pa_nil)))))))), ?_⟩
    have ea : (Str.ofString "abcdefghijklmnopqrstuvwxyz").cps.toList = alpha := by decide +kernel
    refine ⟨_, rfl, (by decide +kernel), fun L nL => ?_⟩
    rw [ea]
    refine ⟨Nat.zero_le _, fun F nF => ?_⟩
    have nFL : F ≠ L := fun e => by
      rw [e, upd_same] at nF
      cases nF
    have nF0 : H F = none := by
      rw [upd_ne nFL] at nF
      exact nF
    have nLb := hB.ne nL
    have nFb := hB.ne nF0
    have hB2 := (hB.new nL (o := .lst (alpha.map sg))).new nF (o := .lst [])
    have hL2 : (upd (upd H L (.lst (alpha.map sg))) F (.lst [])) L = some (.lst (alpha.map sg)) := keep_new upd_same nF
    have hF2 : (upd (upd H L (.lst (alpha.map sg))) F (.lst [])) F = some (.lst []) := upd_same
    have kp2 : Kp b H (upd (upd H L (.lst (alpha.map sg))) F (.lst [])) := (Kp.new Kp.rfl' nL).new nF
    generalize upd (upd H L (.lst (alpha.map sg))) F (.lst []) = H2 at hB2 hL2 hF2 kp2 ⊢
    refine ⟨.ref b, rfl, .int m, rfl, b, bl, m, rfl, hB2, by omega, by omega, fun g H3 kp3 hB3 g0 g1 => ?_⟩
    have hL3 := kp3 _ _ nLb.1 hL2
    have hF3 := kp3 _ _ nFb.1 hF2
    refine ⟨1, _, rfl, rfl, _, rfl, by omega, by omega, for_range (fun i σ H' => ∃ (ll ff : List Nat) (y : Option V), σ = [some (.ref b), some (.int m), some (.ref L), some (.ref F), y] ∧ Kp b H H' ∧ Bag b bl H' ∧ H' L = some (.lst (ll.map sg)) ∧ H' F = some (.lst (ff.map sg)) ∧ (ll ++ ff).Perm alpha ∧ ff.length = i)
      ⟨alpha, [], none, rfl, kp2.trans kp3, hB3, hL3, hF3, by rw [List.append_nil], rfl⟩ (fun i σ H' hi hP => ?_) (fun σ H' hP => ?_)⟩
    · obtain ⟨ll, ff, y, rfl, kp, hB1, hL, hF, hp, hl⟩ := hP
      have hlen : ll.length + ff.length = 26 := by
        have := hp.length_eq
        rw [List.length_append] at this
        exact this
      have hll : 0 < ll.length := by omega
      refine ⟨.ref F, rfl, .inl ⟨rfl, _, .inl (.inl hF)⟩, .ref L, rfl, .inl ⟨rfl, _, .inl (.inl hL)⟩, .ref b, rfl, .ref L, rfl, L, _, rfl, .inl (.inl (.inl hL)), b, bl, _, rfl, hB1, ?_, ?_, fun d H4 kp4 hB4 d0 d1 => ?_⟩
      · rw [List.length_map]
        omega
      · rw [List.length_map]
        omega
      · rw [List.length_map] at d1
        have hd : d.toNat < ll.length := by omega
        have hL4 : H4 L = some (.lst (ll.map sg)) := kp4 _ _ nLb.1 hL
        have hF4 : (upd H4 L (.lst ((ll.map sg).eraseIdx d.toNat))) F = some (.lst (ff.map sg)) := keep_ne (kp4 _ _ nFb.1 hF) nFL
        have hy : ll[d.toNat]? = some ll[d.toNat] := List.getElem?_eq_getElem hd
        refine ⟨L, _, d, d.toNat, sg ll[d.toNat], rfl, rfl, hL4, by omega, by omega, PySem.seqIndex_of d0 (by rw [List.length_map]; exact d1), ?_, F, _, _, rfl, rfl, hF4, ?_, ?_⟩
        · rw [List.getElem?_map, hy]
          rfl
        · rw [List.length_map]
          exact small1000 (by omega)
        · refine ⟨ll.eraseIdx d.toNat, ff ++ [ll[d.toNat]], _, rfl, ?_, ?_, ?_, ?_, (popped hy ff).trans hp, by rw [List.length_append, hl]; rfl⟩
          · exact ((kp.trans kp4).mut nL).mut nF0
          · exact (hB4.upd nLb.1 nLb.2).upd nFb.1 nFb.2
          · rw [upd_ne nFL.symm, upd_same, erase_map]
          · rw [upd_same, List.map_append]
            rfl
    · obtain ⟨ll, ff, y, rfl, kp, hB1, hL, hF, hp, hl⟩ := hP
      have hm2 : 1 ≤ ff.length ∧ ff.length ≤ m := by
        rw [hl]
        omega
      refine ⟨⟨_, rfl⟩, .ref F, rfl, F, ff.map sS, rfl, .inl (.inl (by rw [← map_sg]; exact hF)), by rw [List.length_map]; omega, fun ys p hys hso np => ?_⟩
      obtain ⟨l, rfl, pl⟩ := perm_signs hys
      have ndA : (ll ++ ff).Nodup := hp.nodup_iff.mpr (by decide)
      have ndf : ff.Nodup := (List.nodup_append.mp ndA).2.1
      have ndl : l.Nodup := pl.nodup_iff.mpr ndf
      refine ⟨_, p, _, rfl, rfl, .inl (.inl (.inl upd_same)), ?_, ?_⟩
      · rw [show (Str.ofString "").length = 0 by decide +kernel, Nat.mul_zero, Nat.add_zero, signs_len, pl.length_eq]
        exact Nat.le_of_lt (small1000 (by omega))
      · rw [join_signs]
        refine q l _ (kp.new np) (hB1.new np) ⟨strict_of (sorted_signs l hso) ndl, fun c hc => ?_⟩ (by rw [pl.length_eq]; exact hm2.1) (by rw [pl.length_eq]; exact hm2.2)
        have hc2 : c ∈ alpha := hp.mem_iff.mp (List.mem_append_right _ (pl.mem_iff.mp hc))
        have : ∀ c ∈ alpha, 97 ≤ c ∧ c ≤ 122 := by decide
        exact this c hc2

/-! ### _law_table -/
def spTable (K : PySem.W.Frag) : Sp := fun vs H Q _ => ∃ (b bl : Addr) (most rn : Nat), vs = [.ref b, .int most, .int rn] ∧ Bag b bl H ∧ 1 ≤ most ∧ most ≤ 26 ∧ rn ≤ 900 ∧
  ∀ (cols : List Nat) (rows : List (List Int)) (v : V) (H' : Hp), Kp b H H' → Bag b bl H' → Fz H' v (tabD cols rows) → Cols cols → 1 ≤ cols.length → cols.length ≤ most → RowsOk cols.length rows → rows.length ≤ rn → Q v H'
theorem ok_table (T : Tx K mg Z) : FnOk P w K mg base CX0 3 Z.f_l_table Z.d_l_table ["bag", "most", "rows"] (spTable K) := by
  have G_l_lot : FnOk P w K mg base CX0 1 Z.f_l_lot Z.d_l_lot ["bag", "many"] (spLot K) := ok_lot T
  have G_l_columns : FnOk P w K mg base CX0 2 Z.f_l_columns Z.d_l_columns ["bag", "most"] (spColumns K) := ok_columns T
  refine T.F_l_table.ok sc_l_table (fun vs H Q E h => ?_) (fun cdv A outer s H vs Q E hr h => ?_)
  · obtain ⟨b, bl, most, rn, rfl, _⟩ := h
    rfl
  · obtain ⟨b, bl, most, rn, rfl, hB, hm1, hm2, hrn, q⟩ := h
    refine ⟨_, (pss_cons (ps_set (i := 3) sc_l_table.nd rfl (.inl rfl) (pe_call G_l_columns (hr.mono (by omega)) (by rfl) T.g_l_columns T.F_l_columns.kp T.b_l_columns .nil pass0 (pa_cons (pv 0) (pa_cons (pv 1) pa_nil))))
      (pss_cons (ps_set (i := 4) sc_l_table.nd rfl (.inr rfl) (pe_ix (ixL K) (pe_lst (pa_cons pe_int (pa_cons pe_int (pa_cons pe_int (pa_cons pe_int pa_nil))))) (pe_call G_l_lot (hr.mono (by omega)) (by rfl) T.g_l_lot T.F_l_lot.kp T.b_l_lot .nil pass0 (pa_cons (pv 0) (pa_cons pe_int pa_nil))) (fun _ _ => rfl)))
      (pss_cons (ps_set (i := 5) sc_l_table.nd rfl (.inl rfl) (pe_lst pa_nil))
      (pss_cons (ps_for PassesOwn.never rfl (pi_range1 (by rfl) T.m_range (pa_cons (pe_call G_l_lot (hr.mono (by omega)) (by rfl) T.g_l_lot T.F_l_lot.kp T.b_l_lot .nil pass0 (pa_cons (pv 0) (pa_cons (pe_op op_add (pv 2) pe_int) pa_nil))) pa_nil)) (pg_name (i := 6) sc_l_table.nd rfl (.inl rfl)) (pss_one (ps_expr (bmK K PySem.F.plainAttrs_list PySem.F.slot_list_append PySem.F.type_list_append mt_append (pv 5) (pa_cons (pe_callTy (cTupSq K) (by rfl) T.m_tuple (by decide +kernel) (pa_cons (pe_lc (own := [("letter", 7)]) (tt := tYes) (by rfl) sc_l_table.nd (pi_str (pv 3)) (blkOk_by (own := [("letter", 7)]) (by kernel_rfl)) (fun _ _ _ _ _ => (pg_name (i := 7) sc_l_table.nd rfl (.inl rfl))) (fun _ _ _ _ _ => pts_nil) (fun _ _ _ _ _ => (pe_call G_l_lot (hr.mono (by omega)) (by rfl) T.g_l_lot T.F_l_lot.kp T.b_l_lot .nil pass0 (pa_cons (pv 0) (pa_cons (pv 4) pa_nil))))) pa_nil)) pa_nil)))))
      (pss_one (ps_ret (pe_tup (pa_cons (pv 3) (pa_cons (pe_callTy (cTupSq K) (by rfl) T.m_tuple (by decide +kernel) (pa_cons (pv 5) pa_nil)) pa_nil))))))))), ?_⟩
    refine ⟨.ref b, rfl, .int most, rfl, b, bl, most, rfl, hB, hm1, hm2, fun cols H1 kp1 hB1 hc hc1 hc2 => ?_⟩
    -- spread
    refine ⟨(by show 4 ≤ sizeLine; decide), fun L nL => ?_⟩
    have nLb := hB1.ne nL
    have hB2 := hB1.new nL (o := .lst [.int 2, .int 3, .int 6, .int 1000])
    have hL2 : (upd H1 L (.lst [.int 2, .int 3, .int 6, .int 1000])) L = some (.lst [.int 2, .int 3, .int 6, .int 1000]) := upd_same
    have kp2 : Kp b H (upd H1 L (.lst [.int 2, .int 3, .int 6, .int 1000])) := kp1.new nL
    generalize upd H1 L (.lst [.int 2, .int 3, .int 6, .int 1000]) = H2 at hB2 hL2 kp2 ⊢
    refine ⟨.ref b, rfl, b, bl, 4, rfl, hB2, by decide, by decide, fun e H3 kp3 hB3 e0 e1 => ?_⟩
    obtain ⟨t, ht, hat⟩ := at_ints (ns := [2, 3, 6, 1000]) e0 e1
    have htb : 0 < t ∧ t ≤ 1000 := by
      have : ∀ z ∈ ([2, 3, 6, 1000] : List Int), 0 < z ∧ z ≤ 1000 := by decide
      exact this t ht
    refine ⟨L, [2, 3, 6, 1000].map V.int, e, .int t, rfl, rfl, .inl (.inl (kp3 _ _ nLb.1 hL2)), hat, ?_⟩
    have kpA : Kp b H H3 := kp2.trans kp3
    -- found
    refine ⟨Nat.zero_le _, fun D nD => ?_⟩
    have nDb := hB3.ne nD
    have nDH : H D = none := Kp.none kpA nDb.1 nD
    have hB4 := hB3.new nD (o := .lst [])
    have hD4 : (upd H3 D (.lst [])) D = some (.lst []) := upd_same
    have kp4 : Kp b H (upd H3 D (.lst [])) := kpA.new nD
    generalize upd H3 D (.lst []) = H4 at hB4 hD4 kp4 ⊢
    refine ⟨.ref b, rfl, .int rn, rfl, rn, 1, rfl, rfl, b, bl, _, rfl, hB4, by omega, by omega, fun m H5 kp5 hB5 m0 m1 => ?_⟩
    have hD5 := kp5 _ _ nDb.1 hD4
    refine ⟨m, rfl, by omega, by omega, for_range (fun i σ H' => ∃ (rows : List (List Int)) (vs : List V) (y : Option V), σ = [some (.ref b), some (.int most), some (.int rn), some (tx cols), some (.int t), some (.ref D), y, none] ∧ Kp b H H' ∧ Bag b bl H' ∧ H' D = some (.lst vs) ∧ FzA H' vs (rows.map rowD) ∧ RowsOk cols.length rows ∧ rows.length = i)
      ⟨[], [], none, rfl, kp4.trans kp5, hB5, hD5, .nil, (fun _ h => nomatch h), rfl⟩ (fun i σ H6 hi hP => ?_) (fun σ H6 hP => ?_)⟩
    · obtain ⟨rows, vs, y, rfl, kp6, hB6, hD6, fvs, hok, hln⟩ := hP
      refine ⟨.ref D, rfl, .inl ⟨rfl, _, .inl (.inl hD6)⟩, tx cols, rfl, _, rfl, fun D3 nD3 => lc_it walk_str (fun j H' => ∃ row : List Int, Kp b H6 H' ∧ Bag b bl H' ∧ H' D3 = some (.lst (row.map V.int)) ∧ row.length = j ∧ ∀ x ∈ row, 0 ≤ x ∧ x < 1000)
        ⟨[], Kp.rfl'.new nD3, hB6.new nD3, upd_same, rfl, fun _ h => nomatch h⟩ (fun _ _ _ _ => trivial) (fun j x H7 H8 hj hP hY => ?_) (fun H7 hP => ?_)⟩
      · obtain ⟨row, kp7, hB7, hD7, hl7, hx7⟩ := hP
        obtain ⟨rfl, c, hcc, rfl⟩ := hY
        have n3b := hB6.ne nD3
        have hj2 : j < cols.length := by simpa using hj
        refine ⟨rfl, .ref b, rfl, .int t, rfl, b, bl, t, rfl, hB7, htb.1, by omega, fun g H9 kp9 hB9 g0 g1 => ?_⟩
        refine ⟨row.map V.int, kp9 _ _ n3b.1 hD7, by rw [List.length_map]; exact small1000 (by omega), row ++ [g], (kp7.trans kp9).mut nD3, hB9.upd n3b.1 n3b.2, by rw [upd_same, List.map_append]; rfl, by rw [List.length_append, hl7]; rfl, fun u hu => ?_⟩
        rcases List.mem_append.mp hu with z | z
        · exact hx7 u z
        · rw [List.mem_singleton.mp z]
          exact ⟨g0, by omega⟩
      · obtain ⟨row, kp7, hB7, hD7, hl7, hx7⟩ := hP
        have hl8 : row.length = cols.length := by simpa using hl7
        refine ⟨D3, row.map V.int, rfl, .inl ⟨.inl (.inl hD7), fun r nr => ?_⟩⟩
        have hD8 : H7 D = some (.lst vs) := kp7 _ _ nDb.1 hD6
        have hD9 : (upd H7 r (.tup (row.map V.int))) D = some (.lst vs) := keep_new hD8 nr
        have kt : Kt H6 H7 := (kp7.kTb hB6).1
        refine ⟨D, vs, .ref r, rfl, rfl, hD9, by rw [fvs.len, List.length_map]; exact small1000 (by omega), rows ++ [row], vs ++ [.ref r], _, rfl, ((kp6.trans kp7).new nr).mut nDH, (hB7.new nr).upd nDb.1 nDb.2, upd_same, ?_, fun x hx => ?_, by rw [List.length_append, hln]; rfl⟩
        · rw [List.map_append]
          exact (FzA.snoc ((fvs.kt kt).kt (.new nr)) (row_made nr)).kt (.lst hD9)
        · rcases List.mem_append.mp hx with z | z
          · exact hok x z
          · rw [List.mem_singleton.mp z]
            exact ⟨hl8, hx7⟩
    · obtain ⟨rows, vs, y, rfl, kp6, hB6, hD6, fvs, hok, hln⟩ := hP
      refine ⟨tx cols, rfl, .ref D, rfl, D, vs, rfl, .inl ⟨.inl (.inl hD6), fun R nR => ⟨(by show 2 ≤ sizeLine; decide), fun t2 nt2 => ?_⟩⟩⟩
      have f1 : Fz (upd H6 R (.tup vs)) (.ref R) (rowsD rows) := Fz.made nR fvs
      exact q cols rows (.ref t2) _ ((kp6.new nR).new nt2) ((hB6.new nR).new nt2) (Fz.made nt2 (.cons (.str _) (.cons f1 .nil))) hc hc1 hc2 hok (by omega)

/-! ### _law_near -/
def spNear (K : PySem.W.Frag) : Sp := fun vs H Q _ => ∃ (b bl : Addr) (tb : V) (cols : List Nat) (rows : List (List Int)) (at_ : Nat), vs = [.ref b, tb, .int at_] ∧ Bag b bl H ∧ Fz H tb (tabD cols rows) ∧ RowsOk cols.length rows ∧ at_ < cols.length ∧ rows.length ≤ 1000 ∧
  ∀ (x : Int) (H' : Hp), Kp b H H' → Bag b bl H' → 0 ≤ x → x < 1000 → Q (.int x) H'
theorem ok_near (T : Tx K mg Z) : FnOk P w K mg base CX0 2 Z.f_l_near Z.d_l_near ["bag", "table", "at"] (spNear K) := by
  have G_l_lot : FnOk P w K mg base CX0 1 Z.f_l_lot Z.d_l_lot ["bag", "many"] (spLot K) := ok_lot T
  refine T.F_l_near.ok sc_l_near (fun vs H Q E h => ?_) (fun cdv A outer s H vs Q E hr h => ?_)
  · obtain ⟨b, bl, tb, cols, rows, at_, rfl, _⟩ := h
    rfl
  · obtain ⟨b, bl, tb, cols, rows, at_, rfl, hB, fT, hrs, hat, hrl, q⟩ := h
    obtain ⟨t, R, vs, rfl, ht, hRR, fvs⟩ := tab_open fT
    refine ⟨_, (pss_cons (ps_set (i := 3) sc_l_near.nd rfl (.inl rfl) (pe_call G_l_lot (hr.mono (by omega)) (by rfl) T.g_l_lot T.F_l_lot.kp T.b_l_lot .nil pass0 (pa_cons (pv 0) (pa_cons pe_int pa_nil))))
      (pss_cons (ps_if (PW.pt (pw_or (pt_cmpR (eqDK K hr.units) (pe_ix (ixT K) (pv 1) pe_int (fun _ _ => rfl)) (pe_tup pa_nil) (nomark _)) (pw_or1 (pt_cmpR op_eq (pv 3) pe_int (nomark _))))) (pss_one (ps_ret (pe_call G_l_lot (hr.mono (by omega)) (by rfl) T.g_l_lot T.F_l_lot.kp T.b_l_lot .nil pass0 (pa_cons (pv 0) (pa_cons (pe_ix (ixL K) (pe_lst (pa_cons pe_int (pa_cons pe_int pa_nil))) (pe_call G_l_lot (hr.mono (by omega)) (by rfl) T.g_l_lot T.F_l_lot.kp T.b_l_lot .nil pass0 (pa_cons (pv 0) (pa_cons pe_int pa_nil))) (fun _ _ => rfl)) pa_nil))))) pss_nil)
      (pss_cons (ps_set (i := 4) sc_l_near.nd rfl (.inl rfl) (pe_ix (ixT K) (pe_ix (ixT K) (pe_ix (ixT K) (pv 1) pe_int (fun _ _ => rfl)) (pe_call G_l_lot (hr.mono (by omega)) (by rfl) T.g_l_lot T.F_l_lot.kp T.b_l_lot .nil pass0 (pa_cons (pv 0) (pa_cons (pe_callB (cLenSq K) (by rfl) T.m_len (by decide +kernel) (pa_cons (pe_ix (ixT K) (pv 1) pe_int (fun _ _ => rfl)) pa_nil)) pa_nil))) (fun _ _ => rfl)) (pv 2) (fun _ _ => rfl)))
      (pss_one (ps_ret (pe_callB (call_min2 rfl) (by rfl) T.m_min (by decide +kernel) (pa_cons pe_int (pa_cons (pe_callB (call_max2 rfl) (by rfl) T.m_max (by decide +kernel) (pa_cons pe_int (pa_cons (pe_op op_add (pv 4) (pe_ix (ixL K) (pe_lst (pa_cons pe_int (pa_cons pe_int (pa_cons pe_int (pa_cons pe_int (pa_cons (pe_un un_neg pe_int) pa_nil)))))) (pv 3) (fun _ _ => rfl))) pa_nil))) pa_nil)))))))), ?_⟩
    refine ⟨.ref b, rfl, b, bl, 6, rfl, hB, by decide, by decide, fun way H1 kp1 hB1 w0 w1 => ?_⟩
    have kt1 : Kt H H1 := (kp1.kTb hB).1
    -- one more is drawn
    have pick2 : ∀ (H2 : Hp), Kp b H H2 → Bag b bl H2 → tRet (tCall (spLot K) [] E0 (tCons (tVar 0) (tCons (tOp (rIxL K) (tLst (tCons (tC (V.int 4)) (tCons (tC (V.int 1000)) tNil))) (tCall (spLot K) [] E0 (tCons (tVar 0) (tCons (tC (V.int 2)) tNil)))) tNil))) { nx := fun x H' => Q V.non H', rt := Q } [some (.ref b), some (.ref t), some (.int at_), some (.int way), none] H2 := by
      intro H2 kp2 hB2
      refine ⟨.ref b, rfl, (by show 2 ≤ sizeLine; decide), fun L nL => ?_⟩
      have nLb := hB2.ne nL
      refine ⟨.ref b, rfl, b, bl, 2, rfl, hB2.new nL, by decide, by decide, fun d H3 kp3 hB3 d0 d1 => ?_⟩
      obtain ⟨z, hz, hza⟩ := at_ints (ns := [4, 1000]) d0 d1
      have hz2 : ∀ z ∈ ([4, 1000] : List Int), 0 < z ∧ z ≤ 1000 := by decide
      have hz3 := hz2 z hz
      refine ⟨L, [4, 1000].map V.int, d, .int z, rfl, rfl, .inl (.inl (kp3 _ _ nLb.1 upd_same)), hza, b, bl, z, rfl, hB3, hz3.1, by omega, fun x H4 kp4 hB4 x0 x1 => ?_⟩
      exact q x _ (((kp2.new nL).trans kp3).trans kp4) hB4 x0 (by omega)
    refine ⟨.ref t, rfl, t, _, 1, .ref R, rfl, rfl, .inl (.inl (kt1 _ _ ht)), rfl, (by show 0 ≤ sizeLine; decide), fun p np => ?_⟩
    have hp : Fz (upd H1 p (.tup [])) (.ref p) (.tuple []) := Fz.made np .nil
    have hRp : Fz (upd H1 p (.tup [])) (.ref R) (rowsD rows) := ((Fz.tup hRR fvs).kt kt1).kt (.new np)
    have kp2 : Kp b H (upd H1 p (.tup [])) := kp1.new np
    have hB2 := hB1.new np (o := .tup [])
    have kt2 : Kt H (upd H1 p (.tup [])) := kt1.trans (.new np)
    generalize upd H1 p (.tup []) = H2 at hp hRp kp2 hB2 kt2 ⊢
    refine ⟨_, _, hRp.to, hp.to, shaped_rows rows, shaped_rows [], _, rfl, ite2 (fun ee => ?_) (fun ee => ?_)⟩
    · exact pick2 H2 kp2 hB2
    · have ne : rows ≠ [] := fun z => by
        rw [z] at ee
        exact ee rfl
      have hpos : 0 < rows.length := List.length_pos_iff.mpr ne
      refine ⟨.int way, rfl, rfl, _, rfl, ite2 (fun e5 => ?_) (fun e5 => ?_)⟩
      · exact pick2 H2 kp2 hB2
      · have e52 : way ≠ 5 := fun z => e5 (decide_eq_true (by rw [z]))
        have ht2 := kt2 _ _ ht
        have hRR2 := kt2 _ _ hRR
        have fvs2 := fvs.kt kt2
        have hvl : vs.length = rows.length := by rw [fvs2.len, List.length_map]
        refine ⟨.ref t, rfl, t, _, 1, .ref R, rfl, rfl, .inl (.inl ht2), rfl, .ref b, rfl, .ref t, rfl, t, _, 1, .ref R, rfl, rfl, .inl (.inl ht2), rfl, R, vs, rfl, .inr (.inl (.inl hRR2)), b, bl, _, rfl, hB2, by omega, by omega, fun d H3 kp3 hB3 d0 d1 => ?_⟩
        have hd : d.toNat < rows.length := by omega
        have kt3 : Kt H2 H3 := (kp3.kTb hB2).1
        obtain ⟨v, hv, fv⟩ := (fvs2.kt kt3).get (i := d.toNat) (d := rowD rows[d.toNat]) (by rw [List.getElem?_map, List.getElem?_eq_getElem hd]; rfl)
        have rok := hrs rows[d.toNat] (List.getElem_mem hd)
        obtain ⟨rb, rfl, hrb⟩ := row_open fv
        have hal2 : at_ < rows[d.toNat].length := by
          rw [rok.1]
          exact hat
        refine ⟨R, vs, d, .ref rb, rfl, rfl, .inl (.inl (kt3 _ _ hRR2)), L2.at_of (j := d.toNat) (by omega) hv, .int at_, rfl, rb, _, _, .int rows[d.toNat][at_], rfl, rfl, .inl (.inl hrb), atI_nat (by rw [List.getElem?_map, List.getElem?_eq_getElem hal2]; rfl), ?_⟩
        refine ⟨_, rfl, 1, rfl, (by show 5 ≤ sizeLine; decide), fun L nL => ?_⟩
        obtain ⟨z, hz, hza⟩ := at_ints (ns := [0, 0, 0, 1, -1]) w0 (by show way < 5; omega)
        refine ⟨.int way, rfl, L, [0, 0, 0, 1, -1].map V.int, way, .int z, rfl, rfl, .inl (.inl upd_same), hza, _, z, rfl, rfl, 0, _, rfl, 999, _, rfl, ?_⟩
        refine q _ _ ((kp2.trans kp3).new nL) (hB3.new nL) ?_ ?_
        · have m0 : (0 : Int) ≤ (if rows[d.toNat][at_] + z > 0 then rows[d.toNat][at_] + z else 0) := by
            split <;> omega
          split <;> omega
        · split <;> omega

/-! ### _law_question -/
theorem ints_of (os : List Nat) : os.map (fun j : Nat => V.int (j : Int)) = (os.map fun j : Nat => (j : Int)).map V.int := by
  rw [List.map_map]
  rfl
def spQuestion (K : PySem.W.Frag) : Sp := fun vs H Q _ => ∃ (b bl : Addr) (tb : V) (cols : List Nat) (rows : List (List Int)), vs = [.ref b, tb] ∧ Bag b bl H ∧ Fz H tb (tabD cols rows) ∧ Cols cols ∧ cols.length ≤ 26 ∧ RowsOk cols.length rows ∧ rows.length ≤ 1000 ∧
  ∀ (es : List (Nat × Int)) (rc : Option (Nat × Int × Int)) (v : V) (H' : Hp), Kp b H H' → Bag b bl H' → QZ H' v es rc → QOk cols es rc → Q v H'
theorem ok_question (T : Tx K mg Z) : FnOk P w K mg base CX0 3 Z.f_l_question Z.d_l_question ["bag", "table"] (spQuestion K) := by
  have G_l_lot : FnOk P w K mg base CX0 1 Z.f_l_lot Z.d_l_lot ["bag", "many"] (spLot K) := ok_lot T
  have G_l_near : FnOk P w K mg base CX0 2 Z.f_l_near Z.d_l_near ["bag", "table", "at"] (spNear K) := ok_near T
  refine T.F_l_question.ok sc_l_question (fun vs H Q E h => ?_) (fun cdv A outer s H vs Q E hr h => ?_)
  · obtain ⟨b, bl, tb, cols, rows, rfl, _⟩ := h
    rfl
  · obtain ⟨b, bl, tb, cols, rows, rfl, hB, fT, hc, hc2, hrs, hrn, q⟩ := h
    have fT0 := fT
    obtain ⟨t, R, vs, rfl, ht, hRR, fvs⟩ := tab_open fT0
    refine ⟨_, (pss_cons (ps_set (i := 2) sc_l_question.nd rfl (.inl rfl) (pe_ix (ixT K) (pv 1) pe_int (fun _ _ => rfl)))
      (pss_cons (ps_set (i := 3) sc_l_question.nd rfl (.inl rfl) (pe_lst pa_nil))
      (pss_cons (ps_set (i := 4) sc_l_question.nd rfl (.inl rfl) (pe_lst pa_nil))
      (pss_cons (ps_for PassesOwn.never rfl (pi_enumS (by rfl) T.m_enumerate (pa_cons (pv 2) pa_nil)) (pgT K (n := 2) (pgs_cons (pg_name (i := 5) sc_l_question.nd rfl (.inl rfl)) (pgs_cons (pg_name (i := 6) sc_l_question.nd rfl (.inl rfl)) pgs_nil))) (pss_one (ps_if (pt_cmpR op_eq (pe_call G_l_lot (hr.mono (by omega)) (by rfl) T.g_l_lot T.F_l_lot.kp T.b_l_lot .nil pass0 (pa_cons (pv 0) (pa_cons pe_int pa_nil))) pe_int (nomark _)) (pss_one (ps_expr (bmK K PySem.F.plainAttrs_list PySem.F.slot_list_append PySem.F.type_list_append mt_append (pv 3) (pa_cons (pe_tup (pa_cons (pv 6) (pa_cons (pe_call G_l_near (hr.mono (by omega)) (by rfl) T.g_l_near T.F_l_near.kp T.b_l_near .nil pass0 (pa_cons (pv 0) (pa_cons (pv 1) (pa_cons (pv 5) pa_nil)))) pa_nil))) pa_nil)))) (pss_one (ps_expr (bmK K PySem.F.plainAttrs_list PySem.F.slot_list_append PySem.F.type_list_append mt_append (pv 4) (pa_cons (pv 5) pa_nil)))))))
      (pss_cons (ps_if (PW.pt (pw_or (pt_cmpR (eqDK K hr.units) (pv 4) (pe_lst pa_nil) (nomark _)) (pw_or1 (pt_cmpR op_eq (pe_call G_l_lot (hr.mono (by omega)) (by rfl) T.g_l_lot T.F_l_lot.kp T.b_l_lot .nil pass0 (pa_cons (pv 0) (pa_cons pe_int pa_nil))) pe_int (nomark _))))) (pss_one (ps_ret (pe_tup (pa_cons (pe_callTy (cTupF K) (by rfl) T.m_tuple (by decide +kernel) (pa_cons (pv 3) pa_nil)) (pa_cons pe_non pa_nil))))) pss_nil)
      (pss_cons (ps_set (i := 5) sc_l_question.nd rfl (.inl rfl) (pe_ix (ixL K) (pv 4) (pe_call G_l_lot (hr.mono (by omega)) (by rfl) T.g_l_lot T.F_l_lot.kp T.b_l_lot .nil pass0 (pa_cons (pv 0) (pa_cons (pe_callB (cLenSq K) (by rfl) T.m_len (by decide +kernel) (pa_cons (pv 4) pa_nil)) pa_nil))) (fun _ _ => rfl)))
      (pss_cons (ps_set (i := 7) sc_l_question.nd rfl (.inl rfl) (pe_callB cr_sortedI (by rfl) T.m_sorted (by decide +kernel) (pa_cons (pe_lst (pa_cons (pe_call G_l_near (hr.mono (by omega)) (by rfl) T.g_l_near T.F_l_near.kp T.b_l_near .nil pass0 (pa_cons (pv 0) (pa_cons (pv 1) (pa_cons (pv 5) pa_nil)))) (pa_cons (pe_call G_l_near (hr.mono (by omega)) (by rfl) T.g_l_near T.F_l_near.kp T.b_l_near .nil pass0 (pa_cons (pv 0) (pa_cons (pv 1) (pa_cons (pv 5) pa_nil)))) pa_nil))) pa_nil)))
      (pss_one (ps_ret (pe_tup (pa_cons (pe_callTy (cTupF K) (by rfl) T.m_tuple (by decide +kernel) (pa_cons (pv 3) pa_nil)) (pa_cons (pe_tup (pa_cons (pe_ix ix_str (pv 2) (pv 5) (fun _ _ => rfl)) (pa_cons (pe_ix (ixL K) (pv 7) pe_int (fun _ _ => rfl)) (pa_cons (pe_ix (ixL K) (pv 7) pe_int (fun _ _ => rfl)) pa_nil)))) pa_nil)))))))))))), ?_⟩
    refine ⟨.ref t, rfl, t, _, 0, tx cols, rfl, rfl, .inl (.inl ht), rfl, ?_⟩
    refine ⟨Nat.zero_le _, fun E nE => ?_⟩
    have nEb := hB.ne nE
    have kpE : Kp b H (upd H E (.lst [])) := Kp.rfl'.new nE
    have hBE := hB.new nE (o := .lst [])
    have hEE : (upd H E (.lst [])) E = some (.lst []) := upd_same
    generalize upd H E (.lst []) = HE at kpE hBE hEE ⊢
    refine ⟨Nat.zero_le _, fun O nO => ?_⟩
    have nOb := hBE.ne nO
    have nOH : H O = none := Kp.none kpE nOb.1 nO
    have nOE : O ≠ E := (ne_of_none hEE nO).symm
    have kp1 : Kp b H (upd HE O (.lst [])) := kpE.new nO
    have hB1 := hBE.new nO (o := .lst [])
    have hE1 : (upd HE O (.lst [])) E = some (.lst []) := keep_new hEE nO
    have hO1 : (upd HE O (.lst [])) O = some (.lst []) := upd_same
    generalize upd HE O (.lst []) = H1 at kp1 hB1 hE1 hO1 ⊢
    refine ⟨tx cols, rfl, _, rfl, for_it walk_es (fun i σ H' => ∃ (es : List (Nat × Int)) (ps : List V) (os : List Nat) (y5 y6 : Option V), σ = [some (.ref b), some (.ref t), some (tx cols), some (.ref E), some (.ref O), y5, y6, none] ∧ Kp b H H' ∧ Bag b bl H' ∧ H' E = some (.lst ps) ∧ FzA H' ps (es.map eqD) ∧ H' O = some (.lst (os.map fun j : Nat => V.int (j : Int))) ∧ (es.map (·.1)).Sublist (cols.take i) ∧ (∀ p ∈ es, 0 ≤ p.2 ∧ p.2 < 1000) ∧ os.length ≤ i ∧ ∀ j ∈ os, j < i ∧ ∀ h : j < cols.length, cols[j] ∉ es.map (·.1))
      ⟨[], [], [], none, none, rfl, kp1, hB1, hE1, .nil, hO1, List.nil_sublist _, (fun _ h => nomatch h), Nat.le_refl _, fun _ h => nomatch h⟩ (fun _ _ _ _ _ => trivial) (fun i x σ H3 H4 hi hP hY => ?_) (fun σ H3 hP => ?_)⟩
    · obtain ⟨es, ps, os, y5, y6, rfl, kp3, hB3, hE3, fps, hO3, hsub, hes, hol, hos⟩ := hP
      obtain ⟨T0, x1, x2, rfl, nT, rfl, ex1, ex2⟩ := hY
      have hi2 : i < cols.length := hi
      have e1 : x1 = .int (i : Nat) := (Option.some.inj ex1).symm
      have e2 : x2 = sg cols[i] := by
        have : (some (sg cols[i]) : Option V) = some x2 := by
          rw [← ex2]
          simp [hi2]
        exact (Option.some.inj this).symm
      subst e1 e2
      have kp4 : Kp b H (upd H3 T0 (.tup [.int (i : Nat), sg cols[i]])) := kp3.new nT
      have hB4 := hB3.new nT (o := .tup [.int (i : Nat), sg cols[i]])
      have hE4 : (upd H3 T0 (.tup [.int (i : Nat), sg cols[i]])) E = some (.lst ps) := keep_new hE3 nT
      have hO4 : (upd H3 T0 (.tup [.int (i : Nat), sg cols[i]])) O = some (.lst (os.map fun j : Nat => V.int (j : Int))) := keep_new hO3 nT
      have fps4 := fps.kt (Kt.new nT (o := .tup [.int (i : Nat), sg cols[i]]))
      refine ⟨T0, [.int (i : Nat), sg cols[i]], rfl, .inl (.inl upd_same), rfl, .int (i : Nat), [sg cols[i]], rfl, sg cols[i], [], rfl, rfl, ?_⟩
      generalize upd H3 T0 (.tup [.int (i : Nat), sg cols[i]]) = H4 at kp4 hB4 hE4 hO4 fps4 ⊢
      have hsub1 : (es.map (·.1)).Sublist (cols.take (i + 1)) := hsub.trans (List.take_sublist_take_left (Nat.le_succ i))
      have hpl : ps.length ≤ 26 := by
        rw [fps.len, List.length_map]
        have := hsub.length_le
        rw [List.length_map, List.length_take] at this
        omega
      refine ⟨.ref b, rfl, b, bl, 3, rfl, hB4, by decide, by decide, fun d H5 kp5 hB5 d0 d1 => ⟨rfl, _, rfl, ite2 (fun e => ?_) (fun e => ?_)⟩⟩
      · have hE5 := kp5 _ _ nEb.1 hE4
        have hO5 := kp5 _ _ nOb.1 hO4
        have kpB : Kp b H H5 := kp4.trans kp5
        refine ⟨.ref E, rfl, .inl ⟨rfl, _, .inl (.inl hE5)⟩, sg cols[i], rfl, .ref b, rfl, .ref t, rfl, .int (i : Nat), rfl, b, bl, .ref t, cols, rows, i, rfl, hB5, fT.kt (kpB.kTb hB).1, hrs, hi2, hrn, fun x H6 kp6 hB6 x0 x1 => ?_⟩
        refine ⟨(by show 2 ≤ sizeLine; decide), fun p np => ?_⟩
        have hE7 : (upd H6 p (.tup [sg cols[i], .int x])) E = some (.lst ps) := keep_new (kp6 _ _ nEb.1 hE5) np
        have hO7 : (upd H6 p (.tup [sg cols[i], .int x])) O = some (.lst (os.map fun j : Nat => V.int (j : Int))) := keep_new (kp6 _ _ nOb.1 hO5) np
        have fp : Fz (upd H6 p (.tup [sg cols[i], .int x])) (.ref p) (eqD (cols[i], x)) := Fz.made np (.cons (.str _) (.cons (.int _) .nil))
        have fps7 := ((fps4.kt (kp5.kTb hB4).1).kt (kp6.kTb hB5).1).kt (Kt.new np (o := .tup [sg cols[i], .int x]))
        refine ⟨E, ps, .ref p, rfl, rfl, hE7, small1000 (by omega), es ++ [(cols[i], x)], ps ++ [.ref p], os, _, _, rfl, ((kpB.trans kp6).new np).mut nE, (hB6.new np).upd nEb.1 nEb.2, upd_same, ?_, keep_ne hO7 nOE, ?_, fun u hu => ?_, by omega, fun j hj => ?_⟩
        · rw [List.map_append]
          exact (FzA.snoc fps7 fp).kt (.lst hE7)
        · rw [List.map_append, List.take_succ_eq_append_getElem hi2]
          exact hsub.append (List.Sublist.refl _)
        · rcases List.mem_append.mp hu with z | z
          · exact hes u z
          · rw [List.mem_singleton.mp z]
            exact ⟨x0, x1⟩
        · obtain ⟨j1, j2⟩ := hos j hj
          refine ⟨by omega, fun h => ?_⟩
          rw [List.map_append]
          intro z
          rcases List.mem_append.mp z with z | z
          · exact j2 h z
          · have z2 : cols[j] = cols[i] := List.mem_singleton.mp z
            have := (List.getElem_inj hc.nd).mp z2
            omega
      · have hO5 := kp5 _ _ nOb.1 hO4
        refine ⟨.ref O, rfl, .inl ⟨rfl, _, .inl (.inl hO5)⟩, .int (i : Nat), rfl, O, _, .int (i : Nat), rfl, rfl, hO5, by rw [List.length_map]; exact small1000 (by omega), es, ps, os ++ [i], _, _, rfl, (kp4.trans kp5).mut nOH, hB5.upd nOb.1 nOb.2, keep_ne (kp5 _ _ nEb.1 hE4) nOE.symm, (fps4.kt (kp5.kTb hB4).1).kt (.lst hO5), by rw [upd_same, List.map_append]; rfl, hsub1, hes, by rw [List.length_append]; show os.length + 1 ≤ i + 1; omega, fun j hj => ?_⟩
        rcases List.mem_append.mp hj with z | z
        · obtain ⟨j1, j2⟩ := hos j z
          exact ⟨by omega, j2⟩
        · rw [List.mem_singleton.mp z]
          refine ⟨Nat.lt_succ_self _, fun h z2 => ?_⟩
          have z3 := hsub.subset z2
          obtain ⟨k, hk, ek⟩ := List.getElem_of_mem z3
          rw [List.getElem_take] at ek
          have := (List.getElem_inj hc.nd).mp ek
          rw [List.length_take] at hk
          omega
    · obtain ⟨es, ps, os, y5, y6, rfl, kp3, hB3, hE3, fps, hO3, hsub, hes, hol, hos⟩ := hP
      have hn : (⟨cols.toArray⟩ : Str).cps.size = cols.length := by simp
      rw [hn] at hsub hol hos
      rw [List.take_of_length_le (Nat.le_refl _)] at hsub
      have hup : (es.map (·.1)).Pairwise (· < ·) := hc.up.sublist hsub
      have hok : ∀ p ∈ es, p.1 ∈ cols ∧ 0 ≤ p.2 ∧ p.2 < 1000 := fun p hp => ⟨hsub.subset (List.mem_map_of_mem hp), hes p hp⟩
      have hesl : es.length ≤ cols.length := by
        have := hsub.length_le
        rw [List.length_map] at this
        exact this
      have retN : ∀ (H' : Hp), Kp b H H' → Bag b bl H' → H' E = some (.lst ps) → FzA H' ps (es.map eqD) → tRet (tTup (tCons (tCB (rTupF K) (tCons (tVar 3) tNil)) (tCons (tC V.non) tNil))) { nx := fun x H' => Q V.non H', rt := Q } [some (.ref b), some (.ref t), some (tx cols), some (.ref E), some (.ref O), y5, y6, none] H' := by
        intro H' kp' hB' hE' f'
        refine ⟨.ref E, rfl, E, ps, rfl, .inl (.inl hE'), fun te ob nte hob => ⟨(by show 2 ≤ sizeLine; decide), fun v nv => ?_⟩⟩
        have f1 : EZ (upd H' te (.frz ob (.tup ps))) (.ref te) es := EZ.made nte hob f'
        exact q es none (.ref v) _ ((kp'.new nte).new nv) ((hB'.new nte).new nv) (QZ.made (rc := none) nv f1 .non) ⟨hup, hok, hesl, fun c lo hi z => nomatch z⟩
      refine ⟨.ref O, rfl, (by show 0 ≤ sizeLine; decide), fun p np => ?_⟩
      rw [ints_of] at hO3
      have hOp : (upd H3 p (.lst [])) O = some (.lst ((os.map fun j : Nat => (j : Int)).map V.int)) := keep_new hO3 np
      have kp4 : Kp b H (upd H3 p (.lst [])) := kp3.new np
      have hB4 := hB3.new np (o := .lst [])
      have hE4 : (upd H3 p (.lst [])) E = some (.lst ps) := keep_new hE3 np
      have fps4 := fps.kt (Kt.new np (o := .lst []))
      have hp4 : (upd H3 p (.lst [])) p = some (.lst []) := upd_same
      generalize upd H3 p (.lst []) = H4 at hOp kp4 hB4 hE4 fps4 hp4 ⊢
      refine ⟨_, _, .lst (.inl (.inl hOp)) (dp_ints _), .lst (.inl (.inl hp4)) .nil, shaped_ints _, shaped_ints [], _, rfl, ite2 (fun e => ?_) (fun e => ?_)⟩
      · exact retN H4 kp4 hB4 hE4 fps4
      · have one : os ≠ [] := fun z => by
          rw [z] at e
          exact e rfl
        have opos : 0 < os.length := List.length_pos_iff.mpr one
        refine ⟨.ref b, rfl, b, bl, 2, rfl, hB4, by decide, by decide, fun d H5 kp5 hB5 d0 d1 => ⟨rfl, _, rfl, ite2 (fun e6 => ?_) (fun e6 => ?_)⟩⟩
        · exact retN H5 (kp4.trans kp5) hB5 (kp5 _ _ nEb.1 hE4) (fps4.kt (kp5.kTb hB4).1)
        · have hO5 := kp5 _ _ nOb.1 hOp
          have hE5 := kp5 _ _ nEb.1 hE4
          have fps5 := fps4.kt (kp5.kTb hB4).1
          have kpB : Kp b H H5 := kp4.trans kp5
          refine ⟨.ref O, rfl, .ref b, rfl, .ref O, rfl, O, _, rfl, .inl (.inl (.inl hO5)), b, bl, _, rfl, hB5, by rw [List.length_map, List.length_map]; omega, by rw [List.length_map, List.length_map]; omega, fun f H6 kp6 hB6 f0 f1 => ?_⟩
          rw [List.length_map, List.length_map] at f1
          have hf : f.toNat < os.length := by omega
          obtain ⟨j1, j2⟩ := hos os[f.toNat] (List.getElem_mem hf)
          have hO6 := kp6 _ _ nOb.1 hO5
          have hE6 := kp6 _ _ nEb.1 hE5
          have fps6 := fps5.kt (kp6.kTb hB5).1
          have kpC : Kp b H H6 := kpB.trans kp6
          have hat : (List.map V.int (os.map fun j : Nat => (j : Int)))[f.toNat]? = some (.int (os[f.toNat] : Int)) := by
            rw [List.getElem?_map, List.getElem?_map, List.getElem?_eq_getElem hf]
            rfl
          generalize os[f.toNat] = aj at j1 j2 hat
          have j3 := j2 j1
          refine ⟨O, _, f, .int (aj : Int), rfl, rfl, .inl (.inl hO6), L2.at_of (j := f.toNat) (by omega) hat, ?_⟩
          -- some
          refine ⟨.ref b, rfl, .ref t, rfl, .int (aj : Int), rfl, b, bl, .ref t, cols, rows, aj, rfl, hB6, fT.kt (kpC.kTb hB).1, hrs, j1, hrn, fun x1 H7 kp7 hB7 x10 x11 => ?_⟩
          have kpD : Kp b H H7 := kpC.trans kp7
          refine ⟨.ref b, rfl, .ref t, rfl, .int (aj : Int), rfl, b, bl, .ref t, cols, rows, aj, rfl, hB7, fT.kt (kpD.kTb hB).1, hrs, j1, hrn, fun x2 H8 kp8 hB8 x20 x21 => ?_⟩
          have kpF : Kp b H H8 := kpD.trans kp8
          have hE8 := kp8 _ _ nEb.1 (kp7 _ _ nEb.1 hE6)
          have fps8 := (fps6.kt (kp7.kTb hB6).1).kt (kp8.kTb hB7).1
          refine ⟨(by show 2 ≤ sizeLine; decide), fun L nL => ?_⟩
          refine ⟨L, [x1, x2], rfl, .inl (.inl upd_same), fun ns p2 hper hpw np2 => ?_⟩
          have hnl : ns.length = 2 := hper.length_eq
          obtain ⟨lo, hi, rfl⟩ : ∃ lo hi, ns = [lo, hi] := by
            match ns, hnl with
            | [a, b], _ => exact ⟨a, b, rfl⟩
          have hlohi : lo ≤ hi := (List.pairwise_cons.mp hpw).1 hi (by simp)
          have hbd : ∀ z ∈ [lo, hi], 0 ≤ z ∧ z < 1000 := fun z hz => by
            have := hper.mem_iff.mp hz
            rcases List.mem_cons.mp this with h | h
            · rw [h]
              exact ⟨x10, x11⟩
            · rw [List.mem_singleton.mp h]
              exact ⟨x20, x21⟩
          have blo := hbd lo (by simp)
          have bhi := hbd hi (by simp)
          have kpG : Kp b H (upd (upd H8 L (.lst [.int x1, .int x2])) p2 (.lst (List.map V.int [lo, hi]))) := (kpF.new nL).new np2
          have hBG := (hB8.new nL (o := .lst [.int x1, .int x2])).new np2 (o := .lst (List.map V.int [lo, hi]))
          have hEG : (upd (upd H8 L (.lst [.int x1, .int x2])) p2 (.lst (List.map V.int [lo, hi]))) E = some (.lst ps) := keep_new (keep_new hE8 nL) np2
          have fpsG := (fps8.kt (Kt.new nL (o := .lst [.int x1, .int x2]))).kt (Kt.new np2 (o := .lst (List.map V.int [lo, hi])))
          have hpG : (upd (upd H8 L (.lst [.int x1, .int x2])) p2 (.lst (List.map V.int [lo, hi]))) p2 = some (.lst [.int lo, .int hi]) := upd_same
          generalize upd (upd H8 L (.lst [.int x1, .int x2])) p2 (.lst (List.map V.int [lo, hi])) = HG at kpG hBG hEG fpsG hpG ⊢
          refine ⟨.ref E, rfl, E, ps, rfl, .inl (.inl hEG), fun te ob nte hob => ?_⟩
          have f1z : EZ (upd HG te (.frz ob (.tup ps))) (.ref te) es := EZ.made nte hob fpsG
          have hp3 : (upd HG te (.frz ob (.tup ps))) p2 = some (.lst [.int lo, .int hi]) := keep_new hpG nte
          have hatc : atI (⟨cols.toArray⟩ : Str).cps.toList (aj : Int) = some cols[aj] := atI_nat (by simp [j1])
          refine ⟨tx cols, rfl, .int (aj : Int), rfl, _, _, _, rfl, rfl, Nat.le_of_lt (small1000 (show cols.length ≤ 1000 by omega)), hatc, ?_⟩
          refine ⟨.ref p2, rfl, p2, _, 0, .int lo, rfl, rfl, .inl (.inl hp3), rfl, .ref p2, rfl, p2, _, 1, .int hi, rfl, rfl, .inl (.inl hp3), rfl, (by show 3 ≤ sizeLine; decide), fun tr ntr => ⟨(by show 2 ≤ sizeLine; decide), fun v nv => ?_⟩⟩
          have fr := Fz.made ntr (.cons (.str (sS cols[aj])) (.cons (.int lo) (.cons (.int hi) .nil)))
          refine q es (some (cols[aj], lo, hi)) (.ref v) _ (((kpG.new nte).new ntr).new nv) (((hBG.new nte).new ntr).new nv) (QZ.made (rc := some _) nv (f1z.kT (.new ntr)) fr) ⟨hup, hok, hesl, fun c l2 h2 z => ?_⟩
          have z2 := Option.some.inj z
          have e1 : cols[aj] = c := congrArg (·.1) z2
          have e2 : lo = l2 := congrArg (·.2.1) z2
          have e3 : hi = h2 := congrArg (·.2.2) z2
          rw [← e1, ← e2, ← e3]
          exact ⟨List.getElem_mem _, j3, blo.1, hlohi, bhi.2⟩

/-! ### letters_of -/
def spLetters (K : PySem.W.Frag) : Sp := fun vs H Q _ => ∃ (ev : V) (es : List (Nat × Int)), vs = [ev] ∧ EZ H ev es ∧ es.length ≤ 1000 ∧ ∀ (p : Addr) (H' : Hp), Same H H' → H p = none → H' p = some (.lst ((es.map (·.1)).map sg)) → Q (.ref p) H'
theorem ok_letters (T : Tx K mg Z) : FnOk P w K mg base CX0 1 Z.f_letters_of Z.d_letters_of ["equals"] (spLetters K) := by
  refine T.F_letters_of.ok sc_letters_of (fun vs H Q E h => ?_) (fun cdv A outer s H vs Q E hr h => ?_)
  · obtain ⟨ev, es, rfl, _⟩ := h
    rfl
  · obtain ⟨ev, es, rfl, fe, hel, q⟩ := h
    obtain ⟨ea, ob, ps, rfl, hob, hea, fps⟩ := fe
    have hpl : ps.length = es.length := by rw [fps.len, List.length_map]
    refine ⟨_, (pss_one (ps_ret (pe_lc (own := [("letter", 1), ("number", 2)]) (tt := tYes) (by rfl) sc_letters_of.nd (piT K (pv 0)) (blkOk_by (own := [("letter", 1), ("number", 2)]) (by kernel_rfl)) (fun _ _ _ _ _ => (pgT K (n := 2) (pgs_cons (pg_name (i := 1) sc_letters_of.nd rfl (.inl rfl)) (pgs_cons (pg_name (i := 2) sc_letters_of.nd rfl (.inl rfl)) pgs_nil)))) (fun _ _ _ _ _ => pts_nil) (fun _ _ _ _ _ => (pv 1))))), ?_⟩
    refine ⟨.ref ea, rfl, ea, rfl, ⟨_, .inl (.inr ⟨_, hea⟩)⟩, fun D nD => lc_it (walk_tup (xs := ps)) (fun i H' => Same H H' ∧ H' D = some (.lst (((es.take i).map (·.1)).map sg)))
      ⟨Same.new (Same.refl H) nD, upd_same⟩ (fun i H' _ hP => .inl (.inr ⟨_, hP.1 _ _ hea⟩)) (fun i x H3 H4 hi hP hY => ?_) (fun H3 hP => ?_)⟩
    · obtain ⟨sm, hD⟩ := hP
      obtain ⟨rfl, hx⟩ := hY
      obtain ⟨dd, hdd, fd⟩ := fps.getV hx
      rw [List.getElem?_map] at hdd
      obtain ⟨pr, hpr, rfl⟩ := Option.map_eq_some_iff.mp hdd
      have hi2 : i < es.length := (List.getElem?_eq_some_iff.mp hpr).1
      have epr : es[i] = pr := (List.getElem?_eq_some_iff.mp hpr).2
      obtain ⟨pa, ys, rfl, hpa, fy2⟩ := fd.open
      obtain ⟨c, v, rfl, fc, fv⟩ := fy2.two
      rw [fc.isStr, fv.isInt] at hpa
      refine ⟨pa, [sg pr.1, .int pr.2], rfl, .inl (.inl (sm _ _ hpa)), rfl, sg pr.1, [.int pr.2], rfl, .int pr.2, [], rfl, rfl, rfl, sg pr.1, rfl, _, hD, ?_, Same.mut sm nD, ?_⟩
      · rw [List.length_map, List.length_map, List.length_take]
        exact small1000 (by omega)
      · rw [upd_same, List.take_succ_eq_append_getElem hi2, epr, List.map_append, List.map_append]
        rfl
    · obtain ⟨sm, hD⟩ := hP
      rw [hpl, List.take_of_length_le (Nat.le_refl _)] at hD
      exact q D H3 sm nD hD

/-! ### NoText -/
theorem nsc_NoText : NdefX.NScope ["self", "number", "__class__"] ["self", "number"] ["__class__"] (defScope s_NoText___init__) := NdefX.nscope_by (by decide +kernel)
theorem binds_NoText (T : Tx K mg Z) : Binds K Z.d_NoText___init__ ["self", "number"] [] := by
  obtain ⟨oc, od, kV, doc, pm, an, cda, cc, ct, osl, e, _⟩ := T.sd_NoText.ex
  rw [e]
  exact Binds.all fun us hl => match us, hl with | [_, _], _ => rfl
theorem ok_NoText (T : Tx K mg Z) : FnOk P w K mg base CX0 1 Z.f_NoText___init__ Z.d_NoText___init__ ["self", "number"] (spNo (Z.xa "NoText") "number") :=
  fn_sup T.sd_NoText T.nt_NoText.nt PF.file PF.top T.m_super nsc_NoText rfl rfl rfl rfl T.nt_NoText.no (by decide) (by decide) (fun env => ⟨_, rfl⟩)

/-! ### is_whole, is_number -/
def spWhole : Sp := fun vs H Q _ => ∃ (v : V) (d : PyData), vs = [v] ∧ Ft H v d ∧ Q (.bl (isIn d && !isBl d)) H
theorem ok_whole (T : Tx K mg Z) : FnOk P w K mg base CX0 1 Z.f_is_whole Z.d_is_whole ["thing"] spWhole := by
  refine T.F_is_whole.ok sc_is_whole (fun vs H Q E h => ?_) (fun cdv A outer s H vs Q E hr h => ?_)
  · obtain ⟨v, d, rfl, _⟩ := h
    rfl
  · obtain ⟨v, d, rfl, f, q⟩ := h
    refine ⟨_, (pss_one (ps_ret (pe_and (pe_callB (isiK K) (by rfl) T.m_isinstance (by decide +kernel) (pa_cons (pv 0) (pa_cons (pe_bltn (v := .ty "int") (by rfl) T.m_int (by decide +kernel) rfl) pa_nil))) (pe_one (pe_not (pe_callB (isiK K) (by rfl) T.m_isinstance (by decide +kernel) (pa_cons (pv 0) (pa_cons (pe_bltn (v := .ty "bool") (by rfl) T.m_bool (by decide +kernel) rfl) pa_nil)))))))), ?_⟩
    refine ⟨v, rfl, v, .ty "int", _, _, isIn d, rfl, .ty _, ty_ft f, kit_in d, _, rfl, ite2 (fun e => ?_) (fun e => ?_)⟩
    · refine ⟨v, rfl, v, .ty "bool", _, _, isBl d, rfl, .ty _, ty_ft f, kit_bl d, _, rfl, ?_⟩
      rw [e, Bool.true_and] at q
      exact q
    · rw [eq_false_of_ne_true e, Bool.false_and] at q
      exact q
def spNumber : Sp := fun vs H Q _ => ∃ (v : V) (d : PyData), vs = [v] ∧ Ft H v d ∧ Q (.bl (isNumD d)) H
theorem ok_number (T : Tx K mg Z) : FnOk P w K mg base CX0 2 Z.f_is_number Z.d_is_number ["thing"] spNumber := by
  have G_is_whole : FnOk P w K mg base CX0 1 Z.f_is_whole Z.d_is_whole ["thing"] spWhole := ok_whole T
  refine T.F_is_number.ok sc_is_number (fun vs H Q E h => ?_) (fun cdv A outer s H vs Q E hr h => ?_)
  · obtain ⟨v, d, rfl, _⟩ := h
    rfl
  · obtain ⟨v, d, rfl, f, q⟩ := h
    refine ⟨_, (pss_one (ps_ret (pe_and (pe_call G_is_whole (hr.mono (by omega)) (by rfl) T.g_is_whole T.F_is_whole.kp T.b_is_whole .nil pass0 (pa_cons (pv 0) pa_nil)) (pe_one (pe_chain op_le op_le pe_int (pv 0) (pe_glob (v := .int 999) (by rfl) T.c_GREATEST ⟨_, rfl⟩)))))), ?_⟩
    refine ⟨v, rfl, v, d, rfl, f, _, rfl, ite2 (fun e => ?_) (fun e => ?_)⟩
    · obtain ⟨i, rfl⟩ := int_open e
      cases f
      refine ⟨.int i, rfl, 0, i, rfl, rfl, _, rfl, ite2 (fun e2 => ?_) (fun e2 => ?_)⟩
      · refine ⟨i, 999, rfl, rfl, ?_⟩
        have hq : isNumD (.int i) = (decide (0 ≤ i) && decide (i ≤ 999)) := rfl
        rw [hq, e2, Bool.true_and] at q
        exact q
      · have hq : isNumD (.int i) = (decide (0 ≤ i) && decide (i ≤ 999)) := rfl
        rw [hq, eq_false_of_ne_true e2, Bool.false_and] at q
        exact q
    · have hn : isNumD d = false := by
        cases d with
        | int i => exact absurd rfl e
        | _ => rfl
      rw [hn] at q
      exact q
/-! ### is_letter, is_equal, is_reach -/
def spLetter : Sp := fun vs H Q _ => ∃ (cols : List Nat) (v : V) (d : PyData), vs = [tx cols, v] ∧ Ft H v d ∧ Sh 20 100000 d ∧ Q (.bl (isLetD cols d)) H
theorem ok_letter (T : Tx K mg Z) : FnOk P w K mg base CX0 1 Z.f_is_letter Z.d_is_letter ["columns", "thing"] spLetter := by
  refine T.F_is_letter.ok sc_is_letter (fun vs H Q E h => ?_) (fun cdv A outer s H vs Q E hr h => ?_)
  · obtain ⟨cols, v, d, rfl, _⟩ := h
    rfl
  · obtain ⟨cols, v, d, rfl, f, hsh, q⟩ := h
    refine ⟨_, (pss_one (ps_ret (pe_and (pe_callB (isiK K) (by rfl) T.m_isinstance (by decide +kernel) (pa_cons (pv 1) (pa_cons (pe_bltn (v := .ty "str") (by rfl) T.m_str (by decide +kernel) rfl) pa_nil))) (pe_and (pe_cmpR op_eq (pe_callB call_len_str (by rfl) T.m_len (by decide +kernel) (pa_cons (pv 1) pa_nil)) pe_int (nomark _)) (pe_one (pe_cmpR op_in_sign (pv 1) (pv 0) (by rfl))))))), ?_⟩
    refine ⟨v, rfl, v, .ty "str", _, _, isSt d, rfl, .ty _, ty_ft f, kit_st d, _, rfl, ite2 (fun e => ?_) (fun e => ?_)⟩
    · obtain ⟨z, rfl⟩ := st_open e
      cases f
      refine ⟨.str z, rfl, z, rfl, hsh.len (Nat.le_refl _), rfl, _, rfl, ite2 (fun e2 => ?_) (fun e2 => ?_)⟩
      · have e3 : z.length = 1 := by
          have := of_decide_eq_true e2
          have e4 : ((z.length : Nat) : Int) = 1 := by injection this
          omega
        obtain ⟨c, rfl⟩ := sg_of e3
        have hq : isLetD cols (.str (sS c)) = decide (c ∈ cols) := rfl
        rw [hq] at q
        refine ⟨.str (sS c), rfl, tx cols, rfl, c, ⟨cols.toArray⟩, rfl, rfl, ?_⟩
        rw [show (⟨cols.toArray⟩ : Str).cps.toList = cols by simp]
        exact q
      · have e3 : z.length ≠ 1 := fun z2 => e2 (decide_eq_true (by rw [z2]; rfl))
        have hq : isLetD cols (.str z) = false := by
          unfold isLetD
          rw [sg_none e3]
        rw [hq] at q
        exact q
    · have hq : isLetD cols d = false := by
        cases d with
        | str z => exact absurd rfl e
        | _ => rfl
      rw [hq] at q
      exact q
def spEqual : Sp := fun vs H Q _ => ∃ (cols : List Nat) (v : V) (d : PyData), vs = [tx cols, v] ∧ Ft H v d ∧ Sh 20 100000 d ∧ Q (.bl (isEqD cols d)) H
theorem ok_equal (T : Tx K mg Z) : FnOk P w K mg base CX0 3 Z.f_is_equal Z.d_is_equal ["columns", "thing"] spEqual := by
  have G_is_letter : FnOk P w K mg base CX0 1 Z.f_is_letter Z.d_is_letter ["columns", "thing"] spLetter := ok_letter T
  have G_is_number : FnOk P w K mg base CX0 2 Z.f_is_number Z.d_is_number ["thing"] spNumber := ok_number T
  refine T.F_is_equal.ok sc_is_equal (fun vs H Q E h => ?_) (fun cdv A outer s H vs Q E hr h => ?_)
  · obtain ⟨cols, v, d, rfl, _⟩ := h
    rfl
  · obtain ⟨cols, v, d, rfl, f, hsh, q⟩ := h
    refine ⟨_, (pss_cons (ps_if (PW.pt (pw_or (pt_not (pt_val (pe_callB (isiK K) (by rfl) T.m_isinstance (by decide +kernel) (pa_cons (pv 1) (pa_cons (pe_bltn (v := .ty "tuple") (by rfl) T.m_tuple (by decide +kernel) rfl) pa_nil))))) (pw_or1 (pt_cmpR op_ne (pe_callB (cLenSq K) (by rfl) T.m_len (by decide +kernel) (pa_cons (pv 1) pa_nil)) pe_int (nomark _))))) (pss_one (ps_ret pe_bl)) pss_nil)
      (pss_cons (ps_asg (pv 1) (pgT K (n := 2) (pgs_cons (pg_name (i := 2) sc_is_equal.nd rfl (.inl rfl)) (pgs_cons (pg_name (i := 3) sc_is_equal.nd rfl (.inl rfl)) pgs_nil))))
      (pss_one (ps_ret (pe_and (pe_call G_is_letter (hr.mono (by omega)) (by rfl) T.g_is_letter T.F_is_letter.kp T.b_is_letter .nil pass0 (pa_cons (pv 0) (pa_cons (pv 2) pa_nil))) (pe_one (pe_call G_is_number (hr.mono (by omega)) (by rfl) T.g_is_number T.F_is_number.kp T.b_is_number .nil pass0 (pa_cons (pv 3) pa_nil)))))))), ?_⟩
    refine ⟨v, rfl, v, .ty "tuple", _, _, isTp d, rfl, .ty _, ty_ft f, kit_tp d, _, rfl, ite2 (fun e => ?_) (fun e => ?_)⟩
    · have hq : isEqD cols d = false := by
        cases d with
        | tuple ds => cases e
        | _ => rfl
      rw [hq] at q
      exact iteT q
    · obtain ⟨ds, rfl⟩ := tp_open (by simpa using e)
      obtain ⟨a, xs, rfl, ha, fa⟩ : ∃ (a : Addr) (xs : List V), v = .ref a ∧ H a = some (.tup xs) ∧ FtA H xs ds := by
        cases f with
        | tup h g => exact ⟨_, _, rfl, h, g⟩
      have hl := fa.len
      refine ⟨.ref a, rfl, a, xs, rfl, .inr (.inl (.inl ha)), rfl, _, rfl, ite2 (fun e2 => ?_) (fun e2 => ?_)⟩
      · have hq : isEqD cols (.tuple ds) = false := by
          match ds, hl with
          | [], _ => rfl
          | [_], _ => rfl
          | [a1, a2], hl =>
            rw [hl] at e2
            exact absurd e2 (by simp)
          | _ :: _ :: _ :: _, _ => rfl
        rw [hq] at q
        exact q
      · have hl2 : ds.length = 2 := by
          have e3 : V.int ((xs.length : Nat) : Int) = V.int 2 := by simpa using e2
          have e4 : ((xs.length : Nat) : Int) = 2 := by injection e3
          omega
        match ds, hl2 with
        | [d1, d2], _ =>
          obtain ⟨x1, x2, rfl, f1, f2⟩ : ∃ x1 x2, xs = [x1, x2] ∧ Ft H x1 d1 ∧ Ft H x2 d2 := by
            cases fa with
            | cons g1 g =>
              cases g with
              | cons g2 g =>
                cases g
                exact ⟨_, _, rfl, g1, g2⟩
          have s1 := hsh.memT d1 (by simp)
          refine ⟨.ref a, rfl, a, [x1, x2], rfl, .inl (.inl ha), rfl, x1, [x2], rfl, x2, [], rfl, rfl, ?_⟩
          refine ⟨tx cols, rfl, x1, rfl, cols, x1, d1, rfl, f1, s1, _, rfl, ite2 (fun e3 => ?_) (fun e3 => ?_)⟩
          · refine ⟨x2, rfl, x2, d2, rfl, f2, ?_⟩
            have hq : isEqD cols (.tuple [d1, d2]) = isNumD d2 := by
              show (isLetD cols d1 && isNumD d2) = _
              rw [e3, Bool.true_and]
            rw [hq] at q
            exact q
          · have hq : isEqD cols (.tuple [d1, d2]) = false := by
              show (isLetD cols d1 && isNumD d2) = _
              rw [eq_false_of_ne_true e3, Bool.false_and]
            rw [hq] at q
            exact q
def spReach : Sp := fun vs H Q _ => ∃ (cols : List Nat) (v : V) (d : PyData), vs = [tx cols, v] ∧ Ft H v d ∧ Sh 20 100000 d ∧ Q (.bl (isReD cols d)) H
theorem ok_reach (T : Tx K mg Z) : FnOk P w K mg base CX0 3 Z.f_is_reach Z.d_is_reach ["columns", "thing"] spReach := by
  have G_is_letter : FnOk P w K mg base CX0 1 Z.f_is_letter Z.d_is_letter ["columns", "thing"] spLetter := ok_letter T
  have G_is_number : FnOk P w K mg base CX0 2 Z.f_is_number Z.d_is_number ["thing"] spNumber := ok_number T
  refine T.F_is_reach.ok sc_is_reach (fun vs H Q E h => ?_) (fun cdv A outer s H vs Q E hr h => ?_)
  · obtain ⟨cols, v, d, rfl, _⟩ := h
    rfl
  · obtain ⟨cols, v, d, rfl, f, hsh, q⟩ := h
    refine ⟨_, (pss_cons (ps_if (PW.pt (pw_or (pt_not (pt_val (pe_callB (isiK K) (by rfl) T.m_isinstance (by decide +kernel) (pa_cons (pv 1) (pa_cons (pe_bltn (v := .ty "tuple") (by rfl) T.m_tuple (by decide +kernel) rfl) pa_nil))))) (pw_or1 (pt_cmpR op_ne (pe_callB (cLenSq K) (by rfl) T.m_len (by decide +kernel) (pa_cons (pv 1) pa_nil)) pe_int (nomark _))))) (pss_one (ps_ret pe_bl)) pss_nil)
      (pss_cons (ps_asg (pv 1) (pgT K (n := 3) (pgs_cons (pg_name (i := 2) sc_is_reach.nd rfl (.inl rfl)) (pgs_cons (pg_name (i := 3) sc_is_reach.nd rfl (.inl rfl)) (pgs_cons (pg_name (i := 4) sc_is_reach.nd rfl (.inl rfl)) pgs_nil)))))
      (pss_one (ps_ret (pe_and (pe_call G_is_letter (hr.mono (by omega)) (by rfl) T.g_is_letter T.F_is_letter.kp T.b_is_letter .nil pass0 (pa_cons (pv 0) (pa_cons (pv 2) pa_nil))) (pe_and (pe_call G_is_number (hr.mono (by omega)) (by rfl) T.g_is_number T.F_is_number.kp T.b_is_number .nil pass0 (pa_cons (pv 3) pa_nil)) (pe_and (pe_call G_is_number (hr.mono (by omega)) (by rfl) T.g_is_number T.F_is_number.kp T.b_is_number .nil pass0 (pa_cons (pv 4) pa_nil)) (pe_one (pe_cmpR op_le (pv 3) (pv 4) (nomark _)))))))))), ?_⟩
    refine ⟨v, rfl, v, .ty "tuple", _, _, isTp d, rfl, .ty _, ty_ft f, kit_tp d, _, rfl, ite2 (fun e => ?_) (fun e => ?_)⟩
    · have hq : isReD cols d = false := by
        cases d with
        | tuple ds => cases e
        | _ => rfl
      rw [hq] at q
      exact iteT q
    · obtain ⟨ds, rfl⟩ := tp_open (by simpa using e)
      obtain ⟨a, xs, rfl, ha, fa⟩ : ∃ (a : Addr) (xs : List V), v = .ref a ∧ H a = some (.tup xs) ∧ FtA H xs ds := by
        cases f with
        | tup h g => exact ⟨_, _, rfl, h, g⟩
      have hl := fa.len
      refine ⟨.ref a, rfl, a, xs, rfl, .inr (.inl (.inl ha)), rfl, _, rfl, ite2 (fun e2 => ?_) (fun e2 => ?_)⟩
      · have hq : isReD cols (.tuple ds) = false := by
          match ds, hl with
          | [], _ => rfl
          | [_], _ => rfl
          | [_, _], _ => rfl
          | [a1, a2, a3], hl =>
            rw [hl] at e2
            exact absurd e2 (by simp)
          | _ :: _ :: _ :: _ :: _, _ => rfl
        rw [hq] at q
        exact q
      · have hl2 : ds.length = 3 := by
          have e3 : V.int ((xs.length : Nat) : Int) = V.int 3 := by simpa using e2
          have e4 : ((xs.length : Nat) : Int) = 3 := by injection e3
          omega
        match ds, hl2 with
        | [d1, d2, d3], _ =>
          obtain ⟨x1, x2, x3, rfl, f1, f2, f3⟩ : ∃ x1 x2 x3, xs = [x1, x2, x3] ∧ Ft H x1 d1 ∧ Ft H x2 d2 ∧ Ft H x3 d3 := by
            cases fa with
            | cons g1 g =>
              cases g with
              | cons g2 g =>
                cases g with
                | cons g3 g =>
                  cases g
                  exact ⟨_, _, _, rfl, g1, g2, g3⟩
          have s1 := hsh.memT d1 (by simp)
          have hre : isReD cols (.tuple [d1, d2, d3]) = (isLetD cols d1 && isNumD d2 && isNumD d3 && leD d2 d3) := rfl
          rw [hre] at q
          refine ⟨.ref a, rfl, a, [x1, x2, x3], rfl, .inl (.inl ha), rfl, x1, [x2, x3], rfl, x2, [x3], rfl, x3, [], rfl, rfl, ?_⟩
          refine ⟨tx cols, rfl, x1, rfl, cols, x1, d1, rfl, f1, s1, _, rfl, ite2 (fun e3 => ?_) (fun e3 => ?_)⟩
          · rw [e3, Bool.true_and] at q
            refine ⟨x2, rfl, x2, d2, rfl, f2, _, rfl, ite2 (fun e4 => ?_) (fun e4 => ?_)⟩
            · rw [e4, Bool.true_and] at q
              refine ⟨x3, rfl, x3, d3, rfl, f3, _, rfl, ite2 (fun e5 => ?_) (fun e5 => ?_)⟩
              · rw [e5, Bool.true_and] at q
                obtain ⟨i2, rfl, _, _⟩ := isNum_open e4
                obtain ⟨i3, rfl, _, _⟩ := isNum_open e5
                cases f2
                cases f3
                exact ⟨.int i2, rfl, .int i3, rfl, i2, i3, rfl, rfl, q⟩
              · rw [eq_false_of_ne_true e5, Bool.false_and] at q
                exact q
            · rw [eq_false_of_ne_true e4, Bool.false_and, Bool.false_and] at q
              exact q
          · rw [eq_false_of_ne_true e3, Bool.false_and, Bool.false_and, Bool.false_and] at q
            exact q
/-! ### letters_of, is_rising -/
def spLettersD (K : PySem.W.Frag) : Sp := fun vs H Q _ => ∃ (cols : List Nat) (v : V) (ps : List PyData), vs = [v] ∧ Ft H v (.tuple ps) ∧ ps.all (isEqD cols) = true ∧ ps.length ≤ 100000 ∧ ∀ (p : Addr) (H' : Hp), Same H H' → H p = none → H' p = some (.lst ((ps.map letD).map sg)) → Q (.ref p) H'
theorem ok_lettersD (T : Tx K mg Z) : FnOk P w K mg base CX0 1 Z.f_letters_of Z.d_letters_of ["equals"] (spLettersD K) := by
  refine T.F_letters_of.ok sc_letters_of (fun vs H Q E h => ?_) (fun cdv A outer s H vs Q E hr h => ?_)
  · obtain ⟨cols, v, ps, rfl, _⟩ := h
    rfl
  · obtain ⟨cols, v, ps, rfl, f, hal, hpl, q⟩ := h
    obtain ⟨a, xs, rfl, ha, fa⟩ : ∃ (a : Addr) (xs : List V), v = .ref a ∧ H a = some (.tup xs) ∧ FtA H xs ps := by
      cases f with
      | tup h g => exact ⟨_, _, rfl, h, g⟩
    have hl := fa.len
    refine ⟨_, (pss_one (ps_ret (pe_lc (own := [("letter", 1), ("number", 2)]) (tt := tYes) (by rfl) sc_letters_of.nd (piT K (pv 0)) (blkOk_by (own := [("letter", 1), ("number", 2)]) (by kernel_rfl)) (fun _ _ _ _ _ => (pgT K (n := 2) (pgs_cons (pg_name (i := 1) sc_letters_of.nd rfl (.inl rfl)) (pgs_cons (pg_name (i := 2) sc_letters_of.nd rfl (.inl rfl)) pgs_nil)))) (fun _ _ _ _ _ => pts_nil) (fun _ _ _ _ _ => (pv 1))))), ?_⟩
    refine ⟨.ref a, rfl, a, rfl, ⟨_, .inl (.inl ha)⟩, fun D nD => lc_it (walk_tup (xs := xs)) (fun i H' => Same H H' ∧ H' D = some (.lst (((ps.take i).map letD).map sg)))
      ⟨Same.new (Same.refl H) nD, upd_same⟩ (fun i H' _ hP => .inl (.inl (hP.1 _ _ ha))) (fun i x H3 H4 hi hP hY => ?_) (fun H3 hP => ?_)⟩
    · obtain ⟨sm, hD⟩ := hP
      obtain ⟨rfl, hx⟩ := hY
      obtain ⟨dd, hdd, fd⟩ := fa.getV hx
      have hi2 : i < ps.length := (List.getElem?_eq_some_iff.mp hdd).1
      have epr : ps[i] = dd := (List.getElem?_eq_some_iff.mp hdd).2
      obtain ⟨c, n, rfl, _, _, _, hlet⟩ := isEq_open (List.all_eq_true.mp hal dd (List.mem_of_getElem? hdd))
      obtain ⟨pa, hpa⟩ : ∃ pa, x = .ref pa ∧ H pa = some (.tup [sg c, .int n]) := by
        cases fd with
        | tup h g =>
          cases g with
          | cons g1 g =>
            cases g with
            | cons g2 g =>
              cases g
              cases g1
              cases g2
              exact ⟨_, rfl, h⟩
      obtain ⟨rfl, hpa⟩ := hpa
      refine ⟨pa, [sg c, .int n], rfl, .inl (.inl (sm _ _ hpa)), rfl, sg c, [.int n], rfl, .int n, [], rfl, rfl, rfl, sg c, rfl, _, hD, ?_, Same.mut sm nD, ?_⟩
      · rw [List.length_map, List.length_map, List.length_take, sizeLine_eq]
        omega
      · rw [upd_same, List.take_succ_eq_append_getElem hi2, epr, List.map_append, List.map_append]
        simp only [List.map_cons, List.map_nil, hlet]
    · obtain ⟨sm, hD⟩ := hP
      rw [hl, List.take_of_length_le (Nat.le_refl _)] at hD
      exact q D H3 sm nD hD
def spRising (K : PySem.W.Frag) (Z : Ad) : Sp := fun vs H Q _ => ∃ (p : Addr) (ls : List Nat), vs = [.ref p] ∧ TG Z.Ps H ∧ H p = some (.lst (ls.map sg)) ∧ ls.length ≤ 100000 ∧ ∀ (H' : Hp), Sx Z.Ps H H' → TG Z.Ps H' → Q (.bl (risB ls)) H'
theorem ok_rising (T : Tx K mg Z) (TB : Tb base mg Z) : FnOk P w K mg base CX0 4 Z.f_is_rising Z.d_is_rising ["things"] (spRising K Z) := by
  refine T.C_is_rising.ok sc_is_rising (fun vs H Q E h => ?_) (fun A outer s H vs Q E hr h => ?_)
  · obtain ⟨p, ls, rfl, _⟩ := h
    rfl
  · obtain ⟨p, ls, rfl, tg, hp, hls, q⟩ := h
    refine ⟨_, (pss_one (ps_ret (pe_allC (own := [("at", 1)]) (k := 0) (hr.mono (by omega)) (by rfl) T.m_all (TB.t_is_rising) rfl (gxS_by (blkOk_by (own := [("at", 1)]) (by kernel_rfl)) (by kernel_rfl)) sc_is_rising.nd (by rfl) (pi_range1 (by rfl) T.m_range (pa_cons (pe_op op_sub (pe_callB (cLenSq K) (by rfl) T.m_len (by decide +kernel) (pa_cons (pv 0) pa_nil)) pe_int) pa_nil)) (fun _ _ _ _ _ _ _ _ => (pg_name (i := 1) sc_is_rising.nd rfl (.inl rfl))) (fun _ _ _ _ _ _ _ _ hr => (pe_cmpR op_lt_str (pe_ix (ixL K) (pv 0) (pv 1) (fun _ _ => rfl)) (pe_ix (ixL K) (pv 0) (pe_op op_add (pv 1) pe_int) (fun _ _ => rfl)) (nomark _)))))), ?_⟩
    have hP : Z.P_is_rising ∈ Z.Ps := by simp
    have el : (ls.map sg).length = ls.length := List.length_map ..
    refine ⟨.ref p, rfl, p, _, rfl, .inl (.inl (.inl hp)), _, 1, rfl, rfl, _, rfl, by rw [el]; omega, by rw [el]; omega, tg _ hP, fun H2 hT => ?_⟩
    have tg2 := Tabbed.tg tg hT
    have sx2 := Tabbed.sx hP hT
    have hp2 : H2 p = some (.lst (ls.map sg)) := sx2.lst tg hp
    have eN : (((ls.map sg).length : Nat) - 1 : Int).toNat = ls.length - 1 := by
      rw [el]
      omega
    refine ⟨(((ls.map sg).length : Nat) - 1 : Int).toNat, fun i => decide (ls.getD i 0 < ls.getD (i + 1) 0), fun i H' => i ≤ (((ls.map sg).length : Nat) - 1 : Int).toNat ∧ H' = H2, ⟨Nat.zero_le _, rfl⟩, gx_step walk_range (fun _ _ _ _ => trivial) (fun i x H3 H4 hi e hY => ?_), fun H3 e hall => ?_, fun j H3 hj hs hal e => ?_⟩
    · obtain ⟨rfl, rfl⟩ := hY
      have h1 : i < ls.length := by omega
      have h2 : i + 1 < ls.length := by omega
      have g1 : ls[i]? = some (ls.getD i 0) := by
        rw [List.getD_eq_getElem?_getD, List.getElem?_eq_getElem h1]
        rfl
      have g2 : ls[i + 1]? = some (ls.getD (i + 1) 0) := by
        rw [List.getD_eq_getElem?_getD, List.getElem?_eq_getElem h2]
        rfl
      refine ⟨rfl, .ref p, rfl, .int (0 + (i : Nat)), rfl, p, ls.map sg, _, sg (ls.getD i 0), rfl, rfl, .inl (.inl (by rw [e]; exact hp2)), ?_, .ref p, rfl, .int (0 + (i : Nat)), rfl, _, 1, rfl, rfl, p, ls.map sg, _, sg (ls.getD (i + 1) 0), rfl, rfl, .inl (.inl (by rw [e]; exact hp2)), ?_, sS (ls.getD i 0), sS (ls.getD (i + 1) 0), rfl, rfl, ?_, hi, e⟩
      · rw [Int.zero_add]
        exact atI_nat (by rw [List.getElem?_map, g1]; rfl)
      · rw [Int.zero_add, show ((i : Nat) : Int) + 1 = ((i + 1 : Nat) : Int) from rfl]
        exact atI_nat (by rw [List.getElem?_map, g2]; rfl)
      · rw [cps_lt]
    · have hq : risB ls = true := (ris_get ls).mpr fun i hi => of_decide_eq_true (hall i (by omega))
      rw [hq] at q
      rw [e.2]
      exact q H2 sx2 tg2
    · have hq : risB ls = false := by
        refine eq_false_of_ne_true fun z => ?_
        have := (ris_get ls).mp z j (by omega)
        exact absurd this (of_decide_eq_false hs)
      rw [hq] at q
      rw [e.2]
      exact q H2 sx2 tg2
/-! ### is_equals, is_question -/
def spEquals (K : PySem.W.Frag) (Z : Ad) : Sp := fun vs H Q _ => ∃ (cols : List Nat) (v : V) (d : PyData), vs = [tx cols, v] ∧ TG Z.Ps H ∧ Fl Z.Ps H v d ∧ Sh 20 100000 d ∧ wd d ≤ 100000 ∧ ∀ (H' : Hp), Sx Z.Ps H H' → TG Z.Ps H' → Q (.bl (isEqsD cols d)) H'
theorem ok_equals (T : Tx K mg Z) (TB : Tb base mg Z) : FnOk P w K mg base CX0 7 Z.f_is_equals Z.d_is_equals ["columns", "thing"] (spEquals K Z) := by
  have G_is_equal : FnOk P w K mg base CX0 3 Z.f_is_equal Z.d_is_equal ["columns", "thing"] spEqual := ok_equal T
  have G_is_rising : FnOk P w K mg base CX0 4 Z.f_is_rising Z.d_is_rising ["things"] (spRising K Z) := ok_rising T TB
  have G_letters_of : FnOk P w K mg base CX0 1 Z.f_letters_of Z.d_letters_of ["equals"] (spLettersD K) := ok_lettersD T
  refine T.C_is_equals.ok sc_is_equals (fun vs H Q E h => ?_) (fun A outer s H vs Q E hr h => ?_)
  · obtain ⟨cols, v, d, rfl, _⟩ := h
    rfl
  · obtain ⟨cols, v, d, rfl, tg, f, hsh, hwd, q⟩ := h
    refine ⟨_, (pss_cons (ps_if (PW.pt (pw_or (pt_not (pt_val (pe_callB (isiK K) (by rfl) T.m_isinstance (by decide +kernel) (pa_cons (pv 1) (pa_cons (pe_bltn (v := .ty "tuple") (by rfl) T.m_tuple (by decide +kernel) rfl) pa_nil))))) (pw_or1 (pt_not (pt_val (pe_allC (own := [("part", 2)]) (k := 3) (hr.mono (by omega)) (by rfl) T.m_all (TB.t_is_equals) rfl (gxS_by (blkOk_by (own := [("part", 2)]) (by kernel_rfl)) (by kernel_rfl)) sc_is_equals.nd (by rfl) (piT K (pv 1)) (fun _ _ _ _ _ _ _ _ => (pg_name (i := 2) sc_is_equals.nd rfl (.inl rfl))) (fun _ _ _ _ _ _ _ _ hr => (pe_call G_is_equal (hr.mono (by omega)) (by rfl) T.g_is_equal T.F_is_equal.kp T.b_is_equal .nil pass0 (pa_cons (pv 0) (pa_cons (pv 2) pa_nil)))))))))) (pss_one (ps_ret pe_bl)) pss_nil)
      (pss_one (ps_ret (pe_call G_is_rising (hr.mono (by omega)) (by rfl) T.g_is_rising T.F_is_rising.kp T.b_is_rising .nil pass0 (pa_cons (pe_call G_letters_of (hr.mono (by omega)) (by rfl) T.g_letters_of T.F_letters_of.kp T.b_letters_of .nil pass0 (pa_cons (pv 1) pa_nil)) pa_nil))))), ?_⟩
    have hP : Z.P_is_equals ∈ Z.Ps := by simp
    refine ⟨v, rfl, v, .ty "tuple", _, _, isTp d, rfl, .ty _, ty_ft f.to, kit_tp d, _, rfl, ite2 (fun e => ?_) (fun e => ?_)⟩
    · have hq : isEqsD cols d = false := by
        cases d with
        | tuple ds => cases e
        | _ => rfl
      rw [hq] at q
      exact iteT (q H (fun _ _ _ h => h) tg)
    · obtain ⟨ds, rfl⟩ := tp_open (by simpa using e)
      obtain ⟨a, xs, rfl, na, ha, fa⟩ := f.openT
      have hl := FtA.len fa
      have hdl : ds.length ≤ 100000 := Nat.le_trans (Nat.le_max_left _ _) hwd
      refine ⟨.ref a, rfl, a, rfl, ⟨_, .inl (.inl ha)⟩, tg _ hP, fun H2 hT => ?_⟩
      have tg2 := Tabbed.tg tg hT
      have sx2 := Tabbed.sx hP hT
      have ha2 : H2 a = some (.tup xs) := sx2 _ _ na ha
      have fa2 : FlA Z.Ps H2 xs ds := fa.sx sx2 fun _ h => h
      refine ⟨xs.length, fun i => isEqD cols (ds.getD i .none), fun i H' => i ≤ xs.length ∧ H' = H2, ⟨Nat.zero_le _, rfl⟩, gx_step (walk_tup (xs := xs)) (fun i H' _ e => ?_) (fun i x H3 H4 hi e hY => ?_), fun H3 e hall => ?_, fun j H3 hj hs hal e => ?_⟩
      · rw [e]
        exact .inl (.inl ha2)
      · obtain ⟨rfl, hx⟩ := hY
        subst e
        obtain ⟨dd, hdd, fd⟩ := FtA.getV fa2.to hx
        have eg : ds.getD i .none = dd := by
          rw [List.getD_eq_getElem?_getD, hdd]
          rfl
        refine ⟨rfl, tx cols, rfl, x, rfl, cols, x, dd, rfl, fd, hsh.memT dd (List.mem_of_getElem? hdd), ?_, hi, rfl⟩
        simp only [eg]
      · obtain ⟨_, rfl⟩ := e
        have hal : ds.all (isEqD cols) = true := by
          rw [List.all_eq_true]
          intro x hx
          obtain ⟨i, hi, rfl⟩ := List.getElem_of_mem hx
          have := hall i (by omega)
          simp only [List.getD_eq_getElem?_getD, List.getElem?_eq_getElem hi] at this
          exact this
        have hq : isEqsD cols (.tuple ds) = risB (ds.map letD) := by
          show (ds.all (isEqD cols) && risB (ds.map letD)) = _
          rw [hal, Bool.true_and]
        rw [hq] at q
        refine ⟨_, rfl, iteF ?_⟩
        refine ⟨.ref a, rfl, cols, .ref a, ds, rfl, (Fl.tup na ha2 fa2).to, hal, hdl, fun p H5 sm5 np hp => ?_⟩
        refine ⟨p, ds.map letD, rfl, tg2.same sm5, hp, by rw [List.length_map]; exact hdl, fun H6 sx6 tg6 => ?_⟩
        exact q H6 (sx2.trans ((Same.sx sm5).trans sx6)) tg6
      · obtain ⟨_, rfl⟩ := e
        have hq : isEqsD cols (.tuple ds) = false := by
          show (ds.all (isEqD cols) && risB (ds.map letD)) = _
          have : ds.all (isEqD cols) = false := by
            refine eq_false_of_ne_true fun z => ?_
            have hj2 : j < ds.length := by omega
            have h1 := List.all_eq_true.mp z ds[j] (List.getElem_mem hj2)
            simp only [List.getD_eq_getElem?_getD, List.getElem?_eq_getElem hj2] at hs
            rw [show isEqD cols ds[j] = false from hs] at h1
            cases h1
          rw [this, Bool.false_and]
        rw [hq] at q
        exact ⟨_, rfl, iteT (q _ sx2 tg2)⟩
def spIsQ (K : PySem.W.Frag) (Z : Ad) : Sp := fun vs H Q _ => ∃ (cols : List Nat) (v : V) (d : PyData), vs = [tx cols, v] ∧ TG Z.Ps H ∧ Fl Z.Ps H v d ∧ Sh 20 100000 d ∧ wd d ≤ 100000 ∧ ∀ (H' : Hp), Sx Z.Ps H H' → TG Z.Ps H' → Q (.bl (isQD cols d)) H'
theorem ok_isq (T : Tx K mg Z) (TB : Tb base mg Z) : FnOk P w K mg base CX0 8 Z.f_is_question Z.d_is_question ["columns", "thing"] (spIsQ K Z) := by
  have G_is_equals : FnOk P w K mg base CX0 7 Z.f_is_equals Z.d_is_equals ["columns", "thing"] (spEquals K Z) := ok_equals T TB
  have G_is_reach : FnOk P w K mg base CX0 3 Z.f_is_reach Z.d_is_reach ["columns", "thing"] spReach := ok_reach T
  have G_letters_of : FnOk P w K mg base CX0 1 Z.f_letters_of Z.d_letters_of ["equals"] (spLettersD K) := ok_lettersD T
  refine T.F_is_question.ok sc_is_question (fun vs H Q E h => ?_) (fun cdv A outer s H vs Q E hr h => ?_)
  · obtain ⟨cols, v, d, rfl, _⟩ := h
    rfl
  · obtain ⟨cols, v, d, rfl, tg, f, hsh, hwd, q⟩ := h
    refine ⟨_, (pss_cons (ps_if (PW.pt (pw_or (pt_not (pt_val (pe_callB (isiK K) (by rfl) T.m_isinstance (by decide +kernel) (pa_cons (pv 1) (pa_cons (pe_bltn (v := .ty "tuple") (by rfl) T.m_tuple (by decide +kernel) rfl) pa_nil))))) (pw_or1 (pt_cmpR op_ne (pe_callB (cLenSq K) (by rfl) T.m_len (by decide +kernel) (pa_cons (pv 1) pa_nil)) pe_int (nomark _))))) (pss_one (ps_ret pe_bl)) pss_nil)
      (pss_cons (ps_asg (pv 1) (pgT K (n := 2) (pgs_cons (pg_name (i := 2) sc_is_question.nd rfl (.inl rfl)) (pgs_cons (pg_name (i := 3) sc_is_question.nd rfl (.inl rfl)) pgs_nil))))
      (pss_cons (ps_if (pt_not (pt_val (pe_call G_is_equals (hr.mono (by omega)) (by rfl) T.g_is_equals T.F_is_equals.kp T.b_is_equals .nil pass0 (pa_cons (pv 0) (pa_cons (pv 2) pa_nil))))) (pss_one (ps_ret pe_bl)) pss_nil)
      (pss_cons (ps_if (pt_cmpR op_isN (pv 3) pe_non (nomark _)) (pss_one (ps_ret pe_bl)) pss_nil)
      (pss_one (ps_ret (pe_and (pe_call G_is_reach (hr.mono (by omega)) (by rfl) T.g_is_reach T.F_is_reach.kp T.b_is_reach .nil pass0 (pa_cons (pv 0) (pa_cons (pv 3) pa_nil))) (pe_one (pe_cmpR (notInSq K) (pe_ix (ixT K) (pv 3) pe_int (fun _ _ => rfl)) (pe_call G_letters_of (hr.mono (by omega)) (by rfl) T.g_letters_of T.F_letters_of.kp T.b_letters_of .nil pass0 (pa_cons (pv 2) pa_nil)) (by rfl)))))))))), ?_⟩
    refine ⟨v, rfl, v, .ty "tuple", _, _, isTp d, rfl, .ty _, ty_ft f.to, kit_tp d, _, rfl, ite2 (fun e => ?_) (fun e => ?_)⟩
    · have hq : isQD cols d = false := by
        cases d with
        | tuple ds => cases e
        | _ => rfl
      rw [hq] at q
      exact iteT (q H (fun _ _ _ h => h) tg)
    · obtain ⟨ds, rfl⟩ := tp_open (by simpa using e)
      obtain ⟨a, xs, rfl, na, ha, fa⟩ := f.openT
      have hl := FtA.len fa
      refine ⟨.ref a, rfl, a, xs, rfl, .inr (.inl (.inl ha)), rfl, _, rfl, ite2 (fun e2 => ?_) (fun e2 => ?_)⟩
      · have hq : isQD cols (.tuple ds) = false := by
          match ds, hl with
          | [], _ => rfl
          | [_], _ => rfl
          | [a1, a2], hl =>
            rw [hl] at e2
            exact absurd e2 (by simp)
          | _ :: _ :: _ :: _, _ => rfl
        rw [hq] at q
        exact q H (fun _ _ _ h => h) tg
      · have hl2 : ds.length = 2 := by
          have e3 : V.int ((xs.length : Nat) : Int) = V.int 2 := by simpa using e2
          have e4 : ((xs.length : Nat) : Int) = 2 := by injection e3
          omega
        match ds, hl2 with
        | [d1, d2], _ =>
          obtain ⟨x1, x2, rfl, f1, f2⟩ := fa.two
          have s1 := hsh.memT d1 (by simp)
          have s2 := hsh.memT d2 (by simp)
          have hw1 : wd d1 ≤ 100000 := by
            have h3 : max 2 (max (wd d1) (max (wd d2) 0)) ≤ 100000 := hwd
            omega
          refine ⟨.ref a, rfl, a, [x1, x2], rfl, .inl (.inl ha), rfl, x1, [x2], rfl, x2, [], rfl, rfl, ?_⟩
          refine ⟨tx cols, rfl, x1, rfl, cols, x1, d1, rfl, tg, f1, s1, hw1, fun H2 sx2 tg2 => ?_⟩
          have f1b := f1.sx sx2 fun _ h => h
          have f2b := f2.sx sx2 fun _ h => h
          refine ⟨_, rfl, ite2 (fun e3 => ?_) (fun e3 => ?_)⟩
          · have hq : isQD cols (.tuple [d1, d2]) = false := by
              have : isEqsD cols d1 = false := by simpa using e3
              show (isEqsD cols d1 && _) = false
              rw [this, Bool.false_and]
            rw [hq] at q
            exact q H2 sx2 tg2
          · have he : isEqsD cols d1 = true := by simpa using e3
            refine ⟨x2, rfl, rfl, _, rfl, ite2 (fun e4 => ?_) (fun e4 => ?_)⟩
            · have hx2 : x2 = .non := of_decide_eq_true e4
              subst hx2
              cases f2
              have hq : isQD cols (.tuple [d1, .none]) = true := by
                show (isEqsD cols d1 && true) = true
                rw [he]
                rfl
              rw [hq] at q
              exact q H2 sx2 tg2
            · have hd2 : d2 ≠ .none := fun z => by
                subst z
                cases f2
                exact e4 (by simp)
              have hq : isQD cols (.tuple [d1, d2]) = (isReD cols d2 && !decide (letD d2 ∈ letsD d1)) := by
                show (isEqsD cols d1 && _) = _
                rw [he, Bool.true_and]
                cases d2 with
                | none => exact absurd rfl hd2
                | _ => rfl
              rw [hq] at q
              refine ⟨tx cols, rfl, x2, rfl, cols, x2, d2, rfl, f2b.to, s2, _, rfl, ite2 (fun e5 => ?_) (fun e5 => ?_)⟩
              · rw [e5, Bool.true_and] at q
                obtain ⟨b1, b2, b3, rfl⟩ : ∃ b1 b2 b3, d2 = .tuple [b1, b2, b3] := by
                  unfold isReD at e5
                  split at e5
                  · exact ⟨_, _, _, rfl⟩
                  · cases e5
                have e6 : isLetD cols b1 = true := by
                  have h6 : (isLetD cols b1 && isNumD b2 && isNumD b3 && leD b2 b3) = true := e5
                  simp only [Bool.and_eq_true] at h6
                  exact h6.1.1.1
                obtain ⟨c, rfl, hc, hsg⟩ := isLet_open e6
                obtain ⟨ps, rfl⟩ : ∃ ps, d1 = .tuple ps := by
                  cases d1 with
                  | tuple ps => exact ⟨ps, rfl⟩
                  | _ => cases he
                have hall : ps.all (isEqD cols) = true := by
                  have h7 : (ps.all (isEqD cols) && risB (ps.map letD)) = true := he
                  rw [Bool.and_eq_true] at h7
                  exact h7.1
                have hpl : ps.length ≤ 100000 := Nat.le_trans (Nat.le_max_left _ _) hw1
                obtain ⟨ra, ys, rfl, nra, hra, fra⟩ := f2b.openT
                obtain ⟨y1, y2, y3, rfl, g1, g2, g3⟩ := fra.three
                cases g1
                refine ⟨.ref ra, rfl, ra, [sg c, y2, y3], 0, sg c, rfl, rfl, .inl (.inl hra), rfl, x1, rfl, cols, x1, ps, rfl, f1b.to, hall, hpl, fun p H5 sm5 np hp => ?_⟩
                refine ⟨p, _, rfl, .inl (.inl (.inl hp)), rfl, ?_, ?_⟩
                · rw [List.all_eq_true]
                  intro x hx
                  obtain ⟨o, _, rfl⟩ := List.mem_map.mp hx
                  rfl
                · have hin : (if true = true then !inV (sg c) ((ps.map letD).map sg) else inV (sg c) ((ps.map letD).map sg)) = !decide (c ∈ ps.map letD) := by
                    rw [if_pos rfl, inV_signs]
                  show Q (.bl (if true = true then !inV (sg c) ((ps.map letD).map sg) else inV (sg c) ((ps.map letD).map sg))) H5
                  rw [hin]
                  exact q H5 (sx2.trans (Same.sx sm5)) (tg2.same sm5)
              · rw [eq_false_of_ne_true e5, Bool.false_and] at q
                exact q H2 sx2 tg2

/-! ### joined, question_text -/
def joinW (ws : List Str) : Str := if ws = [] then Str.ofString "-" else Txt.join (Str.ofString " ") ws
def natS (n : Int) : Str := Str.ofString (toString n)
def wordE (e : Nat × Int) : Str := sS e.1 ++ Str.ofString "=" ++ natS e.2
def wordR (p : Nat × Int × Int) : Str := sS p.1 ++ Str.ofString ":" ++ natS p.2.1 ++ Str.ofString ".." ++ natS p.2.2
def wordsQ (es : List (Nat × Int)) (rc : Option (Nat × Int × Int)) : List Str := es.map wordE ++ (rc.map wordR).toList
theorem natS_len {n : Int} (h0 : 0 ≤ n) (h1 : n < 1000) : (natS n).length ≤ 3 := by
  have : ∀ k : Nat, k < 1000 → (natS (k : Int)).length ≤ 3 := by decide +kernel
  have := this n.toNat (by omega)
  rwa [show ((n.toNat : Nat) : Int) = n by omega] at this
theorem sum_lens {m : Nat} : ∀ {ws : List Str}, (∀ w ∈ ws, w.length ≤ m) → (ws.map fun w => w.length).sum ≤ m * ws.length
  | [], _ => Nat.le_refl 0
  | w :: ws, h => by
    have h1 := h w List.mem_cons_self
    have h2 := sum_lens (ws := ws) fun x hx => h x (List.mem_cons_of_mem _ hx)
    rw [List.map_cons, List.sum_cons, List.length_cons, Nat.mul_add, Nat.mul_one]
    omega
theorem log_small {n : Int} (h0 : 0 ≤ n) (h1 : n < 1000) : n.natAbs.log2 < 1920 := by
  by_cases e : n.natAbs = 0
  · rw [e]
    decide
  · rw [Nat.log2_lt e]
    exact Nat.lt_of_lt_of_le (show n.natAbs < 2 ^ 10 by omega) (Nat.pow_le_pow_right (by decide) (by decide))
def spJoined (K : PySem.W.Frag) : Sp := fun vs H Q _ => ∃ (a : Addr) (ws : List Str), vs = [.ref a] ∧ H a = some (.lst (ws.map V.str)) ∧ ws.length ≤ 100 ∧ (∀ w ∈ ws, w.length ≤ 100) ∧ Q (.str (joinW ws)) H
theorem ok_joined (T : Tx K mg Z) : FnOk P w K mg base CX0 1 Z.f_joined Z.d_joined ["words"] (spJoined K) := by
  refine T.F_joined.ok sc_joined (fun vs H Q E h => ?_) (fun cdv A outer s H vs Q E hr h => ?_)
  · obtain ⟨a, ws, rfl, _⟩ := h
    rfl
  · obtain ⟨a, ws, rfl, ha, hl, hw, q⟩ := h
    refine ⟨_, (pss_one (ps_ret (pe_ifExp (pt_truth (pv 0) (by intro _; rfl)) (pe_join pe_str (pv 0)) pe_str))), ?_⟩
    refine ⟨.ref a, rfl, !(ws.map V.str).isEmpty, .inl ⟨_, .inl (.inl ha), rfl⟩, ?_⟩
    cases ws with
    | nil =>
      rw [show joinW [] = Str.ofString "-" from if_pos rfl] at q
      exact q
    | cons w ws =>
      rw [show joinW (w :: ws) = Txt.join (Str.ofString " ") (w :: ws) from if_neg (List.cons_ne_nil _ _)] at q
      refine ⟨⟨_, rfl⟩, .ref a, rfl, Str.ofString " ", a, w :: ws, rfl, rfl, .inl (.inl (.inl ha)), ?_, q⟩
      have h1 := sum_lens hw
      have h2 : (Str.ofString " ").length = 1 := rfl
      rw [h2]
      omega
theorem wordsQ_len {cols : List Nat} {es : List (Nat × Int)} {rc : Option (Nat × Int × Int)} (hok : QOk cols es rc) : ∀ w ∈ wordsQ es rc, w.length ≤ 100 := fun w hw => by
  rcases List.mem_append.mp hw with z | z
  · obtain ⟨p, hp, rfl⟩ := List.mem_map.mp z
    obtain ⟨_, p0, p1⟩ := hok.ok p hp
    have nl := natS_len p0 p1
    show (sS p.1 ++ Str.ofString "=" ++ natS p.2).length ≤ 100
    rw [Str.length_append, Str.length_append]
    show 1 + 1 + _ ≤ 100
    omega
  · cases rc with
    | none => cases z
    | some t =>
      obtain ⟨c, lo, hi⟩ := t
      obtain ⟨_, _, l0, lh, h1⟩ := hok.rc c lo hi rfl
      have nl := natS_len l0 (by omega)
      have nh := natS_len (n := hi) (by omega) h1
      have ew : w = wordR (c, lo, hi) := List.mem_singleton.mp z
      rw [ew]
      show (sS c ++ Str.ofString ":" ++ natS lo ++ Str.ofString ".." ++ natS hi).length ≤ 100
      rw [Str.length_append, Str.length_append, Str.length_append, Str.length_append]
      show 1 + 1 + _ + 2 + _ ≤ 100
      omega
def spQText (K : PySem.W.Frag) : Sp := fun vs H Q _ => ∃ (qv : V) (es : List (Nat × Int)) (rc : Option (Nat × Int × Int)) (cols : List Nat), vs = [qv] ∧ QZ H qv es rc ∧ QOk cols es rc ∧ es.length ≤ 26 ∧ (∀ c ∈ cols, c ≤ 122) ∧ ∀ H', Same H H' → Q (.str (joinW (wordsQ es rc))) H'
theorem ok_qtext (T : Tx K mg Z) : FnOk P w K mg base CX0 2 Z.f_question_text Z.d_question_text ["question"] (spQText K) := by
  have G_joined : FnOk P w K mg base CX0 1 Z.f_joined Z.d_joined ["words"] (spJoined K) := ok_joined T
  refine T.F_question_text.ok sc_question_text (fun vs H Q E h => ?_) (fun cdv A outer s H vs Q E hr h => ?_)
  · obtain ⟨qv, es, rc, cols, rfl, _⟩ := h
    rfl
  · obtain ⟨qv, es, rc, cols, rfl, fq, hok, hel, haz, q⟩ := h
    refine ⟨_, (pss_cons (ps_asg (pv 0) (pgT K (n := 2) (pgs_cons (pg_name (i := 1) sc_question_text.nd rfl (.inl rfl)) (pgs_cons (pg_name (i := 2) sc_question_text.nd rfl (.inl rfl)) pgs_nil))))
      (pss_cons (ps_setLc (i := 4) (own := [("letter", 3), ("number", 7)]) (tt := tYes) (by rfl) sc_question_text.nd rfl rfl (sw_true rfl rfl rfl (by decide +kernel)) (piT K (pv 1)) (blkOk_by (own := [("letter", 3), ("number", 7)]) (by kernel_rfl)) (fun _ _ _ _ _ => (pgT K (n := 2) (pgs_cons (pg_name (i := 3) sc_question_text.nd rfl (.inl rfl)) (pgs_cons (pg_name (i := 7) sc_question_text.nd rfl (.inl rfl)) pgs_nil)))) (fun _ _ _ _ _ => pts_nil) (fun _ _ _ _ _ => (pe_fs (.cons (pe_fmt (pv 3)) (.cons pe_str (.cons (pe_fmt (pv 7)) .nil))))))
      (pss_mid (ps_if (pt_cmpR op_notN (pv 2) pe_non (nomark _)) (pss_cons (ps_asg (pv 2) (pgT K (n := 3) (pgs_cons (pg_name (i := 3) sc_question_text.nd rfl (.inl rfl)) (pgs_cons (pg_name (i := 5) sc_question_text.nd rfl (.inl rfl)) (pgs_cons (pg_name (i := 6) sc_question_text.nd rfl (.inl rfl)) pgs_nil)))))
      (pss_one (ps_expr (bmK K PySem.F.plainAttrs_list PySem.F.slot_list_append PySem.F.type_list_append mt_append (pv 4) (pa_cons (pe_fs (.cons (pe_fmt (pv 3)) (.cons pe_str (.cons (pe_fmt (pv 5)) (.cons pe_str (.cons (pe_fmt (pv 6)) .nil)))))) pa_nil))))) pss_nil)
      (pss_one (ps_ret (pe_call G_joined (hr.mono (by omega)) (by rfl) T.g_joined T.F_joined.kp T.b_joined .nil pass0 (pa_cons (pv 4) pa_nil))))))), ?_⟩
    obtain ⟨qa, ev, y, rfl, hqa, fe, fr⟩ := fq
    obtain ⟨ea, ob, ps, rfl, hob, hea, fps⟩ := fe
    have hpl : ps.length = es.length := by rw [fps.len, List.length_map]
    have line : (4665600 : Nat) < sizeLine := by rw [sizeLine_eq]; decide
    refine ⟨.ref qa, rfl, qa, _, rfl, .inl (.inl hqa), rfl, _, _, rfl, _, _, rfl, rfl, ?_⟩
    refine ⟨.ref ea, rfl, ea, rfl, ⟨_, .inl (.inr ⟨_, hea⟩)⟩, fun D nD => lc_it (walk_tup (xs := ps)) (fun i H' => Same H H' ∧ H' D = some (.lst (((es.take i).map wordE).map V.str)))
      ⟨Same.new (Same.refl H) nD, upd_same⟩ (fun i H' _ hP => .inl (.inr ⟨_, hP.1 _ _ hea⟩)) (fun i x H3 H4 hi hP hY => ?_) (fun H3 hP => ?_)⟩
    · obtain ⟨sm, hD⟩ := hP
      obtain ⟨rfl, hx⟩ := hY
      obtain ⟨dd, hdd, fd⟩ := fps.getV hx
      rw [List.getElem?_map] at hdd
      obtain ⟨pr, hpr, rfl⟩ := Option.map_eq_some_iff.mp hdd
      have hi2 : i < es.length := (List.getElem?_eq_some_iff.mp hpr).1
      have epr : es[i] = pr := (List.getElem?_eq_some_iff.mp hpr).2
      obtain ⟨pm, p0, p1⟩ := hok.ok pr (List.mem_of_getElem? hpr)
      obtain ⟨pa, ys, rfl, hpa, fy2⟩ := fd.open
      obtain ⟨c, v, rfl, fc, fv⟩ := fy2.two
      rw [fc.isStr, fv.isInt] at hpa
      have nl := natS_len p0 p1
      have w1 : (Str.empty ++ sS pr.1).length ≤ sizeLine := by rw [Str.empty_append]; show 1 ≤ sizeLine; omega
      have w2 : (Str.empty ++ sS pr.1 ++ Str.ofString "=").length ≤ sizeLine := by rw [Str.empty_append, Str.length_append]; show 1 + 1 ≤ sizeLine; omega
      have w3 : (Str.empty ++ sS pr.1 ++ Str.ofString "=" ++ natS pr.2).length ≤ sizeLine := by rw [Str.empty_append, Str.length_append, Str.length_append]; show 1 + 1 + _ ≤ sizeLine; omega
      refine ⟨pa, [sg pr.1, .int pr.2], rfl, .inl (.inl (sm _ _ hpa)), rfl, sg pr.1, [.int pr.2], rfl, .int pr.2, [], rfl, rfl, rfl, sg pr.1, rfl, .inl ⟨sS pr.1, rfl, (by show 1 ≤ sizeLine; omega), sS pr.1, rfl, w1, Str.ofString "=", rfl, w2, .int pr.2, rfl, .inr ⟨pr.2, rfl, log_small p0 p1, natS pr.2, rfl, w3, _, hD, ?_, Same.mut sm nD, ?_⟩⟩⟩
      · rw [List.length_map, List.length_map, List.length_take]
        exact small1000 (by omega)
      · rw [upd_same, List.take_succ_eq_append_getElem hi2, epr, List.map_append, List.map_append, Str.empty_append]
        rfl
    obtain ⟨sm, hD⟩ := hP
    rw [hpl, List.take_of_length_le (Nat.le_refl _)] at hD
    have wl : ∀ w ∈ es.map wordE, w.length ≤ 100 := fun w hw => by
      obtain ⟨p, hp, rfl⟩ := List.mem_map.mp hw
      obtain ⟨_, p0, p1⟩ := hok.ok p hp
      have nl := natS_len p0 p1
      show (sS p.1 ++ Str.ofString "=" ++ natS p.2).length ≤ 100
      rw [Str.length_append, Str.length_append]
      show 1 + 1 + _ ≤ 100
      omega
    refine ⟨fun σ G => ∃ (y3 y5 y6 y7 : Option V), σ = [some (.ref qa), some (.ref ea), some y, y3, some (.ref D), y5, y6, y7] ∧ Same H G ∧ G D = some (.lst ((wordsQ es rc).map V.str)), ?_, fun σ G hM => ?_⟩
    · cases rc with
      | none =>
        have ey : y = .non := fr.isNon
        subst ey
        refine ⟨.non, rfl, rfl, _, rfl, iteNS rfl ?_⟩
        refine ⟨_, _, _, _, rfl, sm, ?_⟩
        rw [hD]
        unfold wordsQ
        rw [show (Option.map wordR none).toList = [] from rfl, List.append_nil]
      | some t =>
        obtain ⟨c, lo, hi⟩ := t
        obtain ⟨ra, zs, rfl, hra, fz⟩ := Fz.open (ds := [.str ⟨#[c]⟩, .int lo, .int hi]) fr
        obtain ⟨z1, z2, z3, rfl, g1, g2, g3⟩ := fz.three
        rw [g1.isStr, g2.isInt, g3.isInt] at hra
        obtain ⟨_, _, l0, lh, h1⟩ := hok.rc c lo hi rfl
        have nl := natS_len l0 (by omega)
        have nh := natS_len (n := hi) (by omega) h1
        have v1 : (Str.empty ++ sS c).length ≤ sizeLine := by rw [Str.empty_append]; show 1 ≤ sizeLine; omega
        have v2 : (Str.empty ++ sS c ++ Str.ofString ":").length ≤ sizeLine := by rw [Str.empty_append, Str.length_append]; show 1 + 1 ≤ sizeLine; omega
        have v3 : (Str.empty ++ sS c ++ Str.ofString ":" ++ natS lo).length ≤ sizeLine := by rw [Str.empty_append, Str.length_append, Str.length_append]; show 1 + 1 + _ ≤ sizeLine; omega
        have v4 : (Str.empty ++ sS c ++ Str.ofString ":" ++ natS lo ++ Str.ofString "..").length ≤ sizeLine := by rw [Str.empty_append, Str.length_append, Str.length_append, Str.length_append]; show 1 + 1 + _ + 2 ≤ sizeLine; omega
        have v5 : (Str.empty ++ sS c ++ Str.ofString ":" ++ natS lo ++ Str.ofString ".." ++ natS hi).length ≤ sizeLine := by rw [Str.empty_append, Str.length_append, Str.length_append, Str.length_append, Str.length_append]; show 1 + 1 + _ + 2 + _ ≤ sizeLine; omega
        refine ⟨.ref ra, rfl, rfl, _, rfl, ite2 (fun _ => ?_) (fun e => ?_)⟩
        · refine ⟨.ref ra, rfl, ra, [sg c, .int lo, .int hi], rfl, .inl (.inl (sm _ _ hra)), rfl, sg c, [.int lo, .int hi], rfl, .int lo, [.int hi], rfl, .int hi, [], rfl, rfl, ?_⟩
          refine ⟨.ref D, rfl, .inl ⟨rfl, _, .inl (.inl hD)⟩, sg c, rfl, .inl ⟨sS c, rfl, (by show 1 ≤ sizeLine; omega), sS c, rfl, v1, Str.ofString ":", rfl, v2, .int lo, rfl, .inr ⟨lo, rfl, log_small l0 (by omega), natS lo, rfl, v3, Str.ofString "..", rfl, v4, .int hi, rfl, .inr ⟨hi, rfl, log_small (by omega) h1, natS hi, rfl, v5, D, _, _, rfl, rfl, hD, ?_, ?_⟩⟩⟩⟩
          · rw [List.length_map, List.length_map]
            exact small1000 (by omega)
          · refine ⟨_, _, _, _, rfl, Same.mut sm nD, ?_⟩
            rw [upd_same, Str.empty_append]
            unfold wordsQ
            rw [List.map_append]
            rfl
        · exact absurd rfl e
    obtain ⟨y3, y5, y6, y7, rfl, smG, hDG⟩ := hM
    have wlQ : ∀ w ∈ wordsQ es rc, w.length ≤ 100 := fun w hw => by
      rcases List.mem_append.mp hw with z | z
      · exact wl w z
      · cases rc with
        | none => cases z
        | some t =>
          obtain ⟨c, lo, hi⟩ := t
          obtain ⟨_, _, l0, lh, h1⟩ := hok.rc c lo hi rfl
          have nl := natS_len l0 (by omega)
          have nh := natS_len (n := hi) (by omega) h1
          have ew : w = wordR (c, lo, hi) := List.mem_singleton.mp z
          rw [ew]
          show (sS c ++ Str.ofString ":" ++ natS lo ++ Str.ofString ".." ++ natS hi).length ≤ 100
          rw [Str.length_append, Str.length_append, Str.length_append, Str.length_append]
          show 1 + 1 + _ + 2 + _ ≤ 100
          omega
    have wn : (wordsQ es rc).length ≤ 100 := by
      unfold wordsQ
      rw [List.length_append, List.length_map]
      cases rc with
      | none => show es.length + 0 ≤ 100; omega
      | some t => show es.length + 1 ≤ 100; omega
    exact ⟨.ref D, rfl, D, wordsQ es rc, rfl, hDG, wn, wlQ, q _ smG⟩

/-! ### read_number -/
def figs : List Nat := [48, 49, 50, 51, 52, 53, 54, 55, 56, 57]
def digL (l : List Nat) : Bool := l.all fun c => decide (c ∈ figs)
def valL (l : List Nat) : Nat := l.foldl (fun a c => 10 * a + (c - 48)) 0
theorem fig_is {c : Nat} (h : c ∈ figs) : ∃ i, i < 10 ∧ c = 48 + i := by
  have : ∀ x ∈ figs, ∃ i, i < 10 ∧ x = 48 + i := by decide
  exact this c h
theorem read1 : ∀ i, i < 10 → PySem.intText? (txS [48 + i]) = some ((i : Nat) : Int) := by decide +kernel
theorem read2 : ∀ i, i < 10 → ∀ j, j < 10 → PySem.intText? (txS [48 + i, 48 + j]) = some ((10 * i + j : Nat) : Int) := by decide +kernel
theorem read3 : ∀ i, i < 10 → ∀ j, j < 10 → ∀ k, k < 10 → PySem.intText? (txS [48 + i, 48 + j, 48 + k]) = some ((10 * (10 * i + j) + k : Nat) : Int) := by decide +kernel
theorem read_l {l : List Nat} (h1 : 1 ≤ l.length) (h3 : l.length ≤ 3) (hd : digL l = true) : PySem.intText? (txS l) = some ((valL l : Nat) : Int) ∧ valL l ≤ 999 := by
  have hd2 : ∀ c ∈ l, c ∈ figs := fun c h => of_decide_eq_true (List.all_eq_true.mp hd c h)
  match l, h1, h3 with
  | [a], _, _ =>
    obtain ⟨i, hi, rfl⟩ := fig_is (hd2 a (by simp))
    have e : valL [48 + i] = i := by show 10 * 0 + (48 + i - 48) = i; omega
    rw [e]
    exact ⟨read1 i hi, by omega⟩
  | [a, b], _, _ =>
    obtain ⟨i, hi, rfl⟩ := fig_is (hd2 a (by simp))
    obtain ⟨j, hj, rfl⟩ := fig_is (hd2 b (by simp))
    have e : valL [48 + i, 48 + j] = 10 * i + j := by show 10 * (10 * 0 + (48 + i - 48)) + (48 + j - 48) = _; omega
    rw [e]
    exact ⟨read2 i hi j hj, by omega⟩
  | [a, b, c], _, _ =>
    obtain ⟨i, hi, rfl⟩ := fig_is (hd2 a (by simp))
    obtain ⟨j, hj, rfl⟩ := fig_is (hd2 b (by simp))
    obtain ⟨k, hk, rfl⟩ := fig_is (hd2 c (by simp))
    have e : valL [48 + i, 48 + j, 48 + k] = 10 * (10 * i + j) + k := by show 10 * (10 * (10 * 0 + (48 + i - 48)) + (48 + j - 48)) + (48 + k - 48) = _; omega
    rw [e]
    exact ⟨read3 i hi j hj k hk, by omega⟩
/-- the number that a text writes: one to three figures, no 0 ahead -/
def numL (l : List Nat) : Option Nat := if (1 ≤ l.length ∧ l.length ≤ 3) ∧ digL l = true then (if natS (valL l : Nat) = txS l then some (valL l) else none) else none
def numV : Option Nat → V
  | some n => .int (n : Int)
  | none => .non
def spReadNum (K : PySem.W.Frag) (Z : Ad) : Sp := fun vs H Q _ => ∃ (l : List Nat), vs = [tx l, .int 999] ∧ TG Z.Ps H ∧ l.length ≤ 100000 ∧ ∀ H', Sx Z.Ps H H' → TG Z.Ps H' → Q (numV (numL l)) H'
set_option maxHeartbeats 4000000 in
theorem ok_readnum (T : Tx K mg Z) (TB : Tb base mg Z) : FnOk P w K mg base CX0 5 Z.f_read_number Z.d_read_number ["word", "greatest"] (spReadNum K Z) := by
  refine T.C_read_number.ok sc_read_number (fun vs H Q E h => ?_) (fun A outer s H vs Q E hr h => ?_)
  · obtain ⟨l, rfl, _⟩ := h
    rfl
  · obtain ⟨l, rfl, tg, hl, q⟩ := h
    refine ⟨_, (pss_cons (ps_if (PW.pt (pw_or (pt_not (pt_chain op_le op_le pe_int (pe_callB call_len_str (by rfl) T.m_len (by decide +kernel) (pa_cons (pv 0) pa_nil)) (pe_callB call_len_str (by rfl) T.m_len (by decide +kernel) (pa_cons (pe_callTy call_str_int (by rfl) T.m_str (by decide +kernel) (pa_cons (pv 1) pa_nil)) pa_nil)))) (pw_or1 (pt_not (pt_val (pe_allC (own := [("sign", 3)]) (k := 0) (hr.mono (by omega)) (by rfl) T.m_all (TB.t_read_number) rfl (gxS_by (blkOk_by (own := [("sign", 3)]) (by kernel_rfl)) (by kernel_rfl)) sc_read_number.nd (by rfl) (pi_str (pv 0)) (fun _ _ _ _ _ _ _ _ => (pg_name (i := 3) sc_read_number.nd rfl (.inl rfl))) (fun _ _ _ _ _ _ _ _ hr => (pe_cmpR op_in_sign (pv 3) pe_str (by rfl))))))))) (pss_one (ps_ret pe_non)) pss_nil)
      (pss_cons (ps_set (i := 2) sc_read_number.nd rfl (.inl rfl) (pe_callTy call_int_str (by rfl) T.m_int (by decide +kernel) (pa_cons (pv 0) pa_nil)))
      (pss_one (ps_ret (pe_ifExp (PW.pt (pw_and (pt_cmpR op_le (pv 2) (pv 1) (nomark _)) (pw_and1 (pt_cmpR op_eq (pe_callTy call_str_int (by rfl) T.m_str (by decide +kernel) (pa_cons (pv 2) pa_nil)) (pv 0) (nomark _))))) (pv 2) pe_non))))), ?_⟩
    have hP : Z.P_read_number ∈ Z.Ps := by simp
    have line : (4665600 : Nat) < sizeLine := by rw [sizeLine_eq]; decide
    have hsz : (⟨l.toArray⟩ : Str).length = l.length := by simp [Str.length]
    have hcs : (⟨l.toArray⟩ : Str).cps.size = l.length := by simp
    have no : ∀ {H' : Hp}, Sx Z.Ps H H' → TG Z.Ps H' → ¬ ((1 ≤ l.length ∧ l.length ≤ 3) ∧ digL l = true) → Q .non H' := fun sx tg' h => by
      have := q _ sx tg'
      unfold numL at this
      rw [if_neg h] at this
      exact this
    refine ⟨tx l, rfl, _, rfl, by rw [hsz]; omega, _, _, rfl, rfl, _, rfl, ?_⟩
    rw [hsz]
    split
    rotate_left 1
    · next h1 =>
      refine ⟨_, rfl, ?_⟩
      refine no Sx.rfl' tg fun z => h1 (decide_eq_true ?_)
      omega
    next h1 =>
    have h1' : 1 ≤ l.length := by
      have := of_decide_eq_true h1
      omega
    have e3 : (((natS 999).length : Nat) : Int) = 3 := by decide +kernel
    refine ⟨_, rfl, 999, rfl, by decide, natS 999, rfl, by rw [show (natS 999).length = 3 by decide +kernel]; omega, _, _, rfl, rfl, decide (l.length ≤ 3), ?_, ?_⟩
    · rw [e3]
      exact congrArg V.bl (decide_eq_decide.mpr (by omega))
    by_cases h3 : l.length ≤ 3
    rotate_left 1
    · rw [decide_eq_false h3]
      exact no Sx.rfl' tg fun z => h3 z.1.2
    rw [decide_eq_true h3]
    refine ⟨tx l, rfl, _, rfl, tg _ hP, fun H2 hT => ?_⟩
    have tg2 := Tabbed.tg tg hT
    have sx2 := Tabbed.sx hP hT
    refine ⟨(⟨l.toArray⟩ : Str).cps.size, fun i => decide (l.getD i 0 ∈ figs), fun i H' => i ≤ (⟨l.toArray⟩ : Str).cps.size ∧ H' = H2, ⟨Nat.zero_le _, rfl⟩, gx_step walk_str (fun _ _ _ _ => trivial) (fun i x H3 H4 hi e hY => ?_), fun H3 e hall => ?_, fun j H3 hj hs hal e => ?_⟩
    · obtain ⟨rfl, c, hc, rfl⟩ := hY
      have hc2 : l[i]? = some c := by simpa using hc
      refine ⟨rfl, sg c, rfl, c, Str.ofString "0123456789", rfl, rfl, ?_, hi, e⟩
      rw [show (Str.ofString "0123456789").cps.toList = figs by decide +kernel]
      simp only [List.getD_eq_getElem?_getD, hc2]
      rfl
    · obtain ⟨_, rfl⟩ := e
      have hd : digL l = true := by
        refine List.all_eq_true.mpr fun c hc => ?_
        obtain ⟨i, hi, rfl⟩ := List.getElem_of_mem hc
        have := hall i (by rw [hcs]; exact hi)
        simp only [List.getD_eq_getElem?_getD, List.getElem?_eq_getElem hi] at this
        exact this
      obtain ⟨rd, v9⟩ := read_l h1' h3 hd
      refine ⟨true, rfl, iteF ?_⟩
      refine ⟨tx l, rfl, txS l, ((valL l : Nat) : Int), rfl, rd, by rw [hsz]; omega, ?_⟩
      have fin := q _ sx2 tg2
      unfold numL at fin
      rw [if_pos ⟨⟨h1', h3⟩, hd⟩] at fin
      refine ⟨_, rfl, _, rfl, _, _, rfl, rfl, _, rfl, ite2 (fun _ => ?_) (fun z => absurd (decide_eq_true (by omega)) z)⟩
      refine ⟨_, rfl, _, rfl, log_small (by omega) (by omega), tx l, rfl, rfl, _, rfl, ?_⟩
      by_cases hn : natS ((valL l : Nat) : Int) = txS l
      · rw [if_pos hn] at fin
        have e : V.str (Str.ofString (toString ((valL l : Nat) : Int))) = tx l := congrArg V.str hn
        rw [decide_eq_true e]
        exact ⟨_, rfl, fin⟩
      · rw [if_neg hn] at fin
        have e : ¬ V.str (Str.ofString (toString ((valL l : Nat) : Int))) = tx l := fun z => hn (V.str.inj z)
        rw [decide_eq_false e]
        exact fin
    · obtain ⟨_, rfl⟩ := e
      have hj2 : j < l.length := by
        rw [hcs] at hj
        exact hj
      refine ⟨false, rfl, no sx2 tg2 fun z => ?_⟩
      have h5 := List.all_eq_true.mp z.2 l[j] (List.getElem_mem hj2)
      simp only [List.getD_eq_getElem?_getD, List.getElem?_eq_getElem hj2] at hs
      rw [show decide (l[j] ∈ figs) = false from hs] at h5
      cases h5

/-! ### _law_number -/
theorem fig_iff (c : Nat) : c ∈ figs ↔ 48 ≤ c ∧ c ≤ 57 := by
  refine ⟨fun h => ?_, fun h => ?_⟩
  · obtain ⟨i, hi, rfl⟩ := fig_is h
    omega
  · have : ∀ i, i < 10 → 48 + i ∈ figs := by decide
    have := this (c - 48) (by omega)
    rwa [show 48 + (c - 48) = c by omega] at this
theorem one_lt (a b : Nat) : ([a] < [b]) ↔ a < b := by
  rw [List.cons_lt_cons_iff]
  simp
def spLnumber (K : PySem.W.Frag) : Sp := fun vs H Q _ => ∃ (l : List Nat), vs = [tx l] ∧ l.length ≤ 100000 ∧ (∀ c ∈ l, c < 0x110000) ∧ ∀ H', Same H H' → Q (numV (numL l)) H'
set_option maxHeartbeats 4000000 in
theorem ok_lnumber (T : Tx K mg Z) : FnOk P w K mg base CX0 1 Z.f_l_number Z.d_l_number ["word"] (spLnumber K) := by
  refine T.F_l_number.ok sc_l_number (fun vs H Q E h => ?_) (fun cdv A outer s H vs Q E hr h => ?_)
  · obtain ⟨l, rfl, _⟩ := h
    rfl
  · obtain ⟨l, rfl, hl, hz, q⟩ := h
    refine ⟨_, (pss_cons (ps_if (PW.pt (pw_or (pt_not (pt_chain op_le op_le pe_int (pe_callB call_len_str (by rfl) T.m_len (by decide +kernel) (pa_cons (pv 0) pa_nil)) pe_int)) (pw_or1 (pt_cmpR (neDK K hr.units) (pe_lc (own := [("sign", 1)]) (tt := _) (by rfl) sc_l_number.nd (pi_str (pv 0)) (blkOk_by (own := [("sign", 1)]) (by kernel_rfl)) (fun _ _ _ _ _ => (pg_name (i := 1) sc_l_number.nd rfl (.inl rfl))) (fun _ _ _ _ _ => (pts_one (pt_not (pt_chain op_le_str op_le_str pe_str (pv 1) pe_str)))) (fun _ _ _ _ _ => (pv 1))) (pe_lst pa_nil) (nomark _))))) (pss_one (ps_ret pe_non)) pss_nil)
      (pss_one (ps_ret (pe_ifExp (pt_cmpR op_eq (pv 0) (pe_callTy call_str_int (by rfl) T.m_str (by decide +kernel) (pa_cons (pe_callTy call_int_str (by rfl) T.m_int (by decide +kernel) (pa_cons (pv 0) pa_nil)) pa_nil)) (nomark _)) (pe_callTy call_int_str (by rfl) T.m_int (by decide +kernel) (pa_cons (pv 0) pa_nil)) pe_non)))), ?_⟩
    have line : (4665600 : Nat) < sizeLine := by rw [sizeLine_eq]; decide
    have hsz : (⟨l.toArray⟩ : Str).length = l.length := by simp [Str.length]
    have no : ∀ {H' : Hp}, Same H H' → ¬ ((1 ≤ l.length ∧ l.length ≤ 3) ∧ digL l = true) → Q .non H' := fun sm h => by
      have := q _ sm
      unfold numL at this
      rw [if_neg h] at this
      exact this
    refine ⟨tx l, rfl, _, rfl, by rw [hsz]; omega, _, _, rfl, rfl, _, rfl, ?_⟩
    rw [hsz]
    split
    rotate_left 1
    · next h1 =>
      refine ⟨_, rfl, ?_⟩
      refine no (Same.refl H) fun z => h1 (decide_eq_true ?_)
      omega
    next h1 =>
    have h1' : 1 ≤ l.length := by
      have := of_decide_eq_true h1
      omega
    refine ⟨_, _, rfl, rfl, decide (l.length ≤ 3), congrArg V.bl (decide_eq_decide.mpr (by omega)), ?_⟩
    by_cases h3 : l.length ≤ 3
    rotate_left 1
    · rw [decide_eq_false h3]
      exact no (Same.refl H) fun z => h3 z.1.2
    rw [decide_eq_true h3]
    refine ⟨tx l, rfl, _, rfl, fun D nD => lc_it walk_str (fun i H' => Same H H' ∧ H' D = some (.lst (((l.take i).filter fun c => decide (c ∉ figs)).map sg)))
      ⟨Same.new (Same.refl H) nD, upd_same⟩ (fun _ _ _ _ => trivial) (fun i x H3 H2 hi hP hY => ?_) (fun H2 hP => ?_)⟩
    · obtain ⟨sm2, hD2⟩ := hP
      obtain ⟨rfl, c, hcc, rfl⟩ := hY
      have hc2 : l[i]? = some c := by simpa using hcc
      have fs := filter_snoc (fun c : Nat => decide (c ∉ figs)) l i c hc2
      refine ⟨rfl, ?_⟩
      have k1 : (!decide ((sS c).cps.toList < (Str.ofString "0").cps.toList)) = decide (48 ≤ c) := by
        have e : (decide ((sS c).cps.toList < (Str.ofString "0").cps.toList)) = decide (c < 48) := decide_eq_decide.mpr (one_lt c 48)
        rw [e]
        by_cases h : c < 48 <;> simp [h] <;> omega
      have k2 : (!decide ((Str.ofString "9").cps.toList < (sS c).cps.toList)) = decide (c ≤ 57) := by
        have e : (decide ((Str.ofString "9").cps.toList < (sS c).cps.toList)) = decide (57 < c) := decide_eq_decide.mpr (one_lt 57 c)
        rw [e]
        by_cases h : 57 < c <;> simp [h] <;> omega
      have out : c ∉ figs → Same H (upd H2 D (.lst ((((l.take i).filter fun c => decide (c ∉ figs)).map sg) ++ [sg c]))) ∧ (upd H2 D (.lst ((((l.take i).filter fun c => decide (c ∉ figs)).map sg) ++ [sg c]))) D = some (.lst (((l.take (i + 1)).filter fun c => decide (c ∉ figs)).map sg)) := fun h => by
        refine ⟨Same.mut sm2 nD, ?_⟩
        rw [upd_same, fs, if_pos (decide_eq_true h), List.map_append]
        rfl
      have lng : ((((l.take i).filter fun c => decide (c ∉ figs)).map sg)).length < sizeLine := by
        rw [List.length_map]
        have := List.length_filter_le (fun c => decide (c ∉ figs)) (l.take i)
        rw [List.length_take] at this
        omega
      refine ⟨sg c, rfl, Str.ofString "0", sS c, rfl, rfl, _, rfl, ?_⟩
      rw [k1]
      by_cases h48 : 48 ≤ c
      rotate_left 1
      · rw [decide_eq_false h48]
        have nf : c ∉ figs := fun z => h48 ((fig_iff c).mp z).1
        exact ⟨_, rfl, sg c, rfl, _, hD2, lng, out nf⟩
      rw [decide_eq_true h48]
      refine ⟨sS c, Str.ofString "9", rfl, rfl, _, rfl, ?_⟩
      rw [k2]
      by_cases h57 : c ≤ 57
      rotate_left 1
      · rw [decide_eq_false h57]
        have nf : c ∉ figs := fun z => h57 ((fig_iff c).mp z).2
        exact ⟨sg c, rfl, _, hD2, lng, out nf⟩
      · rw [decide_eq_true h57]
        refine ⟨sm2, ?_⟩
        rw [hD2, fs, if_neg (by simp [(fig_iff c).mpr ⟨h48, h57⟩]), List.append_nil]
    obtain ⟨sm2, hD2⟩ := hP
    rw [show (⟨l.toArray⟩ : Str).cps.size = l.length by simp, List.take_of_length_le (Nat.le_refl _)] at hD2
    have fz : ∀ c ∈ l.filter (fun c => decide (c ∉ figs)), c < 0x110000 := fun c h => hz c (List.mem_filter.mp h).1
    have hdig : digL l = true ↔ l.filter (fun c => decide (c ∉ figs)) = [] := by
      rw [List.filter_eq_nil_iff]
      unfold digL
      rw [List.all_eq_true]
      refine ⟨fun h c hc z => (of_decide_eq_true z) (of_decide_eq_true (h c hc)), fun h c hc => decide_eq_true ?_⟩
      have := h c hc
      simpa using this
    generalize l.filter (fun c => decide (c ∉ figs)) = fl at hD2 fz hdig
    refine ⟨Nat.zero_le _, fun N nN => ?_⟩
    have sm3 := Same.new (o := .lst []) sm2 nN
    have hN : (upd H2 N (.lst [])) N = some (.lst []) := upd_same
    have hD3 := keep_new (o := .lst []) hD2 nN
    generalize upd H2 N (.lst []) = H3 at sm3 hN hD3 ⊢
    refine ⟨.list (fl.map fun c => .str (sS c)), .list [], .lst (.inl (.inl hD3)) (dp_signs _), .lst (.inl (.inl hN)) .nil, shaped_of fz, by decide +kernel, _, rfl, ?_⟩
    cases fl with
    | cons c fl =>
      refine ite2 (fun _ => no sm3 fun z => by rw [hdig] at z; cases z.2) (fun z => absurd rfl z)
    | nil =>
      refine iteF ?_
      have hd : digL l = true := hdig.mpr rfl
      obtain ⟨rd, v9⟩ := read_l h1' h3 hd
      have fin := q _ sm3
      unfold numL at fin
      rw [if_pos ⟨⟨h1', h3⟩, hd⟩] at fin
      refine ⟨tx l, rfl, tx l, rfl, txS l, ((valL l : Nat) : Int), rfl, rd, by rw [hsz]; omega, _, rfl, log_small (by omega) (by omega), rfl, _, rfl, ?_⟩
      by_cases hn : natS ((valL l : Nat) : Int) = txS l
      · rw [if_pos hn] at fin
        have e : tx l = V.str (Str.ofString (toString ((valL l : Nat) : Int))) := (congrArg V.str hn).symm
        rw [decide_eq_true e]
        exact ⟨tx l, rfl, txS l, _, rfl, rd, by rw [hsz]; omega, fin⟩
      · rw [if_neg hn] at fin
        have e : ¬ tx l = V.str (Str.ofString (toString ((valL l : Nat) : Int))) := fun z => hn (V.str.inj z).symm
        rw [decide_eq_false e]
        exact fin

/-! ### _law_question_text -/
def okS (w : Str) : Prop := w.cps.all (· < 0x110000) = true
theorem okS.app {a b : Str} (h : okS a) (g : okS b) : okS (a ++ b) := by
  unfold okS at h g ⊢
  rw [Str.cps_append, Array.all_append, h, g]
  rfl
theorem okS.nat {n : Int} (h0 : 0 ≤ n) (h1 : n < 1000) : okS (natS n) := by
  have : ∀ k : Nat, k < 1000 → (natS (k : Int)).cps.all (· < 0x110000) = true := by decide +kernel
  have := this n.toNat (by omega)
  rwa [show ((n.toNat : Nat) : Int) = n by omega] at this
theorem okS.sign {c : Nat} (h : c ≤ 122) : okS (sS c) := by
  show #[c].all (· < 0x110000) = true
  simp
  omega
theorem words_ok {cols : List Nat} {es : List (Nat × Int)} {rc : Option (Nat × Int × Int)} (hok : QOk cols es rc) (haz : ∀ c ∈ cols, c ≤ 122) : ∀ w ∈ wordsQ es rc, okS w := fun w hw => by
  rcases List.mem_append.mp hw with z | z
  · obtain ⟨p, hp, rfl⟩ := List.mem_map.mp z
    obtain ⟨hm, p0, p1⟩ := hok.ok p hp
    exact ((okS.sign (haz _ hm)).app (by unfold okS; decide +kernel)).app (.nat p0 p1)
  · cases rc with
    | none => cases z
    | some t =>
      obtain ⟨c, lo, hi⟩ := t
      obtain ⟨hm, _, l0, lh, h1⟩ := hok.rc c lo hi rfl
      have ew : w = wordR (c, lo, hi) := List.mem_singleton.mp z
      rw [ew]
      exact ((((okS.sign (haz _ hm)).app (by unfold okS; decide +kernel)).app (.nat l0 (by omega))).app (by unfold okS; decide +kernel)).app (.nat (show 0 ≤ hi by omega) h1)
theorem dp_strs {K : PySem.W.Frag} {H : Hp} : ∀ ws : List Str, DpAll K H (ws.map V.str) (ws.map PyData.str)
  | [] => .nil
  | w :: ws => .cons (.str w) (dp_strs ws)
theorem shaped_strs {ws : List Str} (h : ∀ w ∈ ws, okS w) : SeqAt.shaped (.list (ws.map PyData.str)) = true := by
  have key : ∀ ws : List Str, (∀ w ∈ ws, okS w) → PyData.canLayAll0 (ws.map PyData.str) = true ∧ PyData.depthAll (ws.map PyData.str) ≤ 0 := fun ws => by
    induction ws with
    | nil => exact fun _ => ⟨rfl, Nat.le_refl _⟩
    | cons w ws ih =>
      intro h
      obtain ⟨g1, g2⟩ := ih fun y hy => h y (List.mem_cons_of_mem _ hy)
      have hw : PyData.canLay0 (.str w) = true := h w List.mem_cons_self
      exact ⟨by show (PyData.canLay0 (.str w) && PyData.canLayAll0 (ws.map PyData.str)) = true; rw [hw, g1]; rfl, by show max 0 _ ≤ 0; omega⟩
  obtain ⟨g1, g2⟩ := key ws h
  unfold SeqAt.shaped
  rw [show PyData.canLay0 (.list (ws.map PyData.str)) = true from g1, Bool.true_and]
  exact decide_eq_true (by show PyData.depthAll _ + 1 ≤ 64; omega)
theorem ok_lqtext (T : Tx K mg Z) : FnOk P w K mg base CX0 2 Z.f_l_question_text Z.d_l_question_text ["question"] (spQText K) := by
  refine T.F_l_question_text.ok sc_l_question_text (fun vs H Q E h => ?_) (fun cdv A outer s H vs Q E hr h => ?_)
  · obtain ⟨qv, es, rc, cols, rfl, _⟩ := h
    rfl
  · obtain ⟨qv, es, rc, cols, rfl, fq, hok, hel, haz, q⟩ := h
    refine ⟨_, (pss_cons (ps_setLc (i := 2) (own := [("letter", 1), ("number", 5)]) (tt := tYes) (by rfl) sc_l_question_text.nd rfl rfl (sw_true rfl rfl rfl (by decide +kernel)) (piT K (pe_ix (ixT K) (pv 0) pe_int (fun _ _ => rfl))) (blkOk_by (own := [("letter", 1), ("number", 5)]) (by kernel_rfl)) (fun _ _ _ _ _ => (pgT K (n := 2) (pgs_cons (pg_name (i := 1) sc_l_question_text.nd rfl (.inl rfl)) (pgs_cons (pg_name (i := 5) sc_l_question_text.nd rfl (.inl rfl)) pgs_nil)))) (fun _ _ _ _ _ => pts_nil) (fun _ _ _ _ _ => (pe_op op_add_str (pe_op op_add_str (pv 1) pe_str) (pe_callTy call_str_int (by rfl) T.m_str (by decide +kernel) (pa_cons (pv 5) pa_nil)))))
      (pss_mid (ps_if (pt_cmpR op_notN (pe_ix (ixT K) (pv 0) pe_int (fun _ _ => rfl)) pe_non (nomark _)) (pss_cons (ps_asg (pe_ix (ixT K) (pv 0) pe_int (fun _ _ => rfl)) (pgT K (n := 3) (pgs_cons (pg_name (i := 1) sc_l_question_text.nd rfl (.inl rfl)) (pgs_cons (pg_name (i := 3) sc_l_question_text.nd rfl (.inl rfl)) (pgs_cons (pg_name (i := 4) sc_l_question_text.nd rfl (.inl rfl)) pgs_nil)))))
      (pss_one (ps_expr (bmK K PySem.F.plainAttrs_list PySem.F.slot_list_append PySem.F.type_list_append mt_append (pv 2) (pa_cons (pe_op op_add_str (pe_op op_add_str (pe_op op_add_str (pe_op op_add_str (pv 1) pe_str) (pe_callTy call_str_int (by rfl) T.m_str (by decide +kernel) (pa_cons (pv 3) pa_nil))) pe_str) (pe_callTy call_str_int (by rfl) T.m_str (by decide +kernel) (pa_cons (pv 4) pa_nil))) pa_nil))))) pss_nil)
      (pss_one (ps_ret (pe_join pe_str (pe_op op_cat (pv 2) (pe_op op_rep (pe_lst (pa_cons pe_str pa_nil)) (pe_callTy call_int1 (by rfl) T.m_int (by decide +kernel) (pa_cons (pe_cmpR (eqDK K hr.units) (pv 2) (pe_lst pa_nil) (nomark _)) pa_nil))))))))), ?_⟩
    obtain ⟨qa, ev, y, rfl, hqa, fe, fr⟩ := fq
    obtain ⟨ea, ob, ps, rfl, hob, hea, fps⟩ := fe
    have hpl : ps.length = es.length := by rw [fps.len, List.length_map]
    have line : (4665600 : Nat) < sizeLine := by rw [sizeLine_eq]; decide
    have s1 : ∀ c, (sS c).length = 1 := fun _ => rfl
    have q1 : (Str.ofString "=").length = 1 := rfl
    have q2 : (Str.ofString ":").length = 1 := rfl
    have q3 : (Str.ofString "..").length = 2 := rfl
    refine ⟨.ref qa, rfl, qa, _, 0, .ref ea, rfl, rfl, .inl (.inl hqa), rfl, ea, rfl, ⟨_, .inl (.inr ⟨_, hea⟩)⟩, fun D nD => lc_it (walk_tup (xs := ps)) (fun i H' => Same H H' ∧ H' D = some (.lst (((es.take i).map wordE).map V.str)))
      ⟨Same.new (Same.refl H) nD, upd_same⟩ (fun i H' _ hP => .inl (.inr ⟨_, hP.1 _ _ hea⟩)) (fun i x H3 H4 hi hP hY => ?_) (fun H3 hP => ?_)⟩
    · obtain ⟨sm, hD⟩ := hP
      obtain ⟨rfl, hx⟩ := hY
      obtain ⟨dd, hdd, fd⟩ := fps.getV hx
      rw [List.getElem?_map] at hdd
      obtain ⟨pr, hpr, rfl⟩ := Option.map_eq_some_iff.mp hdd
      have hi2 : i < es.length := (List.getElem?_eq_some_iff.mp hpr).1
      have epr : es[i] = pr := (List.getElem?_eq_some_iff.mp hpr).2
      obtain ⟨pm, p0, p1⟩ := hok.ok pr (List.mem_of_getElem? hpr)
      obtain ⟨pa, ys, rfl, hpa, fy2⟩ := fd.open
      obtain ⟨c, v, rfl, fc, fv⟩ := fy2.two
      rw [fc.isStr, fv.isInt] at hpa
      have nl := natS_len p0 p1
      refine ⟨pa, [sg pr.1, .int pr.2], rfl, .inl (.inl (sm _ _ hpa)), rfl, sg pr.1, [.int pr.2], rfl, .int pr.2, [], rfl, rfl, rfl, sg pr.1, rfl, sS pr.1, Str.ofString "=", rfl, rfl, by rw [s1, q1]; omega, .int pr.2, rfl, pr.2, rfl, log_small p0 p1, _, natS pr.2, rfl, rfl, by rw [Str.length_append, s1, q1]; omega, _, hD, ?_, Same.mut sm nD, ?_⟩
      · rw [List.length_map, List.length_map, List.length_take]
        exact small1000 (by omega)
      · rw [upd_same, List.take_succ_eq_append_getElem hi2, epr, List.map_append, List.map_append]
        rfl
    obtain ⟨sm, hD⟩ := hP
    rw [hpl, List.take_of_length_le (Nat.le_refl _)] at hD
    refine ⟨fun σ G => ∃ (y1 y3 y4 y5 : Option V), σ = [some (.ref qa), y1, some (.ref D), y3, y4, y5] ∧ Same H G ∧ G D = some (.lst ((wordsQ es rc).map V.str)), ?_, fun σ G hM => ?_⟩
    · cases rc with
      | none =>
        have ey : y = .non := fr.isNon
        subst ey
        refine ⟨.ref qa, rfl, qa, _, 1, .non, rfl, rfl, .inl (.inl (sm _ _ hqa)), rfl, rfl, _, rfl, iteNS rfl ?_⟩
        refine ⟨_, _, _, _, rfl, sm, ?_⟩
        rw [hD]
        unfold wordsQ
        rw [show (Option.map wordR none).toList = [] from rfl, List.append_nil]
      | some t =>
        obtain ⟨c, lo, hi⟩ := t
        obtain ⟨ra, zs, rfl, hra, fz⟩ := Fz.open (ds := [.str ⟨#[c]⟩, .int lo, .int hi]) fr
        obtain ⟨z1, z2, z3, rfl, g1, g2, g3⟩ := fz.three
        rw [g1.isStr, g2.isInt, g3.isInt] at hra
        obtain ⟨_, _, l0, lh, h1⟩ := hok.rc c lo hi rfl
        have nl := natS_len l0 (by omega)
        have nh := natS_len (n := hi) (by omega) h1
        refine ⟨.ref qa, rfl, qa, _, 1, .ref ra, rfl, rfl, .inl (.inl (sm _ _ hqa)), rfl, rfl, _, rfl, ite2 (fun _ => ?_) (fun e => absurd rfl e)⟩
        refine ⟨.ref qa, rfl, qa, _, 1, .ref ra, rfl, rfl, .inl (.inl (sm _ _ hqa)), rfl, ra, [sg c, .int lo, .int hi], rfl, .inl (.inl (sm _ _ hra)), rfl, sg c, [.int lo, .int hi], rfl, .int lo, [.int hi], rfl, .int hi, [], rfl, rfl, ?_⟩
        refine ⟨.ref D, rfl, .inl ⟨rfl, _, .inl (.inl hD)⟩, sg c, rfl, sS c, Str.ofString ":", rfl, rfl, by rw [s1, q2]; omega, .int lo, rfl, lo, rfl, log_small l0 (by omega), _, natS lo, rfl, rfl, by rw [Str.length_append, s1, q2]; omega, _, Str.ofString "..", rfl, rfl, by rw [Str.length_append, Str.length_append, s1, q2, q3]; omega, .int hi, rfl, hi, rfl, log_small (by omega) h1, _, natS hi, rfl, rfl, by rw [Str.length_append, Str.length_append, Str.length_append, s1, q2, q3]; omega, D, _, _, rfl, rfl, hD, ?_, ?_⟩
        · rw [List.length_map, List.length_map]
          exact small1000 (by omega)
        · refine ⟨_, _, _, _, rfl, Same.mut sm nD, ?_⟩
          rw [upd_same]
          unfold wordsQ
          rw [List.map_append]
          rfl
    obtain ⟨y1, y3, y4, y5, rfl, smG, hDG⟩ := hM
    have wok := words_ok hok haz
    have wlQ := wordsQ_len hok
    have wn : (wordsQ es rc).length ≤ 27 := by
      unfold wordsQ
      rw [List.length_append, List.length_map]
      cases rc with
      | none => show es.length + 0 ≤ 27; omega
      | some t => show es.length + 1 ≤ 27; omega
    have fin : ∀ G', Same H G' → Q (.str (joinW (wordsQ es rc))) G' := q
    generalize wordsQ es rc = ws at hDG wok wlQ wn fin
    refine ⟨⟨_, rfl⟩, .ref D, rfl, (by show 1 ≤ sizeLine; omega), fun N1 nN1 => ⟨.ref D, rfl, Nat.zero_le _, fun N2 nN2 => ?_⟩⟩
    have sm4 := Same.new (o := .lst [V.str (Str.ofString "-")]) smG nN1
    have hN1 : (upd G N1 (.lst [V.str (Str.ofString "-")])) N1 = some (.lst [.str (Str.ofString "-")]) := upd_same
    have hD4 := keep_new (o := .lst [V.str (Str.ofString "-")]) hDG nN1
    generalize upd G N1 (.lst [V.str (Str.ofString "-")]) = G1 at sm4 hN1 hD4 nN2 ⊢
    have sm5 := Same.new (o := .lst []) sm4 nN2
    have hN2 : (upd G1 N2 (.lst [])) N2 = some (.lst []) := upd_same
    have hN1' := keep_new (o := .lst []) hN1 nN2
    have hD5 := keep_new (o := .lst []) hD4 nN2
    generalize upd G1 N2 (.lst []) = G2 at sm5 hN2 hN1' hD5 ⊢
    refine ⟨.list (ws.map PyData.str), .list [], .lst (.inl (.inl hD5)) (dp_strs _), .lst (.inl (.inl hN2)) .nil, shaped_strs wok, by decide +kernel, .inr ⟨_, rfl, ?_⟩⟩
    have sl := sum_lens wlQ
    have b1 : (Str.ofString " ").length = 1 := rfl
    cases ws with
    | nil =>
      refine ⟨N1, 1, [.str (Str.ofString "-")], rfl, rfl, hN1', by decide, by decide, by show 1 * 1 ≤ sizeLine; omega, fun M nM => ?_⟩
      have sm6 := Same.new (o := .lst [V.str (Str.ofString "-")]) sm5 nM
      have hM : (upd G2 M (.lst [V.str (Str.ofString "-")])) M = some (.lst [.str (Str.ofString "-")]) := upd_same
      have hD6 := keep_new (o := .lst [V.str (Str.ofString "-")]) hD5 nM
      refine ⟨D, M, [], [.str (Str.ofString "-")], rfl, rfl, hD6, hM, by show 0 + 1 ≤ sizeLine; omega, fun W nW => ?_⟩
      refine ⟨Str.ofString " ", W, [Str.ofString "-"], rfl, rfl, .inl (.inl (.inl upd_same)), by decide, ?_⟩
      have f := fin _ (Same.new (o := .lst ([] ++ [V.str (Str.ofString "-")])) sm6 nW)
      rw [show joinW [] = Str.ofString "-" from if_pos rfl] at f
      exact f
    | cons w ws =>
      refine ⟨N1, 0, [.str (Str.ofString "-")], rfl, rfl, hN1', by decide, by decide, by show 1 * 0 ≤ sizeLine; omega, fun M nM => ?_⟩
      have sm6 := Same.new (o := .lst []) sm5 nM
      have hM : (upd G2 M (.lst [])) M = some (.lst []) := upd_same
      have hD6 := keep_new (o := .lst []) hD5 nM
      refine ⟨D, M, (w :: ws).map V.str, [], rfl, rfl, hD6, hM, by rw [List.length_map]; show (w :: ws).length + 0 ≤ sizeLine; omega, fun W nW => ?_⟩
      have hW : (upd (upd G2 M (.lst [])) W (.lst ((w :: ws).map V.str ++ []))) W = some (.lst ((w :: ws).map V.str)) := by rw [upd_same, List.append_nil]
      refine ⟨Str.ofString " ", W, w :: ws, rfl, rfl, .inl (.inl (.inl hW)), by rw [b1]; omega, ?_⟩
      have f := fin _ (Same.new (o := .lst ((w :: ws).map V.str ++ [])) sm6 nW)
      rw [show joinW (w :: ws) = Txt.join (Str.ofString " ") (w :: ws) from if_neg (List.cons_ne_nil _ _)] at f
      exact f

/-! ### with_word -/
/-- what a word adds to a question: its letter, its numbers or None -/
def numD : Option Nat → PyData
  | some n => .int (n : Int)
  | none => .none
def withD (es : List (Nat × Int)) (rc : Option (Nat × Int × Int)) (l : List Nat) : PyData :=
  if rc.isSome then .none
  else if (l.drop 1).take 1 = [61] then .tuple [.tuple (es.map eqD ++ [.tuple [.str (txS (l.take 1)), numD (numL (l.drop 2))]]), .none]
  else if (l.drop 1).take 1 = [58] then .tuple [.tuple (es.map eqD), .tuple [.str (txS (l.take 1)), numD (numL (Txt.partition (txS (l.drop 2)) (Str.ofString "..")).1.cps.toList), numD (numL (Txt.partition (txS (l.drop 2)) (Str.ofString "..")).2.2.cps.toList)]]
  else .none
theorem num_fz {H : Hp} : ∀ o : Option Nat, Fz H (numV o) (numD o)
  | some n => .int (n : Int)
  | none => .non
theorem fzA_app {H : Hp} : ∀ {vs us : List V} {ds es : List PyData}, FzA H vs ds → FzA H us es → FzA H (vs ++ us) (ds ++ es)
  | _, _, _, _, .nil, b => b
  | _, _, _, _, .cons x a, b => .cons x (fzA_app a b)
theorem sub_len (x : Str) (a b : Nat) : (Builtin.Str.strSub x a b).length ≤ x.length := by
  unfold Builtin.Str.strSub
  simp [Str.length]
  omega
theorem part_len (x y : Str) : (Txt.partition x y).1.length ≤ x.length ∧ (Txt.partition x y).2.2.length ≤ x.length := by
  unfold Txt.partition
  split
  · exact ⟨sub_len _ _ _, sub_len _ _ _⟩
  · exact ⟨Nat.le_refl _, Nat.zero_le _⟩
theorem str_eta (x : Str) : x = txS x.cps.toList := by
  cases x
  simp
def spWithWord (K : PySem.W.Frag) (Z : Ad) : Sp := fun vs H Q _ => ∃ (qv : V) (es : List (Nat × Int)) (rc : Option (Nat × Int × Int)) (cols l : List Nat), vs = [qv, tx l] ∧ TG Z.Ps H ∧ Fz H qv (qD es rc) ∧ QOk cols es rc ∧ es.length ≤ 26 ∧ l.length ≤ 50000 ∧
  ∀ (v : V) (H' : Hp), Sx Z.Ps H H' → TG Z.Ps H' → Fz H' v (withD es rc l) → Q v H'
set_option maxHeartbeats 4000000 in
theorem ok_withword (T : Tx K mg Z) (TB : Tb base mg Z) : FnOk P w K mg base CX0 6 Z.f_with_word Z.d_with_word ["question", "word"] (spWithWord K Z) := by
  have G_read_number : FnOk P w K mg base CX0 5 Z.f_read_number Z.d_read_number ["word", "greatest"] (spReadNum K Z) := ok_readnum T TB
  refine T.F_with_word.ok sc_with_word (fun vs H Q E h => ?_) (fun cdv A outer s H vs Q E hr h => ?_)
  · obtain ⟨qv, es, rc, cols, l, rfl, _⟩ := h
    rfl
  · obtain ⟨qv, es, rc, cols, l, rfl, tg, fq, hok, hel, hl, q⟩ := h
    refine ⟨_, (pss_cons (ps_asg (pv 0) (pgT K (n := 2) (pgs_cons (pg_name (i := 2) sc_with_word.nd rfl (.inl rfl)) (pgs_cons (pg_name (i := 3) sc_with_word.nd rfl (.inl rfl)) pgs_nil))))
      (pss_cons (ps_par3 (i := 4) (j := 5) (l := 6) (by rfl) sc_with_word.nd rfl rfl rfl (by decide) (by decide) (by decide) (by rfl) (by rfl) (by rfl) (pa_cons (pe_slice sl_str (pv 1) po_none (po_some pe_int)) (pa_cons (pe_slice sl_str (pv 1) (po_some pe_int) (po_some pe_int)) (pa_cons (pe_slice sl_str (pv 1) (po_some pe_int) po_none) pa_nil))) (by rfl))
      (pss_cons (ps_if (pt_cmpR op_notN (pv 3) pe_non (nomark _)) (pss_one (ps_ret pe_non)) pss_nil)
      (pss_cons (ps_if (pt_cmpR op_eq (pv 5) pe_str (nomark _)) (pss_one (ps_ret (pe_tup (pa_cons (pe_tup (paStarK K (pv 2) (pa_cons (pe_tup (pa_cons (pv 4) (pa_cons (pe_call G_read_number (hr.mono (by omega)) (by rfl) T.g_read_number T.F_read_number.kp T.b_read_number .nil pass0 (pa_cons (pv 6) (pa_cons (pe_glob (v := .int 999) (by rfl) T.c_GREATEST ⟨_, rfl⟩) pa_nil))) pa_nil))) pa_nil))) (pa_cons pe_non pa_nil))))) pss_nil)
      (pss_cons (ps_if (pt_cmpR op_eq (pv 5) pe_str (nomark _)) (pss_cons (ps_asg (bmK K PySem.F.plainAttrs_str PySem.F.slot_str_partition PySem.F.type_str_partition mt_partition (pv 6) (pa_cons pe_str pa_nil)) (pgT K (n := 3) (pgs_cons (pg_name (i := 7) sc_with_word.nd rfl (.inl rfl)) (pgs_cons (pg_name (i := 8) sc_with_word.nd rfl (.inl rfl)) (pgs_cons (pg_name (i := 9) sc_with_word.nd rfl (.inl rfl)) pgs_nil)))))
      (pss_one (ps_ret (pe_tup (pa_cons (pv 2) (pa_cons (pe_tup (pa_cons (pv 4) (pa_cons (pe_call G_read_number (hr.mono (by omega)) (by rfl) T.g_read_number T.F_read_number.kp T.b_read_number .nil pass0 (pa_cons (pv 7) (pa_cons (pe_glob (v := .int 999) (by rfl) T.c_GREATEST ⟨_, rfl⟩) pa_nil))) (pa_cons (pe_call G_read_number (hr.mono (by omega)) (by rfl) T.g_read_number T.F_read_number.kp T.b_read_number .nil pass0 (pa_cons (pv 9) (pa_cons (pe_glob (v := .int 999) (by rfl) T.c_GREATEST ⟨_, rfl⟩) pa_nil))) pa_nil)))) pa_nil)))))) pss_nil)
      (pss_one (ps_ret pe_non))))))), ?_⟩
    obtain ⟨qa, zq, rfl, hqa, fzq⟩ := Fz.open (ds := [.tuple (es.map eqD), rchD rc]) fq
    obtain ⟨ev, y, rfl, fe, fr⟩ := fzq.two
    obtain ⟨ea, ps, rfl, hea, fps⟩ := fe.open
    have hpl : ps.length = es.length := by rw [fps.len, List.length_map]
    have line : (4665600 : Nat) < sizeLine := by rw [sizeLine_eq]; decide
    have hsz : (⟨l.toArray⟩ : Str).length = l.length := by simp [Str.length]
    refine ⟨.ref qa, rfl, qa, _, rfl, .inl (.inl hqa), rfl, _, _, rfl, _, _, rfl, rfl, ?_⟩
    refine ⟨tx l, rfl, _, rfl, _, rfl, by rw [hsz]; omega, tx l, rfl, _, rfl, _, rfl, _, rfl, by rw [hsz]; omega, tx l, rfl, _, rfl, _, rfl, by rw [hsz]; omega, _, _, _, rfl, ?_⟩
    have e1 : cutS ⟨l.toArray⟩ none (some (1 : Int)) = txS (l.take 1) := cut_take l 1
    have e2 : cutS ⟨l.toArray⟩ (some (1 : Int)) (some (2 : Int)) = txS ((l.drop 1).take 1) := cut_mid l 1 2
    have e3 : cutS ⟨l.toArray⟩ (some (2 : Int)) none = txS (l.drop 2) := cut_from l 2
    rw [e1, e2, e3]
    unfold withD at q
    cases rc with
    | some t =>
      obtain ⟨c, lo, hi⟩ := t
      obtain ⟨ra, zs, rfl, hra, fz⟩ := Fz.open (ds := [.str ⟨#[c]⟩, .int lo, .int hi]) fr
      exact ⟨.ref ra, rfl, rfl, _, rfl, ite2 (fun _ => q .non H Sx.rfl' tg .non) (fun e => absurd rfl e)⟩
    | none =>
    have ey : y = .non := fr.isNon
    subst ey
    refine ⟨.non, rfl, rfl, _, rfl, iteNS rfl ?_⟩
    rw [if_neg (by decide)] at q
    generalize (l.drop 1).take 1 = sl at q ⊢
    refine ⟨_, rfl, rfl, _, rfl, ite2 (fun e => ?_) (fun e => ?_)⟩
    · have hs : sl = [61] := txS_inj (V.str.inj (of_decide_eq_true e))
      rw [if_pos hs] at q
      have hdl : (l.drop 2).length ≤ 100000 := by rw [List.length_drop]; omega
      refine ⟨.ref ea, rfl, ea, ps, rfl, .inl (.inl (.inl hea)), _, rfl, _, rfl, l.drop 2, rfl, tg, hdl, fun H1 sx1 tg1 => ⟨(by show 2 ≤ sizeLine; omega), fun p1 np1 => ⟨by rw [List.length_append]; show ps.length + 1 ≤ sizeLine; omega, fun p2 np2 => ⟨(by show 2 ≤ sizeLine; omega), fun p3 np3 => ?_⟩⟩⟩⟩
      have f1 : Fz (upd H1 p1 (.tup [V.str (txS (l.take 1)), numV (numL (l.drop 2))])) (.ref p1) (.tuple [.str (txS (l.take 1)), numD (numL (l.drop 2))]) := .tup upd_same (.cons (.str _) (.cons (num_fz _) .nil))
      have fps1 := (fps.kt (sx1.kt tg)).kt (Kt.new (o := .tup [V.str (txS (l.take 1)), numV (numL (l.drop 2))]) np1)
      have sm1 := Same.new (o := .tup [V.str (txS (l.take 1)), numV (numL (l.drop 2))]) (Same.refl H1) np1
      generalize upd H1 p1 (.tup [V.str (txS (l.take 1)), numV (numL (l.drop 2))]) = G1 at f1 fps1 sm1 np2 np3 ⊢
      have sm2 := Same.new (o := .tup (ps ++ [V.ref p1])) (Same.refl G1) np2
      have f2 : Fz (upd G1 p2 (.tup (ps ++ [V.ref p1]))) (.ref p2) (.tuple (es.map eqD ++ [.tuple [.str (txS (l.take 1)), numD (numL (l.drop 2))]])) := .tup upd_same (fzA_app ((fps1.kt (Same.kt sm2))) (.cons (f1.kt (Same.kt sm2)) .nil))
      have sm12 := Same.trans sm1 sm2
      generalize upd G1 p2 (.tup (ps ++ [V.ref p1])) = G2 at sm12 f2 np3 ⊢
      have sm3 := Same.new (o := .tup [V.ref p2, .non]) (Same.refl G2) np3
      have f3 : Fz (upd G2 p3 (.tup [V.ref p2, .non])) (.ref p3) (.tuple [.tuple (es.map eqD ++ [.tuple [.str (txS (l.take 1)), numD (numL (l.drop 2))]]), .none]) := .tup upd_same (.cons (f2.kt (Same.kt sm3)) (.cons .non .nil))
      exact q (.ref p3) _ (sx1.trans (Same.sx (Same.trans sm12 sm3))) (tg1.same (Same.trans sm12 sm3)) f3
    have hs : sl ≠ [61] := fun z => e (decide_eq_true (by rw [z]; rfl))
    rw [if_neg hs] at q
    refine ⟨_, rfl, rfl, _, rfl, ite2 (fun e => ?_) (fun e => ?_)⟩
    · have hs : sl = [58] := txS_inj (V.str.inj (of_decide_eq_true e))
      rw [if_pos hs] at q
      have hdl : (txS (l.drop 2)).length ≤ 100000 := by
        show (l.drop 2).toArray.size ≤ 100000
        simp
        omega
      obtain ⟨b1, b2⟩ := part_len (txS (l.drop 2)) (Str.ofString "..")
      generalize hpt : Txt.partition (txS (l.drop 2)) (Str.ofString "..") = pt at b1 b2 q
      refine ⟨_, rfl, rfl, txS (l.drop 2), Str.ofString "..", rfl, rfl, by decide +kernel, by omega, fun pp npp => ?_⟩
      rw [hpt]
      have smP := Same.new (o := .tup [V.str pt.1, .str pt.2.1, .str pt.2.2]) (Same.refl H) npp
      have hpp : (upd H pp (.tup [V.str pt.1, .str pt.2.1, .str pt.2.2])) pp = some (.tup [V.str pt.1, .str pt.2.1, .str pt.2.2]) := upd_same
      generalize upd H pp (.tup [V.str pt.1, .str pt.2.1, .str pt.2.2]) = HP at smP hpp ⊢
      refine ⟨pp, _, rfl, .inl (.inl hpp), rfl, _, _, rfl, _, _, rfl, _, _, rfl, rfl, ?_⟩
      have tgP := tg.same smP
      have l1 : pt.1.cps.toList.length ≤ 100000 := by
        have : pt.1.cps.toList.length = pt.1.length := by simp [Str.length]
        omega
      have l2 : pt.2.2.cps.toList.length ≤ 100000 := by
        have : pt.2.2.cps.toList.length = pt.2.2.length := by simp [Str.length]
        omega
      refine ⟨.ref ea, rfl, _, rfl, _, rfl, pt.1.cps.toList, by show [V.str pt.1, V.int 999] = [V.str (txS pt.1.cps.toList), V.int 999]; rw [← str_eta], tgP, l1, fun H1 sx1 tg1 => ?_⟩
      refine ⟨_, rfl, pt.2.2.cps.toList, by show [V.str pt.2.2, V.int 999] = [V.str (txS pt.2.2.cps.toList), V.int 999]; rw [← str_eta], tg1, l2, fun H2 sx2 tg2 => ?_⟩
      refine ⟨(by show 3 ≤ sizeLine; omega), fun p1 np1 => ⟨(by show 2 ≤ sizeLine; omega), fun p2 np2 => ?_⟩⟩
      generalize numL pt.1.cps.toList = o1 at q np1 np2 ⊢
      generalize numL pt.2.2.cps.toList = o2 at q np1 np2 ⊢
      have sx02 : Sx Z.Ps H H2 := (Same.sx smP).trans (sx1.trans sx2)
      have f1 : Fz (upd H2 p1 (.tup [V.str (txS (l.take 1)), numV o1, numV o2])) (.ref p1) (.tuple [.str (txS (l.take 1)), numD o1, numD o2]) := .tup upd_same (.cons (.str _) (.cons (num_fz _) (.cons (num_fz _) .nil)))
      have sm1 := Same.new (o := .tup [V.str (txS (l.take 1)), numV o1, numV o2]) (Same.refl H2) np1
      generalize upd H2 p1 (.tup [V.str (txS (l.take 1)), numV o1, numV o2]) = G1 at f1 sm1 np2 ⊢
      have kt02 := sx02.kt tg
      have fe1 : Fz G1 (.ref ea) (.tuple (es.map eqD)) := Fz.kt (.tup (kt02 _ _ hea) (fps.kt kt02)) (Same.kt sm1)
      have sm2 := Same.new (o := .tup [V.ref ea, .ref p1]) (Same.refl G1) np2
      have f2 : Fz (upd G1 p2 (.tup [V.ref ea, .ref p1])) (.ref p2) (.tuple [.tuple (es.map eqD), .tuple [.str (txS (l.take 1)), numD o1, numD o2]]) := .tup upd_same (.cons (fe1.kt (Same.kt sm2)) (.cons (f1.kt (Same.kt sm2)) .nil))
      exact q (.ref p2) _ (sx02.trans (Same.sx (Same.trans sm1 sm2))) (tg2.same (Same.trans sm1 sm2)) f2
    have hs : sl ≠ [58] := fun z => e (decide_eq_true (by rw [z]; rfl))
    rw [if_neg hs] at q
    exact q .non H Sx.rfl' tg .non

/-! ### _law_word -/
/-- what a word writes behind these letters: a letter and its number, or its bounds -/
def wordM (cols ls l : List Nat) : Option (Sum (Nat × Int) (Nat × Int × Int)) :=
  if l.length < 3 ∨ l.getD 0 0 ∉ cols ∨ l.getD 0 0 ∈ ls then none
  else if l.getD 1 0 = 61 then
    match numL (l.drop 2) with
    | none => none
    | some n => if ls ≠ [] ∧ l.getD 0 0 < ls.getD (ls.length - 1) 0 then none else some (.inl (l.getD 0 0, (n : Int)))
  else
    match numL (Txt.partition (txS (l.drop 2)) (Str.ofString "..")).1.cps.toList, numL (Txt.partition (txS (l.drop 2)) (Str.ofString "..")).2.2.cps.toList with
    | some lo, some hi => if l.getD 1 0 ≠ 58 ∨ (Txt.partition (txS (l.drop 2)) (Str.ofString "..")).2.1 = Str.ofString "" ∨ hi < lo then none else some (.inr (l.getD 0 0, (lo : Int), (hi : Int)))
    | _, _ => none
def wordD : Option (Sum (Nat × Int) (Nat × Int × Int)) → PyData
  | none => .none
  | some (.inl p) => eqD p
  | some (.inr t) => rchD (some t)
abbrev resW (cols ls l : List Nat) : PyData := wordD (wordM cols ls l)
theorem part_z {l : List Nat} {y : Str} (h : ∀ x ∈ l, x < 0x110000) : (∀ x ∈ (Txt.partition (txS l) y).1.cps.toList, x < 0x110000) ∧ ∀ x ∈ (Txt.partition (txS l) y).2.2.cps.toList, x < 0x110000 := by
  have sub : ∀ (a b : Nat) (x : Nat), x ∈ (Builtin.Str.strSub (txS l) a b).cps.toList → x ∈ l := fun a b x hx => by
    unfold Builtin.Str.strSub at hx
    simp only [Array.toList_extract, List.extract_eq_drop_take] at hx
    exact List.mem_of_mem_drop (List.mem_of_mem_take hx)
  unfold Txt.partition
  split
  · exact ⟨fun x hx => h x (sub _ _ x hx), fun x hx => h x (sub _ _ x hx)⟩
  · exact ⟨fun x hx => h x (by simpa using hx), fun x hx => by cases hx⟩
theorem at_last {us : List V} (h : 0 < us.length) : L2.atI us (-1) = us[us.length - 1]? := by
  unfold L2.atI L2.ixN
  rw [if_neg (by decide), if_pos (by omega)]
  show us[((us.length : Int) + -1).toNat]? = _
  congr 1
  omega
def spLword (K : PySem.W.Frag) : Sp := fun vs H Q _ => ∃ (cols l ls : List Nat) (la : Addr), vs = [tx cols, tx l, .ref la] ∧ H la = some (.lst (ls.map sg)) ∧ ls.length ≤ 100 ∧ cols.length ≤ 26 ∧ l.length ≤ 50000 ∧ (∀ c ∈ l, c < 0x110000) ∧ (∀ c ∈ ls, c < 0x110000) ∧
  ∀ (v : V) (H' : Hp), Same H H' → Fz H' v (resW cols ls l) → Q v H'
set_option maxHeartbeats 4000000 in
theorem ok_lword (T : Tx K mg Z) : FnOk P w K mg base CX0 2 Z.f_l_word Z.d_l_word ["columns", "word", "letters"] (spLword K) := by
  have G_l_number : FnOk P w K mg base CX0 1 Z.f_l_number Z.d_l_number ["word"] (spLnumber K) := ok_lnumber T
  refine T.F_l_word.ok sc_l_word (fun vs H Q E h => ?_) (fun cdv A outer s H vs Q E hr h => ?_)
  · obtain ⟨cols, l, ls, la, rfl, _⟩ := h
    rfl
  · obtain ⟨cols, l, ls, la, rfl, hla, hls, hcl, hl, hz, hzl, q⟩ := h
    refine ⟨_, (pss_mid (ps_if (PW.pt (pw_or (pt_cmpR op_lt (pe_callB call_len_str (by rfl) T.m_len (by decide +kernel) (pa_cons (pv 1) pa_nil)) pe_int (nomark _)) (pw_or (pt_cmpR op_notIn_sign (pe_ix ix_str (pv 1) pe_int (fun _ _ => rfl)) (pv 0) (by rfl)) (pw_or1 (pt_cmpR (inSq K) (pe_ix ix_str (pv 1) pe_int (fun _ _ => rfl)) (pv 2) (by rfl)))))) (pss_one (ps_ret pe_non)) pss_nil)
      (pss_cons (ps_if (pt_cmpR op_eq (pe_ix ix_str (pv 1) pe_int (fun _ _ => rfl)) pe_str (nomark _)) (pss_cons (ps_set (i := 3) sc_l_word.nd rfl (.inl rfl) (pe_call G_l_number (hr.mono (by omega)) (by rfl) T.g_l_number T.F_l_number.kp T.b_l_number .nil pass0 (pa_cons (pe_slice sl_str (pv 1) (po_some pe_int) po_none) pa_nil)))
      (pss_mid (ps_if (PW.pt (pw_or (pt_cmpR op_isN (pv 3) pe_non (nomark _)) (pw_or1 (PW.pt (pw_and (pt_cmpR (neDK K hr.units) (pv 2) (pe_lst pa_nil) (nomark _)) (pw_and1 (pt_cmpR op_gt_str (pe_ix (ixL K) (pv 2) (pe_un un_neg pe_int) (fun _ _ => rfl)) (pe_ix ix_str (pv 1) pe_int (fun _ _ => rfl)) (nomark _)))))))) (pss_one (ps_ret pe_non)) pss_nil)
      (pss_one (ps_ret (pe_tup (pa_cons (pe_ix ix_str (pv 1) pe_int (fun _ _ => rfl)) (pa_cons (pv 3) pa_nil))))))) pss_nil)
      (pss_cons (ps_asg (bmK K PySem.F.plainAttrs_str PySem.F.slot_str_partition PySem.F.type_str_partition mt_partition (pe_slice sl_str (pv 1) (po_some pe_int) po_none) (pa_cons pe_str pa_nil)) (pgT K (n := 3) (pgs_cons (pg_name (i := 4) sc_l_word.nd rfl (.inl rfl)) (pgs_cons (pg_name (i := 5) sc_l_word.nd rfl (.inl rfl)) (pgs_cons (pg_name (i := 6) sc_l_word.nd rfl (.inl rfl)) pgs_nil)))))
      (pss_cons (ps_set (i := 7) sc_l_word.nd rfl (.inl rfl) (pe_tup (pa_cons (pe_call G_l_number (hr.mono (by omega)) (by rfl) T.g_l_number T.F_l_number.kp T.b_l_number .nil pass0 (pa_cons (pv 4) pa_nil)) (pa_cons (pe_call G_l_number (hr.mono (by omega)) (by rfl) T.g_l_number T.F_l_number.kp T.b_l_number .nil pass0 (pa_cons (pv 6) pa_nil)) pa_nil))))
      (pss_mid (ps_if (PW.pt (pw_or (pt_cmpR op_ne (pe_ix ix_str (pv 1) pe_int (fun _ _ => rfl)) pe_str (nomark _)) (pw_or (pt_cmpR op_eq (pv 5) pe_str (nomark _)) (pw_or (pt_cmpR (inSq K) pe_non (pv 7) (by rfl)) (pw_or1 (pt_cmpR op_gt (pe_ix (ixT K) (pv 7) pe_int (fun _ _ => rfl)) (pe_ix (ixT K) (pv 7) pe_int (fun _ _ => rfl)) (nomark _))))))) (pss_one (ps_ret pe_non)) pss_nil)
      (pss_one (ps_ret (pe_op op_catT (pe_tup (pa_cons (pe_ix ix_str (pv 1) pe_int (fun _ _ => rfl)) pa_nil)) (pv 7))))))))), ?_⟩
    have line : (4665600 : Nat) < sizeLine := by rw [sizeLine_eq]; decide
    have hsz : (⟨l.toArray⟩ : Str).length = l.length := by simp [Str.length]
    unfold resW wordM at q
    refine ⟨fun σ G => σ = [some (tx cols), some (tx l), some (.ref la), none, none, none, none, none] ∧ G = H ∧ 3 ≤ l.length ∧ l.getD 0 0 ∈ cols ∧ l.getD 0 0 ∉ ls, ?_, fun σ G hM => ?_⟩
    · refine ⟨tx l, rfl, _, rfl, by rw [hsz]; omega, _, _, rfl, rfl, _, rfl, ite2 (fun e => ?_) (fun e => ?_)⟩
      · rw [if_pos (.inl (by have := of_decide_eq_true e; omega))] at q
        exact q .non H (Same.refl H) .non
      have h3 : 3 ≤ l.length := Nat.le_of_not_lt fun z => e (decide_eq_true (by omega))
      obtain ⟨c, hc⟩ : ∃ c, l[0]? = some c := ⟨_, List.getElem?_eq_getElem (by omega)⟩
      have eg : l.getD 0 0 = c := by rw [List.getD_eq_getElem?_getD, hc]; rfl
      rw [eg] at q ⊢
      have hcsl : (⟨l.toArray⟩ : Str).cps.toList = l := by simp
      have at0 : atI (⟨l.toArray⟩ : Str).cps.toList 0 = some c := atI_nat (j := 0) (by rw [hcsl]; exact hc)
      refine ⟨tx l, rfl, txS l, 0, c, rfl, rfl, by rw [hsz]; omega, at0, tx cols, rfl, c, txS cols, rfl, rfl, _, rfl, ?_⟩
      rw [show (⟨cols.toArray⟩ : Str).cps.toList = cols by simp]
      refine ite2 (fun e2 => ?_) (fun e2 => ?_)
      · have nc : c ∉ cols := by simpa using e2
        rw [if_pos (.inr (.inl nc))] at q
        exact q .non H (Same.refl H) .non
      have hcc : c ∈ cols := by simpa using e2
      have els : ls.map sg = (ls.map fun c => [c]).map tx := by
        rw [List.map_map]
        rfl
      rw [els] at hla
      refine ⟨tx l, rfl, txS l, 0, c, rfl, rfl, by rw [hsz]; omega, at0, .ref la, rfl, la, _, rfl, .inl (.inl (.inl hla)), rfl, flat_texts _, _, rfl, ?_⟩
      have inl : inV (V.str ⟨#[c]⟩) ((ls.map fun c => [c]).map tx) = decide (c ∈ ls) := by
        have h1 := inV_texts [c] (ls.map fun c => [c])
        rw [show (V.str ⟨#[c]⟩ : V) = tx [c] from rfl, h1]
        exact decide_eq_decide.mpr (by simp)
      show (if inV (V.str ⟨#[c]⟩) ((ls.map fun c => [c]).map tx) = true then _ else _)
      rw [inl]
      refine ite2 (fun e3 => ?_) (fun e3 => ?_)
      · rw [if_pos (.inr (.inr (of_decide_eq_true e3)))] at q
        exact q .non H (Same.refl H) .non
      · exact ⟨rfl, rfl, h3, hcc, fun z => e3 (decide_eq_true z)⟩
    obtain ⟨rfl, rfl, h3, hcc, hcl2⟩ := hM
    have h0 : ¬ (l.length < 3 ∨ l.getD 0 0 ∉ cols ∨ l.getD 0 0 ∈ ls) := fun z => z.elim (fun z => absurd z (by omega)) fun z => z.elim (fun z => z hcc) hcl2
    rw [if_neg h0] at q
    have e3 : cutS ⟨l.toArray⟩ (some (2 : Int)) none = txS (l.drop 2) := cut_from l 2
    have hcsl : (⟨l.toArray⟩ : Str).cps.toList = l := by simp
    obtain ⟨c, hc⟩ : ∃ c, l[0]? = some c := ⟨_, List.getElem?_eq_getElem (by omega)⟩
    obtain ⟨d, hd⟩ : ∃ d, l[1]? = some d := ⟨_, List.getElem?_eq_getElem (by omega)⟩
    have eg : l.getD 0 0 = c := by rw [List.getD_eq_getElem?_getD, hc]; rfl
    have eg1 : l.getD 1 0 = d := by rw [List.getD_eq_getElem?_getD, hd]; rfl
    have at0 : atI (⟨l.toArray⟩ : Str).cps.toList 0 = some c := atI_nat (j := 0) (by rw [hcsl]; exact hc)
    have at1 : atI (⟨l.toArray⟩ : Str).cps.toList 1 = some d := atI_nat (j := 1) (by rw [hcsl]; exact hd)
    have dl : (l.drop 2).length ≤ 100000 := by rw [List.length_drop]; omega
    have dz : ∀ x ∈ l.drop 2, x < 0x110000 := fun x hx => hz x (List.mem_of_mem_drop hx)
    rw [eg, eg1] at q
    have eq61 : (V.str ⟨#[d]⟩ = V.str (Str.ofString "=")) ↔ d = 61 := by
      refine ⟨fun z => ?_, fun z => by rw [z]; rfl⟩
      have := V.str.inj z
      have h2 : (⟨#[d]⟩ : Str).cps = (Str.ofString "=").cps := by rw [this]
      have h3 : (#[d] : Array Nat) = #[61] := h2.trans (by decide +kernel)
      simpa using h3
    refine ⟨tx l, rfl, txS l, 1, d, rfl, rfl, by rw [hsz]; omega, at1, rfl, _, rfl, ite2 (fun e => ?_) (fun e => ?_)⟩
    · rw [if_pos (eq61.mp (of_decide_eq_true e))] at q
      refine ⟨tx l, rfl, _, rfl, _, rfl, by rw [hsz]; omega, l.drop 2, by show [V.str (cutS ⟨l.toArray⟩ (some (2 : Int)) none)] = _; rw [e3], dl, dz, fun H1 sm1 => ?_⟩
      have hla1 := sm1 _ _ hla
      generalize numL (l.drop 2) = o at q ⊢
      cases o with
      | none =>
        refine ⟨fun _ _ => False, ⟨.non, rfl, rfl, _, rfl, ite2 (fun _ => q .non H1 sm1 .non) (fun e => absurd rfl e)⟩, fun σ G h => h.elim⟩
      | some n =>
      have q : ∀ (v : V) (H' : Hp), Same G H' → Fz H' v (wordD (if ls ≠ [] ∧ c < ls.getD (ls.length - 1) 0 then none else some (.inl (c, (n : Int))))) → Q v H' := q
      refine ⟨fun σ G' => σ = [some (tx cols), some (tx l), some (.ref la), some (.int n), none, none, none, none] ∧ Same G G' ∧ ¬ (ls ≠ [] ∧ c < ls.getD (ls.length - 1) 0), ?_, fun σ G' hM => ?_⟩
      · refine ⟨.int n, rfl, rfl, _, rfl, ite2 (fun e => absurd (of_decide_eq_true e) (fun z => nomatch z)) (fun _ => ?_)⟩
        refine ⟨.ref la, rfl, Nat.zero_le _, fun N nN => ?_⟩
        have sm3 := Same.new (o := .lst []) sm1 nN
        have hN : (upd H1 N (.lst [])) N = some (.lst []) := upd_same
        have hla3 := keep_new (o := .lst []) hla1 nN
        generalize upd H1 N (.lst []) = H3 at sm3 hN hla3 ⊢
        refine ⟨.list (ls.map fun c => .str (sS c)), .list [], .lst (.inl (.inl hla3)) (dp_signs _), .lst (.inl (.inl hN)) .nil, shaped_of hzl, by decide +kernel, _, rfl, ?_⟩
        cases hls2 : ls with
        | nil =>
          refine iteF (iteF ⟨rfl, sm3, fun z => z.1 rfl⟩)
        | cons c0 ls0 =>
          have hpos : 0 < ls.length := by rw [hls2]; exact Nat.succ_pos _
          have hlast : ls[ls.length - 1]? = some (ls.getD (ls.length - 1) 0) := by
            rw [List.getD_eq_getElem?_getD, List.getElem?_eq_getElem (by omega)]
            rfl
          refine ite2 (fun _ => ?_) (fun z => absurd rfl z)
          refine ⟨.ref la, rfl, 1, rfl, la, ls.map sg, -1, sg (ls.getD (ls.length - 1) 0), rfl, rfl, .inl (.inl hla3), by rw [at_last (by rw [List.length_map]; exact hpos), List.length_map, List.getElem?_map, hlast]; rfl, ?_⟩
          refine ⟨tx l, rfl, txS l, 0, c, rfl, rfl, by rw [hsz]; omega, at0, sS (ls.getD (ls.length - 1) 0), sS c, rfl, rfl, _, rfl, ?_⟩
          have elt : decide ((sS c).cps.toList < (sS (ls.getD (ls.length - 1) 0)).cps.toList) = decide (c < ls.getD (ls.length - 1) 0) := decide_eq_decide.mpr (one_lt c _)
          rw [elt]
          refine ite2 (fun e9 => ?_) (fun e9 => ⟨rfl, sm3, fun z => e9 (decide_eq_true (by rw [hls2]; exact z.2))⟩)
          rw [if_pos ⟨by rw [hls2]; exact List.cons_ne_nil _ _, of_decide_eq_true e9⟩] at q
          exact q .non H3 sm3 .non
      obtain ⟨rfl, smG, hno⟩ := hM
      rw [if_neg hno] at q
      refine ⟨tx l, rfl, txS l, 0, c, rfl, rfl, by rw [hsz]; omega, at0, .int n, rfl, (by show 2 ≤ sizeLine; omega), fun p np => ?_⟩
      exact q (.ref p) _ (Same.new smG np) (.tup upd_same (.cons (.str _) (.cons (.int _) .nil)))
    rw [if_neg (fun z => e (decide_eq_true (eq61.mpr z)))] at q
    obtain ⟨b1, b2⟩ := part_len (txS (l.drop 2)) (Str.ofString "..")
    have pz : (∀ x ∈ (Txt.partition (txS (l.drop 2)) (Str.ofString "..")).1.cps.toList, x < 0x110000) ∧ ∀ x ∈ (Txt.partition (txS (l.drop 2)) (Str.ofString "..")).2.2.cps.toList, x < 0x110000 := part_z dz
    have hdl : (txS (l.drop 2)).length ≤ 100000 := by
      show (l.drop 2).toArray.size ≤ 100000
      simp
      omega
    generalize hpt : Txt.partition (txS (l.drop 2)) (Str.ofString "..") = pt at b1 b2 pz q
    refine ⟨tx l, rfl, _, rfl, _, rfl, by rw [hsz]; omega, ?_⟩
    rw [e3]
    refine ⟨rfl, txS (l.drop 2), Str.ofString "..", rfl, rfl, by decide +kernel, by omega, fun pp npp => ?_⟩
    rw [hpt]
    have smP := Same.new (o := .tup [V.str pt.1, .str pt.2.1, .str pt.2.2]) (Same.refl G) npp
    have hpp : (upd G pp (.tup [V.str pt.1, .str pt.2.1, .str pt.2.2])) pp = some (.tup [V.str pt.1, .str pt.2.1, .str pt.2.2]) := upd_same
    generalize upd G pp (.tup [V.str pt.1, .str pt.2.1, .str pt.2.2]) = HP at smP hpp ⊢
    refine ⟨pp, _, rfl, .inl (.inl hpp), rfl, _, _, rfl, _, _, rfl, _, _, rfl, rfl, ?_⟩
    have l1 : pt.1.cps.toList.length ≤ 100000 := by
      have : pt.1.cps.toList.length = pt.1.length := by simp [Str.length]
      omega
    have l2 : pt.2.2.cps.toList.length ≤ 100000 := by
      have : pt.2.2.cps.toList.length = pt.2.2.length := by simp [Str.length]
      omega
    refine ⟨_, rfl, pt.1.cps.toList, by show [V.str pt.1] = [V.str (txS pt.1.cps.toList)]; rw [← str_eta], l1, pz.1, fun H1 sm1 => ?_⟩
    refine ⟨_, rfl, pt.2.2.cps.toList, by show [V.str pt.2.2] = [V.str (txS pt.2.2.cps.toList)]; rw [← str_eta], l2, pz.2, fun H2 sm2 => ?_⟩
    refine ⟨(by show 2 ≤ sizeLine; omega), fun p1 np1 => ?_⟩
    generalize numL pt.1.cps.toList = o1 at q np1 ⊢
    generalize numL pt.2.2.cps.toList = o2 at q np1 ⊢
    have sm3 := Same.new (o := .tup [numV o1, numV o2]) (Same.trans smP (Same.trans sm1 sm2)) np1
    have hp1 : (upd H2 p1 (.tup [numV o1, numV o2])) p1 = some (.tup [numV o1, numV o2]) := upd_same
    generalize upd H2 p1 (.tup [numV o1, numV o2]) = H3 at sm3 hp1 ⊢
    have qn : (o1 = none ∨ o2 = none ∨ d ≠ 58 ∨ pt.2.1 = Str.ofString "" ∨ ∃ lo hi, o1 = some lo ∧ o2 = some hi ∧ hi < lo) → Q .non H3 := fun z => by
      refine q .non H3 sm3 ?_
      cases o1 with
      | none => exact .non
      | some lo =>
        cases o2 with
        | none => exact .non
        | some hi =>
          show Fz H3 .non (wordD (if _ then none else _))
          rw [if_pos ?_]
          · exact .non
          · rcases z with z | z | z | z | ⟨lo', hi', z1, z2, z3⟩
            · cases z
            · cases z
            · exact .inl z
            · exact .inr (.inl z)
            · cases z1
              cases z2
              exact .inr (.inr z3)
    refine ⟨fun σ G' => σ = [some (tx cols), some (tx l), some (.ref la), none, some (.str pt.1), some (.str pt.2.1), some (.str pt.2.2), some (.ref p1)] ∧ G' = H3 ∧ ∃ lo hi, o1 = some lo ∧ o2 = some hi ∧ ¬ (d ≠ 58 ∨ pt.2.1 = Str.ofString "" ∨ hi < lo), ?_, fun σ G' hM => ?_⟩
    · have eq58 : (V.str ⟨#[d]⟩ = V.str (Str.ofString ":")) ↔ d = 58 := by
        refine ⟨fun z => ?_, fun z => by rw [z]; rfl⟩
        have h2 : (⟨#[d]⟩ : Str).cps = (Str.ofString ":").cps := by rw [V.str.inj z]
        have h3 : (#[d] : Array Nat) = #[58] := h2.trans (by decide +kernel)
        simpa using h3
      refine ⟨tx l, rfl, txS l, 1, d, rfl, rfl, by rw [hsz]; omega, at1, rfl, _, rfl, ite2 (fun e => ?_) (fun e => ?_)⟩
      · refine iteT (qn (.inr (.inr (.inl fun z => ?_))))
        have e : (!decide (V.str ⟨#[d]⟩ = V.str (Str.ofString ":"))) = true := e
        rw [decide_eq_true (eq58.mpr z)] at e
        cases e
      have h58 : d = 58 := eq58.mp (of_decide_eq_true (by simpa using e))
      refine ⟨_, rfl, rfl, _, rfl, ite2 (fun e4 => ?_) (fun e4 => ?_)⟩
      · exact iteT (qn (.inr (.inr (.inr (.inl (V.str.inj (of_decide_eq_true e4)))))))
      have h4 : ¬ pt.2.1 = Str.ofString "" := fun z => e4 (decide_eq_true (by rw [z]))
      refine ⟨.ref p1, rfl, p1, [numV o1, numV o2], rfl, .inr (.inl (.inl hp1)), rfl, by cases o1 <;> cases o2 <;> rfl, _, rfl, ?_⟩
      cases o1 with
      | none => exact iteT (iteT (qn (.inl rfl)))
      | some lo =>
      cases o2 with
      | none => exact iteT (iteT (qn (.inr (.inl rfl))))
      | some hi =>
      refine iteF ?_
      refine ⟨.ref p1, rfl, p1, _, 0, .int lo, rfl, rfl, .inl (.inl hp1), rfl, .ref p1, rfl, p1, _, 1, .int hi, rfl, rfl, .inl (.inl hp1), rfl, lo, hi, rfl, rfl, _, rfl, ite2 (fun e5 => ?_) (fun e5 => ?_)⟩
      · exact qn (.inr (.inr (.inr (.inr ⟨lo, hi, rfl, rfl, by have := of_decide_eq_true e5; omega⟩))))
      · refine ⟨rfl, rfl, lo, hi, rfl, rfl, fun z => ?_⟩
        rcases z with z | z | z
        · exact z h58
        · exact h4 z
        · exact e5 (decide_eq_true (by omega))
    obtain ⟨rfl, rfl, lo, hi, rfl, rfl, hno⟩ := hM
    refine ⟨tx l, rfl, txS l, 0, c, rfl, rfl, by rw [hsz]; omega, at0, (by show 1 ≤ sizeLine; omega), fun p2 np2 => ?_⟩
    have sm4 := Same.new (o := .tup [V.str ⟨#[c]⟩]) sm3 np2
    have hp2 : (upd G' p2 (.tup [V.str ⟨#[c]⟩])) p2 = some (.tup [V.str ⟨#[c]⟩]) := upd_same
    have hp1' := keep_new (o := .tup [V.str ⟨#[c]⟩]) hp1 np2
    generalize upd G' p2 (.tup [V.str ⟨#[c]⟩]) = H4 at sm4 hp2 hp1' ⊢
    refine ⟨.ref p1, rfl, p2, p1, [V.str ⟨#[c]⟩], [numV (some lo), numV (some hi)], rfl, rfl, .inl (.inl hp2), .inl (.inl hp1'), List.cons_ne_nil _ _, (by show 3 ≤ sizeLine; omega), fun z => absurd z (List.cons_ne_nil _ _), fun _ p3 np3 => ?_⟩
    have fin : ∀ (v : V) (H' : Hp), Same G H' → Fz H' v (wordD (if d ≠ 58 ∨ pt.2.1 = Str.ofString "" ∨ hi < lo then none else some (.inr (c, (lo : Int), (hi : Int))))) → Q v H' := q
    rw [if_neg hno] at fin
    exact fin (.ref p3) _ (Same.new sm4 np3) (.tup upd_same (.cons (.str _) (.cons (.int _) (.cons (.int _) .nil))))

/-! ### the words of a text, and what they write -/
/-- a text's words: its pieces between blanks -/
def wordsL : List Nat → List (List Nat)
  | [] => [[]]
  | c :: l => if c = 32 then [] :: wordsL l else (c :: (wordsL l).headD []) :: (wordsL l).tail
theorem wordsL_ne : ∀ l, wordsL l ≠ []
  | [] => List.cons_ne_nil _ _
  | c :: l => by
    unfold wordsL
    split <;> exact List.cons_ne_nil _ _
theorem wordsL_head (l : List Nat) : wordsL l = (wordsL l).headD [] :: (wordsL l).tail := by
  cases h : wordsL l with
  | nil => exact absurd h (wordsL_ne l)
  | cons w ws => rfl
theorem wordsL_join : ∀ l, TL.joinL [32] (wordsL l) = l
  | [] => rfl
  | c :: l => by
    have ih := wordsL_join l
    rw [wordsL_head l] at ih
    unfold wordsL
    split
    · next h =>
      rw [wordsL_head l, h]
      show [] ++ ([32] ++ TL.joinL [32] ((wordsL l).headD [] :: (wordsL l).tail)) = 32 :: l
      rw [ih]
      rfl
    · generalize (wordsL l).headD [] = w at ih ⊢
      generalize (wordsL l).tail = ws at ih ⊢
      cases ws with
      | nil =>
        have ih : w = l := ih
        show c :: w = c :: l
        rw [ih]
      | cons v ws =>
        have ih : w ++ ([32] ++ TL.joinL [32] (v :: ws)) = l := ih
        show (c :: w) ++ ([32] ++ TL.joinL [32] (v :: ws)) = c :: l
        rw [List.cons_append, ih]
theorem wordsL_all : ∀ l, (wordsL l).length ≤ l.length + 1 ∧ ∀ w ∈ wordsL l, w.length ≤ l.length ∧ ∀ c ∈ w, c ∈ l ∧ c ≠ 32
  | [] => ⟨Nat.le_refl _, fun w h => by
    obtain rfl := List.mem_singleton.mp h
    exact ⟨Nat.le_refl _, fun c z => by cases z⟩⟩
  | c :: l => by
    obtain ⟨h1, h2⟩ := wordsL_all l
    rw [wordsL_head l] at h1 h2
    unfold wordsL
    have keep : ∀ w : List Nat, (w.length ≤ l.length ∧ ∀ x ∈ w, x ∈ l ∧ x ≠ 32) → w.length ≤ (c :: l).length ∧ ∀ x ∈ w, x ∈ c :: l ∧ x ≠ 32 := fun w h =>
      ⟨Nat.le_succ_of_le h.1, fun x hx => ⟨List.mem_cons_of_mem _ (h.2 x hx).1, (h.2 x hx).2⟩⟩
    split
    · rw [wordsL_head l]
      refine ⟨Nat.succ_le_succ h1, fun w hw => ?_⟩
      rcases List.mem_cons.mp hw with rfl | hw
      · exact ⟨Nat.zero_le _, fun x z => by cases z⟩
      · exact keep w (h2 w hw)
    · next hc =>
      refine ⟨Nat.le_succ_of_le h1, fun w hw => ?_⟩
      rcases List.mem_cons.mp hw with rfl | hw
      · obtain ⟨g1, g2⟩ := h2 _ List.mem_cons_self
        refine ⟨Nat.succ_le_succ g1, fun x hx => ?_⟩
        rcases List.mem_cons.mp hx with rfl | hx
        · exact ⟨List.mem_cons_self, hc⟩
        · exact ⟨List.mem_cons_of_mem _ (g2 x hx).1, (g2 x hx).2⟩
      · exact keep w (h2 w (List.mem_cons_of_mem _ hw))
theorem join_txs (ws : List (List Nat)) : Txt.join (Str.ofString " ") (ws.map txS) = txS (TL.joinL [32] ws) := by
  rw [TL.join_eq, str_eta (Str.join _ _)]
  have e : (Str.join (Str.ofString " ") (ws.map txS)).cps.toList = TL.joinL [32] ws := by
    rw [show (Str.join (Str.ofString " ") (ws.map txS)).cps.toList = _ from TL.tl_join _ _, List.map_map, show (TL.tl ∘ txS) = (id : List Nat → List Nat) from funext fun l => by simp [TL.tl], List.map_id]
    rfl
  rw [e]
theorem split_txS (l : List Nat) : Txt.split (txS l) (Str.ofString " ") = (wordsL l).map txS := by
  have h := TL.split_join (y := Str.ofString " ") (s := 32) (S := []) (by decide +kernel) (by decide +kernel) (parts := (wordsL l).map txS) (fun z => wordsL_ne l (List.map_eq_nil_iff.mp z)) (fun p hp z => by
    obtain ⟨w, hw, rfl⟩ := List.mem_map.mp hp
    exact (((wordsL_all l).2 w hw).2 32 (by simpa [TL.tl] using z)).2 rfl)
  rw [join_txs, wordsL_join] at h
  exact h
/-! a question, word by word -/
abbrev QnR : Type := List (Nat × Int) × Option (Nat × Int × Int)
/-- a question with what one more word writes -/
def addW (es : List (Nat × Int)) : Option (Sum (Nat × Int) (Nat × Int × Int)) → Option QnR
  | none => none
  | some (.inl p) => some (es ++ [p], none)
  | some (.inr t) => some (es, some t)
def stepQ (cols : List Nat) (q : QnR) (l : List Nat) : Option QnR :=
  if q.2.isSome then none else addW q.1 (wordM cols (q.1.map (·.1)) l)
def readQ (cols : List Nat) : List (List Nat) → Nat → QnR → Sum Nat QnR
  | [], _, q => .inr q
  | l :: ws, i, q => match stepQ cols q l with
    | none => .inl i
    | some q' => readQ cols ws (i + 1) q'
/-- what a text writes: a question, or the number of the first word that is wrong -/
def readT (cols l : List Nat) : Sum Nat QnR := if l = [45] then .inr ([], none) else readQ cols (wordsL l) 0 ([], none)
theorem risB_snoc : ∀ (ls : List Nat) (c : Nat), risB (ls ++ [c]) = (risB ls && (decide (ls = []) || decide (ls.getD (ls.length - 1) 0 < c)))
  | [], c => rfl
  | [a], c => by
    show (decide (a < c) && true) = (true && (false || decide (a < c)))
    simp
  | a :: b :: l, c => by
    have ih := risB_snoc (b :: l) c
    show (decide (a < b) && risB ((b :: l) ++ [c])) = ((decide (a < b) && risB (b :: l)) && (decide (a :: b :: l = []) || decide ((a :: b :: l).getD ((a :: b :: l).length - 1) 0 < c)))
    rw [ih, Bool.and_assoc]
    rfl
theorem up_last {ls : List Nat} (h : ls.Pairwise (· < ·)) {c : Nat} (hc : c ∈ ls) : c ≤ ls.getD (ls.length - 1) 0 := by
  obtain ⟨i, hi, rfl⟩ := List.getElem_of_mem hc
  have e : ls.getD (ls.length - 1) 0 = ls[ls.length - 1] := by
    rw [List.getD_eq_getElem?_getD, List.getElem?_eq_getElem (by omega)]
    rfl
  rw [e]
  by_cases hl : i = ls.length - 1
  · exact Nat.le_of_eq (by congr 1)
  · exact Nat.le_of_lt (List.pairwise_iff_getElem.mp h i (ls.length - 1) hi (by omega) (by omega))
theorem up_snoc {ls : List Nat} (h : ls.Pairwise (· < ·)) {c : Nat} (hl : ls = [] ∨ ls.getD (ls.length - 1) 0 < c) : (ls ++ [c]).Pairwise (· < ·) := by
  refine List.pairwise_append.mpr ⟨h, List.pairwise_singleton _ _, fun a ha b hb => ?_⟩
  obtain rfl := List.mem_singleton.mp hb
  rcases hl with rfl | hl
  · cases ha
  · exact Nat.lt_of_le_of_lt (up_last h ha) hl
theorem numL_le {l : List Nat} {n : Nat} (h : numL l = some n) : 1 ≤ l.length ∧ n ≤ 999 := by
  unfold numL at h
  split at h
  · next hc =>
    split at h
    · obtain rfl := Option.some.inj h
      exact ⟨hc.1.1, (read_l hc.1.1 hc.1.2 hc.2).2⟩
    · cases h
  · cases h
theorem isNum_numD (o : Option Nat) (h : ∀ n, o = some n → n ≤ 999) : isNumD (numD o) = o.isSome := by
  cases o with
  | none => rfl
  | some n =>
    have := h n rfl
    show (decide ((0 : Int) ≤ n) && decide ((n : Int) ≤ 999)) = true
    rw [decide_eq_true (by omega), decide_eq_true (by omega)]
    rfl
/-- what with_word tells is a question just where the word is one -/
def StepOk (cols : List Nat) : Option QnR → PyData → Prop
  | none, d => isQD cols d = false
  | some q, d => d = qD q.1 q.2 ∧ QOk cols q.1 q.2
theorem part_dots {x : Str} (h : (Txt.partition x (Str.ofString "..")).2.1 = Str.ofString "") : numL (Txt.partition x (Str.ofString "..")).2.2.cps.toList = none := by
  revert h
  unfold Txt.partition
  split
  · intro h
    have h : Str.ofString ".." = Str.ofString "" := h
    exact absurd h (by decide +kernel)
  · intro _
    rfl
theorem word_step {cols : List Nat} {es : List (Nat × Int)} {rc : Option (Nat × Int × Int)} (hok : QOk cols es rc) (l : List Nat) : StepOk cols (stepQ cols (es, rc) l) (withD es rc l) := by
  have hall : (es.map eqD).all (isEqD cols) = true := by
    rw [List.all_eq_true]
    intro d hd
    obtain ⟨p, hp, rfl⟩ := List.mem_map.mp hd
    obtain ⟨h1, h2, h3⟩ := hok.ok p hp
    show (decide (p.1 ∈ cols) && (decide (0 ≤ p.2) && decide (p.2 ≤ 999))) = true
    rw [decide_eq_true h1, decide_eq_true h2, decide_eq_true (by omega)]
    rfl
  have hlets : (es.map eqD).map letD = es.map (·.1) := let_eqs es
  have hris : risB (es.map (·.1)) = true := (risB_pw _).mpr hok.up
  have heqs : isEqsD cols (.tuple (es.map eqD)) = true := by
    show ((es.map eqD).all (isEqD cols) && risB ((es.map eqD).map letD)) = true
    rw [hall, hlets, hris]
    rfl
  unfold stepQ
  cases rc with
  | some t => rfl
  | none =>
  show StepOk cols (addW es (wordM cols (es.map (·.1)) l)) (withD es none l)
  match l with
  | [] => rfl
  | [c] => rfl
  | c :: s :: r =>
  have hlet : isLetD cols (.str (txS [c])) = decide (c ∈ cols) := rfl
  unfold wordM withD
  rw [if_neg (show ¬ (none : Option (Nat × Int × Int)).isSome = true from by decide)]
  show StepOk cols (addW es (if (r.length + 2 < 3 ∨ c ∉ cols ∨ c ∈ es.map (·.1)) then none else if s = 61 then (match numL r with
    | none => none
    | some n => if es.map (·.1) ≠ [] ∧ c < (es.map (·.1)).getD ((es.map (·.1)).length - 1) 0 then none else some (.inl (c, (n : Int)))) else _)) (if [s] = [61] then .tuple [.tuple (es.map eqD ++ [.tuple [.str (txS [c]), numD (numL r)]]), .none] else if [s] = [58] then .tuple [.tuple (es.map eqD), .tuple [.str (txS [c]), _, _]] else .none)
  by_cases h61 : s = 61
  · rw [if_pos h61, if_pos (show [s] = [61] by rw [h61])]
    have isq : isQD cols (PyData.tuple [.tuple (es.map eqD ++ [PyData.tuple [.str (txS [c]), numD (numL r)]]), .none]) = ((decide (c ∈ cols) && (numL r).isSome) && (decide (es.map (·.1) = []) || decide ((es.map (·.1)).getD ((es.map (·.1)).length - 1) 0 < c))) := by
      show (((es.map eqD ++ [PyData.tuple [.str (txS [c]), numD (numL r)]]).all (isEqD cols) && risB ((es.map eqD ++ [PyData.tuple [.str (txS [c]), numD (numL r)]]).map letD)) && true) = _
      rw [List.all_append, hall, List.map_append, hlets, show [PyData.tuple [.str (txS [c]), numD (numL r)]].map letD = [c] from rfl, risB_snoc, hris, Bool.true_and, Bool.true_and, Bool.and_true]
      rw [show [PyData.tuple [.str (txS [c]), numD (numL r)]].all (isEqD cols) = ((isLetD cols (.str (txS [c])) && isNumD (numD (numL r))) && true) from rfl, hlet, isNum_numD _ fun n h => (numL_le h).2, Bool.and_true]
    have bad : ((decide (c ∈ cols) && (numL r).isSome) && (decide (es.map (·.1) = []) || decide ((es.map (·.1)).getD ((es.map (·.1)).length - 1) 0 < c))) = false → StepOk cols none (.tuple [.tuple (es.map eqD ++ [.tuple [.str (txS [c]), numD (numL r)]]), .none]) := fun z => by
      show isQD cols _ = false
      rw [isq, z]
    cases hn : numL r with
    | none =>
      rw [hn] at bad
      split <;> exact bad (by rw [Option.isSome_none, Bool.and_false, Bool.false_and])
    | some n =>
      rw [hn] at bad isq
      obtain ⟨r1, n9⟩ := numL_le hn
      split
      · next hc =>
        rcases hc with hc | hc | hc
        · omega
        · exact bad (by rw [decide_eq_false hc, Bool.false_and, Bool.false_and])
        · refine bad ?_
          rw [decide_eq_false (show ¬ es.map (·.1) = [] from fun z => by rw [z] at hc; cases hc), decide_eq_false (Nat.not_lt.mpr (up_last hok.up hc)), Bool.or_false, Bool.and_false]
      · next hc =>
        have hcc : c ∈ cols := Classical.byContradiction fun z => hc (.inr (.inl z))
        have hce : c ∉ es.map (·.1) := fun z => hc (.inr (.inr z))
        show StepOk cols (addW es (if es.map (·.1) ≠ [] ∧ c < (es.map (·.1)).getD ((es.map (·.1)).length - 1) 0 then none else some (.inl (c, (n : Int))))) _
        split
        · next hl =>
          exact bad (by rw [decide_eq_false hl.1, decide_eq_false (Nat.not_lt.mpr (Nat.le_of_lt hl.2)), Bool.or_false, Bool.and_false])
        · next hl =>
          have hlast : es.map (·.1) = [] ∨ (es.map (·.1)).getD ((es.map (·.1)).length - 1) 0 < c := by
            by_cases he : es.map (·.1) = []
            · exact .inl he
            · refine .inr (Nat.lt_of_le_of_ne (Nat.not_lt.mp fun z => hl ⟨he, z⟩) fun z => hce ?_)
              rw [← z, List.getD_eq_getElem?_getD, List.getElem?_eq_getElem (by have := List.length_pos_iff.mpr he; omega)]
              exact List.getElem_mem _
          have up2 := up_snoc hok.up hlast
          refine ⟨?_, ?_, ?_, ?_, fun c lo hi z => nomatch z⟩
          · show _ = PyData.tuple [.tuple ((es ++ [(c, (n : Int))]).map eqD), .none]
            rw [List.map_append]
            rfl
          · rw [List.map_append]
            exact up2
          · intro p hp
            rcases List.mem_append.mp hp with hp | hp
            · exact hok.ok p hp
            · obtain rfl := List.mem_singleton.mp hp
              exact ⟨hcc, by show (0 : Int) ≤ n; omega, by show (n : Int) < 1000; omega⟩
          · have z := nodup_sub_len (l := es.map (·.1) ++ [c]) (m := cols) (up2.imp fun h => Nat.ne_of_lt h) (fun a ha => by
              rcases List.mem_append.mp ha with ha | ha
              · obtain ⟨p, hp, rfl⟩ := List.mem_map.mp ha
                exact (hok.ok p hp).1
              · obtain rfl := List.mem_singleton.mp ha
                exact hcc)
            rw [List.length_append, List.length_map] at z
            rw [List.length_append]
            exact z
  rw [if_neg h61, if_neg (show ¬ [s] = [61] from fun z => h61 (List.head_eq_of_cons_eq z))]
  have hd := part_dots (x := txS r)
  have hr : r = [] → numL (Txt.partition (txS r) (Str.ofString "..")).1.cps.toList = none := by
    rintro rfl
    decide +kernel
  have l1 : ∀ n, numL (Txt.partition (txS r) (Str.ofString "..")).1.cps.toList = some n → n ≤ 999 := fun n h => (numL_le h).2
  have l2 : ∀ n, numL (Txt.partition (txS r) (Str.ofString "..")).2.2.cps.toList = some n → n ≤ 999 := fun n h => (numL_le h).2
  show StepOk cols (addW es (if r.length + 2 < 3 ∨ c ∉ cols ∨ c ∈ es.map (·.1) then none else (match numL (Txt.partition (txS r) (Str.ofString "..")).1.cps.toList, numL (Txt.partition (txS r) (Str.ofString "..")).2.2.cps.toList with
    | some lo, some hi => if s ≠ 58 ∨ (Txt.partition (txS r) (Str.ofString "..")).2.1 = Str.ofString "" ∨ hi < lo then none else some (.inr (c, (lo : Int), (hi : Int)))
    | _, _ => none))) (if [s] = [58] then PyData.tuple [.tuple (es.map eqD), PyData.tuple [.str (txS [c]), numD (numL (Txt.partition (txS r) (Str.ofString "..")).1.cps.toList), numD (numL (Txt.partition (txS r) (Str.ofString "..")).2.2.cps.toList)]] else .none)
  generalize numL (Txt.partition (txS r) (Str.ofString "..")).1.cps.toList = o1 at hr l1 ⊢
  generalize numL (Txt.partition (txS r) (Str.ofString "..")).2.2.cps.toList = o2 at hd l2 ⊢
  generalize (Txt.partition (txS r) (Str.ofString "..")).2.1 = dt at hd ⊢
  by_cases h58 : s = 58
  · rw [if_pos (show [s] = [58] by rw [h58])]
    have isq : isQD cols (PyData.tuple [.tuple (es.map eqD), PyData.tuple [.str (txS [c]), numD o1, numD o2]]) = ((((decide (c ∈ cols) && o1.isSome) && o2.isSome) && leD (numD o1) (numD o2)) && !decide (c ∈ es.map (·.1))) := by
      show (isEqsD cols (.tuple (es.map eqD)) && ((((isLetD cols (.str (txS [c])) && isNumD (numD o1)) && isNumD (numD o2)) && leD (numD o1) (numD o2)) && !decide (c ∈ (es.map eqD).map letD))) = _
      rw [heqs, hlet, isNum_numD o1 l1, isNum_numD o2 l2, hlets, Bool.true_and]
    have bad : ((((decide (c ∈ cols) && o1.isSome) && o2.isSome) && leD (numD o1) (numD o2)) && !decide (c ∈ es.map (·.1))) = false → StepOk cols none (PyData.tuple [.tuple (es.map eqD), PyData.tuple [.str (txS [c]), numD o1, numD o2]]) := fun z => by
      show isQD cols _ = false
      rw [isq, z]
    split
    · next hc =>
      rcases hc with hc | hc | hc
      · have : r = [] := List.length_eq_zero_iff.mp (by omega)
        exact bad (by rw [hr this]; simp)
      · exact bad (by rw [decide_eq_false hc]; simp)
      · exact bad (by rw [decide_eq_true hc]; simp)
    · next hc =>
      have hcc : c ∈ cols := Classical.byContradiction fun z => hc (.inr (.inl z))
      have hce : c ∉ es.map (·.1) := fun z => hc (.inr (.inr z))
      cases o1 with
      | none => exact bad (by simp)
      | some lo =>
      cases o2 with
      | none => exact bad (by simp)
      | some hi =>
      show StepOk cols (addW es (if s ≠ 58 ∨ dt = Str.ofString "" ∨ hi < lo then none else some (.inr (c, (lo : Int), (hi : Int))))) _
      split
      · next hx =>
        rcases hx with hx | hx | hx
        · exact absurd h58 hx
        · exact nomatch hd hx
        · refine bad ?_
          rw [show leD (numD (some lo)) (numD (some hi)) = decide ((lo : Int) ≤ hi) from rfl, decide_eq_false (show ¬ (lo : Int) ≤ hi by omega)]
          simp
      · next hx =>
        have h9 := l2 hi rfl
        have hlh : lo ≤ hi := Nat.not_lt.mp fun z => hx (.inr (.inr z))
        refine ⟨rfl, hok.up, hok.ok, hok.len, fun c' lo' hi' z => ?_⟩
        obtain ⟨rfl, rfl, rfl⟩ : c = c' ∧ (lo : Int) = lo' ∧ (hi : Int) = hi' := by
          have z2 := Option.some.inj z
          simpa using z2
        exact ⟨hcc, hce, by omega, by omega, by omega⟩
  · rw [if_neg (show ¬ [s] = [58] from fun z => h58 (List.head_eq_of_cons_eq z))]
    have non : StepOk cols none .none := rfl
    split
    · exact non
    · cases o1 with
      | none => exact non
      | some lo =>
      cases o2 with
      | none => exact non
      | some hi =>
      show StepOk cols (addW es (if s ≠ 58 ∨ dt = Str.ofString "" ∨ hi < lo then none else some (.inr (c, (lo : Int), (hi : Int))))) _
      rw [if_pos (.inl h58)]
      exact non
/-! the text of a question, read again -/
theorem numL_nat {n : Int} (h0 : 0 ≤ n) (h1 : n < 1000) : numL (natS n).cps.toList = some n.toNat ∧ 46 ∉ (natS n).cps.toList ∧ 32 ∉ (natS n).cps.toList := by
  have : ∀ k : Nat, k < 1000 → numL (natS (k : Int)).cps.toList = some k ∧ 46 ∉ (natS (k : Int)).cps.toList ∧ 32 ∉ (natS (k : Int)).cps.toList := by decide +kernel
  have := this n.toNat (by omega)
  rwa [show ((n.toNat : Nat) : Int) = n by omega] at this
theorem word_eq (p : Nat × Int) : (wordE p).cps.toList = p.1 :: 61 :: (natS p.2).cps.toList := by
  unfold wordE
  rw [Str.cps_append, Str.cps_append, Array.toList_append, Array.toList_append]
  rfl
theorem word_rc (c : Nat) (lo hi : Int) : (wordR (c, lo, hi)).cps.toList = c :: 58 :: ((natS lo).cps.toList ++ [46, 46] ++ (natS hi).cps.toList) := by
  unfold wordR
  rw [Str.cps_append, Str.cps_append, Str.cps_append, Str.cps_append, Array.toList_append, Array.toList_append, Array.toList_append, Array.toList_append, List.append_assoc, List.append_assoc, List.append_assoc, List.append_assoc]
  rfl
theorem wordM_eq {cols ls : List Nat} {c : Nat} {n : Int} (hc : c ∈ cols) (hl : c ∉ ls) (hlast : ls = [] ∨ ls.getD (ls.length - 1) 0 < c) (h0 : 0 ≤ n) (h1 : n < 1000) : wordM cols ls (c :: 61 :: (natS n).cps.toList) = some (.inl (c, n)) := by
  have hn := (numL_nat h0 h1).1
  have hlen := (numL_le hn).1
  show (if (natS n).cps.toList.length + 2 < 3 ∨ c ∉ cols ∨ c ∈ ls then none else if (61 : Nat) = 61 then (match numL (natS n).cps.toList with
    | none => none
    | some k => if ls ≠ [] ∧ c < ls.getD (ls.length - 1) 0 then none else some (.inl (c, (k : Int)))) else _ : Option (Sum (Nat × Int) (Nat × Int × Int))) = _
  rw [if_neg (fun z => z.elim (fun z => by omega) fun z => z.elim (fun z => z hc) hl), if_pos rfl, hn]
  show (if ls ≠ [] ∧ c < ls.getD (ls.length - 1) 0 then none else some (.inl (c, ((n.toNat : Nat) : Int))) : Option (Sum (Nat × Int) (Nat × Int × Int))) = _
  rw [if_neg (fun z => hlast.elim z.1 fun y => Nat.lt_asymm y z.2), show ((n.toNat : Nat) : Int) = n by omega]
theorem wordM_rc {cols ls : List Nat} {c : Nat} {lo hi : Int} (hc : c ∈ cols) (hl : c ∉ ls) (h0 : 0 ≤ lo) (hlh : lo ≤ hi) (h1 : hi < 1000) : wordM cols ls (c :: 58 :: ((natS lo).cps.toList ++ [46, 46] ++ (natS hi).cps.toList)) = some (.inr (c, lo, hi)) := by
  obtain ⟨hn, hd, _⟩ := numL_nat h0 (show lo < 1000 by omega)
  obtain ⟨hm, _, _⟩ := numL_nat (show 0 ≤ hi by omega) h1
  have hlen := (numL_le hn).1
  have hp : Txt.partition (txS ((natS lo).cps.toList ++ [46, 46] ++ (natS hi).cps.toList)) (Str.ofString "..") = (natS lo, Str.ofString "..", natS hi) := by
    have z := TL.partition_app (y := Str.ofString "..") (s := 46) (S := [46]) (by decide +kernel) (a := natS lo) (b := natS hi) hd
    rw [← z]
    congr 1
    rw [str_eta (natS lo ++ _ ++ _), Str.cps_append, Str.cps_append, Array.toList_append, Array.toList_append]
    rfl
  unfold wordM
  rw [if_neg (show ¬ ((c :: 58 :: ((natS lo).cps.toList ++ [46, 46] ++ (natS hi).cps.toList)).length < 3 ∨ (c :: 58 :: ((natS lo).cps.toList ++ [46, 46] ++ (natS hi).cps.toList)).getD 0 0 ∉ cols ∨ (c :: 58 :: ((natS lo).cps.toList ++ [46, 46] ++ (natS hi).cps.toList)).getD 0 0 ∈ ls) from fun z => z.elim (fun z => by simp at z; omega) fun z => z.elim (fun z => z hc) hl),
    if_neg (show ¬ (c :: 58 :: ((natS lo).cps.toList ++ [46, 46] ++ (natS hi).cps.toList)).getD 1 0 = 61 from fun z => absurd (show (58 : Nat) = 61 from z) (by decide))]
  show (match numL (Txt.partition (txS ((natS lo).cps.toList ++ [46, 46] ++ (natS hi).cps.toList)) (Str.ofString "..")).1.cps.toList, numL (Txt.partition (txS ((natS lo).cps.toList ++ [46, 46] ++ (natS hi).cps.toList)) (Str.ofString "..")).2.2.cps.toList with
    | some lo', some hi' => if (58 : Nat) ≠ 58 ∨ (Txt.partition (txS ((natS lo).cps.toList ++ [46, 46] ++ (natS hi).cps.toList)) (Str.ofString "..")).2.1 = Str.ofString "" ∨ hi' < lo' then none else some (Sum.inr (c, (lo' : Int), (hi' : Int)))
    | _, _ => none : Option (Sum (Nat × Int) (Nat × Int × Int))) = _
  rw [hp]
  show (match numL (natS lo).cps.toList, numL (natS hi).cps.toList with
    | some lo', some hi' => if (58 : Nat) ≠ 58 ∨ Str.ofString ".." = Str.ofString "" ∨ hi' < lo' then none else some (Sum.inr (c, (lo' : Int), (hi' : Int)))
    | _, _ => none : Option (Sum (Nat × Int) (Nat × Int × Int))) = _
  rw [hn, hm]
  show (if (58 : Nat) ≠ 58 ∨ Str.ofString ".." = Str.ofString "" ∨ hi.toNat < lo.toNat then none else some (.inr (c, ((lo.toNat : Nat) : Int), ((hi.toNat : Nat) : Int))) : Option (Sum (Nat × Int) (Nat × Int × Int))) = _
  rw [if_neg (fun z => z.elim (fun z => z rfl) fun z => z.elim (fun z => absurd z (by decide +kernel)) fun z => by omega), show ((lo.toNat : Nat) : Int) = lo by omega, show ((hi.toNat : Nat) : Int) = hi by omega]
/-- the words of a question, read one by one -/
theorem readQ_eqs {cols : List Nat} {rest : List (List Nat)} : ∀ (es' es : List (Nat × Int)) (i : Nat), QOk cols (es ++ es') none → readQ cols ((es'.map fun p => (wordE p).cps.toList) ++ rest) i (es, none) = readQ cols rest (i + es'.length) (es ++ es', none)
  | [], es, i, _ => by rw [List.append_nil]; rfl
  | p :: es', es, i, hok => by
    have hok' : QOk cols ((es ++ [p]) ++ es') none := by
      rw [List.append_assoc]
      exact hok
    obtain ⟨hm, h0, h1⟩ := hok.ok p (List.mem_append_right _ List.mem_cons_self)
    have up := hok.up
    rw [List.map_append, List.pairwise_append] at up
    have lt : ∀ x ∈ es.map (·.1), x < p.1 := fun x hx => up.2.2 x hx p.1 List.mem_cons_self
    have hw : wordM cols (es.map (·.1)) (wordE p).cps.toList = some (.inl p) := by
      rw [word_eq]
      refine wordM_eq hm (fun z => Nat.lt_irrefl _ (lt _ z)) ?_ h0 h1
      by_cases he : es.map (·.1) = []
      · exact .inl he
      · refine .inr (lt _ ?_)
        rw [List.getD_eq_getElem?_getD, List.getElem?_eq_getElem (by have := List.length_pos_iff.mpr he; omega)]
        exact List.getElem_mem _
    show (match stepQ cols (es, none) (wordE p).cps.toList with
      | none => Sum.inl i
      | some q' => readQ cols ((es'.map fun p => (wordE p).cps.toList) ++ rest) (i + 1) q') = _
    have hs : stepQ cols (es, none) (wordE p).cps.toList = some (es ++ [p], none) := by
      show addW es (wordM cols (es.map (·.1)) (wordE p).cps.toList) = _
      rw [hw]
      rfl
    rw [hs]
    show readQ cols ((es'.map fun p => (wordE p).cps.toList) ++ rest) (i + 1) (es ++ [p], none) = _
    rw [readQ_eqs es' (es ++ [p]) (i + 1) hok', List.append_assoc, List.length_cons, show i + 1 + es'.length = i + (es'.length + 1) by omega]
    rfl
theorem read_back {cols : List Nat} {es : List (Nat × Int)} {rc : Option (Nat × Int × Int)} (hok : QOk cols es rc) (hz : ∀ c ∈ cols, c ≠ 32) : readT cols (joinW (wordsQ es rc)).cps.toList = .inr (es, rc) := by
  have hok0 : QOk cols es none := ⟨hok.up, hok.ok, hok.len, fun c lo hi z => nomatch z⟩
  have hrc : (rc.map wordR).toList.map (fun w => w.cps.toList) = (rc.toList.map fun t => (wordR t).cps.toList) := by cases rc <;> rfl
  have hreach : ∀ i, readQ cols (rc.toList.map fun t => (wordR t).cps.toList) i (es, none) = .inr (es, rc) := fun i => by
    cases rc with
    | none => rfl
    | some t =>
      obtain ⟨c, lo, hi⟩ := t
      obtain ⟨hm, hn, h0, hlh, h1⟩ := hok.rc c lo hi rfl
      show (match stepQ cols (es, none) (wordR (c, lo, hi)).cps.toList with
        | none => Sum.inl i
        | some q' => Sum.inr q') = _
      have hs : stepQ cols (es, none) (wordR (c, lo, hi)).cps.toList = some (es, some (c, lo, hi)) := by
        show addW es (wordM cols (es.map (·.1)) (wordR (c, lo, hi)).cps.toList) = _
        rw [word_rc, wordM_rc hm hn h0 hlh h1]
        rfl
      rw [hs]
  have hall : ∀ i, readQ cols ((wordsQ es rc).map fun w => w.cps.toList) i ([], none) = .inr (es, rc) := fun i => by
    unfold wordsQ
    rw [List.map_append, List.map_map, hrc]
    have z := readQ_eqs (cols := cols) (rest := rc.toList.map fun t => (wordR t).cps.toList) es [] i hok0
    rw [List.nil_append] at z
    exact z.trans (hreach _)
  by_cases he : wordsQ es rc = []
  · have h1 : es = [] := by
      cases es with
      | nil => rfl
      | cons p es => cases he
    subst h1
    have h2 : rc = none := by
      cases rc with
      | none => rfl
      | some t => cases he
    subst h2
    rw [he, show joinW [] = Str.ofString "-" from if_pos rfl]
    unfold readT
    rw [if_pos (by decide +kernel)]
  · have hj : (joinW (wordsQ es rc)).cps.toList = TL.joinL [32] ((wordsQ es rc).map fun w => w.cps.toList) := by
      rw [show joinW (wordsQ es rc) = Txt.join (Str.ofString " ") (wordsQ es rc) from if_neg he, TL.join_eq, show (Str.join (Str.ofString " ") (wordsQ es rc)).cps.toList = _ from TL.tl_join _ _]
      rfl
    have free : ∀ w ∈ wordsQ es rc, 32 ∉ w.cps.toList ∧ 3 ≤ w.cps.toList.length := fun w hw => by
      rcases List.mem_append.mp hw with z | z
      · obtain ⟨p, hp, rfl⟩ := List.mem_map.mp z
        obtain ⟨hm, h0, h1⟩ := hok.ok p hp
        obtain ⟨hn, _, h32⟩ := numL_nat h0 h1
        have := (numL_le hn).1
        rw [word_eq]
        refine ⟨fun y => ?_, by simp only [List.length_cons]; omega⟩
        rcases List.mem_cons.mp y with y | y
        · exact hz _ hm y.symm
        · rcases List.mem_cons.mp y with y | y
          · cases y
          · exact h32 y
      · cases rc with
        | none => cases z
        | some t =>
          obtain ⟨c, lo, hi⟩ := t
          obtain ⟨hm, _, h0, hlh, h1⟩ := hok.rc c lo hi rfl
          obtain ⟨hn, _, l32⟩ := numL_nat h0 (show lo < 1000 by omega)
          obtain ⟨_, _, h32⟩ := numL_nat (show 0 ≤ hi by omega) h1
          have ew : w = wordR (c, lo, hi) := List.mem_singleton.mp z
          rw [ew, word_rc]
          refine ⟨fun y => ?_, by simp only [List.length_cons, List.length_append]; omega⟩
          rcases List.mem_cons.mp y with y | y
          · exact hz _ hm y.symm
          · rcases List.mem_cons.mp y with y | y
            · cases y
            · rcases List.mem_append.mp y with y | y
              · rcases List.mem_append.mp y with y | y
                · exact l32 y
                · simp at y
              · exact h32 y
    have hsplit : wordsL (joinW (wordsQ es rc)).cps.toList = (wordsQ es rc).map fun w => w.cps.toList := by
      have s1 := TL.split_join (y := Str.ofString " ") (s := 32) (S := []) (by decide +kernel) (by decide +kernel) (parts := wordsQ es rc) he fun w hw => (free w hw).1
      have s2 := split_txS (joinW (wordsQ es rc)).cps.toList
      rw [← str_eta, show joinW (wordsQ es rc) = Txt.join (Str.ofString " ") (wordsQ es rc) from if_neg he, s1] at s2
      rw [show joinW (wordsQ es rc) = Txt.join (Str.ofString " ") (wordsQ es rc) from if_neg he]
      have s3 := congrArg (List.map fun w : Str => w.cps.toList) s2
      rw [List.map_map, show ((fun w : Str => w.cps.toList) ∘ txS) = (id : List Nat → List Nat) from funext fun l => by simp, List.map_id] at s3
      exact s3.symm
    unfold readT
    rw [if_neg ?_, hsplit]
    · exact hall 0
    · intro z
      rw [z, show wordsL [45] = [[45]] from rfl] at hsplit
      obtain ⟨w, hw⟩ : ∃ w, wordsQ es rc = [w] := by
        match h : wordsQ es rc with
        | [] => exact absurd h he
        | [w] => exact ⟨w, rfl⟩
        | w :: v :: r =>
          rw [h] at hsplit
          exact absurd (congrArg List.length hsplit) (by simp)
      have := (free w (by rw [hw]; exact List.mem_singleton_self _)).2
      rw [hw] at hsplit
      have h45 : [45] = w.cps.toList := (List.cons.inj hsplit).1
      rw [← h45] at this
      simp at this

/-! ### read_question -/
theorem wdA_le {m : Nat} : ∀ {ds : List PyData}, (∀ d ∈ ds, wd d ≤ m) → wdA ds ≤ m
  | [], _ => Nat.zero_le _
  | d :: ds, h => by
    have h1 := h d List.mem_cons_self
    have h2 := wdA_le fun e he => h e (List.mem_cons_of_mem _ he)
    show max (wd d) (wdA ds) ≤ m
    omega
theorem sh_num (o : Option Nat) (h : ∀ n, o = some n → n ≤ 999) : Sh 0 240 (numD o) ∧ wd (numD o) ≤ 0 := by
  cases o with
  | none => exact ⟨Sh.none, Nat.le_refl _⟩
  | some n =>
    have := h n rfl
    exact ⟨Sh.int (by show n < 10 ^ 60; omega) (by decide), Nat.le_refl _⟩
theorem sh_with {cols : List Nat} {es : List (Nat × Int)} {rc : Option (Nat × Int × Int)} (h : QOk cols es rc) (hc : ∀ c ∈ cols, c < 1000) (hl : cols.length ≤ 26) {l : List Nat} (hz : ∀ c ∈ l, c < 1000) : Sh 20 100000 (withD es rc l) ∧ wd (withD es rc l) ≤ 100000 := by
  have hel : es.length ≤ 26 := Nat.le_trans h.len hl
  have key : ∀ d ∈ es.map eqD, Sh 2 1000 d ∧ wd d ≤ 1000 := fun d hd => by
    obtain ⟨p, hp, rfl⟩ := List.mem_map.mp hd
    obtain ⟨a1, a2, a3⟩ := h.ok p hp
    exact sh_eq (cols := cols) (hc _ a1) a2 a3
  have hml : (es.map eqD).length = es.length := List.length_map ..
  have st : Sh 0 240 (.str (txS (l.take 1))) := Sh.str (fun c z => hz c (List.mem_of_mem_take z)) (by rw [List.length_take]; omega)
  have n9 : ∀ {k : List Nat} (n : Nat), numL k = some n → n ≤ 999 := fun n z => (numL_le z).2
  unfold withD
  split
  · exact ⟨Sh.none, Nat.zero_le _⟩
  split
  · obtain ⟨g1, g2⟩ := sh_num (numL (l.drop 2)) fun n z => n9 n z
    have x1 : Sh 1 (241 * 2) (.tuple [.str (txS (l.take 1)), numD (numL (l.drop 2))]) := Sh.tup (allC st (all1 g1))
    have all : ∀ d ∈ es.map eqD ++ [.tuple [.str (txS (l.take 1)), numD (numL (l.drop 2))]], Sh 2 1000 d ∧ wd d ≤ 1000 := fun d hd => by
      rcases List.mem_append.mp hd with hd | hd
      · exact key d hd
      · obtain rfl := List.mem_singleton.mp hd
        refine ⟨x1.mono (by decide) (by decide), ?_⟩
        show max 2 (max 0 (max (wd (numD (numL (l.drop 2)))) 0)) ≤ 1000
        omega
    generalize hds : es.map eqD ++ [PyData.tuple [.str (txS (l.take 1)), numD (numL (l.drop 2))]] = ds at all
    have hdl : ds.length = es.length + 1 := by rw [← hds, List.length_append, hml]; rfl
    have x2 : Sh 3 27027 (.tuple ds) := (Sh.tup fun d hd => (all d hd).1).mono (by decide) (by rw [hdl]; omega)
    refine ⟨(Sh.tup (n := 3) (m := 27027) (allC x2 (all1 Sh.none))).mono (by decide) (show (27027 + 1) * 2 ≤ 100000 by decide), ?_⟩
    have := wdA_le fun d hd => (all d hd).2
    show max 2 (max (max ds.length (wdA ds)) (max 0 0)) ≤ 100000
    omega
  split
  · obtain ⟨g1, g2⟩ := sh_num (numL (Txt.partition (txS (l.drop 2)) (Str.ofString "..")).1.cps.toList) fun n z => n9 n z
    obtain ⟨g3, g4⟩ := sh_num (numL (Txt.partition (txS (l.drop 2)) (Str.ofString "..")).2.2.cps.toList) fun n z => n9 n z
    generalize numD (numL (Txt.partition (txS (l.drop 2)) (Str.ofString "..")).1.cps.toList) = d1 at g1 g2
    generalize numD (numL (Txt.partition (txS (l.drop 2)) (Str.ofString "..")).2.2.cps.toList) = d2 at g3 g4
    have x1 : Sh 3 27027 (.tuple [.str (txS (l.take 1)), d1, d2]) := (Sh.tup (n := 0) (m := 240) (allC st (allC g1 (all1 g3)))).mono (by decide) (show (240 + 1) * 3 ≤ 27027 by decide)
    have x2 : Sh 3 27027 (.tuple (es.map eqD)) := (Sh.tup fun d hd => (key d hd).1).mono (by decide) (by rw [hml]; omega)
    refine ⟨(Sh.tup (n := 3) (m := 27027) (allC x2 (all1 x1))).mono (by decide) (show (27027 + 1) * 2 ≤ 100000 by decide), ?_⟩
    have := wdA_le fun d hd => (key d hd).2
    show max 2 (max (max (es.map eqD).length (wdA (es.map eqD))) (max (max 3 (max 0 (max (wd d1) (max (wd d2) 0)))) 0)) ≤ 100000
    omega
  · exact ⟨Sh.none, Nat.zero_le _⟩
/-- the heap behind a raise: the exception's dict is all that is new -/
theorem raise_heap {H : Hp} {a dx : Addr} {o1 o2 o3 o4 : HO} (ha : H a = none) (hd : dx ≠ a) : upd (del (upd (upd (upd H a o1) dx o2) a o3) a) dx o4 = upd H dx o4 := by
  funext b
  by_cases h1 : b = dx
  · rw [h1, upd_same, upd_same]
  · rw [upd_ne h1, upd_ne h1]
    by_cases h2 : b = a
    · rw [h2, del_same, ha]
    · rw [del_ne h2, upd_ne h2, upd_ne h1, upd_ne h2]
/-- what is told where the word i is wrong -/
def NoTx (C : Addr) (i : Nat) (E : XK) (H : Hp) : Prop := ∀ d, H d = some (.xd [("number", .int (i : Nat))]) → E (.ref C) (some d) H
def spReadQ (K : PySem.W.Frag) (Z : Ad) : Sp := fun vs H Q E => ∃ (cols l : List Nat), vs = [tx cols, tx l] ∧ TG Z.Ps H ∧ cols.length ≤ 26 ∧ (∀ c ∈ cols, c < 1000) ∧ l.length ≤ 50000 ∧ (∀ c ∈ l, c < 1000) ∧
  (∀ q, readT cols l = .inr q → ∀ (v : V) (H' : Hp), Sx Z.Ps H H' → TG Z.Ps H' → Fz H' v (qD q.1 q.2) → QOk cols q.1 q.2 → Q v H') ∧
  ∀ i, readT cols l = .inl i → ∀ H', Sx Z.Ps H H' → TG Z.Ps H' → NoTx (Z.xa "NoText") i E H'
set_option maxHeartbeats 4000000 in
theorem ok_readq (T : Tx K mg Z) (TB : Tb base mg Z) : FnOk P w K mg base (L2.CX P w) 12 Z.f_read_question Z.d_read_question ["columns", "text"] (spReadQ K Z) := by
  have G_with_word : FnOk P w K mg base CX0 6 Z.f_with_word Z.d_with_word ["question", "word"] (spWithWord K Z) := ok_withword T TB
  have G_is_question : FnOk P w K mg base CX0 8 Z.f_is_question Z.d_is_question ["columns", "thing"] (spIsQ K Z) := ok_isq T TB
  have G_NoText___init__ := ok_NoText (P := P) (w := w) (base := base) T
  refine T.F_read_question.okX sc_read_question (fun vs H Q E h => ?_) (fun cdv A outer s H vs Q E hr h => ?_)
  · obtain ⟨cols, l, rfl, _⟩ := h
    rfl
  · obtain ⟨cols, l, rfl, tg, hcl, hcz, hll, hlz, qr, qe⟩ := h
    refine ⟨_, (pss_cons (ps_set (i := 2) sc_read_question.nd rfl (.inl rfl) (pe_tup (pa_cons (pe_tup pa_nil) (pa_cons pe_non pa_nil))))
      (pss_cons (ps_if (pt_cmpR op_eq (pv 1) pe_str (nomark _)) (PSs.nox (pss_one (ps_ret (pv 2)))) pss_nil)
      (pss_cons (ps_for (passes_of rfl) rfl (pi_enum (by rfl) T.m_enumerate (pa_cons (bmK K PySem.F.plainAttrs_str PySem.F.slot_str_split PySem.F.type_str_split mt_split (pv 1) (pa_cons pe_str pa_nil)) pa_nil)) (pgT K (n := 2) (pgs_cons (pg_name (i := 3) sc_read_question.nd rfl (.inl rfl)) (pgs_cons (pg_name (i := 4) sc_read_question.nd rfl (.inl rfl)) pgs_nil))) (pss_cons (ps_set (i := 2) sc_read_question.nd rfl (.inl rfl) (pe_call G_with_word (hr.mono (by omega)) (by rfl) T.g_with_word T.F_with_word.kp T.b_with_word .nil pass0 (pa_cons (pv 2) (pa_cons (pv 4) pa_nil))))
      (pss_one (ps_if (pt_not (pt_val (pe_call G_is_question (hr.mono (by omega)) (by rfl) T.g_is_question T.F_is_question.kp T.b_is_question .nil pass0 (pa_cons (pv 0) (pa_cons (pv 2) pa_nil))))) (pss_one (ps_raise rfl (takes_of rfl rfl rfl rfl) (pmk_oex T.nt_NoText.nt.o T.sd_NoText.fn T.sd_NoText.ty G_NoText___init__ (hr.mono (by omega)) (binds_NoText T) .nil pass0 (by rfl) T.gx_NoText (pa_cons (pv 3) pa_nil)))) pss_nil))))
      (PSs.nox (pss_one (ps_ret (pv 2))))))), ?_⟩
    have line : (4665600 : Nat) < sizeLine := by rw [sizeLine_eq]; decide
    refine ⟨Nat.zero_le _, fun p1 np1 => ⟨(by show 2 ≤ sizeLine; omega), fun p2 np2 => ?_⟩⟩
    have sm1 := Same.new (o := .tup []) (Same.refl H) np1
    have hp1 : (upd H p1 (.tup [])) p1 = some (.tup []) := upd_same
    generalize upd H p1 (.tup []) = H1 at sm1 hp1 np2 ⊢
    have sm2 := Same.new (o := .tup [V.ref p1, .non]) sm1 np2
    have hp12 := keep_new (o := .tup [V.ref p1, .non]) hp1 np2
    have hp2 : (upd H1 p2 (.tup [V.ref p1, .non])) p2 = some (.tup [.ref p1, .non]) := upd_same
    generalize upd H1 p2 (.tup [V.ref p1, .non]) = H2 at sm2 hp12 hp2 ⊢
    have f0 : Fz H2 (.ref p2) (qD [] none) := .tup hp2 (.cons (.tup hp12 .nil) (.cons .non .nil))
    have ok0 : QOk cols [] none := ⟨List.Pairwise.nil, (fun _ h => nomatch h), Nat.zero_le _, fun _ _ _ z => nomatch z⟩
    have tg2 := tg.same sm2
    refine ⟨tx l, rfl, rfl, _, rfl, ite2 (fun e => ?_) (fun e => ?_)⟩
    · have hl : l = [45] := txS_inj (V.str.inj (of_decide_eq_true e))
      exact ⟨.ref p2, rfl, qr ([], none) (by unfold readT; rw [if_pos hl]) _ _ (Same.sx sm2) tg2 f0 ok0⟩
    have hl : l ≠ [45] := fun z => e (decide_eq_true (by rw [z]; rfl))
    have hread : readT cols l = readQ cols (wordsL l) 0 ([], none) := if_neg hl
    rw [hread] at qr qe
    have hsz : (⟨l.toArray⟩ : Str).length = l.length := by simp [Str.length]
    obtain ⟨hwn, hwa⟩ := wordsL_all l
    refine ⟨tx l, rfl, rfl, txS l, Str.ofString " ", rfl, rfl, by decide +kernel, by rw [hsz]; omega, fun p np => ?_⟩
    rw [split_txS]
    generalize wordsL l = W at hread hwn hwa qr qe
    have sm3 := Same.new (o := .lst ((W.map txS).map V.str)) sm2 np
    have hp : (upd H2 p (.lst ((W.map txS).map V.str))) p = some (.lst ((W.map txS).map V.str)) := upd_same
    have f3 := f0.kt (Kt.new (o := .lst ((W.map txS).map V.str)) np)
    have tg3 := tg.same sm3
    generalize upd H2 p (.lst ((W.map txS).map V.str)) = H3 at sm3 hp f3 tg3 ⊢
    have hWl : ((W.map txS).map V.str).length = W.length := by rw [List.length_map, List.length_map]
    refine ⟨p, _, rfl, .inl (.inl hp), for_it walk_enum (fun i σ H' => ∃ (qv : V) (y3 y4 : Option V) (es : List (Nat × Int)) (rc : Option (Nat × Int × Int)), σ = [some (tx cols), some (tx l), some qv, y3, y4] ∧ Sx Z.Ps H H' ∧ TG Z.Ps H' ∧ H' p = some (.lst ((W.map txS).map V.str)) ∧ Fz H' qv (qD es rc) ∧ QOk cols es rc ∧ readQ cols W 0 ([], none) = readQ cols (W.drop i) i (es, rc))
      ⟨.ref p2, none, none, [], none, rfl, Same.sx sm3, tg3, hp, f3, ok0, rfl⟩ (fun _ _ _ _ hP => .inl (.inl hP.choose_spec.choose_spec.choose_spec.choose_spec.choose_spec.2.2.2.1)) (fun i x σ H4 H5 hi hP hY => ?_) (fun σ H4 hP => ?_)⟩
    · obtain ⟨qv, y3, y4, es, rc, rfl, sx4, tg4, hp4, fq, hok, hrd⟩ := hP
      obtain ⟨T0, x1, x2, rfl, nT, rfl, ex1, ex2⟩ := hY
      have hi2 : i < W.length := by rw [← hWl]; exact hi
      have e1 : x1 = .int (i : Nat) := (Option.some.inj ex1).symm
      have e2 : x2 = tx W[i] := by
        have : (some (tx W[i]) : Option V) = some x2 := by
          rw [← ex2]
          show _ = ((W.map txS).map V.str)[i]?
          rw [List.getElem?_map, List.getElem?_map, List.getElem?_eq_getElem hi2]
          rfl
        exact (Option.some.inj this).symm
      subst e1 e2
      obtain ⟨w1, w2⟩ := hwa W[i] (List.getElem_mem hi2)
      have hdrop : W.drop i = W[i] :: W.drop (i + 1) := (List.drop_eq_getElem_cons hi2)
      rw [hdrop] at hrd
      generalize W[i] = wd1 at w1 w2 hrd hdrop ⊢
      have sm5 := Same.new (o := .tup [V.int (i : Nat), tx wd1]) (Same.refl H4) nT
      have sx5 := sx4.trans (Same.sx sm5)
      have tg5 := tg4.same sm5
      have hp5 := keep_new (o := .tup [V.int (i : Nat), tx wd1]) hp4 nT
      have fq5 := fq.kt (Kt.new (o := .tup [V.int (i : Nat), tx wd1]) nT)
      refine ⟨T0, [.int (i : Nat), tx wd1], rfl, .inl (.inl upd_same), rfl, .int (i : Nat), [tx wd1], rfl, tx wd1, [], rfl, rfl, ?_⟩
      generalize upd H4 T0 (.tup [V.int (i : Nat), tx wd1]) = H5 at sx5 tg5 hp5 fq5 ⊢
      refine ⟨qv, rfl, tx wd1, rfl, qv, es, rc, cols, wd1, rfl, tg5, fq5, hok, Nat.le_trans hok.len hcl, by omega, fun v H6 sx6 tg6 fv => ?_⟩
      obtain ⟨sh1, sh2⟩ := sh_with hok hcz hcl (l := wd1) fun c hc => hlz c (w2 c hc).1
      have hstep := word_step hok wd1
      refine ⟨tx cols, rfl, v, rfl, cols, v, withD es rc wd1, rfl, tg6, Fz.fl (fun b hb xs z => by
        obtain ⟨ps, hps, _⟩ := tg6 b hb
        rw [z] at hps
        cases hps) fv, sh1, sh2, fun H7 sx7 tg7 => ?_⟩
      have hp7 := sx7.lst tg6 (sx6.lst tg5 hp5)
      have sx17 := sx5.trans (sx6.trans sx7)
      have fv7 := fv.kt (sx7.kt tg6)
      have hr1 : readQ cols (wd1 :: W.drop (i + 1)) i (es, rc) = (match stepQ cols (es, rc) wd1 with
        | none => .inl i
        | some q' => readQ cols (W.drop (i + 1)) (i + 1) q') := rfl
      rw [hr1] at hrd
      cases hs : stepQ cols (es, rc) wd1 with
      | none =>
        rw [hs] at hstep hrd
        rw [show isQD cols (withD es rc wd1) = false from hstep]
        refine ⟨_, rfl, iteT ?_⟩
        refine ⟨.int (i : Nat), rfl, Nat.le_of_ble_eq_true rfl, fun a na => ⟨a, .int (i : Nat), rfl, upd_same, fun dx ndx nda => ?_⟩⟩
        have n7 : H7 dx = none := by
          rw [upd_ne nda] at ndx
          exact ndx
        refine ⟨rfl, dx, [("number", .int (i : Nat))], upd_same, by rw [upd_ne nda, upd_same], n7, ?_⟩
        rw [raise_heap na nda]
        have sm8 := Same.new (o := .xd [("number", V.int (i : Nat))]) (Same.refl H7) n7
        exact qe i hrd _ (sx17.trans (Same.sx sm8)) (tg7.same sm8) dx upd_same
      | some q' =>
        rw [hs] at hstep hrd
        obtain ⟨hd, hok'⟩ := hstep
        rw [hd] at fv7
        rw [hd, isQ_drawn hok']
        refine ⟨_, rfl, iteF ?_⟩
        exact ⟨v, _, _, q'.1, q'.2, rfl, sx17, tg7, hp7, fv7, hok', hrd⟩
    · obtain ⟨qv, y3, y4, es, rc, rfl, sx4, tg4, hp4, fq, hok, hrd⟩ := hP
      rw [hWl, List.drop_length] at hrd
      exact ⟨qv, rfl, qr (es, rc) hrd qv H4 sx4 tg4 fq hok⟩

/-! ### _law_read -/
def readD : Sum Nat QnR → PyData
  | .inl i => .int (i : Nat)
  | .inr q => qD q.1 q.2
def spLread (K : PySem.W.Frag) : Sp := fun vs H Q _ => ∃ (cols l : List Nat), vs = [tx cols, tx l] ∧ cols.length ≤ 26 ∧ (∀ c ∈ cols, c < 1000) ∧ l.length ≤ 50000 ∧ (∀ c ∈ l, c < 1000) ∧
  ∀ (v : V) (H' : Hp), Same H H' → Ft H' v (readD (readT cols l)) → (∀ q, readT cols l = .inr q → QOk cols q.1 q.2) → Q v H'
set_option maxHeartbeats 4000000 in
theorem ok_lread (T : Tx K mg Z) : FnOk P w K mg base CX0 3 Z.f_l_read Z.d_l_read ["columns", "text"] (spLread K) := by
  have G_l_word : FnOk P w K mg base CX0 2 Z.f_l_word Z.d_l_word ["columns", "word", "letters"] (spLword K) := ok_lword T
  refine T.F_l_read.ok sc_l_read (fun vs H Q E h => ?_) (fun cdv A outer s H vs Q E hr h => ?_)
  · obtain ⟨cols, l, rfl, _⟩ := h
    rfl
  · obtain ⟨cols, l, rfl, hcl, hcz, hll, hlz, q⟩ := h
    refine ⟨_, (pss_cons (ps_if (pt_cmpR op_eq (pv 1) pe_str (nomark _)) (pss_one (ps_ret (pe_tup (pa_cons (pe_tup pa_nil) (pa_cons pe_non pa_nil))))) pss_nil)
      (pss_cons (ps_set (i := 2) sc_l_read.nd rfl (.inl rfl) (pe_lst pa_nil))
      (pss_cons (ps_set (i := 3) sc_l_read.nd rfl (.inl rfl) pe_non)
      (pss_cons (ps_for PassesOwn.never rfl (pi_enum (by rfl) T.m_enumerate (pa_cons (bmK K PySem.F.plainAttrs_str PySem.F.slot_str_split PySem.F.type_str_split mt_split (pv 1) (pa_cons pe_str pa_nil)) pa_nil)) (pgT K (n := 2) (pgs_cons (pg_name (i := 4) sc_l_read.nd rfl (.inl rfl)) (pgs_cons (pg_name (i := 5) sc_l_read.nd rfl (.inl rfl)) pgs_nil))) (pss_cons (ps_set (i := 6) sc_l_read.nd rfl (.inl rfl) (pe_call G_l_word (hr.mono (by omega)) (by rfl) T.g_l_word T.F_l_word.kp T.b_l_word .nil pass0 (pa_cons (pv 0) (pa_cons (pv 5) (pa_cons (pe_lc (own := [("letter", 7), ("number", 8)]) (tt := tYes) (by rfl) sc_l_read.nd (piL K (pv 2)) (blkOk_by (own := [("letter", 7), ("number", 8)]) (by kernel_rfl)) (fun _ _ _ _ _ => (pgT K (n := 2) (pgs_cons (pg_name (i := 7) sc_l_read.nd rfl (.inl rfl)) (pgs_cons (pg_name (i := 8) sc_l_read.nd rfl (.inl rfl)) pgs_nil)))) (fun _ _ _ _ _ => pts_nil) (fun _ _ _ _ _ => (pv 7))) pa_nil)))))
      (pss_mid (ps_if (PW.pt (pw_or (pt_cmpR op_isN (pv 6) pe_non (nomark _)) (pw_or1 (pt_cmpR op_notN (pv 3) pe_non (nomark _))))) (pss_one (ps_ret (pv 4))) pss_nil)
      (pss_one (ps_if (pt_cmpR op_eq (pe_callB (cLenSq K) (by rfl) T.m_len (by decide +kernel) (pa_cons (pv 6) pa_nil)) pe_int (nomark _)) (pss_one (ps_expr (bmK K PySem.F.plainAttrs_list PySem.F.slot_list_append PySem.F.type_list_append mt_append (pv 2) (pa_cons (pv 6) pa_nil)))) (pss_one (ps_set (i := 3) sc_l_read.nd rfl (.inl rfl) (pv 6))))))))
      (pss_one (ps_ret (pe_tup (pa_cons (pe_callTy (cTupSq K) (by rfl) T.m_tuple (by decide +kernel) (pa_cons (pv 2) pa_nil)) (pa_cons (pv 3) pa_nil))))))))), ?_⟩
    have line : (4665600 : Nat) < sizeLine := by rw [sizeLine_eq]; decide
    have ok0 : QOk cols [] none := ⟨List.Pairwise.nil, (fun _ h => nomatch h), Nat.zero_le _, fun _ _ _ z => nomatch z⟩
    refine ⟨tx l, rfl, rfl, _, rfl, ite2 (fun e => ?_) (fun e => ?_)⟩
    · have hl : l = [45] := txS_inj (V.str.inj (of_decide_eq_true e))
      refine ⟨Nat.zero_le _, fun p1 np1 => ⟨(by show 2 ≤ sizeLine; omega), fun p2 np2 => ?_⟩⟩
      have sm1 := Same.new (o := .tup []) (Same.refl H) np1
      have hp1 : (upd H p1 (.tup [])) p1 = some (.tup []) := upd_same
      generalize upd H p1 (.tup []) = H1 at sm1 hp1 np2 ⊢
      have sm2 := Same.new (o := .tup [V.ref p1, .non]) sm1 np2
      have hp12 := keep_new (o := .tup [V.ref p1, .non]) hp1 np2
      have hrd : readT cols l = .inr ([], none) := by unfold readT; rw [if_pos hl]
      rw [hrd] at q
      exact q (.ref p2) _ sm2 (.tup upd_same (.cons (.tup hp12 .nil) (.cons .non .nil))) fun q' hq' => by
        obtain rfl := Sum.inr.inj hq'
        exact ok0
    have hl : l ≠ [45] := fun z => e (decide_eq_true (by rw [z]; rfl))
    have hread : readT cols l = readQ cols (wordsL l) 0 ([], none) := if_neg hl
    rw [hread] at q
    have hsz : (⟨l.toArray⟩ : Str).length = l.length := by simp [Str.length]
    obtain ⟨hwn, hwa⟩ := wordsL_all l
    refine ⟨Nat.zero_le _, fun E nE => ?_⟩
    have smE := Same.new (o := .lst []) (Same.refl H) nE
    have hE : (upd H E (.lst [])) E = some (.lst []) := upd_same
    generalize upd H E (.lst []) = H2 at smE hE ⊢
    refine ⟨tx l, rfl, rfl, txS l, Str.ofString " ", rfl, rfl, by decide +kernel, by rw [hsz]; omega, fun p np => ?_⟩
    rw [split_txS]
    generalize wordsL l = W at hread hwn hwa q
    have nEp : E ≠ p := ne_of_none hE np
    have sm3 := Same.new (o := .lst ((W.map txS).map V.str)) smE np
    have hp : (upd H2 p (.lst ((W.map txS).map V.str))) p = some (.lst ((W.map txS).map V.str)) := upd_same
    have hE3 := keep_new (o := .lst ((W.map txS).map V.str)) hE np
    generalize upd H2 p (.lst ((W.map txS).map V.str)) = H3 at sm3 hp hE3 ⊢
    have hWl : ((W.map txS).map V.str).length = W.length := by rw [List.length_map, List.length_map]
    refine ⟨p, (W.map txS).map V.str, rfl, .inl (.inl hp), for_it (walk_enum (xs := (W.map txS).map V.str)) (fun i σ H' => ∃ (rv : V) (y4 y5 y6 y7 y8 : Option V) (ps : List V) (es : List (Nat × Int)) (rc : Option (Nat × Int × Int)), σ = [some (tx cols), some (tx l), some (.ref E), some rv, y4, y5, y6, y7, y8] ∧ Same H H' ∧ H' p = some (.lst ((W.map txS).map V.str)) ∧ H' E = some (.lst ps) ∧ FzA H' ps (es.map eqD) ∧ Fz H' rv (rchD rc) ∧ QOk cols es rc ∧ readQ cols W 0 ([], none) = readQ cols (W.drop i) i (es, rc))
      ⟨.non, none, none, none, none, none, [], [], none, rfl, sm3, hp, hE3, .nil, .non, ok0, rfl⟩ (fun i σ H' _ hP => ?_) (fun i x σ H4 H5 hi hP hY => ?_) (fun σ H4 hP => ?_)⟩
    · obtain ⟨rv, y4, y5, y6, y7, y8, ps, es, rc, _, _, hp4, _⟩ := hP
      exact .inl (.inl hp4)
    · obtain ⟨rv, y4, y5, y6, y7, y8, ps, es, rc, rfl, sm4, hp4, hE4, fps, frv, hok, hrd⟩ := hP
      obtain ⟨T0, x1, x2, rfl, nT, rfl, ex1, ex2⟩ := hY
      have hi2 : i < W.length := by rw [← hWl]; exact hi
      have e1 : x1 = .int (i : Nat) := (Option.some.inj ex1).symm
      have e2 : x2 = tx W[i] := by
        have : (some (tx W[i]) : Option V) = some x2 := by
          rw [← ex2]
          show _ = ((W.map txS).map V.str)[i]?
          rw [List.getElem?_map, List.getElem?_map, List.getElem?_eq_getElem hi2]
          rfl
        exact (Option.some.inj this).symm
      subst e1 e2
      obtain ⟨w1, w2⟩ := hwa W[i] (List.getElem_mem hi2)
      have hdrop : W.drop i = W[i] :: W.drop (i + 1) := (List.drop_eq_getElem_cons hi2)
      rw [hdrop] at hrd
      generalize W[i] = wd1 at w1 w2 hrd hdrop ⊢
      have hpl : ps.length = es.length := by rw [fps.len, List.length_map]
      have hel : es.length ≤ 26 := Nat.le_trans hok.len hcl
      have sm5 := Same.new (o := .tup [V.int (i : Nat), tx wd1]) sm4 nT
      have hp5 := keep_new (o := .tup [V.int (i : Nat), tx wd1]) hp4 nT
      have hE5 := keep_new (o := .tup [V.int (i : Nat), tx wd1]) hE4 nT
      have ktT := Kt.new (o := .tup [V.int (i : Nat), tx wd1]) nT
      have fps5 := fps.kt ktT
      have frv5 := frv.kt ktT
      refine ⟨T0, [.int (i : Nat), tx wd1], rfl, .inl (.inl upd_same), rfl, .int (i : Nat), [tx wd1], rfl, tx wd1, [], rfl, rfl, ?_⟩
      generalize upd H4 T0 (.tup [V.int (i : Nat), tx wd1]) = H5 at sm5 hp5 hE5 fps5 frv5 ⊢
      refine ⟨tx cols, rfl, tx wd1, rfl, .ref E, rfl, E, rfl, ⟨ps, .inl (.inl hE5)⟩, fun D nD => lc_it (walk_list (xs := ps)) (fun j H' => Same H5 H' ∧ H' D = some (.lst (((es.take j).map fun p => p.1).map sg)))
        ⟨Same.new (Same.refl H5) nD, upd_same⟩ (fun j H' _ hP => .inl (.inl (hP.1 _ _ hE5))) (fun j x H6 H7 hj hP hY => ?_) (fun H6 hP => ?_)⟩
      · obtain ⟨sm6, hD⟩ := hP
        obtain ⟨rfl, hx⟩ := hY
        obtain ⟨dd, hdd, fd⟩ := fps5.getV hx
        rw [List.getElem?_map] at hdd
        obtain ⟨pr, hpr, rfl⟩ := Option.map_eq_some_iff.mp hdd
        have hj2 : j < es.length := (List.getElem?_eq_some_iff.mp hpr).1
        have epr : es[j] = pr := (List.getElem?_eq_some_iff.mp hpr).2
        obtain ⟨pa, ys, rfl, hpa, fy2⟩ := fd.open
        obtain ⟨c, v, rfl, fc, fv⟩ := fy2.two
        rw [fc.isStr, fv.isInt] at hpa
        refine ⟨pa, [sg pr.1, .int pr.2], rfl, .inl (.inl (sm6 _ _ hpa)), rfl, sg pr.1, [.int pr.2], rfl, .int pr.2, [], rfl, rfl, rfl, sg pr.1, rfl, _, hD, ?_, Same.mut sm6 nD, ?_⟩
        · rw [List.length_map, List.length_map, List.length_take]
          exact small1000 (by omega)
        · rw [upd_same, List.take_succ_eq_append_getElem hj2, epr, List.map_append, List.map_append]
          rfl
      obtain ⟨sm6, hD⟩ := hP
      rw [hpl, List.take_of_length_le (Nat.le_refl _)] at hD
      have hzl : ∀ c ∈ es.map (fun p => p.1), c < 0x110000 := fun c hc => by
        obtain ⟨p0, hp0, rfl⟩ := List.mem_map.mp hc
        have := hcz _ (hok.ok p0 hp0).1
        omega
      refine ⟨cols, wd1, es.map (fun p => p.1), D, rfl, hD, by rw [List.length_map]; omega, hcl, by omega, fun c hc => by have := hlz c (w2 c hc).1; omega, hzl, fun v H7 sm7 fv => ?_⟩
      have sm57 := Same.trans sm6 sm7
      have sm07 := Same.trans sm5 sm57
      have hp7 := sm57 _ _ hp5
      have hE7 := sm57 _ _ hE5
      have fps7 := fps5.kt (Same.kt sm57)
      have frv7 := frv5.kt (Same.kt sm57)
      have hr1 : readQ cols (wd1 :: W.drop (i + 1)) i (es, rc) = (match stepQ cols (es, rc) wd1 with
        | none => .inl i
        | some q' => readQ cols (W.drop (i + 1)) (i + 1) q') := rfl
      rw [hr1] at hrd
      have fin : stepQ cols (es, rc) wd1 = none → Q (.int (i : Nat)) H7 := fun hs => by
        rw [hs] at hrd
        exact q (.int (i : Nat)) H7 sm07 (by rw [hrd]; exact .int _) fun q' z => by rw [hrd] at z; cases z
      have fv : Fz H7 v (wordD (wordM cols (es.map (·.1)) wd1)) := fv
      have hstep := word_step hok wd1
      refine ⟨fun σ G => ∃ (z7 z8 : Option V) (x : Sum (Nat × Int) (Nat × Int × Int)), σ = [some (tx cols), some (tx l), some (.ref E), some .non, some (.int (i : Nat)), some (tx wd1), some v, z7, z8] ∧ G = H7 ∧ rc = none ∧ wordM cols (es.map (·.1)) wd1 = some x, ?_, fun σ G hM => ?_⟩
      · cases hw : wordM cols (es.map (·.1)) wd1 with
        | none =>
          rw [hw] at fv
          obtain rfl : v = .non := fv.isNon
          refine ⟨.non, rfl, rfl, _, rfl, ite2 (fun _ => ?_) (fun e => absurd rfl e)⟩
          refine ⟨_, rfl, fin ?_⟩
          unfold stepQ
          split
          · rfl
          · show addW es (wordM cols (es.map (·.1)) wd1) = none
            rw [hw]
            rfl
        | some x =>
          rw [hw] at fv
          obtain ⟨va, vs, rfl⟩ : ∃ (va : Addr) (vs : List V), v = .ref va := by
            cases x with
            | inl p0 => obtain ⟨a, b, h, _⟩ := Fz.open (ds := [.str ⟨#[p0.1]⟩, .int p0.2]) fv; exact ⟨a, b, h⟩
            | inr t0 => obtain ⟨a, b, h, _⟩ := Fz.open (ds := [.str ⟨#[t0.1]⟩, .int t0.2.1, .int t0.2.2]) fv; exact ⟨a, b, h⟩
          refine ⟨_, rfl, rfl, _, rfl, ite2 (fun e => absurd (of_decide_eq_true e) (fun z => nomatch z)) (fun _ => ?_)⟩
          cases rc with
          | some t0 =>
            obtain ⟨ra, zs, rfl, _⟩ := Fz.open (ds := [.str ⟨#[t0.1]⟩, .int t0.2.1, .int t0.2.2]) frv7
            refine ⟨_, rfl, rfl, _, rfl, ite2 (fun _ => ⟨_, rfl, fin rfl⟩) (fun e => absurd rfl e)⟩
          | none =>
            obtain rfl : rv = .non := frv7.isNon
            exact ⟨_, rfl, rfl, _, rfl, iteF ⟨_, _, x, rfl, rfl, rfl, rfl⟩⟩
      obtain ⟨z7, z8, x, rfl, rfl, rfl, hw⟩ := hM
      rw [hw] at fv
      have hst : stepQ cols (es, none) wd1 = addW es (some x) := by
        show addW es (wordM cols (es.map (·.1)) wd1) = _
        rw [hw]
      rw [hst] at hstep hrd
      cases x with
      | inl p0 =>
        obtain ⟨_, hok'⟩ := hstep
        obtain ⟨va, vs, rfl, hva, fvs⟩ := Fz.open (ds := [.str ⟨#[p0.1]⟩, .int p0.2]) fv
        have hvl : vs.length = 2 := fvs.len
        refine ⟨.ref va, rfl, va, vs, rfl, .inr (.inl (.inl hva)), rfl, _, rfl, ite2 (fun _ => ?_) (fun e => absurd (decide_eq_true (by rw [hvl]; rfl)) e)⟩
        refine ⟨.ref E, rfl, .inl ⟨rfl, _, .inl (.inl hE7)⟩, .ref va, rfl, E, ps, _, rfl, rfl, hE7, small1000 (by omega), ?_⟩
        have nEp' : E ≠ p := nEp
        have nEva : va ≠ E := fun z => by rw [z, hE7] at hva; cases hva
        refine ⟨.non, _, _, _, _, _, ps ++ [.ref va], es ++ [p0], none, rfl, ?_, ?_, upd_same, ?_, .non, hok', hrd⟩
        · exact Same.mut sm07 nE
        · exact keep_ne hp7 nEp.symm
        · have kt := Kt.lst (o := .lst (ps ++ [V.ref va])) hE7
          rw [List.map_append]
          exact fzA_app (fps7.kt kt) (.cons (fv.kt kt) .nil)
      | inr t0 =>
        obtain ⟨_, hok'⟩ := hstep
        obtain ⟨va, vs, rfl, hva, fvs⟩ := Fz.open (ds := [.str ⟨#[t0.1]⟩, .int t0.2.1, .int t0.2.2]) fv
        have hvl : vs.length = 3 := fvs.len
        refine ⟨.ref va, rfl, va, vs, rfl, .inr (.inl (.inl hva)), rfl, _, rfl, ite2 (fun e => ?_) (fun _ => ?_)⟩
        · rw [hvl] at e
          exact absurd (of_decide_eq_true e) (fun z => by cases z)
        · exact ⟨_, rfl, _, _, _, _, _, _, ps, es, some t0, rfl, sm07, hp7, hE7, fps7, fv, hok', hrd⟩
    · obtain ⟨rv, y4, y5, y6, y7, y8, ps, es, rc, rfl, sm4, hp4, hE4, fps, frv, hok, hrd⟩ := hP
      rw [hWl, List.drop_length] at hrd
      refine ⟨.ref E, rfl, E, ps, rfl, .inl ⟨.inl (.inl hE4), fun te nte => ⟨rv, rfl, (by show 2 ≤ sizeLine; omega), fun tq ntq => ?_⟩⟩⟩
      have sm5 := Same.new (o := .tup ps) sm4 nte
      have kt1 := Kt.new (o := .tup ps) nte
      have fe := Fz.made nte fps
      have fr := frv.kt kt1
      generalize upd H4 te (.tup ps) = H5 at sm5 fe fr ntq ⊢
      refine q (.ref tq) _ (Same.new sm5 ntq) ?_ fun q' hq' => ?_
      · rw [hrd]
        exact (Fz.made ntq (.cons fe (.cons fr .nil))).toFt
      · rw [hrd] at hq'
        obtain rfl := Sum.inr.inj hq'
        exact hok

/-! ### _law_told -/
def spTold50 (K : PySem.W.Frag) (Z : Ad) : Sp := fun vs H Q _ => ∃ (cols l : List Nat), vs = [tx cols, tx l] ∧ TG Z.Ps H ∧ cols.length ≤ 26 ∧ (∀ c ∈ cols, c < 1000) ∧ l.length ≤ 50000 ∧ (∀ c ∈ l, c < 1000) ∧
  ∀ (v : V) (H' : Hp), Sx Z.Ps H H' → TG Z.Ps H' → Ft H' v (readD (readT cols l)) → Q v H'
set_option maxHeartbeats 4000000 in
theorem ok_told50 (T : Tx K mg Z) (TB : Tb base mg Z) : FnOk P w K mg base CX0 13 Z.f_l_told Z.d_l_told ["columns", "text"] (spTold50 K Z) := by
  have G_read_question : FnOk P w K mg base (L2.CX P w) 12 Z.f_read_question Z.d_read_question ["columns", "text"] (spReadQ K Z) := ok_readq T TB
  refine T.F_l_told.ok sc_l_told (fun vs H Q E h => ?_) (fun cdv A outer s H vs Q E hr h => ?_)
  · obtain ⟨cols, l, rfl, _⟩ := h
    rfl
  · obtain ⟨cols, l, rfl, tg, hcl, hcz, hll, hlz, q⟩ := h
    refine ⟨_, (pss_cons (ps_set (i := 2) sc_l_told.nd rfl (.inl rfl) pe_non)
      (pss_cons (ps_set (i := 3) sc_l_told.nd rfl (.inl rfl) pe_non)
      (pss_cons (ps_try_noteD (i := 4) (j := 2) (c := .ref (Z.xa "ListError")) rfl rfl rfl sc_l_told.nd rfl rfl rfl rfl rfl ⟨rfl, by decide, .inl T.gx_ListError⟩ (by decide) (by decide) rfl fun W pn xe tk _ => (pss_one (ps_set (i := 3) sc_l_told.nd rfl (.inl rfl) (pe_callS G_read_question (hr.mono (by omega)) (by rfl) T.g_read_question T.F_read_question.kp T.b_read_question (fun σ => passAt tk σ) (pa_cons (pv 0) (pa_cons (pv 1) pa_nil))))))
      (pss_cons (ps_if (pt_cmpR op_isN (pv 2) pe_non (nomark _)) (pss_one (ps_ret (pv 3))) pss_nil)
      (pss_mid (ps_if (PW.pt (pw_or (pt_val (pe_callB (isD K) (by rfl) T.m_isinstance (by decide +kernel) (pa_cons (pv 2) (pa_cons (pe_tup (pa_cons (pe_glob (v := .ref (Z.xa "NoNumber")) (by rfl) T.gx_NoNumber rfl) (pa_cons (pe_glob (v := .ref (Z.xa "NoQuestion")) (by rfl) T.gx_NoQuestion rfl) (pa_cons (pe_glob (v := .ref (Z.xa "NoRow")) (by rfl) T.gx_NoRow rfl) (pa_cons (pe_glob (v := .ref (Z.xa "TooMany")) (by rfl) T.gx_TooMany rfl) pa_nil))))) pa_nil)))) (pw_or1 (pt_not (pt_val (pe_callB (isD K) (by rfl) T.m_isinstance (by decide +kernel) (pa_cons (pv 2) (pa_cons (pe_glob (v := .ref (Z.xa "NoText")) (by rfl) T.gx_NoText rfl) pa_nil)))))))) (pss_one (ps_ret pe_str)) pss_nil)
      (pss_one (ps_ret (pe_ifExp (pt_val (pe_callB (isD K) (by rfl) T.m_isinstance (by decide +kernel) (pa_cons (pv 2) (pa_cons (pe_bltn (v := .ty "ValueError") (by rfl) T.m_ValueError (by decide +kernel) rfl) pa_nil)))) (pe_xfN (pv 2)) pe_str)))))))), ?_⟩
    have line : (4665600 : Nat) < sizeLine := by rw [sizeLine_eq]; decide
    refine ⟨tx cols, rfl, tx l, rfl, cols, l, rfl, tg, hcl, hcz, hll, hlz, fun qq hq v H1 sx1 tg1 f hok => ?_, fun i hi H1 sx1 tg1 d hd => ?_⟩
    · exact ⟨.non, rfl, rfl, _, rfl, ite2 (fun _ => ⟨v, rfl, q v H1 sx1 tg1 (by rw [hq]; exact f.toFt)⟩) (fun e => absurd rfl e)⟩
    refine ⟨T.nt_NoText.le, fun a na => ?_⟩
    have ada : d ≠ a := ne_of_none hd na
    have sm2 := Same.new (o := ExD (.ref (Z.xa "NoText")) (some d) a) (Same.refl H1) na
    have ha : (upd H1 a (ExD (.ref (Z.xa "NoText")) (some d) a)) a = some (ExD (.ref (Z.xa "NoText")) (some d) a) := upd_same
    have hd2 := keep_new (o := ExD (.ref (Z.xa "NoText")) (some d) a) hd na
    generalize upd H1 a (ExD (.ref (Z.xa "NoText")) (some d) a) = H2 at sm2 ha hd2 ⊢
    have kt : ∀ {m : Str}, m ∈ [("TooMany" : Str), "NoNumber", "NoQuestion", "NoRow", "NoText"] → PySem.W.kitOne K (.ref (Z.xa "NoText")) (.ref (Z.xa m)) = some (("NoText" : Str) == m) := fun hm => T.nt_NoText.kit _ hm
    refine ⟨.ref a, rfl, rfl, _, rfl, ite2 (fun z => absurd (of_decide_eq_true z) (fun y => nomatch y)) (fun _ => ?_)⟩
    refine ⟨fun σ G => σ = [some (tx cols), some (tx l), some (.ref a), some .non, none] ∧ Same H2 G, ?_, fun σ G hM => ?_⟩
    · refine ⟨.ref a, rfl, (by show 4 ≤ sizeLine; omega), fun t0 nt0 => ?_⟩
      have sm3 := Same.new (o := .tup [V.ref (Z.xa "NoNumber"), .ref (Z.xa "NoQuestion"), .ref (Z.xa "NoRow"), .ref (Z.xa "TooMany")]) (Same.refl H2) nt0
      refine ⟨a, Z.xa "NoText", d, _, .ref t0, false, rfl, sm3 _ _ ha, sm3 _ _ hd2, T.nt_NoText.ex, .inr ⟨t0, _, [.ref (Z.xa "NoNumber"), .ref (Z.xa "NoQuestion"), .ref (Z.xa "NoRow"), .ref (Z.xa "TooMany")], rfl, upd_same, fun us r => ?_, ?_⟩, ?_⟩
      · cases r with
        | cons r1 r => cases r with
          | cons r2 r => cases r with
            | cons r3 r => cases r with
              | cons r4 r =>
                cases r
                obtain rfl := (show _ = Value.ref (Z.xa "NoNumber") from r1)
                obtain rfl := (show _ = Value.ref (Z.xa "NoQuestion") from r2)
                obtain rfl := (show _ = Value.ref (Z.xa "NoRow") from r3)
                obtain rfl := (show _ = Value.ref (Z.xa "TooMany") from r4)
                rfl
      · unfold PySem.W.kitAny PySem.W.kitAny PySem.W.kitAny PySem.W.kitAny PySem.W.kitAny
        rw [kt (m := "NoNumber") (by simp), kt (m := "NoQuestion") (by simp), kt (m := "NoRow") (by simp), kt (m := "TooMany") (by simp)]
        rfl
      · refine ⟨false, rfl, iteF ?_⟩
        refine ⟨.ref a, rfl, a, Z.xa "NoText", d, _, _, true, rfl, sm3 _ _ ha, sm3 _ _ hd2, T.nt_NoText.ex, .inl ⟨.ref (Z.xa "NoText"), fun u r => r, ?_⟩, ?_⟩
        · exact (kt (m := "NoText") (by simp)).trans (by decide +kernel)
        · exact ⟨true, rfl, iteF ⟨rfl, sm3⟩⟩
    obtain ⟨rfl, smG⟩ := hM
    refine ⟨.ref a, rfl, a, Z.xa "NoText", d, _, .ty "ValueError", true, rfl, smG _ _ ha, smG _ _ hd2, T.nt_NoText.ex, .inl ⟨.type "ValueError", fun u r => r, T.nt_NoText.ve⟩, true, rfl, iteT ?_⟩
    refine ⟨.ref a, rfl, a, Z.xa "NoText", d, _, .int (i : Nat), rfl, T.nt_NoText.nt.x, T.nt_NoText.no, smG _ _ ha, smG _ _ hd2, rfl, ?_⟩
    have sm := Same.trans sm2 smG
    exact q (.int (i : Nat)) G (sx1.trans (Same.sx sm)) (tg1.same sm) (by rw [hi]; exact .int _)

/-! ### _law_bent -/
theorem wt_words : ∀ l : List Nat, wtS ((wordsL l).map txS) = l.length + 1
  | [] => rfl
  | c :: l => by
    have ih := wt_words l
    have hs : ∀ w : List Nat, (txS w).length = w.length := fun w => by show w.toArray.size = w.length; simp
    unfold wordsL
    split
    · show 0 + 1 + wtS ((wordsL l).map txS) = _
      rw [ih, List.length_cons]
      omega
    · rw [wordsL_head l] at ih
      generalize (wordsL l).headD [] = w at ih ⊢
      generalize (wordsL l).tail = ws at ih ⊢
      have e1 : wtS ((w :: ws).map txS) = (w.length + 1) + wtS (ws.map txS) := by
        show ((txS w).length + 1) + _ = _
        rw [hs]
        rfl
      have e2 : wtS (((c :: w) :: ws).map txS) = (w.length + 1 + 1) + wtS (ws.map txS) := by
        show ((txS (c :: w)).length + 1) + _ = _
        rw [hs]
        rfl
      rw [e1] at ih
      rw [e2, List.length_cons]
      omega
def Tbd3 (w : Str) : Bool := decide (w.length ≤ 3) && decide (∀ c ∈ w.cps.toList, c < 1000)
structure OSt (b bl wl od : Addr) (W : List V) (M n : Nat) (H0 H : Hp) (ws : List Str) : Prop where
  kp : Kp b H0 H
  bag : Bag b bl H
  hw : H wl = some (.lst W)
  ho : H od = some (.lst (ws.map V.str))
  all : ∀ w ∈ ws, Tbd M w
  len : ws.length = n
  nb : od ≠ b
theorem odd_step {σ : L2.St} {D : Ends} {b bl wl od : Addr} {W : List V} {M n k j : Nat} {H0 H : Hp} {ws : List Str} {t : TA} (O : OSt b bl wl od W M n H0 H ws) (e : σ[j]? = some (some (.ref od))) (h : TxL M k t σ) (hk : n + k ≤ 1000)
    (q : ∀ od' H' ws' σ', σ' = σ.set j (some (.ref od')) → OSt b bl wl od' W M (n + k) H0 H' ws' → D.nx σ' H') : tAsg (tOp rCat (tVar j) (tLst t)) (gName j) D σ H := by
  have line : (1000 : Nat) ≤ sizeLine := by rw [sizeLine_eq]; decide
  refine ⟨.ref od, e, TxL.lst h (by omega) fun ws2 p2 hn2 hw2 np2 => ⟨od, p2, _, _, rfl, rfl, keep_new O.ho np2, upd_same, by rw [List.length_map, List.length_map, O.len, hn2]; omega, fun p3 np3 => ?_⟩⟩
  refine q p3 _ (ws ++ ws2) _ rfl ⟨(O.kp.new np2).new np3, (O.bag.new np2).new np3, keep_new (keep_new O.hw np2) np3, by rw [upd_same, List.map_append], fun w hw => ?_, by rw [List.length_append, O.len, hn2], ((O.bag.new np2).ne np3).1⟩
  rcases List.mem_append.mp hw with z | z
  · exact O.all w z
  · exact hw2 w z
theorem lst_step {σ : L2.St} {D : Ends} {M n j : Nat} {H : Hp} {t : TA} (h : TxL M n t σ) (hn : n ≤ 10000) (q : ∀ (ws : List Str) (p : Addr), ws.length = n → (∀ w ∈ ws, Tbd M w) → H p = none → ∀ σ', σ' = σ.set j (some (.ref p)) → D.nx σ' (upd H p (.lst (ws.map V.str)))) : tAsg (tLst t) (gName j) D σ H :=
  TxL.lst h hn fun ws p h1 h2 h3 => q ws p h1 h2 h3 _ rfl
theorem nines_ok : MulOk (Str.ofString "9") 4400 := ⟨by decide +kernel, fun _ _ => by decide +kernel, fun _ _ => by decide +kernel⟩
theorem nines_tb : (decide ((Txt.mul (Str.ofString "9") 4400).length ≤ 4400) && (Txt.mul (Str.ofString "9") 4400).cps.toList.all fun c => decide (c < 1000)) = true := by decide +kernel
theorem nines {σ : L2.St} : Txy 4400 (tOp rMulS (tC (.str (Str.ofString "9"))) (tC (.int 4400))) σ := fun H Q q => ⟨_, _, rfl, rfl, nines_ok, q _ (by
  have h := nines_tb
  rw [Bool.and_eq_true] at h
  exact ⟨of_decide_eq_true h.1, fun c hc => of_decide_eq_true (List.all_eq_true.mp h.2 c hc)⟩)⟩
def spLbent50 (K : PySem.W.Frag) : Sp := fun vs H Q _ => ∃ (b bl : Addr) (cols l : List Nat), vs = [.ref b, tx cols, tx l] ∧ Bag b bl H ∧ cols ≠ [] ∧ cols.length ≤ 26 ∧ (∀ c ∈ cols, c < 128) ∧ l.length ≤ 40000 ∧ (∀ c ∈ l, c < 1000) ∧
  ∀ (l' : List Nat) (H' : Hp), Kp b H H' → Bag b bl H' → l'.length ≤ l.length + 5000 → (∀ c ∈ l', c < 1000) → Q (tx l') H'
set_option maxHeartbeats 2000000 in
theorem ok_lbent50 (T : Tx K mg Z) : FnOk P w K mg base CX0 3 Z.f_l_bent Z.d_l_bent ["bag", "columns", "text"] (spLbent50 K) := by
  have G_l_lot : FnOk P w K mg base CX0 1 Z.f_l_lot Z.d_l_lot ["bag", "many"] (spLot K) := ok_lot T
  refine T.F_l_bent.ok sc_l_bent (fun vs H Q E h => ?_) (fun cdv A outer s H vs Q E hr h => ?_)
  · obtain ⟨b, bl, cols, l, rfl, _⟩ := h
    rfl
  · obtain ⟨b, bl, cols, l, rfl, hB, hne, hcl, hcz, hll, hlz, q⟩ := h
    refine ⟨_, (pss_cons (ps_set (i := 3) sc_l_bent.nd rfl (.inl rfl) (bmK K PySem.F.plainAttrs_str PySem.F.slot_str_split PySem.F.type_str_split mt_split (pv 2) (pa_cons pe_str pa_nil)))
      (pss_cons (ps_set (i := 4) sc_l_bent.nd rfl (.inl rfl) (pe_call G_l_lot (hr.mono (by omega)) (by rfl) T.g_l_lot T.F_l_lot.kp T.b_l_lot .nil pass0 (pa_cons (pv 0) (pa_cons (pe_callB (cLenSq K) (by rfl) T.m_len (by decide +kernel) (pa_cons (pv 3) pa_nil)) pa_nil))))
      (pss_cons (ps_set (i := 5) sc_l_bent.nd rfl (.inl rfl) (pe_ix ix_str (pv 1) (pe_call G_l_lot (hr.mono (by omega)) (by rfl) T.g_l_lot T.F_l_lot.kp T.b_l_lot .nil pass0 (pa_cons (pv 0) (pa_cons (pe_callB call_len_str (by rfl) T.m_len (by decide +kernel) (pa_cons (pv 1) pa_nil)) pa_nil))) (fun _ _ => rfl)))
      (pss_cons (ps_set (i := 6) sc_l_bent.nd rfl (.inl rfl) (pe_ix ix_str pe_str (pe_call G_l_lot (hr.mono (by omega)) (by rfl) T.g_l_lot T.F_l_lot.kp T.b_l_lot .nil pass0 (pa_cons (pv 0) (pa_cons pe_int pa_nil))) (fun _ _ => rfl)))
      (pss_cons (ps_set (i := 7) sc_l_bent.nd rfl (.inl rfl) (pe_callTy call_str_int (by rfl) T.m_str (by decide +kernel) (pa_cons (pe_call G_l_lot (hr.mono (by omega)) (by rfl) T.g_l_lot T.F_l_lot.kp T.b_l_lot .nil pass0 (pa_cons (pv 0) (pa_cons (pe_ix (ixL K) (pe_lst (pa_cons pe_int (pa_cons pe_int pa_nil))) (pe_call G_l_lot (hr.mono (by omega)) (by rfl) T.g_l_lot T.F_l_lot.kp T.b_l_lot .nil pass0 (pa_cons (pv 0) (pa_cons pe_int pa_nil))) (fun _ _ => rfl)) pa_nil))) pa_nil)))
      (pss_cons (ps_set (i := 8) sc_l_bent.nd rfl (.inl rfl) (pe_lst (pa_cons pe_str (pa_cons pe_str (pa_cons (pv 5) (pa_cons (pe_op op_add_str (pv 5) pe_str) (pa_cons (pe_op op_add_str (pv 5) pe_str) (pa_cons (pe_op op_add_str pe_str (pv 7)) (pa_cons (pe_op op_add_str (pe_op op_add_str (pv 5) pe_str) (pv 7)) pa_nil)))))))))
      (pss_cons (ps_set (i := 8) sc_l_bent.nd rfl (.inl rfl) (pe_op op_cat (pv 8) (pe_lst (pa_cons (pe_op op_add_str (pe_op op_add_str (pv 6) pe_str) (pv 7)) pa_nil))))
      (pss_cons (ps_set (i := 8) sc_l_bent.nd rfl (.inl rfl) (pe_op op_cat (pv 8) (pe_lst (pa_cons (pe_op op_add_str (pe_op op_add_str (pe_op op_add_str (pv 5) pe_str) (pv 7)) pe_str) (pa_cons (pe_op op_add_str (pe_op op_add_str (pv 5) pe_str) (pv 7)) (pa_cons (pe_op op_add_str (pv 5) pe_str) pa_nil))))))
      (pss_cons (ps_set (i := 8) sc_l_bent.nd rfl (.inl rfl) (pe_op op_cat (pv 8) (pe_lst (pa_cons (pe_op op_add_str (pv 5) pe_str) pa_nil))))
      (pss_cons (ps_set (i := 8) sc_l_bent.nd rfl (.inl rfl) (pe_op op_cat (pv 8) (pe_lst (pa_cons (pe_op op_add_str (pv 5) pe_str) (pa_cons (pe_op op_add_str (pv 5) pe_str) (pa_cons (pe_op op_add_str (pv 5) pe_str) (pa_cons (pe_op op_add_str (pv 5) pe_str) (pa_cons (pe_op op_add_str (pv 5) pe_str) pa_nil))))))))
      (pss_cons (ps_set (i := 8) sc_l_bent.nd rfl (.inl rfl) (pe_op op_cat (pv 8) (pe_lst (pa_cons (pe_op op_add_str (pv 5) pe_str) pa_nil))))
      (pss_cons (ps_set (i := 8) sc_l_bent.nd rfl (.inl rfl) (pe_op op_cat (pv 8) (pe_lst (pa_cons (pe_op op_add_str (pe_upper (pv 5)) pe_str) (pa_cons (pe_op op_add_str (pv 5) pe_str) (pa_cons (pe_op op_add_str (pv 5) pe_str) (pa_cons (pe_op op_add_str (pv 5) pe_str) pa_nil)))))))
      (pss_cons (ps_set (i := 8) sc_l_bent.nd rfl (.inl rfl) (pe_op op_cat (pv 8) (pe_lst (pa_cons (pe_op op_add_str (pv 5) pe_str) (pa_cons (pe_op op_add_str (pv 5) pe_str) pa_nil)))))
      (pss_cons (ps_set (i := 8) sc_l_bent.nd rfl (.inl rfl) (pe_op op_cat (pv 8) (pe_lst (pa_cons (pe_op op_add_str (pv 5) pe_str) (pa_cons (pe_op op_add_str (pv 5) pe_str) (pa_cons (pe_op op_add_str (pv 5) pe_str) (pa_cons (pe_op op_add_str (pe_op op_add_str (pv 5) (pv 6)) pe_str) pa_nil)))))))
      (pss_cons (ps_set (i := 8) sc_l_bent.nd rfl (.inl rfl) (pe_op op_cat (pv 8) (pe_lst (pa_cons (pe_op op_add_str (pv 5) pe_str) (pa_cons (pe_op op_add_str (pv 5) pe_str) pa_nil)))))
      (pss_cons (ps_set (i := 8) sc_l_bent.nd rfl (.inl rfl) (pe_op op_cat (pv 8) (pe_lst (pa_cons (pe_op op_add_str (pv 5) pe_str) (pa_cons (pe_op op_add_str (pv 5) pe_str) (pa_cons (pe_op op_add_str (pv 5) pe_str) (pa_cons (pe_op op_add_str (pv 5) pe_str) (pa_cons (pe_op op_add_str (pv 5) pe_str) pa_nil))))))))
      (pss_cons (ps_set (i := 8) sc_l_bent.nd rfl (.inl rfl) (pe_op op_cat (pv 8) (pe_lst (pa_cons (pe_op op_add_str (pv 5) pe_str) (pa_cons (pe_op op_add_str (pv 6) pe_str) (pa_cons (pe_op op_add_str (pv 5) pe_str) (pa_cons pe_str (pa_cons pe_str (pa_cons pe_str pa_nil)))))))))
      (pss_cons (ps_set (i := 8) sc_l_bent.nd rfl (.inl rfl) (pe_op op_cat (pv 8) (pe_lst (pa_cons (pe_op op_add_str (pe_op op_add_str (pv 5) pe_str) (pe_op op_mulS pe_str pe_int)) (pa_cons (pe_op op_add_str (pe_op op_add_str (pv 5) pe_str) (pe_op op_mulS pe_str pe_int)) pa_nil)))))
      (pss_cons (ps_set (i := 9) sc_l_bent.nd rfl (.inl rfl) (pe_ix (ixL K) (pv 8) (pe_call G_l_lot (hr.mono (by omega)) (by rfl) T.g_l_lot T.F_l_lot.kp T.b_l_lot .nil pass0 (pa_cons (pv 0) (pa_cons (pe_callB (cLenSq K) (by rfl) T.m_len (by decide +kernel) (pa_cons (pv 8) pa_nil)) pa_nil))) (fun _ _ => rfl)))
      (pss_cons (ps_set (i := 10) sc_l_bent.nd rfl (.inl rfl) (pe_call G_l_lot (hr.mono (by omega)) (by rfl) T.g_l_lot T.F_l_lot.kp T.b_l_lot .nil pass0 (pa_cons (pv 0) (pa_cons pe_int pa_nil))))
      (pss_cons (ps_if (pt_cmpR op_lt (pv 10) pe_int (nomark _)) (pss_one (ps_ret (pe_join pe_str (pe_op op_cat (pe_op op_cat (pe_slice (slLK K) (pv 3) po_none (po_some (pv 4))) (pe_lst (pa_cons (pv 9) pa_nil))) (pe_slice (slLK K) (pv 3) (po_some (pe_op op_add (pv 4) pe_int)) po_none))))) pss_nil)
      (pss_cons (ps_if (pt_cmpR op_eq (pv 10) pe_int (nomark _)) (pss_one (ps_ret (pe_join pe_str (pe_op op_cat (pe_op op_cat (pe_slice (slLK K) (pv 3) po_none (po_some (pv 4))) (pe_lst (pa_cons (pv 9) pa_nil))) (pe_slice (slLK K) (pv 3) (po_some (pv 4)) po_none))))) pss_nil)
      (pss_cons (ps_if (pt_cmpR op_eq (pv 10) pe_int (nomark _)) (pss_one (ps_ret (pe_join pe_str (pe_op op_cat (pv 3) (pe_lst (pa_cons (pv 9) pa_nil)))))) pss_nil)
      (pss_cons (ps_if (pt_cmpR op_eq (pv 10) pe_int (nomark _)) (pss_one (ps_ret (pe_join pe_str (pe_op op_cat (pe_op op_cat (pe_slice (slLK K) (pv 3) po_none (po_some (pv 4))) (pe_slice (slLK K) (pv 3) (po_some (pe_op op_add (pv 4) pe_int)) po_none)) (pe_slice (slLK K) (pv 3) (po_some (pv 4)) (po_some (pe_op op_add (pv 4) pe_int))))))) pss_nil)
      (pss_cons (ps_set (i := 11) sc_l_bent.nd rfl (.inl rfl) (pe_lst (pa_cons (pe_join pe_str (pe_op op_cat (pe_slice (slLK K) (pv 3) po_none (po_some (pv 4))) (pe_slice (slLK K) (pv 3) (po_some (pe_op op_add (pv 4) pe_int)) po_none))) (pa_cons (pe_op op_add_str (pv 2) pe_str) (pa_consP (pep_op op_add_str (pv 2)) (pat_cons (pet_rep1 (pv 2)) pat_nil))))))
      (pss_one (ps_ret (pe_ix (ixL K) (pv 11) (pe_call G_l_lot (hr.mono (by omega)) (by rfl) T.g_l_lot T.F_l_lot.kp T.b_l_lot .nil pass0 (pa_cons (pv 0) (pa_cons pe_int pa_nil))) (fun _ _ => rfl))))))))))))))))))))))))))))), ?_⟩
    have line : (4665600 : Nat) < sizeLine := by rw [sizeLine_eq]; decide
    have hsz : (⟨l.toArray⟩ : Str).length = l.length := by simp [Str.length]
    have hszc : (⟨cols.toArray⟩ : Str).length = cols.length := by simp [Str.length]
    have hcpos : 0 < cols.length := List.length_pos_iff.mpr hne
    obtain ⟨hwn, hwa⟩ := wordsL_all l
    have hwt := wt_words l
    refine ⟨tx l, rfl, rfl, txS l, Str.ofString " ", rfl, rfl, by decide +kernel, by rw [hsz]; omega, fun wl nwl => ?_⟩
    rw [split_txS]
    have hWz : ∀ w ∈ (wordsL l).map txS, ∀ c ∈ w.cps.toList, c < 1000 := fun w hw c hc => by
      obtain ⟨v, hv, rfl⟩ := List.mem_map.mp hw
      exact hlz c ((hwa v hv).2 c (by simpa using hc)).1
    have hWpos : 0 < ((wordsL l).map txS).length := by rw [List.length_map]; exact List.length_pos_iff.mpr (wordsL_ne l)
    have hWn : ((wordsL l).map txS).length ≤ l.length + 1 := by rw [List.length_map]; exact hwn
    generalize (wordsL l).map txS = W at hwt hWz hWpos hWn ⊢
    have kp1 : Kp b H (upd H wl (.lst (W.map V.str))) := Kp.rfl'.new nwl
    have hB1 := hB.new nwl (o := .lst (W.map V.str))
    have hw1 : (upd H wl (.lst (W.map V.str))) wl = some (.lst (W.map V.str)) := upd_same
    have nwb := (hB.ne nwl).1
    generalize upd H wl (.lst (W.map V.str)) = H1 at kp1 hB1 hw1 ⊢
    refine ⟨.ref b, rfl, .ref wl, rfl, wl, _, rfl, .inl (.inl (.inl hw1)), b, bl, _, rfl, hB1, by rw [List.length_map]; omega, by rw [List.length_map]; omega, fun i0 H2 kp2 hB2 i00 i01 => ?_⟩
    rw [List.length_map] at i01
    obtain ⟨k, rfl⟩ : ∃ k : Nat, i0 = (k : Int) := ⟨i0.toNat, by omega⟩
    have hk : k < W.length := by omega
    have hw2 := kp2 _ _ nwb hw1
    refine ⟨tx cols, rfl, .ref b, rfl, tx cols, rfl, _, rfl, by rw [hszc]; omega, b, bl, _, rfl, hB2, by rw [hszc]; omega, by rw [hszc]; omega, fun i1 H3 kp3 hB3 i10 i11 => ?_⟩
    have hw3 := kp3 _ _ nwb hw2
    obtain ⟨c, hcm, hcat⟩ := at_memZ (vs := cols) (i := i1) (by omega) (by rw [hszc] at i11; omega)
    have hc128 := hcz c hcm
    have tbl : Tbd 1 (txS [c]) := Tbd.tx (Nat.le_refl _) fun x hx => by rw [List.mem_singleton.mp hx]; omega
    refine ⟨txS cols, i1, c, rfl, rfl, by rw [hszc]; omega, by simpa using hcat, ?_⟩
    refine ⟨.ref b, rfl, b, bl, 26, rfl, hB3, by decide, by decide, fun i2 H4 kp4 hB4 i20 i21 => ?_⟩
    have hw4 := kp4 _ _ nwb hw3
    obtain ⟨o, hom, hoat⟩ := at_memZ (vs := (Str.ofString "abcdefghijklmnopqrstuvwxyz").cps.toList) (i := i2) (by omega) (by rw [show (Str.ofString "abcdefghijklmnopqrstuvwxyz").cps.toList.length = 26 by decide +kernel]; omega)
    have ho1000 : o < 1000 := by
      have : ∀ x ∈ (Str.ofString "abcdefghijklmnopqrstuvwxyz").cps.toList, x < 1000 := by decide +kernel
      exact this o hom
    have tbo : Tbd 1 (txS [o]) := Tbd.tx (Nat.le_refl _) fun x hx => by rw [List.mem_singleton.mp hx]; exact ho1000
    refine ⟨_, i2, o, rfl, rfl, by decide +kernel, hoat, ?_⟩
    refine ⟨.ref b, rfl, (by show 2 ≤ sizeLine; omega), fun L1 nL1 => ⟨.ref b, rfl, b, bl, 2, rfl, hB4.new nL1, by decide, by decide, fun i3 H5 kp5 hB5 i30 i31 => ?_⟩⟩
    have nL1b := (hB4.ne nL1).1
    have hL1 : H5 L1 = some (.lst ([5, 1000].map V.int)) := kp5 _ _ nL1b upd_same
    have hw5 := kp5 _ _ nwb (keep_new (o := .lst [V.int 5, .int 1000]) hw4 nL1)
    have kp05 : Kp b H H5 := ((((kp1.trans kp2).trans kp3).trans kp4).new (o := .lst [V.int 5, .int 1000]) nL1).trans kp5
    obtain ⟨m, hm, hmat⟩ := at_ints (ns := [5, 1000]) (d := i3) i30 i31
    have hm2 : m = 5 ∨ m = 1000 := by simpa using hm
    refine ⟨L1, _, i3, .int m, rfl, rfl, .inl (.inl hL1), hmat, b, bl, m, rfl, hB5, by omega, by omega, fun n H6 kp6 hB6 n0 n1 => ⟨n, rfl, log_small n0 (by omega), ?_⟩⟩
    have hw6 := kp6 _ _ nwb hw5
    have kp06 := kp05.trans kp6
    have tbn : Tbd 3 (Str.ofString (toString n)) := by
      have : ∀ k : Nat, k < 1000 → Tbd3 (natS (k : Int)) = true := by decide +kernel
      have := this n.toNat (by omega)
      rw [show ((n.toNat : Nat) : Int) = n by omega] at this
      unfold Tbd3 at this
      rw [Bool.and_eq_true] at this
      exact ⟨of_decide_eq_true this.1, of_decide_eq_true this.2⟩
    generalize Str.ofString (toString n) = ns at tbn ⊢
    refine lst_step (M := 4500) (.cons (M := 4500) (.c (by decide +kernel)) (by decide +kernel) (.cons (M := 4500) (.c (by decide +kernel)) (by decide +kernel) (.cons (M := 4500) (.v rfl tbl) (by decide +kernel) (.cons (M := 4500) (.app (.v rfl tbl) (.c (by decide +kernel)) (by decide +kernel)) (by decide +kernel) (.cons (M := 4500) (.app (.v rfl tbl) (.c (by decide +kernel)) (by decide +kernel)) (by decide +kernel) (.cons (M := 4500) (.app (.c (by decide +kernel)) (.v rfl tbn) (by decide +kernel)) (by decide +kernel) (.cons (M := 4500) (.app (.app (.v rfl tbl) (.c (by decide +kernel)) (by decide +kernel)) (.v rfl tbn) (by decide +kernel)) (by decide +kernel) .nil))))))) (by decide) fun ws od hn hw nod σ' hσ => ?_
    obtain rfl : σ' = [some (.ref b), some (tx cols), some (tx l), some (.ref wl), some (.int (k : Nat)), some (tx [c]), some (tx [o]), some (.str ns), some (.ref od), none, none, none] := hσ.trans rfl
    have O : OSt b bl wl od (W.map V.str) 4500 7 H (upd H6 od (.lst (ws.map V.str))) ws := ⟨kp06.new nod, hB6.new nod, keep_new hw6 nod, upd_same, hw, hn, (hB6.ne nod).1⟩
    clear nod
    generalize upd H6 od (.lst (ws.map V.str)) = H7 at O ⊢
    refine odd_step O rfl (.cons (M := 4500) (.app (.app (.v rfl tbo) (.c (by decide +kernel)) (by decide +kernel)) (.v rfl tbn) (by decide +kernel)) (by decide +kernel) .nil) (by decide) fun od H7 ws σ' hσ O => ?_
    obtain rfl : σ' = [some (.ref b), some (tx cols), some (tx l), some (.ref wl), some (.int (k : Nat)), some (tx [c]), some (tx [o]), some (.str ns), some (.ref od), none, none, none] := hσ.trans rfl
    refine odd_step O rfl (.cons (M := 4500) (.app (.app (.app (.v rfl tbl) (.c (by decide +kernel)) (by decide +kernel)) (.v rfl tbn) (by decide +kernel)) (.c (by decide +kernel)) (by decide +kernel)) (by decide +kernel) (.cons (M := 4500) (.app (.app (.v rfl tbl) (.c (by decide +kernel)) (by decide +kernel)) (.v rfl tbn) (by decide +kernel)) (by decide +kernel) (.cons (M := 4500) (.app (.v rfl tbl) (.c (by decide +kernel)) (by decide +kernel)) (by decide +kernel) .nil))) (by decide) fun od H7 ws σ' hσ O => ?_
    obtain rfl : σ' = [some (.ref b), some (tx cols), some (tx l), some (.ref wl), some (.int (k : Nat)), some (tx [c]), some (tx [o]), some (.str ns), some (.ref od), none, none, none] := hσ.trans rfl
    refine odd_step O rfl (.cons (M := 4500) (.app (.v rfl tbl) (.c (by decide +kernel)) (by decide +kernel)) (by decide +kernel) .nil) (by decide) fun od H7 ws σ' hσ O => ?_
    obtain rfl : σ' = [some (.ref b), some (tx cols), some (tx l), some (.ref wl), some (.int (k : Nat)), some (tx [c]), some (tx [o]), some (.str ns), some (.ref od), none, none, none] := hσ.trans rfl
    refine odd_step O rfl (.cons (M := 4500) (.app (.v rfl tbl) (.c (by decide +kernel)) (by decide +kernel)) (by decide +kernel) (.cons (M := 4500) (.app (.v rfl tbl) (.c (by decide +kernel)) (by decide +kernel)) (by decide +kernel) (.cons (M := 4500) (.app (.v rfl tbl) (.c (by decide +kernel)) (by decide +kernel)) (by decide +kernel) (.cons (M := 4500) (.app (.v rfl tbl) (.c (by decide +kernel)) (by decide +kernel)) (by decide +kernel) (.cons (M := 4500) (.app (.v rfl tbl) (.c (by decide +kernel)) (by decide +kernel)) (by decide +kernel) .nil))))) (by decide) fun od H7 ws σ' hσ O => ?_
    obtain rfl : σ' = [some (.ref b), some (tx cols), some (tx l), some (.ref wl), some (.int (k : Nat)), some (tx [c]), some (tx [o]), some (.str ns), some (.ref od), none, none, none] := hσ.trans rfl
    refine odd_step O rfl (.cons (M := 4500) (.app (.v rfl tbl) (.c (by decide +kernel)) (by decide +kernel)) (by decide +kernel) .nil) (by decide) fun od H7 ws σ' hσ O => ?_
    obtain rfl : σ' = [some (.ref b), some (tx cols), some (tx l), some (.ref wl), some (.int (k : Nat)), some (tx [c]), some (tx [o]), some (.str ns), some (.ref od), none, none, none] := hσ.trans rfl
    refine odd_step O rfl (.cons (M := 4500) (.app (.upper rfl hc128) (.c (by decide +kernel)) (by decide +kernel)) (by decide +kernel) (.cons (M := 4500) (.app (.v rfl tbl) (.c (by decide +kernel)) (by decide +kernel)) (by decide +kernel) (.cons (M := 4500) (.app (.v rfl tbl) (.c (by decide +kernel)) (by decide +kernel)) (by decide +kernel) (.cons (M := 4500) (.app (.v rfl tbl) (.c (by decide +kernel)) (by decide +kernel)) (by decide +kernel) .nil)))) (by decide) fun od H7 ws σ' hσ O => ?_
    obtain rfl : σ' = [some (.ref b), some (tx cols), some (tx l), some (.ref wl), some (.int (k : Nat)), some (tx [c]), some (tx [o]), some (.str ns), some (.ref od), none, none, none] := hσ.trans rfl
    refine odd_step O rfl (.cons (M := 4500) (.app (.v rfl tbl) (.c (by decide +kernel)) (by decide +kernel)) (by decide +kernel) (.cons (M := 4500) (.app (.v rfl tbl) (.c (by decide +kernel)) (by decide +kernel)) (by decide +kernel) .nil)) (by decide) fun od H7 ws σ' hσ O => ?_
    obtain rfl : σ' = [some (.ref b), some (tx cols), some (tx l), some (.ref wl), some (.int (k : Nat)), some (tx [c]), some (tx [o]), some (.str ns), some (.ref od), none, none, none] := hσ.trans rfl
    refine odd_step O rfl (.cons (M := 4500) (.app (.v rfl tbl) (.c (by decide +kernel)) (by decide +kernel)) (by decide +kernel) (.cons (M := 4500) (.app (.v rfl tbl) (.c (by decide +kernel)) (by decide +kernel)) (by decide +kernel) (.cons (M := 4500) (.app (.v rfl tbl) (.c (by decide +kernel)) (by decide +kernel)) (by decide +kernel) (.cons (M := 4500) (.app (.app (.v rfl tbl) (.v rfl tbo) (by decide +kernel)) (.c (by decide +kernel)) (by decide +kernel)) (by decide +kernel) .nil)))) (by decide) fun od H7 ws σ' hσ O => ?_
    obtain rfl : σ' = [some (.ref b), some (tx cols), some (tx l), some (.ref wl), some (.int (k : Nat)), some (tx [c]), some (tx [o]), some (.str ns), some (.ref od), none, none, none] := hσ.trans rfl
    refine odd_step O rfl (.cons (M := 4500) (.app (.v rfl tbl) (.c (by decide +kernel)) (by decide +kernel)) (by decide +kernel) (.cons (M := 4500) (.app (.v rfl tbl) (.c (by decide +kernel)) (by decide +kernel)) (by decide +kernel) .nil)) (by decide) fun od H7 ws σ' hσ O => ?_
    obtain rfl : σ' = [some (.ref b), some (tx cols), some (tx l), some (.ref wl), some (.int (k : Nat)), some (tx [c]), some (tx [o]), some (.str ns), some (.ref od), none, none, none] := hσ.trans rfl
    refine odd_step O rfl (.cons (M := 4500) (.app (.v rfl tbl) (.c (by decide +kernel)) (by decide +kernel)) (by decide +kernel) (.cons (M := 4500) (.app (.v rfl tbl) (.c (by decide +kernel)) (by decide +kernel)) (by decide +kernel) (.cons (M := 4500) (.app (.v rfl tbl) (.c (by decide +kernel)) (by decide +kernel)) (by decide +kernel) (.cons (M := 4500) (.app (.v rfl tbl) (.c (by decide +kernel)) (by decide +kernel)) (by decide +kernel) (.cons (M := 4500) (.app (.v rfl tbl) (.c (by decide +kernel)) (by decide +kernel)) (by decide +kernel) .nil))))) (by decide) fun od H7 ws σ' hσ O => ?_
    obtain rfl : σ' = [some (.ref b), some (tx cols), some (tx l), some (.ref wl), some (.int (k : Nat)), some (tx [c]), some (tx [o]), some (.str ns), some (.ref od), none, none, none] := hσ.trans rfl
    refine odd_step O rfl (.cons (M := 4500) (.app (.v rfl tbl) (.c (by decide +kernel)) (by decide +kernel)) (by decide +kernel) (.cons (M := 4500) (.app (.v rfl tbo) (.c (by decide +kernel)) (by decide +kernel)) (by decide +kernel) (.cons (M := 4500) (.app (.v rfl tbl) (.c (by decide +kernel)) (by decide +kernel)) (by decide +kernel) (.cons (M := 4500) (.c (by decide +kernel)) (by decide +kernel) (.cons (M := 4500) (.c (by decide +kernel)) (by decide +kernel) (.cons (M := 4500) (.c (by decide +kernel)) (by decide +kernel) .nil)))))) (by decide) fun od H7 ws σ' hσ O => ?_
    obtain rfl : σ' = [some (.ref b), some (tx cols), some (tx l), some (.ref wl), some (.int (k : Nat)), some (tx [c]), some (tx [o]), some (.str ns), some (.ref od), none, none, none] := hσ.trans rfl
    refine odd_step O rfl (.cons (M := 4500) (.app (.app (.v rfl tbl) (.c (by decide +kernel)) (by decide +kernel)) nines (by decide +kernel)) (by decide +kernel) (.cons (M := 4500) (.app (.app (.v rfl tbl) (.c (by decide +kernel)) (by decide +kernel)) nines (by decide +kernel)) (by decide +kernel) .nil)) (by decide) fun od H7 ws σ' hσ O => ?_
    obtain rfl : σ' = [some (.ref b), some (tx cols), some (tx l), some (.ref wl), some (.int (k : Nat)), some (tx [c]), some (tx [o]), some (.str ns), some (.ref od), none, none, none] := hσ.trans rfl
    have hwl : (ws.map V.str).length = 43 := by rw [List.length_map, O.len]
    refine ⟨.ref od, rfl, .ref b, rfl, .ref od, rfl, od, _, rfl, .inl (.inl (.inl O.ho)), b, bl, _, rfl, O.bag, by rw [hwl]; decide, by rw [hwl]; decide, fun i4 H8 kp8 hB8 i40 i41 => ?_⟩
    have nodb := O.nb
    have ho8 := kp8 _ _ nodb O.ho
    have hw8 := kp8 _ _ nwb O.hw
    have kp08 := O.kp.trans kp8
    obtain ⟨vd, hvd, hdat⟩ := at_memZ (vs := ws.map V.str) (i := i4) (by omega) (by omega)
    obtain ⟨wd, hwd, rfl⟩ := List.mem_map.mp hvd
    have tbw := O.all wd hwd
    refine ⟨od, _, i4, .str wd, rfl, rfl, .inl (.inl ho8), hdat, ?_⟩
    refine ⟨.ref b, rfl, b, bl, 6, rfl, hB8, by decide, by decide, fun way H9 kp9 hB9 _ _ => ?_⟩
    have hw9 := kp9 _ _ nwb hw8
    have kp09 := kp08.trans kp9
    clear O nodb ho8 hvd hdat hwl
    have fin : ∀ (ws' : List Str) (H' : Hp), wtS ws' ≤ l.length + 4510 → (∀ w ∈ ws', ∀ c ∈ w.cps.toList, c < 1000) → Same H9 H' → Q (.str (Txt.join (Str.ofString " ") ws')) H' := fun ws' H' h1 h2 sm => by
      have tj := join_tb h2
      rw [str_eta (Txt.join _ _)]
      refine q _ H' (kp09.trans fun a o _ e => sm a o e) (hB9.same sm) ?_ tj.ok
      have := tj.len
      have e : (Txt.join (Str.ofString " ") ws').cps.toList.length = (Txt.join (Str.ofString " ") ws').length := by simp [Str.length]
      omega
    obtain ⟨σ9, hσ9⟩ : ∃ σ9 : L2.St, σ9 = ([some (.ref b), some (tx cols), some (tx l), some (.ref wl), some (.int (k : Nat)), some (tx [c]), some (tx [o]), some (.str ns), some (.ref od), none, none, none].set 9 (some (.str wd))).set 10 (some (.int way)) := ⟨_, rfl⟩
    have s3 : σ9[3]? = some (some (.ref wl)) := by rw [hσ9]; rfl
    have s4 : σ9[4]? = some (some (.int (k : Nat))) := by rw [hσ9]; rfl
    have s9 : σ9[9]? = some (some (.str wd)) := by rw [hσ9]; rfl
    have z1 : ∀ w ∈ W.take k, ∀ c ∈ w.cps.toList, c < 1000 := fun w hw => hWz w (List.mem_of_mem_take hw)
    have z2 : ∀ j, ∀ w ∈ W.drop j, ∀ c ∈ w.cps.toList, c < 1000 := fun j w hw => hWz w (List.mem_of_mem_drop hw)
    have zw : ∀ w ∈ [wd], ∀ c ∈ w.cps.toList, c < 1000 := fun w hw => by
      rw [List.mem_singleton.mp hw]
      exact tbw.ok
    have za : ∀ {a b : List Str}, (∀ w ∈ a, ∀ c ∈ w.cps.toList, c < 1000) → (∀ w ∈ b, ∀ c ∈ w.cps.toList, c < 1000) → ∀ w ∈ a ++ b, ∀ c ∈ w.cps.toList, c < 1000 := fun ha hb w hw => (List.mem_append.mp hw).elim (ha w) (hb w)
    have wt1 : wtS [wd] ≤ 4501 := by
      show wd.length + 1 + 0 ≤ 4501
      have := tbw.len
      omega
    have td := wtS_td W k
    have td1 := wtS_td (W.drop k) 1
    rw [List.drop_drop] at td1
    have ln : ∀ (a : List Str), a.length ≤ wtS a := fun a => by have := wtS_len a; omega
    have l1 := ln (W.take k)
    have l2 := ln (W.drop k)
    have l3 := ln (W.drop (k + 1))
    have l4 := ln ((W.drop k).take 1)
    have lw : [wd].length = 1 := rfl
    refine ⟨_, rfl, way, 2, rfl, rfl, _, rfl, ite2 (fun _ => ?_) (fun _ => ?_)⟩
    · show tRet (tM1 _ _ _) _ _ _
      rw [← hσ9]
      refine LsE.join (((LsE.to s3 s4).cat (LsE.dis s9) (by omega)).cat (LsE.of1 s3 s4 hk) (by rw [List.length_append]; omega)) ?_ hw9 fun H' sm => fin _ H' ?_ (za (za z1 zw) (z2 _)) sm
      · rw [wtS_app, wtS_app]; omega
      · rw [wtS_app, wtS_app]; omega
    refine ⟨_, rfl, rfl, _, rfl, ite2 (fun _ => ?_) (fun _ => ?_)⟩
    · show tRet (tM1 _ _ _) _ _ _
      rw [← hσ9]
      refine LsE.join (((LsE.to s3 s4).cat (LsE.dis s9) (by omega)).cat (LsE.of s3 s4 (Nat.le_of_lt hk)) (by rw [List.length_append]; omega)) ?_ hw9 fun H' sm => fin _ H' ?_ (za (za z1 zw) (z2 _)) sm
      · rw [wtS_app, wtS_app]; omega
      · rw [wtS_app, wtS_app]; omega
    refine ⟨_, rfl, rfl, _, rfl, ite2 (fun _ => ?_) (fun _ => ?_)⟩
    · show tRet (tM1 _ _ _) _ _ _
      rw [← hσ9]
      refine LsE.join ((LsE.v s3).cat (LsE.dis s9) (by have := ln W; omega)) ?_ hw9 fun H' sm => fin _ H' ?_ (za hWz zw) sm
      · rw [wtS_app]; omega
      · rw [wtS_app]; omega
    refine ⟨_, rfl, rfl, _, rfl, ite2 (fun _ => ?_) (fun _ => ?_)⟩
    · show tRet (tM1 _ _ _) _ _ _
      rw [← hσ9]
      refine LsE.join (((LsE.to s3 s4).cat (LsE.of1 s3 s4 hk) (by omega)).cat (LsE.one s3 s4 (Nat.le_of_lt hk)) (by rw [List.length_append]; omega)) ?_ hw9 fun H' sm => fin _ H' ?_ (za (za z1 (z2 _)) fun w hw => z2 k w (List.mem_of_mem_take hw)) sm
      · rw [wtS_app, wtS_app]; omega
      · rw [wtS_app, wtS_app]; omega
    unfold tNext
    dsimp only
    rw [← hσ9]
    unfold tSeq tAsg tLst
    unfold tCons
    have s0 : σ9[0]? = some (some (.ref b)) := by rw [hσ9]; rfl
    have s2 : σ9[2]? = some (some (tx l)) := by rw [hσ9]; rfl
    have tbl2 : Tbd l.length (txS l) := Tbd.tx (Nat.le_refl _) hlz
    have tbb : Tbd 1 (Str.ofString " ") := ⟨by decide, by decide +kernel⟩
    have r1 := rep1_at (x := txS l) (y := Str.ofString " ") (z := Str.ofString "  ") (by decide)
    have tbr : Tbd (l.length + 2) (rep1 (txS l) (Str.ofString " ") (Str.ofString "  ")) := by
      refine ⟨Nat.le_trans r1.1 ?_, fun x hx => ?_⟩
      · rw [hsz]
        exact Nat.le_refl _
      · rcases r1.2 x hx with z | z
        · exact tbl2.ok x z
        · have : ∀ y ∈ (Str.ofString "  ").cps.toList, y < 1000 := by decide +kernel
          exact this x z
    refine LsE.join ((LsE.to s3 s4).cat (LsE.of1 s3 s4 hk) (by omega)) ?_ hw9 fun H' sm => ?_
    · rw [wtS_app]; omega
    have tj := join_tb (za z1 (z2 (k + 1)))
    have wj : wtS (W.take k ++ W.drop (k + 1)) ≤ l.length + 1 := by rw [wtS_app]; omega
    generalize Txt.join (Str.ofString " ") (W.take k ++ W.drop (k + 1)) = j1 at tj ⊢
    refine ⟨_, s2, _, _, rfl, rfl, by show l.toArray.size + 1 ≤ sizeLine; simp; omega, _, s2, _, _, rfl, rfl, by show 1 + l.toArray.size ≤ sizeLine; simp; omega, _, s2, _, rfl, by show l.toArray.size + 2 ≤ 16000000; simp; omega, (by show 4 ≤ sizeLine; omega), fun sm2 nsm => ?_⟩
    have hall : ∀ w ∈ [j1, txS l ++ Str.ofString " ", Str.ofString " " ++ txS l, rep1 (txS l) (Str.ofString " ") (Str.ofString "  ")], Tbd (l.length + 2) w := by
      refine allC (tj.mono (by omega)) (allC ((tbl2.app tbb).mono (by omega)) (allC ((tbb.app tbl2).mono (by omega)) (all1 tbr)))
    have hls : (upd H' sm2 (.lst [V.str j1, V.str ((⟨l.toArray⟩ : Str) ++ Str.ofString " "), V.str (Str.ofString " " ++ (⟨l.toArray⟩ : Str)), V.str (rep1 ⟨l.toArray⟩ (Str.ofString " ") (Str.ofString "  "))])) sm2 = some (.lst ([j1, txS l ++ Str.ofString " ", Str.ofString " " ++ txS l, rep1 (txS l) (Str.ofString " ") (Str.ofString "  ")].map V.str)) := upd_same
    have hB10 : Bag b bl H' := hB9.same sm
    have kp10 : Kp b H H' := kp09.trans fun a o _ e => sm a o e
    have nsb := (hB10.ne nsm).1
    have kpN := kp10.new nsm (o := .lst [V.str j1, V.str ((⟨l.toArray⟩ : Str) ++ Str.ofString " "), V.str (Str.ofString " " ++ (⟨l.toArray⟩ : Str)), V.str (rep1 ⟨l.toArray⟩ (Str.ofString " ") (Str.ofString "  "))])
    have hBN := hB10.new nsm (o := .lst [V.str j1, V.str ((⟨l.toArray⟩ : Str) ++ Str.ofString " "), V.str (Str.ofString " " ++ (⟨l.toArray⟩ : Str)), V.str (rep1 ⟨l.toArray⟩ (Str.ofString " ") (Str.ofString "  "))])
    generalize upd H' sm2 (.lst [V.str j1, V.str ((⟨l.toArray⟩ : Str) ++ Str.ofString " "), V.str (Str.ofString " " ++ (⟨l.toArray⟩ : Str)), V.str (rep1 ⟨l.toArray⟩ (Str.ofString " ") (Str.ofString "  "))]) = HN at hls kpN hBN ⊢
    generalize hts : [j1, txS l ++ Str.ofString " ", Str.ofString " " ++ txS l, rep1 (txS l) (Str.ofString " ") (Str.ofString "  ")] = ts at hall hls
    have htl : (ts.map V.str).length = 4 := by rw [← hts]; rfl
    rw [hσ9]
    refine ⟨.ref sm2, rfl, .ref b, rfl, b, bl, 4, rfl, hBN, by decide, by decide, fun i5 H11 kp11 hB11 i50 i51 => ?_⟩
    obtain ⟨ve, hve, heat⟩ := at_memZ (vs := ts.map V.str) (i := i5) (by omega) (by omega)
    obtain ⟨we, hwe, rfl⟩ := List.mem_map.mp hve
    have tbe := hall we hwe
    refine ⟨sm2, _, i5, .str we, rfl, rfl, .inl (.inl (kp11 _ _ nsb hls)), heat, ?_⟩
    rw [str_eta we]
    refine q _ H11 (kpN.trans kp11) hB11 ?_ tbe.ok
    have e : we.cps.toList.length = we.length := by simp [Str.length]
    have := tbe.len
    omega

/-! ### _law_sign_spoilt -/
def spLspoilt (K : PySem.W.Frag) : Sp := fun vs H Q _ => ∃ (b bl : Addr) (l : List Nat), vs = [.ref b, tx l] ∧ Bag b bl H ∧ l.length ≤ 45000 ∧ (∀ c ∈ l, c < 1000) ∧
  ∀ (l' : List Nat) (H' : Hp), Kp b H H' → Bag b bl H' → l'.length ≤ l.length + 1 → (∀ c ∈ l', c < 1000) → Q (tx l') H'
set_option maxHeartbeats 2000000 in
theorem ok_lspoilt (T : Tx K mg Z) : FnOk P w K mg base CX0 3 Z.f_l_sign_spoilt Z.d_l_sign_spoilt ["bag", "text"] (spLspoilt K) := by
  have G_l_lot : FnOk P w K mg base CX0 1 Z.f_l_lot Z.d_l_lot ["bag", "many"] (spLot K) := ok_lot T
  refine T.F_l_sign_spoilt.ok sc_l_sign_spoilt (fun vs H Q E h => ?_) (fun cdv A outer s H vs Q E hr h => ?_)
  · obtain ⟨b, bl, l, rfl, _⟩ := h
    rfl
  · obtain ⟨b, bl, l, rfl, hB, hll, hlz, q⟩ := h
    refine ⟨_, (pss_cons (ps_set (i := 2) sc_l_sign_spoilt.nd rfl (.inl rfl) (pe_call G_l_lot (hr.mono (by omega)) (by rfl) T.g_l_lot T.F_l_lot.kp T.b_l_lot .nil pass0 (pa_cons (pv 0) (pa_cons (pe_op op_add (pe_callB call_len_str (by rfl) T.m_len (by decide +kernel) (pa_cons (pv 1) pa_nil)) pe_int) pa_nil))))
      (pss_cons (ps_set (i := 3) sc_l_sign_spoilt.nd rfl (.inl rfl) pe_str)
      (pss_mid (ps_if (pt_cmpR op_eq (pe_call G_l_lot (hr.mono (by omega)) (by rfl) T.g_l_lot T.F_l_lot.kp T.b_l_lot .nil pass0 (pa_cons (pv 0) (pa_cons pe_int pa_nil))) pe_int (nomark _)) (pss_cons (ps_set (i := 3) sc_l_sign_spoilt.nd rfl (.inl rfl) pe_str)
      (pss_one (ps_set (i := 3) sc_l_sign_spoilt.nd rfl (.inl rfl) (pe_op op_add_str (pv 3) pe_str)))) pss_nil)
      (pss_cons (ps_set (i := 4) sc_l_sign_spoilt.nd rfl (.inl rfl) (pe_ix ix_str (pv 3) (pe_call G_l_lot (hr.mono (by omega)) (by rfl) T.g_l_lot T.F_l_lot.kp T.b_l_lot .nil pass0 (pa_cons (pv 0) (pa_cons (pe_callB call_len_str (by rfl) T.m_len (by decide +kernel) (pa_cons (pv 3) pa_nil)) pa_nil))) (fun _ _ => rfl)))
      (pss_one (ps_ret (pe_op op_add_str (pe_op op_add_str (pe_slice sl_str (pv 1) po_none (po_some (pv 2))) (pe_ix (ixL K) (pe_lst (pa_cons (pv 4) (pa_cons (pv 4) (pa_cons pe_str pa_nil)))) (pe_call G_l_lot (hr.mono (by omega)) (by rfl) T.g_l_lot T.F_l_lot.kp T.b_l_lot .nil pass0 (pa_cons (pv 0) (pa_cons pe_int pa_nil))) (fun _ _ => rfl))) (pe_slice sl_str (pv 1) (po_some (pe_op op_add (pv 2) (pe_call G_l_lot (hr.mono (by omega)) (by rfl) T.g_l_lot T.F_l_lot.kp T.b_l_lot .nil pass0 (pa_cons (pv 0) (pa_cons pe_int pa_nil))))) po_none)))))))), ?_⟩
    have line : (4665600 : Nat) < sizeLine := by rw [sizeLine_eq]; decide
    have hsz : (⟨l.toArray⟩ : Str).length = l.length := by simp [Str.length]
    refine ⟨.ref b, rfl, tx l, rfl, _, rfl, by rw [hsz]; omega, _, _, rfl, rfl, b, bl, _, rfl, hB, by rw [hsz]; omega, by rw [hsz]; omega, fun i0 H1 kp1 hB1 i00 i01 => ?_⟩
    rw [hsz] at i01
    obtain ⟨k, rfl⟩ : ∃ k : Nat, i0 = (k : Int) := ⟨i0.toNat, by omega⟩
    refine ⟨fun σ G => ∃ sg0 : Str, σ = [some (.ref b), some (tx l), some (.int (k : Nat)), some (.str sg0), none] ∧ Kp b H G ∧ Bag b bl G ∧ 0 < sg0.length ∧ sg0.length ≤ 1000 ∧ ∀ c ∈ sg0.cps.toList, c < 1000, ?_, fun σ G hM => ?_⟩
    · refine ⟨.ref b, rfl, b, bl, 3, rfl, hB1, by decide, by decide, fun i1 H2 kp2 hB2 _ _ => ⟨rfl, _, rfl, ite2 (fun _ => ?_) (fun _ => ?_)⟩⟩
      · refine ⟨_, rfl, _, _, rfl, rfl, by decide +kernel, ?_⟩
        exact ⟨_, rfl, kp1.trans kp2, hB2, by decide +kernel, by decide +kernel, by decide +kernel⟩
      · exact ⟨_, rfl, kp1.trans kp2, hB2, by decide +kernel, by decide +kernel, by decide +kernel⟩
    obtain ⟨sg0, rfl, kpG, hBG, g0, g1, g2⟩ := hM
    refine ⟨.str sg0, rfl, .ref b, rfl, .str sg0, rfl, sg0, rfl, by omega, b, bl, _, rfl, hBG, by omega, by omega, fun i2 H3 kp3 hB3 i20 i21 => ?_⟩
    have hs0 : sg0.cps.toList.length = sg0.length := by simp [Str.length]
    obtain ⟨c, hcm, hcat⟩ := at_memZ (vs := sg0.cps.toList) (i := i2) (by omega) (by omega)
    have hc := g2 c hcm
    refine ⟨sg0, i2, c, rfl, rfl, by omega, hcat, ?_⟩
    have kp03 := kpG.trans kp3
    refine ⟨tx l, rfl, _, rfl, _, rfl, _, rfl, by rw [hsz]; omega, _, rfl, _, rfl, (by show 3 ≤ sizeLine; omega), fun L nL => ⟨.ref b, rfl, b, bl, 3, rfl, hB3.new nL, by decide, by decide, fun i3 H4 kp4 hB4 i30 i31 => ?_⟩⟩
    have nLb := (hB3.ne nL).1
    have hL : H4 L = some (.lst ([sS c, sS c, Str.ofString ""].map V.str)) := kp4 _ _ nLb upd_same
    have kp04 := (kp03.new (o := .lst [sg c, sg c, .str (Str.ofString "")]) nL).trans kp4
    have tbc : Tbd 1 (sS c) := ⟨Nat.le_refl _, fun x hx => by
      have : x ∈ [c] := hx
      rw [List.mem_singleton.mp this]
      exact hc⟩
    have tall : ∀ w ∈ [sS c, sS c, Str.ofString ""], Tbd 1 w := allC tbc (allC tbc (all1 ⟨by decide, by decide +kernel⟩))
    obtain ⟨ve, hve, heat⟩ := at_memZ (vs := [sS c, sS c, Str.ofString ""].map V.str) (i := i3) (by show -(3 : Int) ≤ i3; omega) (by show i3 < (3 : Int); omega)
    obtain ⟨we, hwe, rfl⟩ := List.mem_map.mp hve
    have tbe := tall we hwe
    refine ⟨L, _, i3, .str we, rfl, rfl, .inl (.inl hL), heat, ?_⟩
    have e1 : cutS ⟨l.toArray⟩ none (some ((k : Nat) : Int)) = txS (l.take k) := cut_take l k
    rw [e1]
    have t1 : Tbd (l.take k).length (txS (l.take k)) := Tbd.tx (Nat.le_refl _) fun x hx => hlz x (List.mem_of_mem_take hx)
    have tl1 : (l.take k).length ≤ k := by rw [List.length_take]; omega
    refine ⟨_, _, rfl, rfl, by have := t1.len; have := tbe.len; omega, tx l, rfl, _, rfl, .ref b, rfl, b, bl, 2, rfl, hB4, by decide, by decide, fun i4 H5 kp5 hB5 i40 i41 => ⟨_, _, rfl, rfl, ?_⟩⟩
    obtain ⟨j, rfl⟩ : ∃ j : Nat, i4 = (j : Int) := ⟨i4.toNat, by omega⟩
    have e2 : cutS ⟨l.toArray⟩ (some (((k : Nat) : Int) + ((j : Nat) : Int))) none = txS (l.drop (k + j)) := by
      rw [show ((k : Nat) : Int) + ((j : Nat) : Int) = ((k + j : Nat) : Int) by omega]
      exact cut_from l (k + j)
    refine ⟨_, rfl, _, rfl, by rw [hsz]; omega, ?_⟩
    rw [e2]
    have t2 : Tbd (l.drop (k + j)).length (txS (l.drop (k + j))) := Tbd.tx (Nat.le_refl _) fun x hx => hlz x (List.mem_of_mem_drop hx)
    have tl2 : (l.drop (k + j)).length ≤ l.length - k := by rw [List.length_drop]; omega
    have t12 := t1.app tbe
    refine ⟨_, _, rfl, rfl, by have := t12.len; have := t2.len; omega, ?_⟩
    have fin := t12.app t2
    rw [str_eta (txS (l.take k) ++ we ++ txS (l.drop (k + j)))]
    refine q _ H5 (kp04.trans kp5) hB5 ?_ fin.ok
    have e : (txS (l.take k) ++ we ++ txS (l.drop (k + j))).cps.toList.length = (txS (l.take k) ++ we ++ txS (l.drop (k + j))).length := by simp [Str.length]
    have := fin.len
    omega

/-! ### _law_same -/
theorem flat_bls (bs : List Bool) : (bs.map V.bl).all flatV = true := by
  rw [List.all_eq_true]
  intro v hv
  obtain ⟨c, _, rfl⟩ := List.mem_map.mp hv
  rfl
def spSameG (n : Nat) (K : PySem.W.Frag) : Sp := fun vs H Q _ => ∃ (v u : V) (d : PyData), vs = [v, u] ∧ Fg H v d ∧ Fg H u d ∧ d.depth < n ∧ wd d ≤ 1000 ∧ ∀ (H' : Hp), Same H H' → Q (.bl true) H'
theorem ok_sameg (T : Tx K mg Z) : ∀ n, FnOk P w K mg base CX0 n Z.f_l_same Z.d_l_same ["found", "due"] (spSameG n K) := by
  intro n
  induction n with
  | zero => exact ⟨fun vs H Q E h => by
      obtain ⟨v, u, d, rfl, _⟩ := h
      rfl, fun A outer s H args us vs Q E _ _ _ _ h => by
      obtain ⟨v, u, d, _, _, _, hd, _⟩ := h
      exact absurd hd (Nat.not_lt_zero _)⟩
  | succ n G_l_same =>
    refine T.F_l_same.ok sc_l_same (fun vs H Q E h => ?_) (fun cdv A outer s H vs Q E hr h => ?_)
    · obtain ⟨v, u, d, rfl, _⟩ := h
      rfl
    · obtain ⟨v, u, d, rfl, fv, fu, hd, hw, q⟩ := h
      refine ⟨_, (pss_cons (ps_if (pt_cmpR op_isN (pv 1) pe_non (nomark _)) (pss_one (ps_ret (pe_cmpR op_isN (pv 0) pe_non (nomark _)))) pss_nil)
      (pss_cons (ps_if (pt_val (pe_callB (isiK K) (by rfl) T.m_isinstance (by decide +kernel) (pa_cons (pv 1) (pa_cons (pe_bltn (v := .ty "str") (by rfl) T.m_str (by decide +kernel) rfl) pa_nil)))) (pss_one (ps_ret (pe_and (pe_callB (isiK K) (by rfl) T.m_isinstance (by decide +kernel) (pa_cons (pv 0) (pa_cons (pe_bltn (v := .ty "str") (by rfl) T.m_str (by decide +kernel) rfl) pa_nil))) (pe_one (pe_cmpR op_eq (pv 0) (pv 1) (nomark _)))))) pss_nil)
      (pss_cons (ps_if (pt_val (pe_callB (isiK K) (by rfl) T.m_isinstance (by decide +kernel) (pa_cons (pv 1) (pa_cons (pe_bltn (v := .ty "int") (by rfl) T.m_int (by decide +kernel) rfl) pa_nil)))) (pss_one (ps_ret (pe_and (pe_callB (isiK K) (by rfl) T.m_isinstance (by decide +kernel) (pa_cons (pv 0) (pa_cons (pe_bltn (v := .ty "int") (by rfl) T.m_int (by decide +kernel) rfl) pa_nil))) (pe_and (pe_cmpR op_eq (pe_callB (isiK K) (by rfl) T.m_isinstance (by decide +kernel) (pa_cons (pv 0) (pa_cons (pe_bltn (v := .ty "bool") (by rfl) T.m_bool (by decide +kernel) rfl) pa_nil))) (pe_callB (isiK K) (by rfl) T.m_isinstance (by decide +kernel) (pa_cons (pv 1) (pa_cons (pe_bltn (v := .ty "bool") (by rfl) T.m_bool (by decide +kernel) rfl) pa_nil))) (nomark _)) (pe_one (pe_cmpR op_eq (pv 0) (pv 1) (nomark _))))))) pss_nil)
      (pss_cons (ps_if (pt_cmpR op_ne (pe_callB (isiK K) (by rfl) T.m_isinstance (by decide +kernel) (pa_cons (pv 1) (pa_cons (pe_bltn (v := .ty "tuple") (by rfl) T.m_tuple (by decide +kernel) rfl) pa_nil))) (pe_callB (isiK K) (by rfl) T.m_isinstance (by decide +kernel) (pa_cons (pv 0) (pa_cons (pe_bltn (v := .ty "tuple") (by rfl) T.m_tuple (by decide +kernel) rfl) pa_nil))) (nomark _)) (pss_one (ps_ret pe_bl)) pss_nil)
      (pss_cons (ps_if (pt_cmpR op_ne (pe_callB (isiK K) (by rfl) T.m_isinstance (by decide +kernel) (pa_cons (pv 1) (pa_cons (pe_bltn (v := .ty "list") (by rfl) T.m_list (by decide +kernel) rfl) pa_nil))) (pe_callB (isiK K) (by rfl) T.m_isinstance (by decide +kernel) (pa_cons (pv 0) (pa_cons (pe_bltn (v := .ty "list") (by rfl) T.m_list (by decide +kernel) rfl) pa_nil))) (nomark _)) (pss_one (ps_ret pe_bl)) pss_nil)
      (pss_cons (ps_if (pt_cmpR op_ne (pe_callB (cLenSq K) (by rfl) T.m_len (by decide +kernel) (pa_cons (pv 0) pa_nil)) (pe_callB (cLenSq K) (by rfl) T.m_len (by decide +kernel) (pa_cons (pv 1) pa_nil)) (nomark _)) (pss_one (ps_ret pe_bl)) pss_nil)
      (pss_one (ps_ret (pe_cmpR (notInSq K) pe_bl (pe_lc (own := [("one", 2), ("other", 3)]) (tt := tYes) (by rfl) sc_l_same.nd (zipAK K (by rfl) T.m_zip (pa_cons (pv 0) (pa_cons (pv 1) pa_nil))) (blkOk_by (own := [("one", 2), ("other", 3)]) (by kernel_rfl)) (fun _ _ _ _ _ => (pgT K (n := 2) (pgs_cons (pg_name (i := 2) sc_l_same.nd rfl (.inl rfl)) (pgs_cons (pg_name (i := 3) sc_l_same.nd rfl (.inl rfl)) pgs_nil)))) (fun _ _ _ _ _ => pts_nil) (fun _ _ _ _ _ => (pe_call G_l_same (hr.mono (by omega)) (by rfl) T.g_l_same T.F_l_same.kp T.b_l_same .nil pass0 (pa_cons (pv 2) (pa_cons (pv 3) pa_nil))))) (by rfl)))))))))), ?_⟩
      cases d with
      | none =>
        obtain rfl : v = .non := by
          cases fv
          rfl
        obtain rfl : u = .non := by
          cases fu
          rfl
        refine ⟨.non, rfl, rfl, _, rfl, ite2 (fun _ => ?_) (fun z => ?_)⟩
        · refine ⟨.non, rfl, rfl, ?_⟩
          rw [decide_eq_true rfl]
          exact q _ (Same.refl H)
        · exact absurd (decide_eq_true rfl) z
      | str x =>
        obtain rfl : v = .str x := by
          cases fv
          rfl
        obtain rfl : u = .str x := by
          cases fu
          rfl
        refine ⟨.str x, rfl, rfl, _, rfl, ite2 (fun z => absurd (of_decide_eq_true z) (fun y => nomatch y)) (fun _ => ?_)⟩
        refine ⟨.str x, rfl, .str x, .ty "str", _, _, isSt (.str x), rfl, .ty _, ty_fg fu, kit_st _, _, rfl, ite2 (fun _ => ?_) (fun z => absurd rfl z)⟩
        refine ⟨.str x, rfl, .str x, .ty "str", _, _, isSt (.str x), rfl, .ty _, ty_fg fv, kit_st _, _, rfl, ite2 (fun _ => ?_) (fun z => absurd rfl z)⟩
        refine ⟨.str x, rfl, .str x, rfl, rfl, ?_⟩
        rw [decide_eq_true rfl]
        exact q _ (Same.refl H)
      | int i =>
        obtain rfl : v = .int i := by
          cases fv
          rfl
        obtain rfl : u = .int i := by
          cases fu
          rfl
        refine ⟨.int i, rfl, rfl, _, rfl, ite2 (fun z => absurd (of_decide_eq_true z) (fun y => nomatch y)) (fun _ => ?_)⟩
        refine ⟨.int i, rfl, .int i, .ty "str", _, _, isSt (.int i), rfl, .ty _, ty_fg fu, kit_st _, _, rfl, ite2 (fun z => nomatch z) (fun _ => ?_)⟩
        refine ⟨.int i, rfl, .int i, .ty "int", _, _, isIn (.int i), rfl, .ty _, ty_fg fu, kit_in _, _, rfl, ite2 (fun _ => ?_) (fun z => absurd rfl z)⟩
        refine ⟨.int i, rfl, .int i, .ty "int", _, _, isIn (.int i), rfl, .ty _, ty_fg fv, kit_in _, _, rfl, ite2 (fun _ => ?_) (fun z => absurd rfl z)⟩
        refine ⟨.int i, rfl, .int i, .ty "bool", _, _, isBl (.int i), rfl, .ty _, ty_fg fv, kit_bl _, .int i, rfl, .int i, .ty "bool", _, _, isBl (.int i), rfl, .ty _, ty_fg fu, kit_bl _, rfl, _, rfl, ite2 (fun _ => ?_) (fun z => absurd (decide_eq_true rfl) z)⟩
        refine ⟨.int i, rfl, .int i, rfl, rfl, ?_⟩
        rw [decide_eq_true rfl]
        exact q _ (Same.refl H)
      | bool c =>
        obtain rfl : v = .bl c := by
          cases fv
          rfl
        obtain rfl : u = .bl c := by
          cases fu
          rfl
        refine ⟨.bl c, rfl, rfl, _, rfl, ite2 (fun z => absurd (of_decide_eq_true z) (fun y => nomatch y)) (fun _ => ?_)⟩
        refine ⟨.bl c, rfl, .bl c, .ty "str", _, _, isSt (.bool c), rfl, .ty _, ty_fg fu, kit_st _, _, rfl, ite2 (fun z => nomatch z) (fun _ => ?_)⟩
        refine ⟨.bl c, rfl, .bl c, .ty "int", _, _, isIn (.bool c), rfl, .ty _, ty_fg fu, kit_in _, _, rfl, ite2 (fun _ => ?_) (fun z => absurd rfl z)⟩
        refine ⟨.bl c, rfl, .bl c, .ty "int", _, _, isIn (.bool c), rfl, .ty _, ty_fg fv, kit_in _, _, rfl, ite2 (fun _ => ?_) (fun z => absurd rfl z)⟩
        refine ⟨.bl c, rfl, .bl c, .ty "bool", _, _, isBl (.bool c), rfl, .ty _, ty_fg fv, kit_bl _, .bl c, rfl, .bl c, .ty "bool", _, _, isBl (.bool c), rfl, .ty _, ty_fg fu, kit_bl _, rfl, _, rfl, ite2 (fun _ => ?_) (fun z => absurd (decide_eq_true rfl) z)⟩
        refine ⟨.bl c, rfl, .bl c, rfl, rfl, ?_⟩
        rw [decide_eq_true rfl]
        exact q _ (Same.refl H)
      | list ds =>
        obtain ⟨va, xs, rfl, hva, fxs⟩ : ∃ (va : Addr) (xs : List V), v = .ref va ∧ H va = some (.lst xs) ∧ FgA H xs ds := by
          cases fv with
          | lst h a => exact ⟨_, _, rfl, h, a⟩
        obtain ⟨ua, ys, rfl, hua, fys⟩ : ∃ (ua : Addr) (ys : List V), u = .ref ua ∧ H ua = some (.lst ys) ∧ FgA H ys ds := by
          cases fu with
          | lst h a => exact ⟨_, _, rfl, h, a⟩
        have lx := fxs.len
        have ly := fys.len
        have hdn : PyData.depthAll ds + 1 < n + 1 := hd
        have hwn : max ds.length (wdA ds) ≤ 1000 := hw
        have hlen : (V.int (xs.length : Nat)) = V.int (ys.length : Nat) := by rw [lx, ly]
        refine ⟨.ref ua, rfl, rfl, _, rfl, ite2 (fun z => absurd (of_decide_eq_true z) (fun y => nomatch y)) (fun _ => ?_)⟩
        refine ⟨.ref ua, rfl, .ref ua, .ty "str", _, _, isSt (.list ds), rfl, .ty _, ty_fg fu, kit_st _, _, rfl, ite2 (fun z => nomatch z) (fun _ => ?_)⟩
        refine ⟨.ref ua, rfl, .ref ua, .ty "int", _, _, isIn (.list ds), rfl, .ty _, ty_fg fu, kit_in _, _, rfl, ite2 (fun z => nomatch z) (fun _ => ?_)⟩
        refine ⟨.ref ua, rfl, .ref ua, .ty "tuple", _, _, isTp (.list ds), rfl, .ty _, ty_fg fu, kit_tp _, .ref va, rfl, .ref va, .ty "tuple", _, _, isTp (.list ds), rfl, .ty _, ty_fg fv, kit_tp _, rfl, _, rfl, iteNS rfl ?_⟩
        refine ⟨.ref ua, rfl, .ref ua, .ty "list", _, _, isLs (.list ds), rfl, .ty _, ty_fg fu, kit_ls _, .ref va, rfl, .ref va, .ty "list", _, _, isLs (.list ds), rfl, .ty _, ty_fg fv, kit_ls _, rfl, _, rfl, iteNS rfl ?_⟩
        refine ⟨.ref va, rfl, va, xs, rfl, .inl (.inl (.inl hva)), .ref ua, rfl, ua, ys, rfl, .inl (.inl (.inl hua)), rfl, _, rfl, iteNS hlen ?_⟩
        refine ⟨.ref va, rfl, .ref ua, rfl, va, ua, xs, ys, rfl, .inl ⟨.inl (.inl hva), .inl (.inl hua), fun D nD => lc_it (walk_zip (xs := xs) (ys := ys) (n := xs.length) (by omega)) (fun i H' => Same H H' ∧ H' D = some (.lst ((List.replicate i true).map V.bl)))
          ⟨Same.new (Same.refl H) nD, upd_same⟩ (fun i H' _ hP => ?_) (fun i x H3 H4 hi hP hY => ?_) (fun H3 hP => ?_)⟩⟩
        · exact ⟨.inl (.inl (hP.1 _ _ hva)), .inl (.inl (hP.1 _ _ hua))⟩
        · obtain ⟨sm3, hD3⟩ := hP
          obtain ⟨T0, x1, x2, rfl, nT, rfl, ex1, ex2⟩ := hY
          obtain ⟨d1, hd1, f1⟩ := fxs.getV ex1
          obtain ⟨d2, hd2, f2⟩ := fys.getV ex2
          rw [hd1] at hd2
          cases hd2
          have hm : d1 ∈ ds := List.mem_of_getElem? hd1
          have sm4 : Same H (upd H3 T0 (.tup [x1, x2])) := Same.new sm3 nT
          refine ⟨T0, [x1, x2], rfl, .inl (.inl upd_same), rfl, x1, [x2], rfl, x2, [], rfl, rfl, rfl, x1, rfl, x2, rfl, x1, x2, d1, rfl, Fg.mono sm4 _ _ f1, Fg.mono sm4 _ _ f2, ?_, ?_, fun H5 sm5 => ?_⟩
          · have := depA_mem hm
            omega
          · have := wdA_mem hm
            omega
          · refine ⟨_, sm5 _ _ (keep_new hD3 nT), ?_, Same.mut (Same.trans (Same.new sm3 nT) sm5) nD, ?_⟩
            · rw [List.length_map, List.length_replicate]
              exact small1000 (by omega)
            · rw [upd_same, List.replicate_succ', List.map_append]
              rfl
        · obtain ⟨sm3, hD3⟩ := hP
          refine ⟨D, _, rfl, .inl (.inl (.inl hD3)), rfl, flat_bls _, ?_⟩
          have ea : inV (.bl false) ((List.replicate xs.length true).map V.bl) = false := by
            rw [inV_no]
            simp
          show Q (.bl (!inV (.bl false) ((List.replicate xs.length true).map V.bl))) H3
          rw [ea]
          exact q _ sm3
      | tuple ds =>
        obtain ⟨va, xs, rfl, hva, fxs⟩ : ∃ (va : Addr) (xs : List V), v = .ref va ∧ Rd H va (.tup xs) ∧ FgA H xs ds := by
          cases fv with
          | tup h a => exact ⟨_, _, rfl, h, a⟩
        obtain ⟨ua, ys, rfl, hua, fys⟩ : ∃ (ua : Addr) (ys : List V), u = .ref ua ∧ Rd H ua (.tup ys) ∧ FgA H ys ds := by
          cases fu with
          | tup h a => exact ⟨_, _, rfl, h, a⟩
        have lx := fxs.len
        have ly := fys.len
        have hdn : PyData.depthAll ds + 1 < n + 1 := hd
        have hwn : max ds.length (wdA ds) ≤ 1000 := hw
        have hlen : (V.int (xs.length : Nat)) = V.int (ys.length : Nat) := by rw [lx, ly]
        refine ⟨.ref ua, rfl, rfl, _, rfl, ite2 (fun z => absurd (of_decide_eq_true z) (fun y => nomatch y)) (fun _ => ?_)⟩
        refine ⟨.ref ua, rfl, .ref ua, .ty "str", _, _, isSt (.tuple ds), rfl, .ty _, ty_fg fu, kit_st _, _, rfl, ite2 (fun z => nomatch z) (fun _ => ?_)⟩
        refine ⟨.ref ua, rfl, .ref ua, .ty "int", _, _, isIn (.tuple ds), rfl, .ty _, ty_fg fu, kit_in _, _, rfl, ite2 (fun z => nomatch z) (fun _ => ?_)⟩
        refine ⟨.ref ua, rfl, .ref ua, .ty "tuple", _, _, isTp (.tuple ds), rfl, .ty _, ty_fg fu, kit_tp _, .ref va, rfl, .ref va, .ty "tuple", _, _, isTp (.tuple ds), rfl, .ty _, ty_fg fv, kit_tp _, rfl, _, rfl, iteNS rfl ?_⟩
        refine ⟨.ref ua, rfl, .ref ua, .ty "list", _, _, isLs (.tuple ds), rfl, .ty _, ty_fg fu, kit_ls _, .ref va, rfl, .ref va, .ty "list", _, _, isLs (.tuple ds), rfl, .ty _, ty_fg fv, kit_ls _, rfl, _, rfl, iteNS rfl ?_⟩
        refine ⟨.ref va, rfl, va, xs, rfl, .inr (.inl hva), .ref ua, rfl, ua, ys, rfl, .inr (.inl hua), rfl, _, rfl, iteNS hlen ?_⟩
        refine ⟨.ref va, rfl, .ref ua, rfl, va, ua, xs, ys, rfl, .inr ⟨.inl hva, .inl hua, fun D nD => lc_it (walk_zipT (xs := xs) (ys := ys) (n := xs.length) rfl (by omega)) (fun i H' => Same H H' ∧ H' D = some (.lst ((List.replicate i true).map V.bl)))
          ⟨Same.new (Same.refl H) nD, upd_same⟩ (fun i H' _ hP => ?_) (fun i x H3 H4 hi hP hY => ?_) (fun H3 hP => ?_)⟩⟩
        · exact ⟨.inl (Rd.mono hP.1 hva), .inl (Rd.mono hP.1 hua)⟩
        · obtain ⟨sm3, hD3⟩ := hP
          obtain ⟨T0, x1, x2, rfl, nT, rfl, ex1, ex2⟩ := hY
          obtain ⟨d1, hd1, f1⟩ := fxs.getV ex1
          obtain ⟨d2, hd2, f2⟩ := fys.getV ex2
          rw [hd1] at hd2
          cases hd2
          have hm : d1 ∈ ds := List.mem_of_getElem? hd1
          have sm4 : Same H (upd H3 T0 (.tup [x1, x2])) := Same.new sm3 nT
          refine ⟨T0, [x1, x2], rfl, .inl (.inl upd_same), rfl, x1, [x2], rfl, x2, [], rfl, rfl, rfl, x1, rfl, x2, rfl, x1, x2, d1, rfl, Fg.mono sm4 _ _ f1, Fg.mono sm4 _ _ f2, ?_, ?_, fun H5 sm5 => ?_⟩
          · have := depA_mem hm
            omega
          · have := wdA_mem hm
            omega
          · refine ⟨_, sm5 _ _ (keep_new hD3 nT), ?_, Same.mut (Same.trans (Same.new sm3 nT) sm5) nD, ?_⟩
            · rw [List.length_map, List.length_replicate]
              exact small1000 (by omega)
            · rw [upd_same, List.replicate_succ', List.map_append]
              rfl
        · obtain ⟨sm3, hD3⟩ := hP
          refine ⟨D, _, rfl, .inl (.inl (.inl hD3)), rfl, flat_bls _, ?_⟩
          have ea : inV (.bl false) ((List.replicate xs.length true).map V.bl) = false := by
            rw [inV_no]
            simp
          show Q (.bl (!inV (.bl false) ((List.replicate xs.length true).map V.bl))) H3
          rw [ea]
          exact q _ sm3
      | dict kv => cases fv

/-! ### a bag beside tables -/
theorem Bag.sx {b bl : Addr} {Ps : List Addr} {H H' : Hp} (h : Bag b bl H) (t : TG Ps H) (s : Sx Ps H H') : Bag b bl H' := by
  obtain ⟨ns, k, n, e, h1, h2⟩ := h
  exact ⟨ns, k, n, e, s _ _ (t.not h1 fun q z => nomatch z) h1, s _ _ (t.not h2 fun q z => nomatch z) h2⟩
theorem TG.kb {b bl : Addr} {Ps : List Addr} {H H' : Hp} (t : TG Ps H) (h : Bag b bl H) (k : Kp b H H') : TG Ps H' := by
  obtain ⟨ns, m, n, e, h1, h2⟩ := h
  exact t.kp h1 k
theorem tab_kb {b bl P : Addr} {q : Str} {H H' : Hp} (t : LamX.TabS H P q) (h : Bag b bl H) (k : Kp b H H') : LamX.TabS H' P q := by
  obtain ⟨ns, m, n, e, h1, h2⟩ := h
  obtain ⟨ps, g1, g2, g3⟩ := t
  refine ⟨ps, k _ _ (fun z => by rw [z, h1] at g1; cases g1) g1, g2, fun pos cv e => ?_⟩
  obtain ⟨c, e1, e2⟩ := g3 pos cv e
  exact ⟨c, e1, k _ _ (fun z => by
    rw [z, h1] at e2
    have e3 := Option.some.inj e2
    unfold LamX.CodeO at e3
    cases e3) e2⟩

/-! ### the law -/
theorem wQ_len (es : List (Nat × Int)) (rc : Option (Nat × Int × Int)) : (wordsQ es rc).length ≤ es.length + 1 := by
  unfold wordsQ
  rw [List.length_append, List.length_map]
  cases rc with
  | none => show es.length + 0 ≤ _; omega
  | some t => exact Nat.le_refl _
theorem okS_cols {cols : List Nat} {es : List (Nat × Int)} {rc : Option (Nat × Int × Int)} (hok : QOk cols es rc) (haz : ∀ c ∈ cols, c ≤ 122) : ∀ w ∈ wordsQ es rc, ∀ c ∈ w.cps.toList, c < 1000 := fun w hw => by
  have nat : ∀ {n : Int}, 0 ≤ n → n < 1000 → ∀ c ∈ (natS n).cps.toList, c < 1000 := fun {n} h0 h1 => by
    have : ∀ k : Nat, k < 1000 → ∀ c ∈ (natS (k : Int)).cps.toList, c < 1000 := by decide +kernel
    have := this n.toNat (by omega)
    rwa [show ((n.toNat : Nat) : Int) = n by omega] at this
  rcases List.mem_append.mp hw with z | z
  · obtain ⟨p, hp, rfl⟩ := List.mem_map.mp z
    obtain ⟨hm, h0, h1⟩ := hok.ok p hp
    rw [word_eq]
    intro c hc
    rcases List.mem_cons.mp hc with rfl | hc
    · have := haz _ hm; omega
    · rcases List.mem_cons.mp hc with rfl | hc
      · decide
      · exact nat h0 h1 c hc
  · cases rc with
    | none => cases z
    | some t =>
      obtain ⟨c0, lo, hi⟩ := t
      obtain ⟨hm, _, h0, hlh, h1⟩ := hok.rc c0 lo hi rfl
      have ew : w = wordR (c0, lo, hi) := List.mem_singleton.mp z
      rw [ew, word_rc]
      intro c hc
      rcases List.mem_cons.mp hc with rfl | hc
      · have := haz _ hm; omega
      · rcases List.mem_cons.mp hc with rfl | hc
        · decide
        · rcases List.mem_append.mp hc with hc | hc
          · rcases List.mem_append.mp hc with hc | hc
            · exact nat h0 (by omega) c hc
            · have : c = 46 := by simpa using hc
              omega
          · exact nat (by omega) h1 c hc
theorem join_tbd {ws : List Str} (hw : ∀ w ∈ ws, w.length ≤ 100) (hl : ws.length ≤ 30) (hz : ∀ w ∈ ws, ∀ c ∈ w.cps.toList, c < 1000) : Tbd 4000 (joinW ws) := by
  by_cases he : ws = []
  · rw [he, show joinW [] = Str.ofString "-" from if_pos rfl]
    exact ⟨by decide, by decide +kernel⟩
  · rw [show joinW ws = Txt.join (Str.ofString " ") ws from if_neg he]
    refine (join_tb hz).mono ?_
    have h1 := sum_lens hw
    have h2 := wtS_len ws
    omega
theorem wd_qn {cols : List Nat} {es : List (Nat × Int)} {rc : Option (Nat × Int × Int)} (h : QOk cols es rc) (hc : ∀ c ∈ cols, c < 1000) (hl : cols.length ≤ 26) : (qD es rc).depth < 10 ∧ wd (qD es rc) ≤ 1000 := by
  have hel : es.length ≤ 26 := Nat.le_trans h.len hl
  have key : ∀ d ∈ es.map eqD, Sh 2 1000 d ∧ wd d ≤ 1000 := fun d hd => by
    obtain ⟨p, hp, rfl⟩ := List.mem_map.mp hd
    obtain ⟨a1, a2, a3⟩ := h.ok p hp
    exact sh_eq (cols := cols) (hc _ a1) a2 a3
  have hml : (es.map eqD).length = es.length := List.length_map ..
  obtain ⟨t, x⟩ := sh_rc h hc
  have s := (Sh.tup fun d hd => (key d hd).1).dp
  have h2 := t.dp
  have := wdA_le fun d hd => (key d hd).2
  refine ⟨?_, ?_⟩
  · simp only [PyData.depth, PyData.depthAll] at s ⊢
    omega
  · show max 2 (max (max (es.map eqD).length (wdA (es.map eqD))) (max (wd (rchD rc)) 0)) ≤ 1000
    omega
theorem wd_read {cols l : List Nat} (hc : ∀ c ∈ cols, c < 1000) (hl : cols.length ≤ 26) (hq : ∀ q, readT cols l = .inr q → QOk cols q.1 q.2) : (readD (readT cols l)).depth < 10 ∧ wd (readD (readT cols l)) ≤ 1000 := by
  cases h : readT cols l with
  | inl i => exact ⟨Nat.zero_lt_succ _, Nat.zero_le _⟩
  | inr q => exact wd_qn (hq q h) hc hl
def spLaw (K : PySem.W.Frag) (Z : Ad) : Sp := fun vs H Q _ => ∃ (a : Addr) (ns : List Int), vs = [.ref a] ∧ SqL K H a (ns.map V.int) ∧ ns.length ≤ 63 ∧ (∀ P ∈ Z.Ps, GxR.TabG H P) ∧ ∀ H', Q (.bl true) H'
set_option maxHeartbeats 16000000 in
theorem ok_law (T : Tx K mg Z) (TB : Tb base mg Z) : FnOk P w K mg base CX0 90 Z.f_law Z.d_law ["script"] (spLaw K Z) := by
  have G_l_bag : FnOk P w K mg base CX0 1 Z.f_l_bag Z.d_l_bag ["script"] (spBag K) := ok_bag T
  have G_l_lot : FnOk P w K mg base CX0 1 Z.f_l_lot Z.d_l_lot ["bag", "many"] (spLot K) := ok_lot T
  have G_l_table : FnOk P w K mg base CX0 3 Z.f_l_table Z.d_l_table ["bag", "most", "rows"] (spTable K) := ok_table T
  have G_l_question : FnOk P w K mg base CX0 3 Z.f_l_question Z.d_l_question ["bag", "table"] (spQuestion K) := ok_question T
  have G_l_question_text : FnOk P w K mg base CX0 2 Z.f_l_question_text Z.d_l_question_text ["question"] (spQText K) := ok_lqtext T
  have G_question_text : FnOk P w K mg base CX0 2 Z.f_question_text Z.d_question_text ["question"] (spQText K) := ok_qtext T
  have G_read_question : FnOk P w K mg base (L2.CX P w) 12 Z.f_read_question Z.d_read_question ["columns", "text"] (spReadQ K Z) := ok_readq T TB
  have G_l_same : FnOk P w K mg base CX0 10 Z.f_l_same Z.d_l_same ["found", "due"] (spSameG 10 K) := ok_sameg T 10
  have G_l_bent : FnOk P w K mg base CX0 3 Z.f_l_bent Z.d_l_bent ["bag", "columns", "text"] (spLbent50 K) := ok_lbent50 T
  have G_l_sign_spoilt : FnOk P w K mg base CX0 3 Z.f_l_sign_spoilt Z.d_l_sign_spoilt ["bag", "text"] (spLspoilt K) := ok_lspoilt T
  have G_l_told : FnOk P w K mg base CX0 13 Z.f_l_told Z.d_l_told ["columns", "text"] (spTold50 K Z) := ok_told50 T TB
  have G_l_read : FnOk P w K mg base CX0 3 Z.f_l_read Z.d_l_read ["columns", "text"] (spLread K) := ok_lread T
  refine T.F_law.ok sc_law (fun vs H Q E h => ?_) (fun cdv A outer s H vs Q E hr h => ?_)
  · obtain ⟨a, ns, rfl, _⟩ := h
    rfl
  · obtain ⟨a, ns, rfl, hS, hlen, tgA, q⟩ := h
    have tg : TG Z.Ps H := tgA
    refine ⟨_, (pss_cons (ps_set (i := 1) sc_law.nd rfl (.inl rfl) (pe_call G_l_bag (hr.mono (by omega)) (by rfl) T.g_l_bag T.F_l_bag.kp T.b_l_bag .nil pass0 (pa_cons (pv 0) pa_nil)))
      (pss_cons (ps_for PassesOwn.never rfl (pi_range1 (by rfl) T.m_range (pa_cons pe_int pa_nil)) (pg_name (i := 2) sc_law.nd rfl (.inl rfl)) (pss_cons (ps_set (i := 3) sc_law.nd rfl (.inl rfl) (pe_call G_l_table (hr.mono (by omega)) (by rfl) T.g_l_table T.F_l_table.kp T.b_l_table .nil pass0 (pa_cons (pv 1) (pa_cons pe_int (pa_cons pe_int pa_nil)))))
      (pss_cons (ps_set (i := 4) sc_law.nd rfl (.inl rfl) (pe_call G_l_question (hr.mono (by omega)) (by rfl) T.g_l_question T.F_l_question.kp T.b_l_question .nil pass0 (pa_cons (pv 1) (pa_cons (pv 3) pa_nil))))
      (pss_cons (ps_set (i := 5) sc_law.nd rfl (.inl rfl) (pe_call G_l_question_text (hr.mono (by omega)) (by rfl) T.g_l_question_text T.F_l_question_text.kp T.b_l_question_text .nil pass0 (pa_cons (pv 4) pa_nil)))
      (pss_cons (ps_if (pt_not (pt_val (pe_call G_l_same (hr.mono (by omega)) (by rfl) T.g_l_same T.F_l_same.kp T.b_l_same .nil pass0 (pa_cons (pe_call G_question_text (hr.mono (by omega)) (by rfl) T.g_question_text T.F_question_text.kp T.b_question_text .nil pass0 (pa_cons (pv 4) pa_nil)) (pa_cons (pv 5) pa_nil))))) (pss_one (ps_ret pe_bl)) pss_nil)
      (pss_cons (ps_if (pt_not (pt_val (pe_call G_l_same (hr.mono (by omega)) (by rfl) T.g_l_same T.F_l_same.kp T.b_l_same .nil pass0 (pa_cons (pe_callS G_read_question (hr.mono (by omega)) (by rfl) T.g_read_question T.F_read_question.kp T.b_read_question (fun σ => passNo σ) (pa_cons (pe_ix (ixT K) (pv 3) pe_int (fun _ _ => rfl)) (pa_cons (pv 5) pa_nil))) (pa_cons (pv 4) pa_nil))))) (pss_one (ps_ret pe_bl)) pss_nil)
      (pss_cons (ps_set (i := 6) sc_law.nd rfl (.inl rfl) (pv 5))
      (pss_one (ps_for PassesOwn.never rfl (pi_range1 (by rfl) T.m_range (pa_cons pe_int pa_nil)) (pg_name (i := 7) sc_law.nd rfl (.inl rfl)) (pss_cons (ps_set (i := 6) sc_law.nd rfl (.inl rfl) (pe_call G_l_bent (hr.mono (by omega)) (by rfl) T.g_l_bent T.F_l_bent.kp T.b_l_bent .nil pass0 (pa_cons (pv 1) (pa_cons (pe_ix (ixT K) (pv 3) pe_int (fun _ _ => rfl)) (pa_cons (pv 6) pa_nil)))))
      (pss_cons (ps_if (pt_not (pt_val (pe_call G_l_same (hr.mono (by omega)) (by rfl) T.g_l_same T.F_l_same.kp T.b_l_same .nil pass0 (pa_cons (pe_call G_l_told (hr.mono (by omega)) (by rfl) T.g_l_told T.F_l_told.kp T.b_l_told .nil pass0 (pa_cons (pe_ix (ixT K) (pv 3) pe_int (fun _ _ => rfl)) (pa_cons (pv 6) pa_nil))) (pa_cons (pe_call G_l_read (hr.mono (by omega)) (by rfl) T.g_l_read T.F_l_read.kp T.b_l_read .nil pass0 (pa_cons (pe_ix (ixT K) (pv 3) pe_int (fun _ _ => rfl)) (pa_cons (pv 6) pa_nil))) pa_nil))))) (pss_one (ps_ret pe_bl)) pss_nil)
      (pss_cons (ps_set (i := 8) sc_law.nd rfl (.inl rfl) (pe_call G_l_sign_spoilt (hr.mono (by omega)) (by rfl) T.g_l_sign_spoilt T.F_l_sign_spoilt.kp T.b_l_sign_spoilt .nil pass0 (pa_cons (pv 1) (pa_cons (pv 6) pa_nil))))
      (pss_cons (ps_if (pt_not (pt_val (pe_call G_l_same (hr.mono (by omega)) (by rfl) T.g_l_same T.F_l_same.kp T.b_l_same .nil pass0 (pa_cons (pe_call G_l_told (hr.mono (by omega)) (by rfl) T.g_l_told T.F_l_told.kp T.b_l_told .nil pass0 (pa_cons (pe_ix (ixT K) (pv 3) pe_int (fun _ _ => rfl)) (pa_cons (pv 8) pa_nil))) (pa_cons (pe_call G_l_read (hr.mono (by omega)) (by rfl) T.g_l_read T.F_l_read.kp T.b_l_read .nil pass0 (pa_cons (pe_ix (ixT K) (pv 3) pe_int (fun _ _ => rfl)) (pa_cons (pv 8) pa_nil))) pa_nil))))) (pss_one (ps_ret pe_bl)) pss_nil)
      (pss_one (ps_if (pt_cmpR op_eq (pe_call G_l_lot (hr.mono (by omega)) (by rfl) T.g_l_lot T.F_l_lot.kp T.b_l_lot .nil pass0 (pa_cons (pv 1) (pa_cons pe_int pa_nil))) pe_int (nomark _)) (pss_one (ps_set (i := 6) sc_law.nd rfl (.inl rfl) (pv 5))) pss_nil)))))))))))))))
      (pss_one (ps_ret (pe_cmpR op_eq (pe_call G_l_told (hr.mono (by omega)) (by rfl) T.g_l_told T.F_l_told.kp T.b_l_told .nil pass0 (pa_cons pe_str (pa_cons pe_str pa_nil))) pe_int (nomark _)))))), ?_⟩
    refine ⟨.ref a, rfl, a, ns, rfl, hS, hlen, fun b bl H1 sm1 nb nbl hB1 => ?_⟩
    refine ⟨5, rfl, by decide, by decide, for_range (fun i σ H' => ∃ y2 y3 y4 y5 y6 y7 y8 : Option V, σ = [some (.ref a), some (.ref b), y2, y3, y4, y5, y6, y7, y8] ∧ Bag b bl H' ∧ TG Z.Ps H')
      ⟨none, none, none, none, none, none, none, rfl, hB1, tg.same sm1⟩ (fun i σ H2 hi hP => ?_) (fun σ H2 hP => ?_)⟩
    rotate_left 1
    · obtain ⟨y2, y3, y4, y5, y6, y7, y8, rfl, hB2, tg2⟩ := hP
      have e0 : readT [97, 98] [] = .inl 0 := rfl
      refine ⟨[97, 98], [], rfl, tg2, by decide, by decide, by decide, (fun c h => nomatch h), fun v H3 _ _ fv => ?_⟩
      rw [e0] at fv
      cases fv
      exact ⟨rfl, q H3⟩
    obtain ⟨y2, y3, y4, y5, y6, y7, y8, rfl, hB2, tg2⟩ := hP
    refine ⟨.ref b, rfl, b, bl, 6, 6, rfl, hB2, by decide, by decide, by decide, fun cols rows tv H5 kp5 hB5 ft5 hc hc1 hc2 hrows hrl => ?_⟩
    have tg5 := tg2.kb hB2 kp5
    have hz : ∀ c ∈ cols, c ≤ 122 := fun c h => (hc.az c h).2
    have hz9 : ∀ c ∈ cols, c < 1000 := fun c h => by have := hz c h; omega
    refine ⟨.ref b, rfl, tv, rfl, b, bl, tv, cols, rows, rfl, hB5, ft5, hc, by omega, hrows, by omega, fun es rc v H6 kp6 hB6 fq6 hqok => ?_⟩
    have tg6 := tg5.kb hB5 kp6
    have ft6 := ft5.kt (Kp.kTb kp6 hB5).1
    have hel : es.length ≤ 6 := Nat.le_trans hqok.len hc2
    have hdq := wd_qn hqok hz9 (by omega)
    refine ⟨v, rfl, v, es, rc, cols, rfl, fq6, hqok, by omega, hz, fun H7 sm7 => ?_⟩
    have fq7 := fq6.kT (Same.kT sm7)
    have hB7 := hB6.same sm7
    have tg7 := tg6.same sm7
    have ft7 := ft6.kt (Same.kt sm7)
    have tf0 := join_tbd (wordsQ_len hqok) (by have := wQ_len es rc; omega) (okS_cols hqok hz)
    have hback0 := read_back hqok fun c h => by have := (hc.az c h).1; omega
    obtain ⟨lf, hlf⟩ : ∃ lf, joinW (wordsQ es rc) = txS lf := ⟨_, str_eta _⟩
    rw [hlf] at tf0 hback0 ⊢
    have hcps : (txS lf).cps.toList = lf := by simp
    rw [hcps] at hback0
    have hfl : lf.length ≤ 4000 := by
      have e : (txS lf).length = lf.length := by simp [Str.length]
      have := tf0.len
      omega
    have hfz : ∀ c ∈ lf, c < 1000 := fun c hc => tf0.ok c (by rw [hcps]; exact hc)
    obtain ⟨t, R, us, rfl, ht7, _, _⟩ := tab_open ft7
    refine ⟨v, rfl, v, es, rc, cols, rfl, fq7, hqok, by omega, hz, fun H8 sm8 => ?_⟩
    rw [hlf]
    refine ⟨tx lf, rfl, _, _, .str (txS lf), rfl, .str _, .str _, Nat.zero_lt_succ _, Nat.zero_le _, fun H9 sm9 => ⟨_, rfl, iteF ?_⟩⟩
    have sm79 := Same.trans sm8 sm9
    have fq9 := fq7.kT (Same.kT sm79)
    have hB9 := hB7.same sm79
    have tg9 := tg7.same sm79
    have ht9 := sm79 _ _ ht7
    refine ⟨.ref t, rfl, t, _, 0, tx cols, rfl, rfl, .inl (.inl ht9), rfl, tx lf, rfl, cols, lf, rfl, tg9, by omega, hz9, by omega, hfz, fun qq hqq v2 H10 sx10 tg10 f10 hok2 => ?_, fun i hi => by rw [hback0] at hi; cases hi⟩
    rw [hback0] at hqq
    obtain rfl := Sum.inr.inj hqq
    have fq10 := fq9.kT (Sx.kT tg9 sx10)
    refine ⟨v, rfl, _, _, qD es rc, rfl, f10.fg, fq10.fg, hdq.1, hdq.2, fun H11 sm11 => ⟨_, rfl, iteF ?_⟩⟩
    have hB11 := (hB9.sx tg9 sx10).same sm11
    have tg11 := tg10.same sm11
    have ht11 := sm11 _ _ ((sx10.kt tg9) _ _ ht9)
    refine ⟨tx lf, rfl, ?_⟩
    refine ⟨4, rfl, by decide, by decide, for_range (fun j σ H' => ∃ (lt : List Nat) (y7 y8 : Option V), σ = [some (.ref a), some (.ref b), some (.int (0 + (i : Nat))), some (.ref t), some v, some (tx lf), some (tx lt), y7, y8] ∧ Bag b bl H' ∧ TG Z.Ps H' ∧ H' t = some (.tup [tx cols, .ref R]) ∧ lt.length ≤ 4000 + 5000 * j ∧ ∀ c ∈ lt, c < 1000)
      ⟨lf, _, _, rfl, hB11, tg11, ht11, hfl, hfz⟩ (fun j σ H12 hj hP => ?_) (fun σ H12 hP => ?_)⟩
    rotate_left 1
    · obtain ⟨lt, y7, y8, rfl, hB12, tg12, _⟩ := hP
      exact ⟨_, _, _, _, _, _, _, rfl, hB12, tg12⟩
    obtain ⟨lt, y7, y8, rfl, hB12, tg12, ht12, hl12, hz12⟩ := hP
    have hj4 : j < 4 := hj
    refine ⟨.ref b, rfl, .ref t, rfl, t, _, 0, tx cols, rfl, rfl, .inl (.inl ht12), rfl, tx lt, rfl, b, bl, cols, lt, rfl, hB12, (fun z => by rw [z] at hc1; exact absurd hc1 (by decide)), by omega, (fun c h => by have := hz c h; omega), by omega, hz12, fun l2 H13 kp13 hB13 hl13 hz13 => ?_⟩
    have tg13 := tg12.kb hB12 kp13
    have ht13 := (Kp.kTb kp13 hB12).1 _ _ ht12
    refine ⟨.ref t, rfl, t, _, 0, tx cols, rfl, rfl, .inl (.inl ht13), rfl, tx l2, rfl, cols, l2, rfl, tg13, by omega, hz9, by omega, hz13, fun v3 H14 sx14 tg14 f14 => ?_⟩
    have ht14 := (sx14.kt tg13) _ _ ht13
    have hB14 := hB13.sx tg13 sx14
    refine ⟨.ref t, rfl, t, _, 0, tx cols, rfl, rfl, .inl (.inl ht14), rfl, tx l2, rfl, cols, l2, rfl, by omega, hz9, by omega, hz13, fun v4 H15 sm15 f15 hq15 => ?_⟩
    obtain ⟨d1, d2⟩ := wd_read hz9 (by omega) hq15
    refine ⟨v3, v4, _, rfl, Fg.mono sm15 _ _ (Ft.fg _ _ f14), Ft.fg _ _ f15, d1, d2, fun H16 sm16 => ⟨_, rfl, iteF ?_⟩⟩
    have sm146 := Same.trans sm15 sm16
    have ht16 := sm146 _ _ ht14
    have hB16 := hB14.same sm146
    have tg16 := tg14.same sm146
    refine ⟨.ref b, rfl, tx l2, rfl, b, bl, l2, rfl, hB16, by omega, hz13, fun l3 H17 kp17 hB17 hl17 hz17 => ?_⟩
    have tg17 := tg16.kb hB16 kp17
    have ht17 := (Kp.kTb kp17 hB16).1 _ _ ht16
    refine ⟨.ref t, rfl, t, _, 0, tx cols, rfl, rfl, .inl (.inl ht17), rfl, tx l3, rfl, cols, l3, rfl, tg17, by omega, hz9, by omega, hz17, fun v5 H18 sx18 tg18 f18 => ?_⟩
    have ht18 := (sx18.kt tg17) _ _ ht17
    have hB18 := hB17.sx tg17 sx18
    refine ⟨.ref t, rfl, t, _, 0, tx cols, rfl, rfl, .inl (.inl ht18), rfl, tx l3, rfl, cols, l3, rfl, by omega, hz9, by omega, hz17, fun v6 H19 sm19 f19 hq19 => ?_⟩
    obtain ⟨d3, d4⟩ := wd_read hz9 (by omega) hq19
    refine ⟨v5, v6, _, rfl, Fg.mono sm19 _ _ (Ft.fg _ _ f18), Ft.fg _ _ f19, d3, d4, fun H20 sm20 => ⟨_, rfl, iteF ?_⟩⟩
    have sm180 := Same.trans sm19 sm20
    have ht20 := sm180 _ _ ht18
    have hB20 := hB18.same sm180
    have tg20 := tg18.same sm180
    refine ⟨.ref b, rfl, b, bl, 2, rfl, hB20, by decide, by decide, fun d5 H21 kp21 hB21 _ _ => ?_⟩
    have tg21 := tg20.kb hB20 kp21
    have ht21 := (Kp.kTb kp21 hB20).1 _ _ ht20
    refine ⟨rfl, _, rfl, ite2 (fun _ => ?_) (fun _ => ?_)⟩
    · exact ⟨tx lf, rfl, lf, _, _, rfl, hB21, tg21, ht21, by omega, hfz⟩
    · exact ⟨l2, _, _, rfl, hB21, tg21, ht21, by omega, hz13⟩

end
/-! ### the head: facts by names, the run -/
def df0 : He.DefD := ⟨("is_whole", none), "is_whole", "is_whole", defArgs s_is_whole, defBody s_is_whole, defScope s_is_whole, [], []⟩
def df1 : He.DefD := ⟨("is_number", none), "is_number", "is_number", defArgs s_is_number, defBody s_is_number, defScope s_is_number, [], []⟩
def df2 : He.DefD := ⟨("is_rising", none), "is_rising", "is_rising", defArgs s_is_rising, defBody s_is_rising, defScope s_is_rising, [], []⟩
def df3 : He.DefD := ⟨("is_letter", none), "is_letter", "is_letter", defArgs s_is_letter, defBody s_is_letter, defScope s_is_letter, [], []⟩
def df4 : He.DefD := ⟨("is_equal", none), "is_equal", "is_equal", defArgs s_is_equal, defBody s_is_equal, defScope s_is_equal, [], []⟩
def df5 : He.DefD := ⟨("letters_of", none), "letters_of", "letters_of", defArgs s_letters_of, defBody s_letters_of, defScope s_letters_of, [], []⟩
def df6 : He.DefD := ⟨("is_equals", none), "is_equals", "is_equals", defArgs s_is_equals, defBody s_is_equals, defScope s_is_equals, [], []⟩
def df7 : He.DefD := ⟨("is_reach", none), "is_reach", "is_reach", defArgs s_is_reach, defBody s_is_reach, defScope s_is_reach, [], []⟩
def df8 : He.DefD := ⟨("is_question", none), "is_question", "is_question", defArgs s_is_question, defBody s_is_question, defScope s_is_question, [], []⟩
def df9 : He.DefD := ⟨("joined", none), "joined", "joined", defArgs s_joined, defBody s_joined, defScope s_joined, [], []⟩
def df10 : He.DefD := ⟨("question_text", none), "question_text", "question_text", defArgs s_question_text, defBody s_question_text, defScope s_question_text, [], []⟩
def df11 : He.DefD := ⟨("read_number", none), "read_number", "read_number", defArgs s_read_number, defBody s_read_number, defScope s_read_number, [], []⟩
def df12 : He.DefD := ⟨("with_word", none), "with_word", "with_word", defArgs s_with_word, defBody s_with_word, defScope s_with_word, [], []⟩
def df13 : He.DefD := ⟨("read_question", none), "read_question", "read_question", defArgs s_read_question, defBody s_read_question, defScope s_read_question, [], []⟩
def df14 : He.DefD := ⟨("_law_bag", none), "_law_bag", "_law_bag", defArgs s_l_bag, defBody s_l_bag, defScope s_l_bag, [], []⟩
def df15 : He.DefD := ⟨("_law_lot", none), "_law_lot", "_law_lot", defArgs s_l_lot, defBody s_l_lot, defScope s_l_lot, [], []⟩
def df16 : He.DefD := ⟨("_law_columns", none), "_law_columns", "_law_columns", defArgs s_l_columns, defBody s_l_columns, defScope s_l_columns, [], []⟩
def df17 : He.DefD := ⟨("_law_table", none), "_law_table", "_law_table", defArgs s_l_table, defBody s_l_table, defScope s_l_table, [], []⟩
def df18 : He.DefD := ⟨("_law_near", none), "_law_near", "_law_near", defArgs s_l_near, defBody s_l_near, defScope s_l_near, [], []⟩
def df19 : He.DefD := ⟨("_law_question", none), "_law_question", "_law_question", defArgs s_l_question, defBody s_l_question, defScope s_l_question, [], []⟩
def df20 : He.DefD := ⟨("_law_same", none), "_law_same", "_law_same", defArgs s_l_same, defBody s_l_same, defScope s_l_same, [], []⟩
def df21 : He.DefD := ⟨("_law_question_text", none), "_law_question_text", "_law_question_text", defArgs s_l_question_text, defBody s_l_question_text, defScope s_l_question_text, [], []⟩
def df22 : He.DefD := ⟨("_law_number", none), "_law_number", "_law_number", defArgs s_l_number, defBody s_l_number, defScope s_l_number, [], []⟩
def df23 : He.DefD := ⟨("_law_word", none), "_law_word", "_law_word", defArgs s_l_word, defBody s_l_word, defScope s_l_word, [], []⟩
def df24 : He.DefD := ⟨("_law_read", none), "_law_read", "_law_read", defArgs s_l_read, defBody s_l_read, defScope s_l_read, [], []⟩
def df25 : He.DefD := ⟨("_law_bent", none), "_law_bent", "_law_bent", defArgs s_l_bent, defBody s_l_bent, defScope s_l_bent, [], []⟩
def df26 : He.DefD := ⟨("_law_sign_spoilt", none), "_law_sign_spoilt", "_law_sign_spoilt", defArgs s_l_sign_spoilt, defBody s_l_sign_spoilt, defScope s_l_sign_spoilt, [], []⟩
def df27 : He.DefD := ⟨("_law_told", none), "_law_told", "_law_told", defArgs s_l_told, defBody s_l_told, defScope s_l_told, [], []⟩
def df28 : He.DefD := ⟨("law", none), "law", "law", defArgs s_law, defBody s_law, defScope s_law, [], []⟩
def dfs : List He.DefD := [df0, df1, df2, df3, df4, df5, df6, df7, df8, df9, df10, df11, df12, df13, df14, df15, df16, df17, df18, df19, df20, df21, df22, df23, df24, df25, df26, df27, df28]
def fas : List He.Fa := [.glo "is_whole", .glo "is_number", .glo "is_rising", .glo "is_letter", .glo "is_equal", .glo "letters_of", .glo "is_equals", .glo "is_reach", .glo "is_question", .glo "joined", .glo "question_text", .glo "read_number", .glo "with_word", .glo "read_question", .glo "_law_bag", .glo "_law_lot", .glo "_law_columns", .glo "_law_table", .glo "_law_near", .glo "_law_question", .glo "_law_same", .glo "_law_question_text", .glo "_law_number", .glo "_law_word", .glo "_law_read", .glo "_law_bent", .glo "_law_sign_spoilt", .glo "_law_told", .glo "law", .free "len", .free "range", .free "list", .free "sorted", .free "tuple", .free "min", .free "max", .free "enumerate", .free "isinstance", .free "zip", .free "int", .free "bool", .free "all", .free "any", .free "str", .free "ValueError", .free "super", .int "GREATEST" 999, .glo "ListError", .glo "TooMany", .glo "NoNumber", .glo "NoQuestion", .glo "NoRow", .glo "NoText"]
def tfs : List He.Defn := [("is_rising", none), ("is_equals", none), ("read_number", none)]
def sd_NoText0 : He.DefD := ⟨("NoText", some "__init__"), "__init__", "NoText.__init__", defArgs s_NoText___init__, defBody s_NoText___init__, defScope s_NoText___init__, [], []⟩
def apart : PySem.W.Frag → Bool := fun K => (xfamB K (He.ga K) ["TooMany", "NoNumber"] ["TooMany", "NoNumber", "NoQuestion", "NoRow", "NoText"]) && (ntfB K (He.ga K) ["TooMany", "NoNumber", "NoQuestion", "NoRow", "NoText"]) && (supB K "/claim/cut.py" sd_NoText0 (He.ga K "NoText"))
abbrev Rw : PySem.W.OpenRow := PySem.W.OpenLaw.row PySem.Challenge.rw_stretchkeep_k50_questions_written_and_re
abbrev hk : PySem.W.Hook := hookS 10 fas dfs [] tfs apart [sd_NoText0]
def ob (s : PySem.W.SharedT) : AlS := obsS 10 fas dfs [] tfs apart [sd_NoText0] (HandSHeadRun.getT s)
theorem ob_eq (s : PySem.W.SharedT) : ob s = hk.obs s.abs := obsS_eq (HandSHeadRun.getT_eq s)
def loose1 : List Str := ["ListError", "TooMany", "NoNumber", "NoQuestion", "NoRow", "NoText", "GREATEST", "is_whole", "is_number", "is_rising", "is_letter", "is_equal", "letters_of", "is_equals", "is_reach", "is_question", "joined", "question_text"]
def loose2 : List Str := ["read_number", "with_word", "read_question", "_law_bag", "_law_lot", "_law_columns", "_law_table", "_law_near", "_law_question", "_law_same", "_law_question_text", "_law_number", "_law_word", "_law_read", "_law_bent", "_law_sign_spoilt", "_law_told"]
set_option maxHeartbeats 0 in
theorem run (w : World) : HandSHeadRun.RunEq Rw (PySem.W.view Rw.prog [40]) hk ob 4000 (loose1 ++ loose2) w := by
  intro os
  kernel_rfl
theorem all_mk {l : PySem.W.OpenLaw} [PF l.prog] {w : World} {K : PySem.W.Frag} {h : Heap} {mg : Str → Option Value} {fa : Addr} (X : K.In h) (G : h.Ns mainGlobals mg) (hfa : mg "law" = some (.ref fa)) (c0 : SaysS fas dfs [] tfs apart [sd_NoText0] w h K) : LamX.LawAtS l w K CX0 90 63 "script" mg fa h := by
  have c := c0.x
  obtain ⟨fd0, D0⟩ := c.t.d.def_ 0 (d := df0) rfl
  replace D0 : DefAt K ("is_whole", none) "is_whole" "is_whole" s_is_whole fd0 := D0
  obtain ⟨fd1, D1⟩ := c.t.d.def_ 1 (d := df1) rfl
  replace D1 : DefAt K ("is_number", none) "is_number" "is_number" s_is_number fd1 := D1
  obtain ⟨fd2, D2⟩ := c.t.d.def_ 2 (d := df2) rfl
  replace D2 : DefAt K ("is_rising", none) "is_rising" "is_rising" s_is_rising fd2 := D2
  obtain ⟨fd3, D3⟩ := c.t.d.def_ 3 (d := df3) rfl
  replace D3 : DefAt K ("is_letter", none) "is_letter" "is_letter" s_is_letter fd3 := D3
  obtain ⟨fd4, D4⟩ := c.t.d.def_ 4 (d := df4) rfl
  replace D4 : DefAt K ("is_equal", none) "is_equal" "is_equal" s_is_equal fd4 := D4
  obtain ⟨fd5, D5⟩ := c.t.d.def_ 5 (d := df5) rfl
  replace D5 : DefAt K ("letters_of", none) "letters_of" "letters_of" s_letters_of fd5 := D5
  obtain ⟨fd6, D6⟩ := c.t.d.def_ 6 (d := df6) rfl
  replace D6 : DefAt K ("is_equals", none) "is_equals" "is_equals" s_is_equals fd6 := D6
  obtain ⟨fd7, D7⟩ := c.t.d.def_ 7 (d := df7) rfl
  replace D7 : DefAt K ("is_reach", none) "is_reach" "is_reach" s_is_reach fd7 := D7
  obtain ⟨fd8, D8⟩ := c.t.d.def_ 8 (d := df8) rfl
  replace D8 : DefAt K ("is_question", none) "is_question" "is_question" s_is_question fd8 := D8
  obtain ⟨fd9, D9⟩ := c.t.d.def_ 9 (d := df9) rfl
  replace D9 : DefAt K ("joined", none) "joined" "joined" s_joined fd9 := D9
  obtain ⟨fd10, D10⟩ := c.t.d.def_ 10 (d := df10) rfl
  replace D10 : DefAt K ("question_text", none) "question_text" "question_text" s_question_text fd10 := D10
  obtain ⟨fd11, D11⟩ := c.t.d.def_ 11 (d := df11) rfl
  replace D11 : DefAt K ("read_number", none) "read_number" "read_number" s_read_number fd11 := D11
  obtain ⟨fd12, D12⟩ := c.t.d.def_ 12 (d := df12) rfl
  replace D12 : DefAt K ("with_word", none) "with_word" "with_word" s_with_word fd12 := D12
  obtain ⟨fd13, D13⟩ := c.t.d.def_ 13 (d := df13) rfl
  replace D13 : DefAt K ("read_question", none) "read_question" "read_question" s_read_question fd13 := D13
  obtain ⟨fd14, D14⟩ := c.t.d.def_ 14 (d := df14) rfl
  replace D14 : DefAt K ("_law_bag", none) "_law_bag" "_law_bag" s_l_bag fd14 := D14
  obtain ⟨fd15, D15⟩ := c.t.d.def_ 15 (d := df15) rfl
  replace D15 : DefAt K ("_law_lot", none) "_law_lot" "_law_lot" s_l_lot fd15 := D15
  obtain ⟨fd16, D16⟩ := c.t.d.def_ 16 (d := df16) rfl
  replace D16 : DefAt K ("_law_columns", none) "_law_columns" "_law_columns" s_l_columns fd16 := D16
  obtain ⟨fd17, D17⟩ := c.t.d.def_ 17 (d := df17) rfl
  replace D17 : DefAt K ("_law_table", none) "_law_table" "_law_table" s_l_table fd17 := D17
  obtain ⟨fd18, D18⟩ := c.t.d.def_ 18 (d := df18) rfl
  replace D18 : DefAt K ("_law_near", none) "_law_near" "_law_near" s_l_near fd18 := D18
  obtain ⟨fd19, D19⟩ := c.t.d.def_ 19 (d := df19) rfl
  replace D19 : DefAt K ("_law_question", none) "_law_question" "_law_question" s_l_question fd19 := D19
  obtain ⟨fd20, D20⟩ := c.t.d.def_ 20 (d := df20) rfl
  replace D20 : DefAt K ("_law_same", none) "_law_same" "_law_same" s_l_same fd20 := D20
  obtain ⟨fd21, D21⟩ := c.t.d.def_ 21 (d := df21) rfl
  replace D21 : DefAt K ("_law_question_text", none) "_law_question_text" "_law_question_text" s_l_question_text fd21 := D21
  obtain ⟨fd22, D22⟩ := c.t.d.def_ 22 (d := df22) rfl
  replace D22 : DefAt K ("_law_number", none) "_law_number" "_law_number" s_l_number fd22 := D22
  obtain ⟨fd23, D23⟩ := c.t.d.def_ 23 (d := df23) rfl
  replace D23 : DefAt K ("_law_word", none) "_law_word" "_law_word" s_l_word fd23 := D23
  obtain ⟨fd24, D24⟩ := c.t.d.def_ 24 (d := df24) rfl
  replace D24 : DefAt K ("_law_read", none) "_law_read" "_law_read" s_l_read fd24 := D24
  obtain ⟨fd25, D25⟩ := c.t.d.def_ 25 (d := df25) rfl
  replace D25 : DefAt K ("_law_bent", none) "_law_bent" "_law_bent" s_l_bent fd25 := D25
  obtain ⟨fd26, D26⟩ := c.t.d.def_ 26 (d := df26) rfl
  replace D26 : DefAt K ("_law_sign_spoilt", none) "_law_sign_spoilt" "_law_sign_spoilt" s_l_sign_spoilt fd26 := D26
  obtain ⟨fd27, D27⟩ := c.t.d.def_ 27 (d := df27) rfl
  replace D27 : DefAt K ("_law_told", none) "_law_told" "_law_told" s_l_told fd27 := D27
  obtain ⟨fd28, D28⟩ := c.t.d.def_ 28 (d := df28) rfl
  replace D28 : DefAt K ("law", none) "law" "law" s_law fd28 := D28
  have e := hfa.symm.trans (He.glo_ok X G (c.t.d.fact 28 (f := .glo "law") rfl))
  cases e
  have F0 := D0.fn
  have b0 := F0.binds (ps := ["thing"]) fun _ _ _ _ _ _ us hl => match us, hl with | [_], _ => rfl
  have F1 := D1.fn
  have b1 := F1.binds (ps := ["thing"]) fun _ _ _ _ _ _ us hl => match us, hl with | [_], _ => rfl
  have F2 := D2.fn
  have b2 := F2.binds (ps := ["things"]) fun _ _ _ _ _ _ us hl => match us, hl with | [_], _ => rfl
  have F3 := D3.fn
  have b3 := F3.binds (ps := ["columns", "thing"]) fun _ _ _ _ _ _ us hl => match us, hl with | [_, _], _ => rfl
  have F4 := D4.fn
  have b4 := F4.binds (ps := ["columns", "thing"]) fun _ _ _ _ _ _ us hl => match us, hl with | [_, _], _ => rfl
  have F5 := D5.fn
  have b5 := F5.binds (ps := ["equals"]) fun _ _ _ _ _ _ us hl => match us, hl with | [_], _ => rfl
  have F6 := D6.fn
  have b6 := F6.binds (ps := ["columns", "thing"]) fun _ _ _ _ _ _ us hl => match us, hl with | [_, _], _ => rfl
  have F7 := D7.fn
  have b7 := F7.binds (ps := ["columns", "thing"]) fun _ _ _ _ _ _ us hl => match us, hl with | [_, _], _ => rfl
  have F8 := D8.fn
  have b8 := F8.binds (ps := ["columns", "thing"]) fun _ _ _ _ _ _ us hl => match us, hl with | [_, _], _ => rfl
  have F9 := D9.fn
  have b9 := F9.binds (ps := ["words"]) fun _ _ _ _ _ _ us hl => match us, hl with | [_], _ => rfl
  have F10 := D10.fn
  have b10 := F10.binds (ps := ["question"]) fun _ _ _ _ _ _ us hl => match us, hl with | [_], _ => rfl
  have F11 := D11.fn
  have b11 := F11.binds (ps := ["word", "greatest"]) fun _ _ _ _ _ _ us hl => match us, hl with | [_, _], _ => rfl
  have F12 := D12.fn
  have b12 := F12.binds (ps := ["question", "word"]) fun _ _ _ _ _ _ us hl => match us, hl with | [_, _], _ => rfl
  have F13 := D13.fn
  have b13 := F13.binds (ps := ["columns", "text"]) fun _ _ _ _ _ _ us hl => match us, hl with | [_, _], _ => rfl
  have F14 := D14.fn
  have b14 := F14.binds (ps := ["script"]) fun _ _ _ _ _ _ us hl => match us, hl with | [_], _ => rfl
  have F15 := D15.fn
  have b15 := F15.binds (ps := ["bag", "many"]) fun _ _ _ _ _ _ us hl => match us, hl with | [_, _], _ => rfl
  have F16 := D16.fn
  have b16 := F16.binds (ps := ["bag", "most"]) fun _ _ _ _ _ _ us hl => match us, hl with | [_, _], _ => rfl
  have F17 := D17.fn
  have b17 := F17.binds (ps := ["bag", "most", "rows"]) fun _ _ _ _ _ _ us hl => match us, hl with | [_, _, _], _ => rfl
  have F18 := D18.fn
  have b18 := F18.binds (ps := ["bag", "table", "at"]) fun _ _ _ _ _ _ us hl => match us, hl with | [_, _, _], _ => rfl
  have F19 := D19.fn
  have b19 := F19.binds (ps := ["bag", "table"]) fun _ _ _ _ _ _ us hl => match us, hl with | [_, _], _ => rfl
  have F20 := D20.fn
  have b20 := F20.binds (ps := ["found", "due"]) fun _ _ _ _ _ _ us hl => match us, hl with | [_, _], _ => rfl
  have F21 := D21.fn
  have b21 := F21.binds (ps := ["question"]) fun _ _ _ _ _ _ us hl => match us, hl with | [_], _ => rfl
  have F22 := D22.fn
  have b22 := F22.binds (ps := ["word"]) fun _ _ _ _ _ _ us hl => match us, hl with | [_], _ => rfl
  have F23 := D23.fn
  have b23 := F23.binds (ps := ["columns", "word", "letters"]) fun _ _ _ _ _ _ us hl => match us, hl with | [_, _, _], _ => rfl
  have F24 := D24.fn
  have b24 := F24.binds (ps := ["columns", "text"]) fun _ _ _ _ _ _ us hl => match us, hl with | [_, _], _ => rfl
  have F25 := D25.fn
  have b25 := F25.binds (ps := ["bag", "columns", "text"]) fun _ _ _ _ _ _ us hl => match us, hl with | [_, _, _], _ => rfl
  have F26 := D26.fn
  have b26 := F26.binds (ps := ["bag", "text"]) fun _ _ _ _ _ _ us hl => match us, hl with | [_, _], _ => rfl
  have F27 := D27.fn
  have b27 := F27.binds (ps := ["columns", "text"]) fun _ _ _ _ _ _ us hl => match us, hl with | [_, _], _ => rfl
  have F28 := D28.fn
  have b28 := F28.binds (ps := ["script"]) fun _ _ _ _ _ _ us hl => match us, hl with | [_], _ => rfl
  obtain ⟨tk0, hy0⟩ := He.int_ok X G (c.t.d.fact 46 (f := .int "GREATEST" 999) rfl)
  have far := c.more
  simp only [apart, Bool.and_eq_true, Bool.not_eq_true', List.contains_eq_mem, decide_eq_false_iff_not, decide_eq_true_eq] at far
  obtain ⟨sfd0, SD0⟩ := sup_of (st := s_NoText___init__) (c0.sup sd_NoText0 (by simp)) far.2 rfl rfl rfl
  let Z : Ad := ⟨He.fAd K ("is_whole", none), fd0, He.fAd K ("is_number", none), fd1, He.fAd K ("is_rising", none), fd2, He.codeOf K ("is_rising", none), He.tabOf K (He.codeOf K ("is_rising", none)), He.fAd K ("is_letter", none), fd3, He.fAd K ("is_equal", none), fd4, He.fAd K ("letters_of", none), fd5, He.fAd K ("is_equals", none), fd6, He.codeOf K ("is_equals", none), He.tabOf K (He.codeOf K ("is_equals", none)), He.fAd K ("is_reach", none), fd7, He.fAd K ("is_question", none), fd8, He.fAd K ("joined", none), fd9, He.fAd K ("question_text", none), fd10, He.fAd K ("read_number", none), fd11, He.codeOf K ("read_number", none), He.tabOf K (He.codeOf K ("read_number", none)), He.fAd K ("with_word", none), fd12, He.fAd K ("read_question", none), fd13, He.fAd K ("_law_bag", none), fd14, He.fAd K ("_law_lot", none), fd15, He.fAd K ("_law_columns", none), fd16, He.fAd K ("_law_table", none), fd17, He.fAd K ("_law_near", none), fd18, He.fAd K ("_law_question", none), fd19, He.fAd K ("_law_same", none), fd20, He.fAd K ("_law_question_text", none), fd21, He.fAd K ("_law_number", none), fd22, He.fAd K ("_law_word", none), fd23, He.fAd K ("_law_read", none), fd24, He.fAd K ("_law_bent", none), fd25, He.fAd K ("_law_sign_spoilt", none), fd26, He.fAd K ("_law_told", none), fd27, He.fAd K ("law", none), fd28, tk0, He.ga K, He.fAd K ("NoText", some "__init__"), sfd0⟩
  have T : Tx K mg Z := ⟨F0, b0, He.glo_ok X G (c.t.d.fact 0 (f := .glo "is_whole") rfl), F1, b1, He.glo_ok X G (c.t.d.fact 1 (f := .glo "is_number") rfl), F2, D2.fc, b2, He.glo_ok X G (c.t.d.fact 2 (f := .glo "is_rising") rfl), F3, b3, He.glo_ok X G (c.t.d.fact 3 (f := .glo "is_letter") rfl), F4, b4, He.glo_ok X G (c.t.d.fact 4 (f := .glo "is_equal") rfl), F5, b5, He.glo_ok X G (c.t.d.fact 5 (f := .glo "letters_of") rfl), F6, D6.fc, b6, He.glo_ok X G (c.t.d.fact 6 (f := .glo "is_equals") rfl), F7, b7, He.glo_ok X G (c.t.d.fact 7 (f := .glo "is_reach") rfl), F8, b8, He.glo_ok X G (c.t.d.fact 8 (f := .glo "is_question") rfl), F9, b9, He.glo_ok X G (c.t.d.fact 9 (f := .glo "joined") rfl), F10, b10, He.glo_ok X G (c.t.d.fact 10 (f := .glo "question_text") rfl), F11, D11.fc, b11, He.glo_ok X G (c.t.d.fact 11 (f := .glo "read_number") rfl), F12, b12, He.glo_ok X G (c.t.d.fact 12 (f := .glo "with_word") rfl), F13, b13, He.glo_ok X G (c.t.d.fact 13 (f := .glo "read_question") rfl), F14, b14, He.glo_ok X G (c.t.d.fact 14 (f := .glo "_law_bag") rfl), F15, b15, He.glo_ok X G (c.t.d.fact 15 (f := .glo "_law_lot") rfl), F16, b16, He.glo_ok X G (c.t.d.fact 16 (f := .glo "_law_columns") rfl), F17, b17, He.glo_ok X G (c.t.d.fact 17 (f := .glo "_law_table") rfl), F18, b18, He.glo_ok X G (c.t.d.fact 18 (f := .glo "_law_near") rfl), F19, b19, He.glo_ok X G (c.t.d.fact 19 (f := .glo "_law_question") rfl), F20, b20, He.glo_ok X G (c.t.d.fact 20 (f := .glo "_law_same") rfl), F21, b21, He.glo_ok X G (c.t.d.fact 21 (f := .glo "_law_question_text") rfl), F22, b22, He.glo_ok X G (c.t.d.fact 22 (f := .glo "_law_number") rfl), F23, b23, He.glo_ok X G (c.t.d.fact 23 (f := .glo "_law_word") rfl), F24, b24, He.glo_ok X G (c.t.d.fact 24 (f := .glo "_law_read") rfl), F25, b25, He.glo_ok X G (c.t.d.fact 25 (f := .glo "_law_bent") rfl), F26, b26, He.glo_ok X G (c.t.d.fact 26 (f := .glo "_law_sign_spoilt") rfl), F27, b27, He.glo_ok X G (c.t.d.fact 27 (f := .glo "_law_told") rfl), F28, b28, He.glo_ok X G (c.t.d.fact 28 (f := .glo "law") rfl), He.free_ok X G (c.t.d.fact 29 (f := .free "len") rfl), He.free_ok X G (c.t.d.fact 30 (f := .free "range") rfl), He.free_ok X G (c.t.d.fact 31 (f := .free "list") rfl), He.free_ok X G (c.t.d.fact 32 (f := .free "sorted") rfl), He.free_ok X G (c.t.d.fact 33 (f := .free "tuple") rfl), He.free_ok X G (c.t.d.fact 34 (f := .free "min") rfl), He.free_ok X G (c.t.d.fact 35 (f := .free "max") rfl), He.free_ok X G (c.t.d.fact 36 (f := .free "enumerate") rfl), He.free_ok X G (c.t.d.fact 37 (f := .free "isinstance") rfl), He.free_ok X G (c.t.d.fact 38 (f := .free "zip") rfl), He.free_ok X G (c.t.d.fact 39 (f := .free "int") rfl), He.free_ok X G (c.t.d.fact 40 (f := .free "bool") rfl), He.free_ok X G (c.t.d.fact 41 (f := .free "all") rfl), He.free_ok X G (c.t.d.fact 42 (f := .free "any") rfl), He.free_ok X G (c.t.d.fact 43 (f := .free "str") rfl), He.free_ok X G (c.t.d.fact 44 (f := .free "ValueError") rfl), He.free_ok X G (c.t.d.fact 45 (f := .free "super") rfl), hy0, xfam_of far.1.1, He.glo_ok X G (c.t.d.fact 47 (f := .glo "ListError") rfl), He.glo_ok X G (c.t.d.fact 48 (f := .glo "TooMany") rfl), He.glo_ok X G (c.t.d.fact 49 (f := .glo "NoNumber") rfl), He.glo_ok X G (c.t.d.fact 50 (f := .glo "NoQuestion") rfl), He.glo_ok X G (c.t.d.fact 51 (f := .glo "NoRow") rfl), He.glo_ok X G (c.t.d.fact 52 (f := .glo "NoText") rfl), ntf_of far.1.2, SD0⟩
  have bA := FunD.bindsA (ps := ["script"]) D28 fun _ _ _ _ _ _ us hl => match us, hl with | [_], _ => rfl
  have each : ∀ {R : Addr × Addr → Prop}, (∀ p ∈ tfs, R (He.cT K p)) → ∀ q ∈ [He.cT K ("is_rising", none), He.cT K ("is_equals", none), He.cT K ("read_number", none)], R q := fun h q hq => by
    obtain ⟨p, hp, rfl⟩ := List.mem_map.mp (show q ∈ tfs.map (He.cT K) from hq)
    exact h p hp
  refine ⟨Z.d_law, [He.cT K ("is_rising", none), He.cT K ("is_equals", none), He.cT K ("read_number", none)], spLaw K Z, each c.empty, each c.out, each fun p hp => PySem.W.codeHd_of_K X (c.hd p hp), fun s v => bA s [v] rfl, fun H a ns hl _ hT hS => ?_, fun base _ _ hTB => ?_⟩
  · refine ⟨a, ns, rfl, hS, hl, fun P hP => ?_, fun _ => rfl⟩
    have hP2 : P ∈ [He.tabOf K (He.codeOf K ("is_rising", none)), He.tabOf K (He.codeOf K ("is_equals", none)), He.tabOf K (He.codeOf K ("read_number", none))] := hP
    obtain ⟨p, hp, rfl⟩ : ∃ p ∈ [He.cT K ("is_rising", none), He.cT K ("is_equals", none), He.cT K ("read_number", none)], p.2 = P := by
      simp only [List.mem_cons, List.not_mem_nil, or_false] at hP2
      rcases hP2 with e | e | e
      · exact ⟨He.cT K ("is_rising", none), by simp, e.symm⟩
      · exact ⟨He.cT K ("is_equals", none), by simp, e.symm⟩
      · exact ⟨He.cT K ("read_number", none), by simp, e.symm⟩
    exact ⟨#[], hT p hp, trivial⟩
  · exact ok_law T ⟨hTB (He.cT K ("is_rising", none)) (by simp), hTB (He.cT K ("is_equals", none)) (by simp), hTB (He.cT K ("read_number", none)) (by simp)⟩
end My
instance : My.PF (PySem.Challenge.rw_stretchkeep_k50_questions_written_and_re).prog := ⟨by rfl, by rfl⟩
open PySem PySem.W PySem.Calls PyProof.Rows
set_option maxHeartbeats 0 in
theorem PySem.Challenge.cw_stretchkeep_k50_questions_written_and_re_holds : PySem.Challenge.rw_stretchkeep_k50_questions_written_and_re.Holds := by
  w_on; o_law
  refine HandSHeadRun.head_any (r := My.Rw) (q := view My.Rw.prog [40]) (H := My.hk) (ob := My.ob) (M := 4000) (loose := My.loose1 ++ My.loose2) (d := HandSHeadRun.topDef My.Rw.prog 40) (kwd := []) My.ob_eq
    (by kernel_rfl) (fun s => by kernel_rfl) My.run (by kernel_rfl) (by kernel_rfl) (by kernel_rfl) (by rfl) (by first | assumption | decide +kernel) (by decide +kernel) ⟨rfl, rfl, rfl, rfl, rfl, by decide +kernel⟩ ?hw ?hc
  case hw => w_witness2
  case hc =>
    refine LamX.walk_ofTsE (l := PySem.Challenge.rw_stretchkeep_k50_questions_written_and_re) (n := 63) (k := 90) (x := "script") (CX := fun _ => L2.CX0) rfl (by decide) (by kernel_rfl) ⟨rfl, by decide, by decide⟩ ?F (fun _ _ _ _ _ z => z)
    intro w mg fa h Y G hmg0
    obtain ⟨K, KX, c⟩ := Y
    have hmg : mg ("law" : PySem.Str) = some (.ref fa) := by
      have e : (HandSHeadRun.topDef My.Rw.prog 40).name = ("law" : PySem.Str) := by kernel_rfl
      rw [← e]
      exact hmg0
    exact ⟨K, KX, My.all_mk KX G hmg c⟩

