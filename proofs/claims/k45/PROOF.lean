import PyProof.Rows.All
import Wide.All
import OpenK.AllK
import Wide.FinOn
import HandS.ForMost
import HandS.Walk
import HandS.IsInst
import HandS.DictComp
import HandS.SortInts
import HandS.NoneIn
import HandS.Replace
import HandS.TupAny
import HandS.TupLe
import PyProof.ListStr
import PyProof.TupleOfStr
import KE.GoesNew
import HandS.Zip
import HandS.More
import PyProof.StrLawsFirst
import HandS.Conv
import KE.KSortedM
import HandS.AnyAll
import HandS.EndTab
import PyProof.TupleOfGen
import HandS.EndOwn
import KE.KDictPairs
import KE.SortData
import KE.DataCmp
import PyProof.DictWalks
import KE.KDictWalk
import HandS.Style
import PyProof.CollectStr
import PyProof.SliceStr2
import PyProof.TupleOfSeq
import HandS.Star
import HandS.Wide
import KE.DataMinMax
import HandS.GenOver
import HandS.GenList
import KE.DatumIndex
import PyProof.ConsumeWalk
import HandS.SetFor
import PyProof.StrWalks
import PyProof.SetRoads
import PyProof.Rows.StrCase
import HandS.TupMul
import PyProof.ListNew
import HandS.SetBool
import KE.DataMinKey
import HandS.SortKw
import HandS.Strs
import HandS.Deep
import HandS.ListItems
import KE.KDictZip
import KE.GoesMore
import KE.GoesEnum
import HandS.Nested
import KE.KMinKey
import KE.GoesZip
import HandS.DictSub
import HandS.Defaults
import HandS.Head0
import HandS.Head1
import HandS.Head2
import HandS.HeadHook1
import HandS.HeadHook2
import HandS.HeadHook3
import HandS.HeadHook4
import HandS.HeadWalk
import KE.SortKeyHeap
import HandS.Keys
import HandS.Text
import PyProof.P3In
import KE.KDictSum
import KE.KEqDict
import KE.KDictKeyed
import KE.KDictItemsList
import HandS.TupLen
import HandS.ExcIs
import HandS.ExcOwn
import HandS.Lambda
import HandS.WordsExc
import PySem.Challenge.RW_stretchkeep_k45_chosen_refused
set_option Elab.async false
set_option linter.all false
set_option maxRecDepth 100000
namespace My
open PySem PySem.Spec PyProof.Rows L2
/-! ### heaps -/
/-- all but r is as it was -/
def Kp (r : Addr) (H H' : Hp) : Prop := ∀ b o, b ≠ r → H b = some o → H' b = some o
theorem Kp.rfl' {r : Addr} {H : Hp} : Kp r H H := fun _ _ _ h => h
theorem Kp.trans {r : Addr} {H H1 H2 : Hp} (a : Kp r H H1) (b : Kp r H1 H2) : Kp r H H2 := fun c o n h => b c o n (a c o n h)
theorem Kp.new {r p : Addr} {H H1 : Hp} {o : HO} (a : Kp r H H1) (n : H1 p = none) : Kp r H (upd H1 p o) := fun b x nb h => by
  have h1 := a b x nb h
  rw [upd_ne (ne_of_none h1 n)]
  exact h1
theorem Kp.own {r : Addr} {H H1 : Hp} {o : HO} (a : Kp r H H1) : Kp r H (upd H1 r o) := fun b x nb h => by
  rw [upd_ne nb]
  exact a b x nb h
/-- an object that H does not know is written -/
theorem Kp.mut {r p : Addr} {H H1 : Hp} {o : HO} (a : Kp r H H1) (n : H p = none) : Kp r H (upd H1 p o) := fun b x nb h => by
  rw [upd_ne (ne_of_none h n)]
  exact a b x nb h
theorem Same.kp {r : Addr} {H H' : Hp} (s : Same H H') : Kp r H H' := fun b o _ h => s b o h
theorem Same.new {p : Addr} {H H1 : Hp} {o : HO} (a : Same H H1) (n : H1 p = none) : Same H (upd H1 p o) := fun b x h => by
  have h1 := a b x h
  rw [upd_ne (ne_of_none h1 n)]
  exact h1
theorem Same.mut {p : Addr} {H H1 : Hp} {o : HO} (a : Same H H1) (n : H p = none) : Same H (upd H1 p o) := fun b x h => by
  rw [upd_ne (ne_of_none h n)]
  exact a b x h
theorem Same.tup {K : PySem.W.Frag} {H H' : Hp} {a : Addr} {xs : List V} (e : Same H H') (h : SqT K H a xs) : SqT K H' a xs := by
  rcases h with (h | ⟨o, h⟩) | h
  · exact .inl (.inl (e _ _ h))
  · exact .inl (.inr ⟨o, e _ _ h⟩)
  · exact .inr h
/-- a list, a tuple that stands there stays, if it is not at r -/
theorem Kp.seqL {K : PySem.W.Frag} {r a : Addr} {H H' : Hp} {xs : List V} (e : Kp r H H') (n : a ≠ r) (h : SqL K H a xs) : SqL K H' a xs := by
  rcases h with (h | ⟨o, h⟩) | h
  · exact .inl (.inl (e _ _ n h))
  · exact .inl (.inr ⟨o, e _ _ n h⟩)
  · exact .inr h
theorem Same.kpN {r : Addr} {H H1 H2 : Hp} (s : Same H H1) (n : H r = Option.none) (k : Kp r H1 H2) : Same H H2 := fun b o h => k b o (ne_of_none h n) (s b o h)
theorem Kp.none {r p : Addr} {H H' : Hp} (e : Kp r H H') (n : p ≠ r) (h : H' p = Option.none) : H p = Option.none := by
  cases q : H p with
  | none => rfl
  | some o =>
    rw [e p o n q] at h
    cases h
theorem keep_new {H : Hp} {p b : Addr} {o x : HO} (h : H b = some x) (n : H p = Option.none) : (upd H p o) b = some x := by
  rw [upd_ne (ne_of_none h n)]
  exact h
theorem keep_ne {H : Hp} {p b : Addr} {o x : HO} (h : H b = some x) (n : b ≠ p) : (upd H p o) b = some x := by
  rw [upd_ne n]
  exact h
/-! ### a word between a statement and the rest -/
def tMid (t u : TS) : TS := fun D σ H => ∃ M : L2.St → Hp → Prop, t { D with nx := M } σ H ∧ ∀ σ1 H1, M σ1 H1 → u D σ1 H1
theorem pss_mid {X : Cx} {st : Stmt} {r : List Stmt} {t u : TS} (a : PS X st t) (b : PSs X r u) : PSs X (st :: r) (tMid t u) := ⟨fun pins s σ H D I h => by
  obtain ⟨M, hm, hu⟩ := h
  refine wpAny_execs_cons (thn (a.run pins s σ H { D with nx := M } I hm) fun f s1 q => ?_)
  cases f
  case next =>
    obtain ⟨σ1, H1, I1, q1⟩ := q
    exact b.run pins s1 σ1 H1 D I1 (hu σ1 H1 q1)
  all_goals exact q⟩
/-! ### texts -/
/-- a text of these codes; one sign -/
abbrev tx (l : List Nat) : V := .str ⟨l.toArray⟩
abbrev sg (c : Nat) : V := .str ⟨#[c]⟩
theorem signs_vals {x : Str} {acc : Array Value} (h : ItemsOf (SignAt x) acc x.cps.size) : Vals (x.cps.toList.map sg) acc.toList := by
  obtain ⟨hz, hi⟩ := h
  have key : ∀ (l : List Nat) (us : List Value), l.length = us.length → (∀ (j : Nat) (c : Nat) (v : Value), l[j]? = some c → us[j]? = some v → ∃ t, v = Value.str ⟨#[c]⟩ t) → Vals (l.map sg) us := by
    intro l
    induction l with
    | nil =>
      intro us hl _
      cases us with
      | nil => exact .nil
      | cons a b => cases hl
    | cons c l ih =>
      intro us hl hh
      cases us with
      | nil => cases hl
      | cons u us =>
        refine .cons ?_ (ih us (Nat.succ.inj hl) fun j c v h1 h2 => hh (j + 1) c v h1 h2)
        obtain ⟨t, e⟩ := hh 0 c u rfl rfl
        exact ⟨t, e⟩
  refine key _ _ (by rw [Array.length_toList, Array.length_toList, hz]) fun j c v h1 h2 => ?_
  obtain ⟨cc, t, e1, e2⟩ := hi j v (by rw [← Array.getElem?_toList]; exact h2)
  rw [Array.getElem?_toList] at h1
  rw [h1] at e1
  cases e1
  exact ⟨t, e2⟩
/-- the text of one sign -/
abbrev sS (c : Nat) : Str := ⟨#[c]⟩
theorem str_empty : (Str.ofString "").cps = #[] := by decide +kernel
theorem join_signs : ∀ l : List Nat, Txt.join (Str.ofString "") (l.map sS) = ⟨l.toArray⟩ := by
  intro l
  show PySem.Builtin.Str.glued (Str.ofString "") (l.map sS) = _
  rw [PySem.StrLaws.glued_eq_join]
  induction l with
  | nil => rfl
  | cons c l ih =>
    cases l with
    | nil => rfl
    | cons d l =>
      show sS c ++ Str.ofString "" ++ Str.join (Str.ofString "") ((d :: l).map sS) = _
      rw [ih]
      show (⟨(#[c] ++ (Str.ofString "").cps) ++ (d :: l).toArray⟩ : Str) = _
      rw [str_empty]
      simp
theorem ltCps_one {a b : Nat} (h : ltCps [a] [b] = false) : b ≤ a := by
  simp [ltCps] at h
  exact h
theorem rising_signs : ∀ (l : List Nat) (c : Nat), risingS (sS c) (l.map sS) = true → (c :: l).Pairwise (· ≤ ·)
  | [], c, _ => List.pairwise_singleton _ _
  | d :: l, c, h => by
    have h' : (!ltCps [d] [c] && risingS (sS d) (l.map sS)) = true := h
    rw [Bool.and_eq_true, Bool.not_eq_true'] at h'
    have hd := ltCps_one h'.1
    have ih := rising_signs l d h'.2
    refine List.Pairwise.cons (fun x hx => ?_) ih
    rcases List.mem_cons.mp hx with e | hx
    · rw [e]
      exact hd
    · exact Nat.le_trans hd ((List.pairwise_cons.mp ih).1 x hx)
theorem sorted_signs : ∀ (l : List Nat), sortedS (l.map sS) = true → l.Pairwise (· ≤ ·)
  | [], _ => List.Pairwise.nil
  | c :: l, h => rising_signs l c h
theorem perm_signs {ys : List Str} {l : List Nat} (h : ys.Perm (l.map sS)) : ∃ l' : List Nat, ys = l'.map sS ∧ l'.Perm l := by
  let hd : Str → Nat := fun z => z.cps.toList.headD 0
  refine ⟨ys.map hd, ?_, ?_⟩
  · rw [List.map_map]
    have e : ∀ y ∈ ys, (sS ∘ hd) y = y := fun y hy => by
      obtain ⟨c, _, rfl⟩ := List.mem_map.mp (h.mem_iff.mp hy)
      rfl
    conv => lhs; rw [← List.map_id ys]
    exact (List.map_congr_left e).symm
  · have e := h.map hd
    rw [List.map_map] at e
    have e2 : l.map (hd ∘ sS) = l := by
      conv => rhs; rw [← List.map_id l]
      exact List.map_congr_left fun c _ => rfl
    rw [e2] at e
    exact e
theorem strict_of {l : List Nat} (h : l.Pairwise (· ≤ ·)) (n : l.Nodup) : l.Pairwise (· < ·) := by
  refine (h.and n).imp fun {a b} q => ?_
  have h1 := q.1
  have h2 : a ≠ b := q.2
  omega
theorem map_sg (l : List Nat) : l.map sg = (l.map sS).map V.str := by
  rw [List.map_map]
  rfl
theorem erase_map {α β : Type} (f : α → β) : ∀ (l : List α) (k : Nat), (l.map f).eraseIdx k = (l.eraseIdx k).map f
  | [], _ => rfl
  | _ :: _, 0 => rfl
  | a :: l, k + 1 => by
    show f a :: (l.map f).eraseIdx k = f a :: (l.eraseIdx k).map f
    rw [erase_map f l k]
theorem pop_perm : ∀ {l : List Nat} {k : Nat} {y : Nat}, l[k]? = some y → (y :: l.eraseIdx k).Perm l
  | [], k, y, h => by simp at h
  | a :: l, 0, y, h => by
    have e : a = y := Option.some.inj h
    rw [e]
    exact List.Perm.refl _
  | a :: l, k + 1, y, h => by
    have ih := pop_perm (l := l) (k := k) (y := y) h
    exact (List.Perm.swap a y (l.eraseIdx k)).trans (ih.cons a)
theorem popped {l : List Nat} {k : Nat} {y : Nat} (h : l[k]? = some y) (f : List Nat) : (l.eraseIdx k ++ (f ++ [y])).Perm (l ++ f) := by
  have p := pop_perm h
  have p1 : (l.eraseIdx k ++ (f ++ [y])).Perm ([y] ++ (l.eraseIdx k ++ f)) := by
    rw [← List.append_assoc]
    exact List.perm_append_comm
  refine p1.trans ?_
  rw [← List.append_assoc]
  exact p.append_right f
section
variable {X : Cx}
theorem call_list_txt (hc : X.calm = true := by rfl) : CallR X (.type "list") (fun xs H Q => ∃ z : Str, xs = [.str z] ∧ z.length ≤ sizeLine ∧ ∀ l, H l = none → Q (.ref l) (upd H l (.lst (z.cps.toList.map sg)))) := by
  intro pins s σ H xs us Q I r h
  obtain ⟨z, rfl, hz, q⟩ := h
  obtain ⟨u, rfl, rx⟩ := vals1 r
  obtain ⟨t, rfl⟩ := rx
  refine PySem.call_list_str (I.ok.hd hc) z t (fun h' tk acc c kp e hi => ?_) hz
  have hv := signs_vals hi
  exact ⟨.ref s.heap.objs.size, _, I.laid (t' := tk) kp (Nat.le_refl _) (show ObjOk X.prog X.w _ h' _ (.lst (z.cps.toList.map sg)) from ⟨by rw [List.length_map, Array.length_toList]; exact hz, acc.toList, c, hv, by rw [Array.toArray_toList]; exact e⟩), rfl, q _ (I.hok.fresh (Nat.le_refl _))⟩
end
end My

set_option Elab.async false
set_option linter.all false
set_option maxRecDepth 100000
set_option maxHeartbeats 1000000
namespace My
open PySem PySem.Spec PyProof.Rows L2
/-! ### enumerate over a text, over a tuple -/
def ItEg (go : Nat → Hp → Prop) (val : Nat → Hp → V → Prop) (stop : Nat → Hp → Prop) : It :=
  ⟨go, fun i H v H' => ∃ T x, v = .ref T ∧ H T = none ∧ H' = upd H T (.tup [.int (i : Nat), x]) ∧ val i H x, stop⟩
theorem turn_eg {P : Program} {w : World} {K : PySem.W.Frag} {elts : List Expr} {kk : Nat} {tpos : Pos} {e it : Addr} {Sub : Nat → Heap → Prop} {go stop : Nat → Hp → Prop} {val : Nat → Hp → V → Prop} (hne : e ≠ it)
    (obj : ∀ i h, Sub i h → ∃ o, h.get? it = some o ∧ ∀ v, o.data ≠ .cell v)
    (keep : ∀ i h h', Sub i h → (∀ o, h.get? it = some o → h'.get? it = some o) → Sub i h')
    (draw : ∀ (X : Cx) (pins : List (Addr × Obj)) (σ : L2.St) (H : Hp) (s : Shared) (i : Nat), X.prog = P → X.w = w → X.K = K → X.calm = true → Inv X pins σ H s → (∃ old, IsEnum s.heap e it ((i : Nat) : Int) old) → Sub i s.heap → go i H ∨ stop i H →
      ∃ (fp : List Addr) (n : Nat) (Pd : Nat → Value → Prop) (St : Nat → Heap → Prop), Draws P w X.A.in1 it fp n Pd St ∧ St i s.heap ∧ (∀ j h, St j h → Sub j h) ∧ e ∉ fp ∧ (go i H → i < n) ∧ (stop i H → i = n) ∧ (go i H → ∀ u, Pd i u → ∃ x, RelV x u ∧ val i H x)) :
    Turn P w K (.Tuple elts kk tpos) (ItEg go val stop) [e, it] e (fun i h => (∃ old, IsEnum h e it ((i : Nat) : Int) old) ∧ Sub i h) where
  mem := by simp
  obj := fun i h st b hb => by
    obtain ⟨⟨old, he⟩, hs⟩ := st
    have hb2 : b = e ∨ b = it := by simpa using hb
    rcases hb2 with z | z
    · rw [z]
      exact ⟨_, he, fun v q => nomatch q⟩
    · rw [z]
      exact obj i h hs
  keep := fun i h h' st k => by
    obtain ⟨⟨old, he⟩, hs⟩ := st
    exact ⟨⟨old, k e (by simp) _ he⟩, keep i h h' hs fun o q => k it (by simp) o q⟩
  item := by
    intro X hP hw hK hc i pins s σ H E I hf st hg
    obtain ⟨fp, n, Pd, St, D, hst, hsub, hef, hlt, _, hval⟩ := draw X pins σ H s i hP hw hK hc I st.1 st.2 (.inl hg)
    obtain ⟨⟨old, he⟩, hs⟩ := st
    subst hP hw hK
    have hel : e < s.heap.objs.size := Heap.lt_size he
    have hil : it < s.heap.objs.size := by
      obtain ⟨o, q, _⟩ := obj i _ hs
      exact Heap.lt_size q
    refine wpAny_pyNext_enum_itemC D he hst (hlt hg) hne hef fun u h' tk hu ho hst' hT hsz hk => ?_
    obtain ⟨x, ru, hv⟩ := hval hg u hu
    refine ⟨_, rfl, wpAny_letOwnedTupleGo_enum (s := { s with heap := h', toks := tk + 1 }) ho fun h'' he' sb => ?_⟩
    have hT2 : h''.get? s.heap.objs.size = some { cls := .type "tuple", data := .seq #[.int i tk, u] } := (sb.2 _ (Nat.ne_of_gt hel)).trans hT
    have new : ObjOk X.prog X.w (upd H s.heap.objs.size (.tup [.int (i : Nat), x])) h'' s.heap.objs.size (.tup [.int (i : Nat), x]) := ⟨by show 2 ≤ sizeLine; decide, [.int i tk, u], .cons ⟨_, rfl⟩ (.cons ru .nil), ⟨_, hT2, rfl, _, rfl⟩⟩
    have I1 : Inv X pins σ (upd H s.heap.objs.size (.tup [.int (i : Nat), x])) { s with heap := h'', toks := tk + 1 } :=
      I.turnedNew (ch := [e, it]) (fun b ob hb q => (sb.2 b fun z => hb (by simp [z])).trans (hk b ob (fun z => hb (by simp [z])) (fun z => hb (by simp [z])) q)) hf (Nat.le_refl _) new
    refine ⟨.ref s.heap.objs.size, _, I1, rfl, ⟨_, x, rfl, I.hok.fresh (Nat.le_refl _), rfl, hv⟩, ⟨⟨u, ?_⟩, keep _ _ _ (hsub _ _ hst') fun o q => (sb.2 it (Ne.symm hne)).trans q⟩, fun b hb => ?_⟩
    · have e1 : ((i + 1 : Nat) : Int) = (i : Int) + 1 := by omega
      rw [e1]
      exact he'
    · have hb2 : b = e ∨ b = it := by simpa using hb
      have hb' : b < s.heap.objs.size := by
        rcases hb2 with z | z
        · rw [z]
          exact hel
        · rw [z]
          exact hil
      rw [upd_ne (Nat.ne_of_lt hb')]
      exact (hf b hb).1
  done := by
    intro X hP hw hK hc i pins s σ H E I hf st hg
    obtain ⟨fp, n, Pd, St, D, hst, hsub, hef, _, heq, _⟩ := draw X pins σ H s i hP hw hK hc I st.1 st.2 (.inr hg)
    obtain ⟨⟨old, he⟩, hs⟩ := st
    subst hP hw hK
    have ei := heq hg
    subst ei
    obtain ⟨f0, f1, f2, f3, f4, f5⟩ := hf it (by simp)
    exact wpAny_pyNext_enum_endD D he hst fun h' eb => ⟨rfl, I.turned (t' := s.toks) (fun b o hb q => eb b o hb q) f0 f1 f3 f4 f5⟩
  self := fun A i s Q E st h => by
    obtain ⟨⟨old, he⟩, _⟩ := st
    exact wpAny_pyIter_enum he h
/-- the signs of a text with their places -/
def Ites (z : Str) : It := ItEg (fun i _ => i < z.cps.size) (fun i _ x => ∃ c, z.cps[i]? = some c ∧ x = sg c) (fun i _ => i = z.cps.size)
theorem turn_es {P : Program} {w : World} {K : PySem.W.Frag} {elts : List Expr} {kk : Nat} {tpos : Pos} {e it : Addr} (z : Str) (t : Tok) (hne : e ≠ it) :
    Turn P w K (.Tuple elts kk tpos) (Ites z) [e, it] e (fun i h => (∃ old, IsEnum h e it ((i : Nat) : Int) old) ∧ h.IsStrIter it (strIterType z) z t i) := by
  refine turn_eg hne (fun i h st => ?_) (fun i h h' st k => ?_) (fun X pins σ H s i hP hw hK hc I hen st hg => ?_)
  · obtain ⟨o, e1, c, d⟩ := st
    exact ⟨o, e1, fun v q => by rw [d] at q; cases q⟩
  · obtain ⟨o, ho, r⟩ := st
    exact ⟨o, k o ho, r⟩
  · have hh : X.A.in1.handled = none := I.ok.hd hc
    subst hP hw hK
    refine ⟨_, _, _, _, Draws.text hh it z t, st, fun _ _ q => q, fun q => hne (by simpa using q), fun q => q, fun q => q, fun _ u hu => ?_⟩
    obtain ⟨c, tk, e1, e2⟩ := hu
    exact ⟨sg c, ⟨tk, e2⟩, c, e1, rfl⟩
section
variable {X : Cx}
def iEnumS (ta : TA) : TI := fun σ H R => ta σ H fun vs H1 => ∃ z, vs = [.str z] ∧ R (Ites z) H1
theorem fresh2 {pins : List (Addr × Obj)} {σ : L2.St} {H : Hp} {s : Shared} (I : Inv X pins σ H s) : ∀ b ∈ [s.heap.objs.size + 1, s.heap.objs.size], FpOk X pins H b := fun b hb => by
  have hb2 : b = s.heap.objs.size + 1 ∨ b = s.heap.objs.size := by simpa using hb
  have hle : s.heap.objs.size ≤ b := by
    rcases hb2 with z | z
    · rw [z]
      exact Nat.le_succ _
    · rw [z]
      exact Nat.le_refl _
  exact I.fpOk hle (I.hok.fresh hle)
theorem pi_enumS {e : Expr} {ta : TA} {p pos tpos : Pos} {elts : List Expr} {kk : Nat} (hg : Gl X "enumerate") (hm : X.mg "enumerate" = none) (ha : PA X [e] ta) (hs : starEach [e] X.env = [(false, eval e X.env)] := by rfl) :
    PI X (.Tuple elts kk tpos) (.Call (.Name "enumerate" p) [e] [] pos) (iEnumS ta) := by
  refine ⟨fun pins s σ H R I h => ?_⟩
  refine Call_ (ld_blt I hg hm boot_enumerate (PyProof.Rows.callWith_type1 (thn (ha.run pos pins s σ H _ I h) fun us s1 ⟨vs, H1, I1, r1, q1⟩ => ?_) hs rfl))
  obtain ⟨z, rfl, q⟩ := q1
  obtain ⟨u, rfl, ru⟩ := vals1 r1
  obtain ⟨t, rfl⟩ := ru
  refine call_enumerate_str fun h' he hit hsz hk => wpAny_pyIter_enum he ?_
  exact ⟨s1.heap.objs.size + 1, [s1.heap.objs.size + 1, s1.heap.objs.size], _, _, H1, rfl, I1.kept (t' := s1.toks) hk, turn_es z t (Nat.succ_ne_self _), ⟨⟨.none, he⟩, hit⟩, fresh2 I1, q⟩
end
theorem walk_es {z : Str} : Walk (Ites z) z.cps.size (fun _ => True) (YPair (fun i => some (.int (i : Nat))) (fun i => z.cps[i]?.map sg)) := by
  refine ⟨fun _ _ hi _ => hi, fun _ _ => rfl, fun i H v H' hi _ y => ?_⟩
  obtain ⟨T, x, h1, h2, h3, c, h4, h5⟩ := y
  exact ⟨T, .int (i : Nat), x, h1, h2, h3, rfl, by show Option.map sg z.cps[i]? = some x; rw [h4, h5]; rfl⟩
end My

set_option Elab.async false
set_option linter.all false
set_option maxRecDepth 100000
set_option maxHeartbeats 1000000
namespace My
open PySem PySem.Spec PyProof.Rows L2
/-! ### calls by named readings -/
def rLenSq (K : PySem.W.Frag) : List V → Hp → VK → Prop := fun xs H Q => ∃ p ys, xs = [.ref p] ∧ (SqL K H p ys ∨ SqT K H p ys) ∧ Q (.int (ys.length : Nat)) H
def rListSq (K : PySem.W.Frag) : List V → Hp → VK → Prop := fun xs H Q => ∃ p ys, xs = [.ref p] ∧ (SqL K H p ys ∨ SqT K H p ys) ∧ ∀ l, H l = none → Q (.ref l) (upd H l (.lst ys))
def rTupSq (K : PySem.W.Frag) : List V → Hp → VK → Prop := fun xs H Q => ∃ p ys, xs = [.ref p] ∧ ((SqL K H p ys ∧ ∀ l, H l = none → Q (.ref l) (upd H l (.tup ys))) ∨ (SqT K H p ys ∧ Q (.ref p) H))
section
variable (K : PySem.W.Frag) {X : Cx}
theorem cLenSq (hK : X.K = K := by rfl) : CallR X (.builtin "len") (rLenSq K) := by
  subst hK
  exact call_len_seq
theorem cListSq (hK : X.K = K := by rfl) : CallR X (.type "list") (rListSq K) := by
  subst hK
  exact call_list_of
theorem cTupSq (hK : X.K = K := by rfl) : CallR X (.type "tuple") (rTupSq K) := by
  subst hK
  exact call_tuple_of
theorem ixL (hK : X.K = K := by rfl) : IxR X (rIxL K) := by
  subst hK
  exact ix_list
theorem ixT (hK : X.K = K := by rfl) : IxR X (rIxT K) := by
  subst hK
  exact ix_tup
theorem piL {tg l : Expr} {tl : TE} (hl : PE X l tl) (hK : X.K = K := by rfl) : PI X tg l (iList K tl) := by
  subst hK
  exact pi_list hl
theorem piT {tg l : Expr} {tl : TE} (hl : PE X l tl) (hK : X.K = K := by rfl) : PI X tg l (iTup K tl) := by
  subst hK
  exact pi_tup hl
theorem pgT {es : List Expr} {k : Nat} {t : TGs} {n : Nat} {pos : Pos} (h : PGs X es t) (hK : X.K = K := by rfl) (hc : X.calm = true := by rfl) (hn : (assignEach es X.env).length = n := by rfl) (hst : (assignEach es X.env).findIdx? (·.1) = none := by rfl) : PG X (.Tuple es k pos) (gTup K n t) := by
  subst hK
  exact pg_tup hc h hn hst
theorem inSq (hK : X.K = K := by rfl) : OpR X (compareOp .In) (rIn K false) := by
  subst hK
  exact op_in_seq
theorem notInSq (hK : X.K = K := by rfl) : OpR X (compareOp .NotIn) (rIn K true) := by
  subst hK
  exact op_notIn_seq
theorem eqDK (hu : X.A.units + 64 < cLine) (hK : X.K = K := by rfl) : OpR X (compareOp .Eq) (rEqD K) := by
  subst hK
  exact op_eqD hu
theorem neDK (hu : X.A.units + 64 < cLine) (hK : X.K = K := by rfl) : OpR X (compareOp .NotEq) (rNeD K) := by
  subst hK
  exact op_neD hu
theorem bmK {T id : String} {name : Str} {r : V → List V → Hp → VK → Prop} {o e : Expr} {es : List Expr} {to : TE} {t : TA} {apos cpos : Pos} (pa : PlainAttrs T) (slot : Slot T name id) (hty : typeOf (.builtin id) = pure (.type "method_descriptor")) (hm : MtR X id r) (ho : PE X o to) (ha : PA X (e :: es) t) (hK : X.K = K := by rfl)
    (hbase : attributeBase o name X.env (eval o X.env) = eval o X.env := by rfl)
    (hfew : ((backTo cpos (starEach (e :: es) X.env)).all (fun x => !x.1) && (backToKw cpos (keywordEach [] X.env)).all (fun x => x.1.isSome) && decide ((e :: es).length + ([] : List Keyword).length + (if ([] : List Keyword).isEmpty then 0 else 1) < 30)) = true := by rfl)
    (hline : (apos.endLine == cpos.line) = true := by rfl) (hs : starEach (e :: es) X.env = (false, eval e X.env) :: starEach es X.env := by rfl) (hplain : (backTo cpos (starEach es X.env)).any (·.1) = false := by rfl) :
    PE X (.Call (.Attribute o name apos) (e :: es) [] cpos) (tBM K T r to t) := by
  subst hK
  exact pe_bm pa slot hty hm ho ha hbase hfew hline hs hplain
end
/-! ### frozen data: numbers, texts, None, truths, tuples of these -/
mutual
inductive Fz (H : Hp) : V → PyData → Prop
  | non : Fz H .non .none
  | bl (b : Bool) : Fz H (.bl b) (.bool b)
  | int (i : Int) : Fz H (.int i) (.int i)
  | str (x : Str) : Fz H (.str x) (.str x)
  | tup {a : Addr} {xs : List V} {ds : List PyData} : H a = some (.tup xs) → FzA H xs ds → Fz H (.ref a) (.tuple ds)
inductive FzA (H : Hp) : List V → List PyData → Prop
  | nil : FzA H [] []
  | cons {v : V} {vs : List V} {d : PyData} {ds : List PyData} : Fz H v d → FzA H vs ds → FzA H (v :: vs) (d :: ds)
end
/-- tuples stay -/
def Kt (H H' : Hp) : Prop := ∀ b xs, H b = some (.tup xs) → H' b = some (.tup xs)
theorem Kt.rfl' {H : Hp} : Kt H H := fun _ _ h => h
theorem Kt.trans {H H1 H2 : Hp} (a : Kt H H1) (b : Kt H1 H2) : Kt H H2 := fun c o h => b c o (a c o h)
theorem Kt.new {H : Hp} {p : Addr} {o : HO} (n : H p = none) : Kt H (upd H p o) := fun b xs h => by
  rw [upd_ne (ne_of_none h n)]
  exact h
theorem Kt.lst {H : Hp} {p : Addr} {xs : List V} {o : HO} (n : H p = some (.lst xs)) : Kt H (upd H p o) := fun b ys h => by
  have e : b ≠ p := fun z => by
    rw [z, n] at h
    cases h
  rw [upd_ne e]
  exact h
theorem Kt.dct {H : Hp} {p : Addr} {xs : List (Key × V)} {o : HO} (n : H p = some (.dK xs)) : Kt H (upd H p o) := fun b ys h => by
  have e : b ≠ p := fun z => by
    rw [z, n] at h
    cases h
  rw [upd_ne e]
  exact h
theorem Kp.kt {r : Addr} {H H' : Hp} {xs : List V} (k : Kp r H H') (h : H r = some (.lst xs)) : Kt H H' := fun b ys e => k b _ (fun z => by
  rw [z, h] at e
  cases e) e
theorem Same.kt {H H' : Hp} (k : Same H H') : Kt H H' := fun b ys e => k b _ e
mutual
theorem Fz.mono {H H' : Hp} (k : Kt H H') : ∀ (d : PyData) (v : V), Fz H v d → Fz H' v d
  | .none, _, .non => .non
  | .bool _, _, .bl b => .bl b
  | .int _, _, .int i => .int i
  | .str _, _, .str x => .str x
  | .tuple ds, _, .tup h a => .tup (k _ _ h) (FzA.mono k ds _ a)
theorem FzA.mono {H H' : Hp} (k : Kt H H') : ∀ (ds : List PyData) (vs : List V), FzA H vs ds → FzA H' vs ds
  | [], _, .nil => .nil
  | d :: ds, _, .cons h a => .cons (Fz.mono k d _ h) (FzA.mono k ds _ a)
end
theorem Fz.kt {H H' : Hp} {v : V} {d : PyData} (h : Fz H v d) (k : Kt H H') : Fz H' v d := Fz.mono k d v h
theorem FzA.kt {H H' : Hp} {vs : List V} {ds : List PyData} (h : FzA H vs ds) (k : Kt H H') : FzA H' vs ds := FzA.mono k ds vs h
mutual
theorem Fz.dp {K : PySem.W.Frag} {H : Hp} : ∀ (d : PyData) (v : V), Fz H v d → Dp K H v d
  | .none, _, .non => .non
  | .bool _, _, .bl b => .bl b
  | .int _, _, .int i => .int i
  | .str _, _, .str x => .str x
  | .tuple ds, _, .tup h a => .tup (.inl (.inl h)) (FzA.dp ds _ a)
theorem FzA.dp {K : PySem.W.Frag} {H : Hp} : ∀ (ds : List PyData) (vs : List V), FzA H vs ds → DpAll K H vs ds
  | [], _, .nil => .nil
  | d :: ds, _, .cons h a => .cons (Fz.dp d _ h) (FzA.dp ds _ a)
end
theorem Fz.to {K : PySem.W.Frag} {H : Hp} {v : V} {d : PyData} (h : Fz H v d) : Dp K H v d := Fz.dp d v h
theorem FzA.len : ∀ {H : Hp} {vs : List V} {ds : List PyData}, FzA H vs ds → vs.length = ds.length
  | _, _, _, .nil => rfl
  | _, _, _, .cons _ a => by
    rw [List.length_cons, List.length_cons, FzA.len a]
theorem FzA.get : ∀ {H : Hp} {vs : List V} {ds : List PyData} {i : Nat} {d : PyData}, FzA H vs ds → ds[i]? = some d → ∃ v, vs[i]? = some v ∧ Fz H v d
  | _, _, _, _, _, .nil, h => by simp at h
  | _, _, _, 0, _, .cons a _, h => ⟨_, rfl, Option.some.inj h ▸ a⟩
  | _, _, _, i + 1, _, .cons _ a, h => FzA.get (i := i) a h
theorem FzA.getV : ∀ {H : Hp} {vs : List V} {ds : List PyData} {i : Nat} {v : V}, FzA H vs ds → vs[i]? = some v → ∃ d, ds[i]? = some d ∧ Fz H v d
  | _, _, _, _, _, .nil, h => by simp at h
  | _, _, _, 0, _, .cons a _, h => ⟨_, rfl, Option.some.inj h ▸ a⟩
  | _, _, _, i + 1, _, .cons _ a, h => FzA.getV (i := i) a h
theorem FzA.app : ∀ {H : Hp} {vs ws : List V} {ds es : List PyData}, FzA H vs ds → FzA H ws es → FzA H (vs ++ ws) (ds ++ es)
  | _, _, _, _, _, .nil, b => b
  | _, _, _, _, _, .cons a r, b => .cons a (FzA.app r b)
theorem FzA.snoc {H : Hp} {vs : List V} {ds : List PyData} {v : V} {d : PyData} (a : FzA H vs ds) (b : Fz H v d) : FzA H (vs ++ [v]) (ds ++ [d]) := a.app (.cons b .nil)
theorem FzA.ints : ∀ {H : Hp} {ns : List Int} {vs : List V}, FzA H vs (ns.map PyData.int) → vs = ns.map V.int
  | _, [], _, .nil => rfl
  | _, n :: ns, _, .cons (.int _) a => by
    rw [FzA.ints (ns := ns) a]
    rfl
theorem FzA.ofInts : ∀ {H : Hp} {ns : List Int}, FzA H (ns.map V.int) (ns.map PyData.int)
  | _, [] => .nil
  | _, n :: ns => .cons (.int n) (FzA.ofInts (ns := ns))
/-- a tuple, opened -/
theorem Fz.open {H : Hp} {v : V} {ds : List PyData} (h : Fz H v (.tuple ds)) : ∃ (a : Addr) (xs : List V), v = .ref a ∧ H a = some (.tup xs) ∧ FzA H xs ds := by
  cases h with
  | tup h a => exact ⟨_, _, rfl, h, a⟩
theorem FzA.one {H : Hp} {vs : List V} {d : PyData} (h : FzA H vs [d]) : ∃ x, vs = [x] ∧ Fz H x d := by
  cases h with
  | cons a r =>
    cases r
    exact ⟨_, rfl, a⟩
theorem FzA.two {H : Hp} {vs : List V} {d e : PyData} (h : FzA H vs [d, e]) : ∃ x y, vs = [x, y] ∧ Fz H x d ∧ Fz H y e := by
  cases h with
  | cons a r =>
    obtain ⟨y, rfl, b⟩ := r.one
    exact ⟨_, y, rfl, a, b⟩
theorem FzA.three {H : Hp} {vs : List V} {d e f : PyData} (h : FzA H vs [d, e, f]) : ∃ x y z, vs = [x, y, z] ∧ Fz H x d ∧ Fz H y e ∧ Fz H z f := by
  cases h with
  | cons a r =>
    obtain ⟨y, z, rfl, b, c⟩ := r.two
    exact ⟨_, y, z, rfl, a, b, c⟩
theorem Fz.isStr {H : Hp} {v : V} {x : Str} (h : Fz H v (.str x)) : v = .str x := by
  cases h
  rfl
theorem Fz.isInt {H : Hp} {v : V} {i : Int} (h : Fz H v (.int i)) : v = .int i := by
  cases h
  rfl
theorem Fz.isNon {H : Hp} {v : V} (h : Fz H v .none) : v = .non := by
  cases h
  rfl
/-- a tuple just made -/
theorem Fz.made {H : Hp} {p : Addr} {xs : List V} {ds : List PyData} (n : H p = Option.none) (h : FzA H xs ds) : Fz (upd H p (.tup xs)) (.ref p) (.tuple ds) := .tup upd_same (h.kt (.new n))
theorem at_ints {ns : List Int} {d : Int} (h0 : 0 ≤ d) (h1 : d < (ns.length : Nat)) : ∃ t ∈ ns, atI (ns.map V.int) d = some (.int t) := by
  have hd : d.toNat < ns.length := by omega
  refine ⟨ns[d.toNat], List.getElem_mem hd, L2.at_of (j := d.toNat) (by omega) ?_⟩
  rw [List.getElem?_map, List.getElem?_eq_getElem hd]
  rfl
/-! ### tables -/
abbrev rowD (row : List Int) : PyData := .tuple (row.map PyData.int)
abbrev rowsD (rows : List (List Int)) : PyData := .tuple (rows.map rowD)
abbrev tabD (cols : List Nat) (rows : List (List Int)) : PyData := .tuple [.str ⟨cols.toArray⟩, rowsD rows]
/-- rising unlike letters -/
structure Cols (l : List Nat) : Prop where
  up : l.Pairwise (· < ·)
  az : ∀ c ∈ l, 97 ≤ c ∧ c ≤ 122
theorem Cols.nd {l : List Nat} (c : Cols l) : l.Nodup := c.up.imp fun {a b} h => by
  have : a < b := h
  omega
def RowOk (n : Nat) (row : List Int) : Prop := row.length = n ∧ ∀ x ∈ row, 0 ≤ x ∧ x < 1000
def RowsOk (n : Nat) (rows : List (List Int)) : Prop := ∀ row ∈ rows, RowOk n row
theorem row_open {H : Hp} {v : V} {row : List Int} (h : Fz H v (rowD row)) : ∃ a, v = .ref a ∧ H a = some (.tup (row.map V.int)) := by
  obtain ⟨a, xs, rfl, ha, f⟩ := h.open
  rw [FzA.ints f] at ha
  exact ⟨a, rfl, ha⟩
theorem row_made {H : Hp} {p : Addr} {row : List Int} (n : H p = none) : Fz (upd H p (.tup (row.map V.int))) (.ref p) (rowD row) := Fz.made n FzA.ofInts
theorem tab_open {H : Hp} {v : V} {cols : List Nat} {rows : List (List Int)} (h : Fz H v (tabD cols rows)) : ∃ (t R : Addr) (vs : List V), v = .ref t ∧ H t = some (.tup [tx cols, .ref R]) ∧ H R = some (.tup vs) ∧ FzA H vs (rows.map rowD) := by
  obtain ⟨t, xs, rfl, ht, f⟩ := h.open
  obtain ⟨x, y, rfl, fx, fy⟩ := f.two
  obtain ⟨R, vs, rfl, hR, fv⟩ := fy.open
  rw [fx.isStr] at ht
  exact ⟨t, R, vs, rfl, ht, hR, fv⟩
theorem can_row (row : List Int) : PyData.canLay0 (rowD row) = true := by
  show PyData.canLayAll0 (row.map PyData.int) = true
  induction row with
  | nil => rfl
  | cons a r ih =>
    show (PyData.canLay0 (.int a) && PyData.canLayAll0 (r.map PyData.int)) = true
    rw [ih]
    rfl
theorem can_rows (rows : List (List Int)) : PyData.canLay0 (rowsD rows) = true := by
  show PyData.canLayAll0 (rows.map rowD) = true
  induction rows with
  | nil => rfl
  | cons a r ih =>
    show (PyData.canLay0 (rowD a) && PyData.canLayAll0 (r.map rowD)) = true
    rw [ih, can_row]
    rfl
theorem dep_row (row : List Int) : PyData.depth (rowD row) ≤ 1 := by
  show PyData.depthAll (row.map PyData.int) + 1 ≤ 1
  induction row with
  | nil => exact Nat.le_refl _
  | cons a r ih =>
    show max (PyData.depth (.int a)) (PyData.depthAll (r.map PyData.int)) + 1 ≤ 1
    have e : PyData.depth (.int a) = 0 := rfl
    rw [e]
    omega
theorem dep_rows (rows : List (List Int)) : PyData.depth (rowsD rows) ≤ 2 := by
  show PyData.depthAll (rows.map rowD) + 1 ≤ 2
  induction rows with
  | nil => decide
  | cons a r ih =>
    show max (PyData.depth (rowD a)) (PyData.depthAll (r.map rowD)) + 1 ≤ 2
    have := dep_row a
    omega
theorem shaped_rows (rows : List (List Int)) : SeqAt.shaped (rowsD rows) = true := by
  unfold SeqAt.shaped
  rw [can_rows, Bool.true_and]
  have := dep_rows rows
  exact decide_eq_true (by omega)
/-! ### questions -/
abbrev eqD (p : Nat × Int) : PyData := .tuple [.str ⟨#[p.1]⟩, .int p.2]
abbrev eqsD (es : List (Nat × Int)) : PyData := .tuple (es.map eqD)
abbrev rchD : Option (Nat × Int × Int) → PyData
  | none => .none
  | some (c, lo, hi) => .tuple [.str ⟨#[c]⟩, .int lo, .int hi]
abbrev qD (es : List (Nat × Int)) (rc : Option (Nat × Int × Int)) : PyData := .tuple [eqsD es, rchD rc]
structure QOk (cols : List Nat) (es : List (Nat × Int)) (rc : Option (Nat × Int × Int)) : Prop where
  up : (es.map (·.1)).Pairwise (· < ·)
  ok : ∀ p ∈ es, p.1 ∈ cols ∧ 0 ≤ p.2 ∧ p.2 < 1000
  len : es.length ≤ cols.length
  rc : ∀ c lo hi, rc = some (c, lo, hi) → c ∈ cols ∧ c ∉ es.map (·.1) ∧ 0 ≤ lo ∧ lo ≤ hi ∧ hi < 1000
theorem idx_first : ∀ {l : List Nat} {c i : Nat}, l[i]? = some c → (∀ k, k < i → l[k]? ≠ some c) → l.idxOf c = i
  | [], c, i, h, _ => by simp at h
  | a :: l, c, 0, h, _ => by
    have e : a = c := Option.some.inj h
    rw [e]
    simp
  | a :: l, c, i + 1, h, hn => by
    have e : a ≠ c := fun z => hn 0 (Nat.succ_pos _) (by rw [z]; rfl)
    have ih := idx_first (l := l) (c := c) (i := i) h fun k hk => hn (k + 1) (Nat.succ_lt_succ hk)
    rw [List.idxOf_cons, ih]
    have eb : (a == c) = false := by simp [e]
    rw [eb]
    rfl
/-- the place of a letter -/
theorem ix_one {l : List Nat} {c : Nat} (h : c ∈ l) : ∃ r, Builtin.Str.occurrences (⟨l.toArray⟩ : Str) ⟨#[c]⟩ 0 (⟨l.toArray⟩ : Str).length 1 = l.idxOf c :: r := by
  have hx : (⟨l.toArray⟩ : Str).cps.toList = l := by simp
  rcases PySem.StrLaws.occ_head (⟨l.toArray⟩ : Str) ⟨#[c]⟩ 1 (Nat.le_refl 1) with ⟨h0, hn⟩ | ⟨i, r, h0, ha, hn⟩
  · exfalso
    obtain ⟨i, hi⟩ := List.mem_iff_getElem?.mp h
    exact hn i ((PySem.StrLaws.subAt_one _ c i).mpr (by rw [hx]; exact hi))
  · refine ⟨r, ?_⟩
    rw [h0]
    have e1 : l[i]? = some c := by
      have := (PySem.StrLaws.subAt_one _ c i).mp ha
      rw [hx] at this
      exact this
    have e3 : l.idxOf c = i := idx_first e1 fun k hk z => hn k hk ((PySem.StrLaws.subAt_one _ c k).mpr (by rw [hx]; exact z))
    rw [e3]
end My

set_option Elab.async false
set_option linter.all false
set_option maxRecDepth 100000
set_option maxHeartbeats 1000000
namespace My
open PySem PySem.Spec PyProof.Rows L2
/-! ### name = {.. for ..} on one line -/
section
variable {X : Cx} {pins : List (Addr × Obj)} {σ : L2.St} {H : Hp} {s : Shared}
/-- an object of the frame's own at C may become anything: all that is known stays -/
theorem past {C : Addr} {h' : Heap} {t' : Nat} (I : Inv X pins σ H s) (f : FpOk X pins H C) (kp : ∀ b u, b ≠ C → s.heap.get? b = some u → h'.get? b = some u) : Inv X pins σ H { s with heap := h', toks := t' } :=
  I.turned kp f.1 f.2.1 f.2.2.2.1 f.2.2.2.2.1 f.2.2.2.2.2
/-- it is neither the frame's dict nor one of its cells -/
theorem apart_of {C a : Addr} {y : Str} (f : FpOk X pins H C) (ha : a = X.env.locals ∨ X.env.cells.lookup y = some a) : C ≠ a := fun z =>
  ha.elim (fun e => f.2.1 (z.trans e)) fun e => f.2.2.2.2.1 y a e z.symm
/-- the dict that was made goes to the name y while the comprehension's frame C is still there -/
theorem kept_at {C L : Addr} {m : Str → Option Value} {i : Nat} {y : Str} {py : Pos} {D : Ends} {E : Value → Shared → Prop} (I : Inv X pins σ H s) (f : FpOk X pins H C) (hn : s.heap.Ns C m) (hN : X.N.Nodup) (hy : X.N[i]? = some y) (hyl : X.env.scope.names.lookup y = some .local)
    (q : D.nx (σ.set i (some (.ref L))) H) : wpAny (model X.prog X.w) X.A (assign (.Name y py) X.env (.ref L)) (fun _ s' => ∃ m', s'.heap.Ns C m' ∧ ∀ h3, Heap.SameBut C s'.heap h3 → SP X pins D .next { s' with heap := h3 }) E s :=
  wpAny_assign_Name (store_ok2 (v := .ref L) I hN hy (.inl hyl) rfl (fun s2 J ⟨_, sb, ha⟩ => ⟨m, hn.sameBut sb (apart_of f ha), fun h3 sb3 => ⟨_, H, past (t' := s2.toks) J f fun b u ne e => (sb3.2 b ne).trans e, q⟩⟩) (.inr hyl))
theorem ps_setDc {i : Nat} {y : Str} {py : Pos} {kx vx tg iter : Expr} {ifs : List Expr} {scope : Scope} {own : List (Str × Nat)} {pos spos : Pos} {wi : TI} {g : TG} {tt : TT} {tk tv : TE} (hc : X.calm = true) (hN : X.N.Nodup) (hy : X.N[i]? = some y) (hyl : X.env.scope.names.lookup y = some .local)
    (hsw : swapsWith (.DictComp kx vx [⟨tg, iter, ifs, 0⟩] scope pos) (some (.Name y py)) spos.line X.env = pure true) (hi : PI X tg iter wi) (ok : BlkOk X.N X.env.scope scope own)
    (hg : ∀ (s : Shared) (H : Hp) (C : Addr) (cl : List (Str × Addr)) (fp : List Addr), PG (X.blk s H scope (compEnvC scope cl C X.env) fp) tg g)
    (ht : ∀ (s : Shared) (H : Hp) (C : Addr) (cl : List (Str × Addr)) (fp : List Addr), PTs (X.blk s H scope (compEnvC scope cl C X.env) fp) ifs tt)
    (kp : ∀ (s : Shared) (H : Hp) (C : Addr) (cl : List (Str × Addr)) (fp : List Addr), PE (X.blk s H scope (compEnvC scope cl C X.env) fp) kx tk)
    (vp : ∀ (s : Shared) (H : Hp) (C : Addr) (cl : List (Str × Addr)) (fp : List Addr), PE (X.blk s H scope (compEnvC scope cl C X.env) fp) vx tv) (hs : ∀ x, foldedSetIterable iter X.env x = pure x := by intro _; rfl) :
    PS X (.Assign [.Name y py] (.DictComp kx vx [⟨tg, iter, ifs, 0⟩] scope pos) spos) (tAsg (tDc wi g tt tk tv (own.map (·.2))) (gName i)) := by
  constructor
  intro pins s σ H D I h
  have made := dc_core (pos := pos) (pos' := firstIterPos [⟨tg, iter, ifs, 0⟩] pos) (use := some (assign (.Name y py) X.env)) (Qf := fun _ s' => SP X pins D .next s') (Q := fun x H1 => gName i x σ H1 D.nx) hc hN I hi ok hg ht kp vp hs h
    fun L C s' m H' I' q hn f => kept_at I' f hn hN hy hyl q
  rw [exec_Assign_Name_used _ _ _ _ hsw]
  exact wpAny_bind (wpAny_standAt (wpAny_bind (wpAny_bind (thn made fun _ _ z => wpAny_pure (wpAny_pure z)))))
end
theorem sw_dict {kx vx : Expr} {gs : List Comprehension} {scope : Scope} {pos py : Pos} {y : Str} {l : Nat} {env : Env} (hk : env.scope.kind = .function) (hy : env.scope.names.lookup y = some .local) (hl : (py.line == pos.line) = true)
    (ha : (scope.names.any fun (n, k) => n == y && (k == .local || k == .cell)) = false) : swapsWith (.DictComp kx vx gs scope pos) (some (.Name y py)) l env = pure true :=
  Eq.trans (b := swapsWith (.ListComp kx gs scope pos) (some (.Name y py)) l env) rfl (sw_true hk hy hl ha)
/-! ### spans: letters with their bounds -/
inductive SpA (H : Hp) : List (Key × V) → List (Nat × Int × Int) → Prop
  | nil : SpA H [] []
  | cons {p : Addr} {c : Nat} {lo hi : Int} {kvs : List (Key × V)} {l : List (Nat × Int × Int)} : H p = some (.tup [.int lo, .int hi]) → SpA H kvs l → SpA H ((Sum.inr (sS c), .ref p) :: kvs) ((c, lo, hi) :: l)
theorem SpA.kt {H H' : Hp} {kvs : List (Key × V)} {l : List (Nat × Int × Int)} (h : SpA H kvs l) (k : Kt H H') : SpA H' kvs l := by
  induction h with
  | nil => exact .nil
  | cons a _ ih => exact .cons (k _ _ a) ih
theorem SpA.snoc {H : Hp} {kvs : List (Key × V)} {l : List (Nat × Int × Int)} {p : Addr} {c : Nat} {lo hi : Int} (h : SpA H kvs l) (hp : H p = some (.tup [.int lo, .int hi])) : SpA H (kvs ++ [(Sum.inr (sS c), .ref p)]) (l ++ [(c, lo, hi)]) := by
  induction h with
  | nil => exact .cons hp .nil
  | cons a _ ih => exact .cons a ih
theorem SpA.len {H : Hp} {kvs : List (Key × V)} {l : List (Nat × Int × Int)} (h : SpA H kvs l) : kvs.length = l.length := by
  induction h with
  | nil => rfl
  | cons _ _ ih => rw [List.length_cons, List.length_cons, ih]
theorem sS_inj {a b : Nat} (h : sS a = sS b) : a = b := by
  have z3 : (#[a] : Array Nat) = #[b] := congrArg Str.cps h
  simpa using z3
theorem SpA.none {H : Hp} {kvs : List (Key × V)} {l : List (Nat × Int × Int)} {c : Nat} (h : SpA H kvs l) (n : c ∉ l.map (·.1)) : valV kvs (Sum.inr (sS c)) = Option.none := by
  induction h with
  | nil => rfl
  | @cons p d lo hi kvs l a r ih =>
    rw [valV_neg (fun z => n ?_)]
    · exact ih fun q => n (List.mem_cons_of_mem _ q)
    · have : d = c := sS_inj (Sum.inr.inj z)
      rw [← this]
      exact List.mem_cons_self ..
/-- at its place: the letter's entry -/
theorem SpA.get {H : Hp} {kvs : List (Key × V)} {l : List (Nat × Int × Int)} (h : SpA H kvs l) {i : Nat} {k : Key} {v : V} (e : kvs[i]? = some (k, v)) : ∃ (p : Addr) (c : Nat) (lo hi : Int), k = Sum.inr (sS c) ∧ v = .ref p ∧ H p = some (.tup [.int lo, .int hi]) ∧ l[i]? = some (c, lo, hi) := by
  induction h generalizing i with
  | nil => simp at e
  | @cons p c lo hi kvs l a r ih =>
    cases i with
    | zero =>
      have z := Option.some.inj e
      cases z
      exact ⟨p, c, lo, hi, rfl, rfl, a, rfl⟩
    | succ i => exact ih (i := i) e
theorem SpA.look {H : Hp} {kvs : List (Key × V)} {l : List (Nat × Int × Int)} (h : SpA H kvs l) (nd : (l.map (·.1)).Nodup) {c : Nat} {lo hi : Int} (m : (c, lo, hi) ∈ l) : ∃ p, valV kvs (Sum.inr (sS c)) = some (.ref p) ∧ H p = some (.tup [.int lo, .int hi]) := by
  induction h with
  | nil => cases m
  | @cons p d lo' hi' kvs l a r ih =>
    rcases List.mem_cons.mp m with z | z
    · cases z
      exact ⟨p, valV_pos rfl, a⟩
    · have nd2 := List.nodup_cons.mp nd
      have hdc : d ≠ c := fun q => nd2.1 (by
        have := List.mem_map_of_mem (f := fun x : Nat × Int × Int => x.1) z
        rw [q]
        exact this)
      obtain ⟨p', h1, h2⟩ := ih nd2.2 z
      refine ⟨p', ?_, h2⟩
      rw [valV_neg (fun q => hdc (sS_inj (Sum.inr.inj q)))]
      exact h1
def spanL (es : List (Nat × Int)) (rc : Option (Nat × Int × Int)) : List (Nat × Int × Int) := es.map (fun p => (p.1, p.2, p.2)) ++ rc.toList
theorem spanL_keys (es : List (Nat × Int)) : (es.map (fun p => (p.1, p.2, p.2))).map (·.1) = es.map (·.1) := by
  rw [List.map_map]
  rfl
theorem spanL_nd {cols : List Nat} {es : List (Nat × Int)} {rc : Option (Nat × Int × Int)} (h : QOk cols es rc) : ((spanL es rc).map (·.1)).Nodup := by
  have h1 : (es.map (·.1)).Nodup := h.up.imp fun {a b} q => by
    have : a < b := q
    omega
  unfold spanL
  rw [List.map_append, spanL_keys]
  cases rc with
  | none => simpa using h1
  | some t =>
    obtain ⟨c, lo, hi⟩ := t
    have := (h.rc c lo hi rfl).2.1
    show (es.map (·.1) ++ [c]).Nodup
    refine List.nodup_append.mpr ⟨h1, by simp, fun a ha b hb z => ?_⟩
    rw [List.mem_singleton.mp hb] at z
    rw [z] at ha
    exact this ha
/-! ### what fits -/
def rowAt (cols : List Nat) (row : List Int) (c : Nat) : Int := row.getD (cols.idxOf c) 0
theorem row_at {cols : List Nat} {row : List Int} {c : Nat} (hl : row.length = cols.length) (h : c ∈ cols) : (row.map V.int)[cols.idxOf c]? = some (.int (rowAt cols row c)) := by
  have hi : cols.idxOf c < row.length := by
    rw [hl]
    exact List.idxOf_lt_length_of_mem h
  unfold rowAt
  rw [List.getElem?_map, List.getElem?_eq_getElem hi, List.getD_eq_getElem?_getD, List.getElem?_eq_getElem hi]
  rfl
/-! ### data with lists -/
mutual
inductive Ft (H : Hp) : V → PyData → Prop
  | non : Ft H .non .none
  | bl (b : Bool) : Ft H (.bl b) (.bool b)
  | int (i : Int) : Ft H (.int i) (.int i)
  | str (x : Str) : Ft H (.str x) (.str x)
  | lst {a : Addr} {xs : List V} {ds : List PyData} : H a = some (.lst xs) → FtA H xs ds → Ft H (.ref a) (.list ds)
  | tup {a : Addr} {xs : List V} {ds : List PyData} : H a = some (.tup xs) → FtA H xs ds → Ft H (.ref a) (.tuple ds)
inductive FtA (H : Hp) : List V → List PyData → Prop
  | nil : FtA H [] []
  | cons {v : V} {vs : List V} {d : PyData} {ds : List PyData} : Ft H v d → FtA H vs ds → FtA H (v :: vs) (d :: ds)
end
mutual
theorem Ft.mono {H H' : Hp} (k : Same H H') : ∀ (d : PyData) (v : V), Ft H v d → Ft H' v d
  | .none, _, .non => .non
  | .bool _, _, .bl b => .bl b
  | .int _, _, .int i => .int i
  | .str _, _, .str x => .str x
  | .list ds, _, .lst h a => .lst (k _ _ h) (FtA.mono k ds _ a)
  | .tuple ds, _, .tup h a => .tup (k _ _ h) (FtA.mono k ds _ a)
theorem FtA.mono {H H' : Hp} (k : Same H H') : ∀ (ds : List PyData) (vs : List V), FtA H vs ds → FtA H' vs ds
  | [], _, .nil => .nil
  | d :: ds, _, .cons h a => .cons (Ft.mono k d _ h) (FtA.mono k ds _ a)
end
mutual
theorem Fz.ft {H : Hp} : ∀ (d : PyData) (v : V), Fz H v d → Ft H v d
  | .none, _, .non => .non
  | .bool _, _, .bl b => .bl b
  | .int _, _, .int i => .int i
  | .str _, _, .str x => .str x
  | .tuple ds, _, .tup h a => .tup h (FzA.ft ds _ a)
theorem FzA.ft {H : Hp} : ∀ (ds : List PyData) (vs : List V), FzA H vs ds → FtA H vs ds
  | [], _, .nil => .nil
  | d :: ds, _, .cons h a => .cons (Fz.ft d _ h) (FzA.ft ds _ a)
end
theorem FtA.len : ∀ {H : Hp} {vs : List V} {ds : List PyData}, FtA H vs ds → vs.length = ds.length
  | _, _, _, .nil => rfl
  | _, _, _, .cons _ a => by
    rw [List.length_cons, List.length_cons, FtA.len a]
theorem FtA.getV : ∀ {H : Hp} {vs : List V} {ds : List PyData} {i : Nat} {v : V}, FtA H vs ds → vs[i]? = some v → ∃ d, ds[i]? = some d ∧ Ft H v d
  | _, _, _, _, _, .nil, h => by simp at h
  | _, _, _, 0, _, .cons a _, h => ⟨_, rfl, Option.some.inj h ▸ a⟩
  | _, _, _, i + 1, _, .cons _ a, h => FtA.getV (i := i) a h
theorem FtA.ofInts : ∀ {H : Hp} (ns : List Int), FtA H (ns.map V.int) (ns.map PyData.int)
  | _, [] => .nil
  | _, n :: ns => .cons (.int n) (FtA.ofInts ns)
/-! ### what isinstance tells of data -/
theorem depA_ints : ∀ ns : List Int, PyData.depthAll (ns.map PyData.int) = 0
  | [] => rfl
  | n :: ns => by
    show max (PyData.depth (.int n)) (PyData.depthAll (ns.map PyData.int)) = 0
    rw [depA_ints ns]
    rfl
theorem dep_ints (ns : List Int) : PyData.depth (.list (ns.map PyData.int)) = 1 := by
  show PyData.depthAll (ns.map PyData.int) + 1 = 1
  rw [depA_ints]
end My

set_option Elab.async false
set_option linter.all false
set_option maxRecDepth 100000
set_option maxHeartbeats 1000000
namespace My
open PySem PySem.Spec PyProof.Rows L2
/-! ### lists of numbers compared -/
theorem dp_ints {K : PySem.W.Frag} {H : Hp} : ∀ ns : List Int, DpAll K H (ns.map V.int) (ns.map PyData.int)
  | [] => .nil
  | n :: ns => .cons (.int n) (dp_ints ns)
theorem can_ints : ∀ ns : List Int, PyData.canLayAll0 (ns.map PyData.int) = true
  | [] => rfl
  | n :: ns => by
    show (PyData.canLay0 (.int n) && PyData.canLayAll0 (ns.map PyData.int)) = true
    rw [can_ints ns]
    rfl
theorem shaped_ints (ns : List Int) : SeqAt.shaped (.list (ns.map PyData.int)) = true := by
  unfold SeqAt.shaped
  show (PyData.canLayAll0 (ns.map PyData.int) && decide (PyData.depth (.list (ns.map PyData.int)) ≤ 64)) = true
  rw [can_ints, dep_ints]
  rfl
theorem shaped_eqs {es : List (Nat × Int)} (h : ∀ p ∈ es, p.1 ≤ 122) : SeqAt.shaped (eqsD es) = true := by
  have one : ∀ p : Nat × Int, p.1 ≤ 122 → PyData.canLay0 (eqD p) = true ∧ PyData.depth (eqD p) = 1 := fun p hp => by
    refine ⟨?_, rfl⟩
    show ((#[p.1] : Array Nat).all (· < 0x110000) && (true && true)) = true
    simp
    omega
  have e1 : PyData.canLayAll0 (es.map eqD) = true ∧ PyData.depthAll (es.map eqD) ≤ 1 := by
    induction es with
    | nil => exact ⟨rfl, Nat.zero_le _⟩
    | cons p es ih =>
      have hp := one p (h p (List.mem_cons_self ..))
      have ih2 := ih fun q hq => h q (List.mem_cons_of_mem _ hq)
      refine ⟨?_, ?_⟩
      · show (PyData.canLay0 (eqD p) && PyData.canLayAll0 (es.map eqD)) = true
        rw [hp.1, ih2.1]
        rfl
      · show max (PyData.depth (eqD p)) (PyData.depthAll (es.map eqD)) ≤ 1
        rw [hp.2]
        have := ih2.2
        omega
  unfold SeqAt.shaped
  show (PyData.canLayAll0 (es.map eqD) && decide (PyData.depthAll (es.map eqD) + 1 ≤ 64)) = true
  rw [e1.1, Bool.true_and]
  have := e1.2
  exact decide_eq_true (by omega)
/-! ### questions and what fits -/
/-- the letter taken out of equals -/
def fewer (es : List (Nat × Int)) (c : Nat) : List (Nat × Int) := es.filter fun p => !decide (p.1 = c)
theorem QOk.sub {cols : List Nat} {es es' : List (Nat × Int)} {rc : Option (Nat × Int × Int)} (h : QOk cols es rc) (s : es'.Sublist es) : QOk cols es' none :=
  ⟨h.up.sublist (s.map _), fun p hp => h.ok p (s.subset hp), Nat.le_trans s.length_le h.len, fun _ _ _ z => nomatch z⟩
theorem QOk.reach {cols : List Nat} {es : List (Nat × Int)} {rc : Option (Nat × Int × Int)} (h : QOk cols es rc) {c : Nat} {lo hi : Int} (h1 : c ∈ cols) (h2 : c ∉ es.map (·.1)) (h3 : 0 ≤ lo) (h4 : lo ≤ hi) (h5 : hi < 1000) : QOk cols es (some (c, lo, hi)) :=
  ⟨h.up, h.ok, h.len, fun c' lo' hi' z => by
    have z2 := Option.some.inj z
    have e1 : c = c' := congrArg (·.1) z2
    have e2 : lo = lo' := congrArg (·.2.1) z2
    have e3 : hi = hi' := congrArg (·.2.2) z2
    rw [← e1, ← e2, ← e3]
    exact ⟨h1, h2, h3, h4, h5⟩⟩
end My

set_option Elab.async false
set_option linter.all false
set_option maxRecDepth 100000
set_option maxHeartbeats 2000000
namespace My
open PySem PySem.Spec PyProof.Rows L2
/-! ### generator expressions whose element changes nothing -/
/-- the element at a place of the walked thing: what it gives, from any state in which what stood still stands -/
def EltQ (X : Cx) (σ : L2.St) (G : Hp) (P : Addr) (scope : Scope) (x : Str) (elt : Expr) (Pf F : Nat → Value → Prop) : Prop :=
  ∀ (pins : List (Addr × Obj)) (u1 : Shared), Inv X pins σ G u1 → ∀ (ce : Env) (B : Around) (E' : Value → Shared → Prop) (i : Nat) (v : Value) (u2 : Shared) (m2 : Str → Option Value), B.handled = none → ce.scope = scope → ce.cells = cloFrom X.env.cells scope.names [] →
    Pf i v → u2.heap.Ns ce.locals m2 → m2 x = some v → (∀ b o, b ≠ P → u1.heap.get? b = some o → u2.heap.get? b = some o) → wpAny (model X.prog X.w) B (eval elt ce) (fun y u3 => F i y ∧ Keeps u2 u3) E' u2
/-- the generator stands, ready to be walked n times -/
def ReadyQ (X : Cx) (pins : List (Addr × Obj)) (σ : L2.St) (G : Hp) (P : Addr) (n : Nat) (F : Nat → Value → Prop) (g : Addr) (u5 : Shared) : Prop :=
  ∃ (fp wr : List Addr) (Gn : Array GenState → Array GenState → Prop) (St : Nat → Shared → Prop),
    WalksS X.prog X.w X.A.in4 g fp wr Gn n F St ∧ St 0 u5 ∧ (∀ i s, St i s → s.TypeIs (.ref g) "generator") ∧ (∀ b ∈ fp, b < u5.heap.objs.size) ∧ g ∈ fp ∧
    ∀ u', Moved wr Gn u5 u' → ∃ G2, GxR.Tabbed P G G2 ∧ Inv X pins σ G2 u'
/-- what a walk over the value v begins with -/
def Src (X : Cx) (pins : List (Addr × Obj)) (σ : L2.St) (G : Hp) (P : Addr) (v : Value) (n : Nat) (Pf : Nat → Value → Prop) : Prop :=
  ∀ (u1 : Shared), Inv X pins σ G u1 → ∀ (Q : Value → Shared → Prop) (E : Value → Shared → Prop), (∀ (o : Obj) (St : Nat → Heap → Prop) (fps : List Addr),
    (∀ A' : Around, A'.handled = none → Walks X.prog X.w A' u1.heap.objs.size (u1.heap.objs.size :: fps) [u1.heap.objs.size] n Pf St) → St 0 (u1.heap.push o) → (∀ b ∈ fps, b < u1.heap.objs.size ∧ b ≠ P) →
    Q (.ref u1.heap.objs.size) { u1 with heap := u1.heap.push o }) → wpAny (model X.prog X.w) X.A (pyIter v) Q E u1
section
variable {X : Cx} {pins : List (Addr × Obj)} {σ : L2.St} {H : Hp} {s : Shared}
theorem src_str {G : Hp} {P : Addr} (a : Str) (t : Tok) : Src X pins σ G P (.str a t) a.cps.size (SignAt a) := by
  intro u1 I Q E h
  refine wpAny_pyIter_str fun o St W hst => ?_
  exact h o St [] W hst (fun b hb => nomatch hb)
/-- what stood stands: a frame knows what it knew -/
theorem grew {s' : Shared} (I : Inv X pins σ H s) (os : s'.os = s.os) (bare : AllBare s'.gens) (kp : ∀ b u, s.heap.get? b = some u → s'.heap.get? b = some u) : Inv X pins σ H s' :=
  I.call' (ch := []) os (Un.kept kp) (I.hok.kept kp) bare fun _ hb => nomatch hb
/-- the code object of a generator expression comes out of its maker's table, or is made and written into it; then the built-ins are looked up -/
theorem gen_code {c P : Addr} {gpos : Pos} {qn : Str} {scope : Scope} {R : Value → Addr → Shared → Prop} (I : Inv X pins σ H s) (TB : LamX.TabB X.base X.mg c P) (hcode : X.env.code = .ref c) (hT : GxR.TabG H P)
    (h : ∀ (code : Value) (H2 : Hp) (s2 : Shared), GxR.Tabbed P H H2 → Inv X pins σ H2 s2 → (∀ b u, b ≠ P → s.heap.get? b = some u → s2.heap.get? b = some u) → s.heap.objs.size ≤ s2.heap.objs.size → R code builtinsNs s2) :
    wpAny (model X.prog X.w) X.A (genexprCode X.env gpos qn scope) (fun code s3 => wpAny (model X.prog X.w) X.A (builtinsFor X.env.globals X.env.builtins) (R code) X.xe s3) X.xe s := by
  obtain ⟨ps, hP, tri⟩ := hT
  have rawP := I.hok P _ hP
  have hd : PySem.W.CodeHd s.heap c P := TB.code.keeps I.bk
  have go : ∀ (code : Value) (g : Heap) (tk : Nat) (more : Array Value), Heap.ExtBut P s.heap g → s.heap.objs.size ≤ g.objs.size → g.get? P = some { cls := .none, data := .fields (ps ++ more) } → TriplesOk (ps ++ more).toList →
      wpAny (model X.prog X.w) X.A (builtinsFor X.env.globals X.env.builtins) (R code) X.xe { s with heap := g, toks := tk } := fun code g tk more ext le tab tri' => by
    have J : Inv X pins σ (upd H P (.tbl (ps ++ more))) { s with heap := g, toks := tk } := GxR.inv_tab (g' := s.gens) (d' := s.drawn) I hP ext tab I.bare
    obtain ⟨bm, ob, b1, b2, _, _, b5, b6, b7, b8⟩ := TB.bm
    refine wpAny_builtinsFor (m := X.mg) ?_ b1 b2 (J.bk _ _ b5) b6 b7 b8 (h code _ _ ⟨⟨_, upd_same, tri'⟩, fun b ne => upd_ne ne⟩ J ext le)
    rw [J.ok.glob]
    exact J.mod.glob.keeps J.bk
  match hf : codeAmong gpos ps.toList with
  | some cv => exact wpAny_genexprCode_hit hcode (hd.code rawP tri) hf (go cv s.heap s.toks #[] (Heap.ExtBut.refl _ _) (Nat.le_refl _) (by rw [Array.append_empty]; exact rawP) (by rw [Array.append_empty]; exact tri))
  | none =>
    refine wpAny_genexprCodeX hcode (hd.code rawP tri) (hd.tab rawP) hf fun c' g tk ext ge lt isC _ isT _ => go _ g tk _ ext (Nat.le_trans ge (Nat.le_of_lt lt)) isT.2 ?_
    obtain ⟨_, _, _, _, _, _, _, _, _, _, _, _, _, _, _, _, _, _, _, z, _⟩ := isC
    exact z
/-- the generator (elt for x in iter), its element changing nothing -/
theorem gen_q {c P : Addr} {elt iter : Expr} {x : Str} {px gpos : Pos} {scope : Scope} {te : TE} {k : Nat} {Q' : Value → Shared → Prop} {R : V → Hp → Nat → (Nat → Value → Prop) → Prop} {R0 : V → Hp → Prop}
    (hr : Room k X.A) (TB : LamX.TabB X.base X.mg c P) (hcode : X.env.code = .ref c) (S : GxR.GenS X.env scope x) (hi : PE X iter te)
    (hs : ∀ v, genFold iter X.env v = pure v) (I : Inv X pins σ H s)
    (h : te σ H R0) (hc : ∀ v G, R0 v G → ∃ (n : Nat) (Pf F : Nat → Value → Prop), (∀ u, RelV v u → Src X pins σ G P u n Pf) ∧ GxR.TabG G P ∧ EltQ X σ G P scope x elt Pf F ∧ R v G n F)
    (hQ : ∀ v G n F g u5, R v G n F → ReadyQ X pins σ G P n F g u5 → Q' (.ref g) u5) :
    wpAny (model X.prog X.w) X.A (eval (.GeneratorExp elt [⟨.Name x px, iter, [], 0⟩] scope gpos) X.env) Q' X.xe s := by
  have deep : X.A.depth < recursionLimit := by
    have := hr.dp
    omega
  refine wpAny_GeneratorExp_walksQ hr.hd S.co (closure_ok S.free) S.cell S.dot S.loc S.kind deep (thn (hi.run pins s σ H _ I h) fun xv u1 ⟨v, G, I1, rv, h0⟩ => ?_) hs
  obtain ⟨n, Pf, F, src, hT, elq, hR⟩ := hc v G h0
  refine src xv rv u1 I1 _ _ fun o St fps W st0 below => ?_
  -- the walked thing's iterator o at i0; the table at P is older
  generalize hi0 : u1.heap.objs.size = i0 at W below ⊢
  have older : P ≠ i0 := fun z => by
    obtain ⟨ps, e, _⟩ := hT
    rw [I1.hok.fresh (Nat.le_of_eq (hi0.trans z.symm))] at e
    cases e
  have Io : Inv X pins σ G { u1 with heap := u1.heap.push o } := grew I1 rfl I1.bare fun b u e => Heap.get?_push_of_some _ e
  refine ⟨Io.nolimit, gen_code Io TB hcode hT fun code G2 s4 tab I4 kp le => ?_⟩
  have lt4 : i0 < s4.heap.objs.size := Nat.lt_of_lt_of_le (by rw [← hi0, Heap.size_push]; exact Nat.lt_succ_self _) le
  have kp1 : ∀ b u, b ≠ P → u1.heap.get? b = some u → s4.heap.get? b = some u := fun b u ne e => kp b u ne (Heap.get?_push_of_some _ e)
  have fo : FpOk X pins G2 i0 := I1.fpOk (Nat.le_of_eq hi0) ((tab.2 i0 older.symm).trans (I1.hok.fresh (Nat.le_of_eq hi0)))
  refine ⟨i0, i0 :: fps, [i0], n, Pf, St, fun _ => true, F, rfl, W, (W X.A hr.hd).frame _ _ _ st0 fun b hb u e => kp b u ?_ e, fun b hb => ?_, I4.nolimit, fun z => ?_, fun g keep => ⟨?_, fun A' E' i v s₂ m₂ hA hv _ hn hm stay => ?_⟩, fun g h5 tk5 gs bare above size5 stay W5 at5 => ?_⟩
  · exact (List.mem_cons.mp hb).elim (fun z q => older (q.symm.trans z)) fun z => (below b z).2
  · exact (List.mem_cons.mp hb).elim (fun z => z ▸ lt4) fun z => Nat.lt_trans (below b z).1 lt4
  · obtain ⟨_, ns, _⟩ := I1.nolimit
    exact Nat.ne_of_lt (hi0 ▸ ns.lt) (List.mem_singleton.mp z)
  · intro A' E' i v s₂ m₂ _ _ _ _ _
    rw [List.forIn_nil]
    exact wpAny_pure ⟨rfl, GxR.keeps_refl _⟩
  · refine elq pins u1 I1 _ A' E' i v s₂ m₂ hA rfl rfl hv hn hm fun b u ne e => ?_
    have here := kp1 b u ne e
    exact stay b (List.mem_range.mpr (Heap.lt_size here)) (fun z => Nat.ne_of_lt (hi0 ▸ Heap.lt_size e) (List.mem_singleton.mp z)) u (keep b u here)
  · rw [show passing (fun _ => true) n 0 = List.range n from GxR.passing_true n] at W5
    rw [List.length_range] at W5
    have place : ∀ {i : Nat} {y : Value}, (∃ j, (List.range n)[i]? = some j ∧ F j y) → F i y := fun ⟨j, e, fj⟩ => by
      obtain ⟨_, q⟩ := List.getElem?_eq_some_iff.mp e
      rw [List.getElem_range] at q
      rw [q]
      exact fj
    have W6 : WalksS X.prog X.w X.A.in4 g (g :: s4.heap.objs.size :: List.range s4.heap.objs.size) [s4.heap.objs.size, i0] (GenOnlyQ s4.gens.size) n F _ := { W5 with item := fun i s Q E lt st k => W5.item i s Q E lt st fun y s' z => k y s' (place z) }
    refine hQ v G n F g _ hR ⟨_, _, _, _, W6, at5, fun i s st => Heap.IsGen.typeIs st.1, fun b hb => ?_, List.mem_cons_self, fun u' mv => ⟨G2, tab, ?_⟩⟩
    · show b < h5.objs.size
      rw [show h5.objs.size = g + 1 from size5]
      rcases List.mem_cons.mp hb with z | z
      · exact z ▸ Nat.lt_succ_self g
      · refine Nat.lt_succ_of_lt ((List.mem_cons.mp z).elim (fun e => e ▸ above) fun e => Nat.lt_trans (List.mem_range.mp e) above)
    · have J := past (t' := s4.toks) (h' := u'.heap) I4 fo fun b u ne e => mv.heap b u (fun z => (List.mem_cons.mp z).elim (fun q => Nat.ne_of_lt (Heap.lt_size e) q) fun q => ne (List.mem_singleton.mp q)) (stay b u e)
      exact grew J mv.os (AllBare.movedS (I4.bare.push bare) mv) fun _ _ e => e
/-! tuple(elt for x in text): numbers -/
def tTupG (P : Addr) (te : TE) (D : V → L2.St → Hp → List V → Prop) : TE := fun σ H Q => te σ H fun v G => ∃ xs : List V, D v σ G xs ∧ GxR.TabG G P ∧ ∀ G2, GxR.Tabbed P G G2 → ∀ p, G2 p = none → Q (.ref p) (upd G2 p (.tup xs))
theorem vals_of_items : ∀ (xs : List V) (us : List Value), xs.length = us.length → (∀ (j : Nat) (x : V) (u : Value), xs[j]? = some x → us[j]? = some u → RelV x u) → Vals xs us
  | [], [], _, _ => .nil
  | x :: xs, u :: us, hl, hh => .cons (hh 0 x u rfl rfl) (vals_of_items xs us (Nat.succ.inj hl) fun j y w h1 h2 => hh (j + 1) y w h1 h2)
theorem pe_tupG {c P : Addr} {elt iter : Expr} {x : Str} {px p pos gpos : Pos} {scope : Scope} {te : TE} {k : Nat} {D : V → L2.St → Hp → List V → Prop}
    (hr : Room k X.A) (hg : Gl X "tuple") (hm : X.mg "tuple" = none) (TB : LamX.TabB X.base X.mg c P) (hcode : X.env.code = .ref c) (S : GxR.GenS X.env scope x) (hi : PE X iter te)
    (hD : ∀ (pins : List (Addr × Obj)) (σ : L2.St) (G : Hp) (v : V) (xs : List V), D v σ G xs → xs.length ≤ sizeLine ∧ ∃ (Pf F : Nat → Value → Prop), (∀ u, RelV v u → Src X pins σ G P u xs.length Pf) ∧ EltQ X σ G P scope x elt Pf F ∧ ∀ (i : Nat) (y : Value) (z : V), xs[i]? = some z → F i y → RelV z y)
    (hs : ∀ v, genFold iter X.env v = pure v := by intro _; rfl)
    (he : starEach [.GeneratorExp elt [⟨.Name x px, iter, [], 0⟩] scope gpos] X.env = (false, eval (.GeneratorExp elt [⟨.Name x px, iter, [], 0⟩] scope gpos) X.env) :: starEach [] X.env := by rfl) :
    PE X (.Call (.Name "tuple" p) [.GeneratorExp elt [⟨.Name x px, iter, [], 0⟩] scope gpos] [] pos) (tTupG P te D) := by
  refine ⟨fun pins s σ H Q I h => ?_⟩
  refine Call_ (ld_blt I hg hm boot_tuple (PyProof.Rows.callWith_type1 ?_ he))
  rw [he]
  refine Calls.spliced_cons (gen_q (R := fun v G n F => ∃ xs : List V, D v σ G xs ∧ xs.length = n ∧ xs.length ≤ sizeLine ∧ (∀ (i : Nat) (y : Value) (z : V), xs[i]? = some z → F i y → RelV z y) ∧ ∀ G2, GxR.Tabbed P G G2 → ∀ p, G2 p = none → Q (.ref p) (upd G2 p (.tup xs))) hr TB hcode S hi hs I h (fun v G h0 => ?_) fun v G n F g u5 hR hG => ?_)
  · obtain ⟨xs, hd, hT, q⟩ := h0
    obtain ⟨hz, Pf, F, hsrc, hel, hF⟩ := hD pins σ G v xs hd
    exact ⟨xs.length, Pf, F, hsrc, hT, hel, xs, hd, rfl, hz, hF, q⟩
  · obtain ⟨xs, hd, hn, hz, hF, q⟩ := hR
    obtain ⟨fp, wr, Gn, St, W, hst, hty, hfp, hgf, hI⟩ := hG
    refine Calls.spliced_nil ?_
    refine call_tuple_gen W.in4_3 hty hst hfp hgf (fun u' acc mv hit => ?_) (by rw [← hn]; exact hz)
    obtain ⟨G2, hTb, J⟩ := hI u' mv
    have hv : Vals xs acc.toList := vals_of_items _ _ (by rw [show acc.toList.length = acc.size from Array.length_toList, hit.1, hn]) fun j z y h1 h2 => hF j y z h1 (hit.2 j y (by rw [← Array.getElem?_toList]; exact h2))
    have J2 : Inv X pins σ (upd G2 u'.heap.objs.size (.tup xs)) { u' with heap := u'.heap.push { cls := .type "tuple", data := .seq acc } } :=
      J.laid (t' := u'.toks) (fun b o e => Heap.get?_push_of_some _ e) (Nat.le_refl _) (show ObjOk X.prog X.w _ _ _ (.tup xs) from ⟨hz, acc.toList, hv, by rw [Array.toArray_toList]; exact IsTup.new _ _⟩)
    exact ⟨.ref u'.heap.objs.size, _, J2, rfl, q G2 hTb _ (J.hok.fresh (Nat.le_refl _))⟩
/-! all(elt for x in ..) -/
/-! ### what a captured name holds -/
theorem clo_look {cells : List (Str × Addr)} {names : List (Str × NameKind)} {y : Str} {c : Addr} (hy : (y, NameKind.free) ∈ names) (hc : cells.lookup y = some c) : (cloFrom cells names []).lookup y = some c := by
  obtain ⟨c', e⟩ := mem_lookup (cloFrom_has (acc := []) (cells := cells) hy)
  have hm : (y, c') ∈ cloFrom cells names [] := by
    have : ∀ {l : List (Str × Addr)} {n : Str} {d : Addr}, l.lookup n = some d → (n, d) ∈ l := by
      intro l
      induction l with
      | nil =>
        intro n d h
        cases h
      | cons p l ih =>
        intro n d h
        rw [List.lookup_cons] at h
        cases hb : n == p.1 with
        | true =>
          rw [hb] at h
          have e1 : n = p.1 := by simpa using hb
          have e2 : p.2 = d := Option.some.inj h
          rw [e1, ← e2]
          exact List.mem_cons_self ..
        | false =>
          rw [hb] at h
          exact List.mem_cons_of_mem _ (ih h)
    exact this e
  rcases cloFrom_mem hm with z | ⟨_, z⟩
  · cases z
  · rw [e, z, hc]
    rfl
theorem capt {G : Hp} {u1 : Shared} {i : Nat} {y : Str} {v : V} {scope : Scope} (I : Inv X pins σ G u1) (hN : X.N[i]? = some y) (hv : σ[i]? = some (some v)) (hk : X.env.scope.names.lookup y = some .cell) (hy : (y, NameKind.free) ∈ scope.names) :
    ∃ u c, RelV v u ∧ (cloFrom X.env.cells scope.names []).lookup y = some c ∧ u1.heap.IsCell c (some u) := by
  obtain ⟨m, hm, hl⟩ := I.loc
  obtain ⟨u, ru, lk⟩ := hl i y v hN hv (.inr (.inl hk))
  rcases lk with ⟨k1, _⟩ | ⟨_, c, hc, hcell⟩
  · have : X.env.kindOf y = some .cell := hk
    rw [this] at k1
    cases k1
  · exact ⟨u, c, ru, clo_look hy hc, hcell⟩
theorem cell_kept {G : Hp} {P c : Addr} {u1 u2 : Shared} {u : Value} (I : Inv X pins σ G u1) (hT : GxR.TabG G P) (hc : u1.heap.IsCell c (some u)) (hk : ∀ b o, b ≠ P → u1.heap.get? b = some o → u2.heap.get? b = some o) : u2.heap.IsCell c (some u) := by
  obtain ⟨o, ho, hd⟩ := hc
  refine ⟨o, hk c o (fun z => ?_) ho, hd⟩
  obtain ⟨ps, hP, _⟩ := hT
  have h1 : u1.heap.get? P = some { cls := .none, data := .fields ps } := I.hok P _ hP
  rw [z, h1] at ho
  cases ho
  cases hd
/-! x in y, y a captured text -/
/-! r[y.index(x)], r a captured tuple of numbers, y a captured text -/
theorem elt_row {G : Hp} {P ra : Addr} {scope : Scope} {x y rn : Str} {p1 p2 p3 p4 p5 p6 : Pos} {i j : Nat} {a : Str} {cols : List Nat} {row : List Int} (hT : GxR.TabG G P) (hN : X.N[i]? = some y) (hv : σ[i]? = some (some (tx cols))) (hk : X.env.scope.names.lookup y = some .cell)
    (hN2 : X.N[j]? = some rn) (hv2 : σ[j]? = some (some (.ref ra))) (hk2 : X.env.scope.names.lookup rn = some .cell) (hra : G ra = some (.tup (row.map V.int))) (hrl : row.length = cols.length) (hac : ∀ c ∈ a.cps.toList, c ∈ cols)
    (hf : scope.kind = .function) (hx : scope.names.lookup x = some .local) (hy : (y, NameKind.free) ∈ scope.names) (hyl : scope.names.lookup y = some .free) (hr : (rn, NameKind.free) ∈ scope.names) (hrf : scope.names.lookup rn = some .free)
    (hline : (p3.endLine == p5.line) = true) (hd1 : (x == ("__debug__" : Str)) = false := by decide) (hd2 : (y == ("__debug__" : Str)) = false := by decide) (hd3 : (y == ("__classdict__" : Str)) = false := by decide) (hd4 : (rn == ("__debug__" : Str)) = false := by decide) (hd5 : (rn == ("__classdict__" : Str)) = false := by decide) :
    EltQ X σ G P scope x (.Subscript (.Name rn p1) (.Call (.Attribute (.Name y p2) "index" p3) [.Name x p4] [] p5) p6) (SignAt a) (fun l w => ∃ c t, a.cps[l]? = some c ∧ w = .int (rowAt cols row c) t) := by
  intro pins u1 I ce B E' l v u2 m2 hB hs hcl hP hn hm hk3
  obtain ⟨c, t, hc, rfl⟩ := hP
  obtain ⟨uy, cl, ru, hl, hcell⟩ := capt I hN hv hk hy
  obtain ⟨t2, rfl⟩ := ru
  obtain ⟨ur, cl2, ru2, hl2, hcell2⟩ := capt I hN2 hv2 hk2 hr
  cases ru2
  have hcc : c ∈ cols := hac c (by
    have : a.cps.toList[l]? = some c := by rw [Array.getElem?_toList]; exact hc
    exact List.mem_of_getElem? this)
  obtain ⟨orest, hocc⟩ := ix_one hcc
  have hat := row_at hrl hcc
  obtain ⟨its, rv, pl, hz⟩ := I.tuple (show SqT X.K G ra (row.map V.int) from .inl (.inl hra))
  obtain ⟨w, hw, rw'⟩ := rv.get hat
  obtain ⟨tw, rfl⟩ := rw'
  have pl2 : u2.heap.IsTuple ra its.toArray := by
    obtain ⟨o, ho, r1, r2⟩ := pl
    refine ⟨o, hk3 ra o (fun z => ?_) ho, r1, r2⟩
    obtain ⟨ps, hPp, _⟩ := hT
    rw [z, hPp] at hra
    cases hra
  have hidx : cols.idxOf c < its.length := (List.getElem?_eq_some_iff.mp hw).1
  have kf : ce.scope.kind = .function := by rw [hs]; exact hf
  refine PyProof.Rows.Subscript_ ?_
  refine wpAny_Name (wpAny_loadName_free kf (show ce.scope.names.lookup rn = some .free by rw [hs]; exact hrf) (by rw [hcl]; exact hl2) (cell_kept I hT hcell2 hk3) ?_ hd5) hd4
  refine wpAny_Call_method_late (by rfl) (by rfl) hline rfl ?_
  refine wpAny_Name (wpAny_loadName_free kf (show ce.scope.names.lookup y = some .free by rw [hs]; exact hyl) (by rw [hcl]; exact hl) (cell_kept I hT hcell hk3) ?_ hd3) hd2
  refine ⟨"str", "str.index", PySem.F.plainAttrs_str, PySem.F.slot_str_index, PySem.F.type_str_index, typeIs_str _ _ _, (fun _ z => nomatch z), ?_⟩
  refine Calls.callWith_builtin (by rfl) (Calls.evalArgs_plain ?_)
  refine Calls.spliced_cons (wpAny_Name (wpAny_loadName_local kf (show ce.scope.names.lookup x = some .local by rw [hs]; exact hx) hn hm ?_) hd1)
  refine Calls.spliced_nil ?_
  refine PySem.SC.index hocc ?_
  have hsz : its.length ≤ sizeLine := by
    have := rv.length
    rw [← this]
    exact hz
  have h63 := line63
  refine subscriptTail_builtinR (x := .int (rowAt cols row c) tw) (s := { u2 with toks := u2.toks + 1 }) pl2.typeIs slot_tuple_getitem.lookup ?_ (by rfl)
  refine getItem_tuple (j := cols.idxOf c) (s := { u2 with toks := u2.toks + 1 }) pl2 (by omega) (by omega) ?_ (by simpa using hw) ⟨rfl, ⟨c, tw, hc, rfl⟩, GxR.keeps_tok _ _⟩
  rw [List.size_toArray]
  exact PySem.seqIndex_of (by omega) (by omega)
end
end My

set_option Elab.async false
set_option linter.all false
set_option maxRecDepth 100000
set_option maxHeartbeats 2000000
namespace My
open PySem PySem.Spec PyProof.Rows L2
section
variable {X : Cx} {pins : List (Addr × Obj)} {σ : L2.St} {H : Hp} {s : Shared}
/-! d[x][n], d a captured dict of pairs of numbers -/
theorem elt_want {G : Hp} {P d : Addr} {scope : Scope} {x dn : Str} {p1 p2 p3 p4 p5 : Pos} {i kd : Nat} {n : Int} {a : Str} {kvs : List (Key × V)} {f : Nat → Int} (hT : GxR.TabG G P) (hN : X.N[i]? = some dn) (hv : σ[i]? = some (some (.ref d))) (hk : X.env.scope.names.lookup dn = some .cell)
    (hd : G d = some (.dK kvs)) (hn01 : n = 0 ∨ n = 1) (hac : ∀ c ∈ a.cps.toList, ∃ (p : Addr) (lo hi : Int), valV kvs (Sum.inr (sS c)) = some (.ref p) ∧ G p = some (.tup [.int lo, .int hi]) ∧ f c = (if n = 0 then lo else hi))
    (hf : scope.kind = .function) (hx : scope.names.lookup x = some .local) (hy : (dn, NameKind.free) ∈ scope.names) (hyl : scope.names.lookup dn = some .free)
    (hd1 : (x == ("__debug__" : Str)) = false := by decide) (hd2 : (dn == ("__debug__" : Str)) = false := by decide) (hd3 : (dn == ("__classdict__" : Str)) = false := by decide) :
    EltQ X σ G P scope x (.Subscript (.Subscript (.Name dn p1) (.Name x p2) p3) (.Constant (.int n) kd p4) p5) (SignAt a) (fun l w => ∃ c t, a.cps[l]? = some c ∧ w = .int (f c) t) := by
  intro pins u1 I ce B E' l v u2 m2 hB hs hcl hP hn hm hk3
  obtain ⟨c, t, hc, rfl⟩ := hP
  obtain ⟨ud, cl, ru, hl, hcell⟩ := capt I hN hv hk hy
  cases ru
  obtain ⟨p, lo, hi, hval, hp, hfc⟩ := hac c (by
    have : a.cps.toList[l]? = some c := by rw [Array.getElem?_toList]; exact hc
    exact List.mem_of_getElem? this)
  have neP : ∀ {b : Addr} {o : HO}, G b = some o → (∀ q, o ≠ .tbl q) → b ≠ P := fun {b o} hb ho z => by
    obtain ⟨ps, hPp, _⟩ := hT
    rw [z, hPp] at hb
    exact ho ps (Option.some.inj hb).symm
  obtain ⟨hz, hds, vs, rel, dd⟩ := dk_of I.hok hd
  have hndP : d ≠ P := neP hd (fun q z => nomatch z)
  have dd2 : u2.heap.DictOf (mixKind X.prog X.w) d vs := by
    exact dd.at fun o ho => hk3 d o hndP ho
  obtain ⟨wv, hw, rwv⟩ := RelO.some_of (v := .ref p) (o := valueAt vs (Sum.inr (sS c))) (by rw [← hval]; exact rel.val _)
  cases rwv
  obtain ⟨its, rv, pl, hz2⟩ := I.tuple (show SqT X.K G p [.int lo, .int hi] from .inl (.inl hp))
  have hnpP : p ≠ P := neP hp (fun q z => nomatch z)
  have pl2 : u2.heap.IsTuple p its.toArray := by
    obtain ⟨o, ho, r⟩ := pl
    exact ⟨o, hk3 p o hnpP ho, r⟩
  have kf : ce.scope.kind = .function := by rw [hs]; exact hf
  refine PyProof.Rows.Subscript_ ?_
  refine subD_of PySem.F.slot_dict_getitem.lookup (fun _ _ => rfl) ?_
  refine wpAny_Name (wpAny_loadName_free kf (show ce.scope.names.lookup dn = some .free by rw [hs]; exact hyl) (by rw [hcl]; exact hl) (cell_kept I hT hcell hk3) ?_ hd3) hd2
  refine wpAny_Name (wpAny_loadName_local kf (show ce.scope.names.lookup x = some .local by rw [hs]; exact hx) hn hm ?_) hd1
  refine ⟨dd2.typeIs, wpAny_getItem_of (k := Sum.inr (sS c)) (kV_is (k := Sum.inr (sS c)) ⟨t, rfl⟩) dd2.mapOf hw ?_⟩
  refine wpAny_Constant_int ?_
  have hl2 : its.length = 2 := rv.length.symm
  have two : ∃ (j : Nat) (tw : Tok), j < 2 ∧ n = (j : Int) ∧ its[j]? = some (.int (f c) tw) := by
    rcases hn01 with z | z
    · obtain ⟨w, hw0, rw0⟩ := rv.get (i := 0) rfl
      obtain ⟨tw, rfl⟩ := rw0
      exact ⟨0, tw, by decide, z, by rw [hw0, hfc, if_pos z]⟩
    · obtain ⟨w, hw0, rw0⟩ := rv.get (i := 1) rfl
      obtain ⟨tw, rfl⟩ := rw0
      exact ⟨1, tw, by decide, z, by rw [hw0, hfc, if_neg (by rw [z]; decide)]⟩
  obtain ⟨j, tw, hj2, hnj, hitj⟩ := two
  refine subscriptTail_builtinR (x := .int (f c) tw) pl2.typeIs slot_tuple_getitem.lookup ?_ (by rfl)
  refine getItem_tuple (j := j) pl2 (by omega) (by omega) ?_ (by simpa using hitj) ⟨rfl, ⟨c, tw, hc, rfl⟩, GxR.keeps_tok _ _⟩
  rw [List.size_toArray, hl2, hnj]
  exact PySem.seqIndex_of (by omega) (by omega)
end
end My

set_option Elab.async false
set_option linter.all false
set_option maxRecDepth 100000
set_option maxHeartbeats 2000000
namespace My
open PySem PySem.Spec PyProof.Rows L2
/-! ### tables of code objects: they may grow, all else stays -/
def TG (Ps : List Addr) (H : Hp) : Prop := ∀ P ∈ Ps, GxR.TabG H P
def Sx (Ps : List Addr) (H H' : Hp) : Prop := ∀ b o, b ∉ Ps → H b = some o → H' b = some o
theorem Sx.rfl' {Ps : List Addr} {H : Hp} : Sx Ps H H := fun _ _ _ h => h
theorem Sx.trans {Ps : List Addr} {H H1 H2 : Hp} (a : Sx Ps H H1) (b : Sx Ps H1 H2) : Sx Ps H H2 := fun c o n h => b c o n (a c o n h)
theorem Same.sx {Ps : List Addr} {H H' : Hp} (s : Same H H') : Sx Ps H H' := fun b o _ h => s b o h
theorem TG.same {Ps : List Addr} {H H' : Hp} (t : TG Ps H) (s : Same H H') : TG Ps H' := fun P hP => by
  obtain ⟨ps, h, r⟩ := t P hP
  exact ⟨ps, s _ _ h, r⟩
theorem TG.not {Ps : List Addr} {H : Hp} {b : Addr} {o : HO} (t : TG Ps H) (h : H b = some o) (ho : ∀ q, o ≠ .tbl q) : b ∉ Ps := fun hb => by
  obtain ⟨ps, h2, _⟩ := t b hb
  rw [h2] at h
  exact ho ps (Option.some.inj h).symm
theorem TG.kp {Ps : List Addr} {H H' : Hp} {r : Addr} {xs : List V} (t : TG Ps H) (hr : H r = some (.lst xs)) (k : Kp r H H') : TG Ps H' := fun P hP => by
  obtain ⟨ps, h, q⟩ := t P hP
  refine ⟨ps, k _ _ (fun z => ?_) h, q⟩
  rw [z, hr] at h
  cases h
theorem TG.new {Ps : List Addr} {H : Hp} {p : Addr} {o : HO} (t : TG Ps H) (n : H p = none) : TG Ps (upd H p o) := t.same (Same.new (Same.refl H) n)
theorem Sx.kt {Ps : List Addr} {H H' : Hp} (t : TG Ps H) (s : Sx Ps H H') : Kt H H' := fun b xs h => s b _ (t.not h fun q z => nomatch z) h
theorem Sx.lst {Ps : List Addr} {H H' : Hp} {b : Addr} {xs : List V} (t : TG Ps H) (s : Sx Ps H H') (h : H b = some (.lst xs)) : H' b = some (.lst xs) := s b _ (t.not h fun q z => nomatch z) h
theorem Sx.dct {Ps : List Addr} {H H' : Hp} {b : Addr} {xs : List (Key × V)} (t : TG Ps H) (s : Sx Ps H H') (h : H b = some (.dK xs)) : H' b = some (.dK xs) := s b _ (t.not h fun q z => nomatch z) h
theorem Sx.new {Ps : List Addr} {H H1 : Hp} {p : Addr} {o : HO} (s : Sx Ps H H1) (n : H1 p = none) : Sx Ps H (upd H1 p o) := fun b x nb h => keep_new (s b x nb h) n
theorem Sx.mut {Ps : List Addr} {H H1 : Hp} {p : Addr} {o : HO} (s : Sx Ps H H1) (n : H p = none) : Sx Ps H (upd H1 p o) := fun b x nb h => keep_ne (s b x nb h) (ne_of_none h n)
theorem Sx.free {Ps : List Addr} {H H' : Hp} {p : Addr} (t : TG Ps H') (s : Sx Ps H H') (h : H' p = none) : H p = none := by
  cases q : H p with
  | none => rfl
  | some o =>
    by_cases hp : p ∈ Ps
    · obtain ⟨ps, h2, _⟩ := t p hp
      rw [h] at h2
      cases h2
    · rw [s p o hp q] at h
      cases h
theorem Sx.seqL {K : PySem.W.Frag} {Ps : List Addr} {H H' : Hp} {a : Addr} {xs : List V} (t : TG Ps H) (s : Sx Ps H H') (h : SqL K H a xs) : SqL K H' a xs := by
  rcases h with (h | ⟨o, h⟩) | h
  · exact .inl (.inl (s.lst t h))
  · exact .inl (.inr ⟨o, s _ _ (t.not h fun q z => nomatch z) h⟩)
  · exact .inr h
/-- one table of them has grown -/
theorem Tabbed.sx {Ps : List Addr} {P : Addr} {H H' : Hp} (hP : P ∈ Ps) (t : GxR.Tabbed P H H') : Sx Ps H H' := fun b o nb h => by
  rw [t.2 b fun z => nb (z ▸ hP)]
  exact h
theorem Tabbed.tg {Ps : List Addr} {P : Addr} {H H' : Hp} (g : TG Ps H) (t : GxR.Tabbed P H H') : TG Ps H' := fun P' hP' => by
  by_cases e : P' = P
  · rw [e]
    exact t.1
  · obtain ⟨ps, h, q⟩ := g P' hP'
    exact ⟨ps, (t.2 P' e).trans h, q⟩
/-! ### a def whose code object is told -/
def FunC (K : PySem.W.Frag) (x qual : Str) (st : Stmt) (f : Addr) (fd : FuncData) (c : Addr) : Prop :=
  ∃ (oc : Value) (od : Option Addr) (kV doc pm : Value) (an : Option Addr) (ct : Value) (osl : Array (Option Value)), fd = PySem.W.fnOf x qual (defArgs st) (defBody st) (defScope st) .none kV doc pm an (.ref c) ct ∧ K.lookup f = some ⟨oc, od, .func fd, osl⟩ ∧ PySem.W.codeIn K (.ref c) qual = true
theorem FunC.ok {P : Program} {w : World} {K : PySem.W.Frag} {mg : Str → Option Value} {base : Heap} {x qual : Str} {st : Stmt} {f c : Addr} {fd : FuncData} {N ps : List Str} {k : Nat} {sp : Sp} (F : FunC K x qual st f fd c) (S : FnScope N ps (defScope st)) (len : ∀ vs H Q E, sp vs H Q E → vs.length = ps.length)
    (hbody : ∀ (A : Around) (outer : List Env) (s : Shared) (H : Hp) (vs : List V) (Q : VK) (E : XK), Room k (A.deeper (envOfC qual (defScope st) s.heap.objs.size f (.ref c))) → sp vs H Q E →
      ∃ t, PSs (cxOf CX0 P w K mg base N qual (defScope st) f (.ref c) A outer s H E).nox (defBody st) t ∧ t { nx := fun _ H' => Q .non H', rt := Q } (start N vs) H) : FnOk P w K mg base CX0 (k + 1) f fd ps sp := by
  obtain ⟨oc, od, kV, doc, pm, an, ct, osl, rfl, lk, hcd⟩ := F
  refine fn_of lk hcd S len fun A outer s H vs Q E hr hsp => ?_
  obtain ⟨t, h, q⟩ := hbody A outer s H vs Q E hr hsp
  exact ⟨t, h.nox, q⟩
theorem FunC.fn {K : PySem.W.Frag} {x qual : Str} {st : Stmt} {f c : Addr} {fd : FuncData} (F : FunC K x qual st f fd c) (k : PySem.W.keepIn K (.ref f) = true) : Fun K x qual st f fd := by
  obtain ⟨oc, od, kV, doc, pm, an, ct, osl, e, lk, hcd⟩ := F
  exact ⟨⟨oc, od, kV, doc, pm, an, .ref c, ct, osl, e, lk, hcd⟩, k⟩
/-- the generator expression's scope within a def's -/
def genC (sc scope : Scope) (x : Str) : Bool :=
  (match scope.kind with | .function => true | _ => false) && !scope.isCoroutine && (scope.names.all fun y => match y.2 with | .cell => false | .free => (match sc.names.lookup y.1 with | some .cell => true | _ => false) | _ => true) &&
    (match scope.names.lookup (".0" : Str) with | some .local => true | _ => false) && (match scope.names.lookup x with | some .local => true | _ => false)
theorem genS_by {sc scope : Scope} {x : Str} {env : Env} {n : Nat} (h : genC sc scope x = true) (hc : env.cells = cellsFrom n sc.names []) : GxR.GenS env scope x := by
  unfold genC at h
  simp only [Bool.and_eq_true] at h
  obtain ⟨⟨⟨⟨h1, h2⟩, h3⟩, h4⟩, h5⟩ := h
  rw [List.all_eq_true] at h3
  refine ⟨?_, ?_, fun y hy z => ?_, ?_, ?_, fun y hy z => ?_⟩
  · revert h1
    cases scope.kind <;> simp
  · simpa using h2
  · have := h3 y hy
    rw [z] at this
    cases this
  · revert h4
    cases scope.names.lookup (".0" : Str) with
    | none => simp
    | some k => cases k <;> simp
  · revert h5
    cases scope.names.lookup x with
    | none => simp
    | some k => cases k <;> simp
  · have q := h3 y hy
    rw [z] at q
    have q2 : sc.names.lookup y.1 = some .cell := by
      revert q
      cases sc.names.lookup y.1 with
      | none => simp
      | some k => cases k <;> simp
    have := PySem.W.cellsFrom_some sc.names n [] (.inl q2)
    rw [hc]
    exact Option.isSome_iff_exists.mp this
/-! ### the generator expressions that we met -/
def DRow (P : Addr) (i j : Nat) : V → L2.St → Hp → List V → Prop := fun v σ G xs => GxR.TabG G P ∧ ∃ (a : Str) (cols : List Nat) (ra : Addr) (row : List Int), v = .str a ∧ a.length ≤ sizeLine ∧ σ[i]? = some (some (tx cols)) ∧ σ[j]? = some (some (.ref ra)) ∧ G ra = some (.tup (row.map V.int)) ∧ row.length = cols.length ∧ (∀ c ∈ a.cps.toList, c ∈ cols) ∧ xs = a.cps.toList.map fun c => V.int (rowAt cols row c)
theorem hd_row {X : Cx} {P : Addr} {scope : Scope} {x y rn : Str} {p1 p2 p3 p4 p5 p6 : Pos} {i j : Nat} (hN : X.N[i]? = some y) (hk : X.env.scope.names.lookup y = some .cell) (hN2 : X.N[j]? = some rn) (hk2 : X.env.scope.names.lookup rn = some .cell)
    (hf : scope.kind = .function) (hx : scope.names.lookup x = some .local) (hyl : scope.names.lookup y = some .free) (hrf : scope.names.lookup rn = some .free) (hy : (y, NameKind.free) ∈ scope.names) (hr : (rn, NameKind.free) ∈ scope.names) (hline : (p3.endLine == p5.line) = true)
    (hd1 : (x == ("__debug__" : Str)) = false := by decide) (hd2 : (y == ("__debug__" : Str)) = false := by decide) (hd3 : (y == ("__classdict__" : Str)) = false := by decide) (hd4 : (rn == ("__debug__" : Str)) = false := by decide) (hd5 : (rn == ("__classdict__" : Str)) = false := by decide) :
    ∀ (pins : List (Addr × Obj)) (σ : L2.St) (G : Hp) (v : V) (xs : List V), DRow P i j v σ G xs → xs.length ≤ sizeLine ∧ ∃ (Pf F : Nat → Value → Prop), (∀ u, RelV v u → Src X pins σ G P u xs.length Pf) ∧
      EltQ X σ G P scope x (.Subscript (.Name rn p1) (.Call (.Attribute (.Name y p2) "index" p3) [.Name x p4] [] p5) p6) Pf F ∧ ∀ (l : Nat) (y : Value) (z : V), xs[l]? = some z → F l y → RelV z y := by
  intro pins σ G v xs h
  obtain ⟨hT, a, cols, ra, row, rfl, hz, hv, hv2, hra, hrl, hac, rfl⟩ := h
  have hl : (a.cps.toList.map fun c => V.int (rowAt cols row c)).length = a.cps.size := by rw [List.length_map]; exact Array.length_toList
  refine ⟨by rw [hl]; exact hz, _, _, fun u ru => ?_, elt_row hT hN hv hk hN2 hv2 hk2 hra hrl hac hf hx hy hyl hr hrf hline hd1 hd2 hd3 hd4 hd5, fun l y z h1 h2 => ?_⟩
  · obtain ⟨t, rfl⟩ := ru
    rw [hl]
    exact src_str a t
  · obtain ⟨c, t, hc, rfl⟩ := h2
    rw [List.getElem?_map, Array.getElem?_toList, hc] at h1
    cases h1
    exact ⟨t, rfl⟩
def DWant (P : Addr) (i : Nat) (n : Int) : V → L2.St → Hp → List V → Prop := fun v σ G xs => GxR.TabG G P ∧ ∃ (a : Str) (d : Addr) (kvs : List (Key × V)) (f : Nat → Int), v = .str a ∧ a.length ≤ sizeLine ∧ σ[i]? = some (some (.ref d)) ∧ G d = some (.dK kvs) ∧
  (∀ c ∈ a.cps.toList, ∃ (p : Addr) (lo hi : Int), valV kvs (Sum.inr (sS c)) = some (.ref p) ∧ G p = some (.tup [.int lo, .int hi]) ∧ f c = (if n = 0 then lo else hi)) ∧ xs = a.cps.toList.map fun c => V.int (f c)
theorem hd_want {X : Cx} {P : Addr} {scope : Scope} {x dn : Str} {p1 p2 p3 p4 p5 : Pos} {i kd : Nat} {n : Int} (hn01 : n = 0 ∨ n = 1) (hN : X.N[i]? = some dn) (hk : X.env.scope.names.lookup dn = some .cell)
    (hf : scope.kind = .function) (hx : scope.names.lookup x = some .local) (hyl : scope.names.lookup dn = some .free) (hy : (dn, NameKind.free) ∈ scope.names)
    (hd1 : (x == ("__debug__" : Str)) = false := by decide) (hd2 : (dn == ("__debug__" : Str)) = false := by decide) (hd3 : (dn == ("__classdict__" : Str)) = false := by decide) :
    ∀ (pins : List (Addr × Obj)) (σ : L2.St) (G : Hp) (v : V) (xs : List V), DWant P i n v σ G xs → xs.length ≤ sizeLine ∧ ∃ (Pf F : Nat → Value → Prop), (∀ u, RelV v u → Src X pins σ G P u xs.length Pf) ∧
      EltQ X σ G P scope x (.Subscript (.Subscript (.Name dn p1) (.Name x p2) p3) (.Constant (.int n) kd p4) p5) Pf F ∧ ∀ (l : Nat) (y : Value) (z : V), xs[l]? = some z → F l y → RelV z y := by
  intro pins σ G v xs h
  obtain ⟨hT, a, d, kvs, f, rfl, hz, hv, hd, hac, rfl⟩ := h
  have hl : (a.cps.toList.map fun c => V.int (f c)).length = a.cps.size := by rw [List.length_map]; exact Array.length_toList
  refine ⟨by rw [hl]; exact hz, _, _, fun u ru => ?_, elt_want hT hN hv hk hd hn01 hac hf hx hy hyl hd1 hd2 hd3, fun l y z h1 h2 => ?_⟩
  · obtain ⟨t, rfl⟩ := ru
    rw [hl]
    exact src_str a t
  · obtain ⟨c, t, hc, rfl⟩ := h2
    rw [List.getElem?_map, Array.getElem?_toList, hc] at h1
    cases h1
    exact ⟨t, rfl⟩
/-! ### the end: the tables of all defs are empty -/
end My

set_option Elab.async false
set_option linter.all false
set_option maxRecDepth 100000
set_option maxHeartbeats 2000000
namespace My
open PySem PySem.Spec PyProof.Rows L2
/-! ### texts by their codes -/
theorem inV_signs (c : Nat) : ∀ l : List Nat, inV (sg c) (l.map sg) = decide (c ∈ l)
  | [] => rfl
  | d :: l => by
    have ih := inV_signs c l
    show (((sS d) == (sS c)) || inV (sg c) (l.map sg)) = decide (c ∈ d :: l)
    rw [ih]
    by_cases e : d = c
    · rw [e]
      simp
    · have e2 : ((sS d) == (sS c)) = false := by
        rw [Bool.eq_false_iff]
        intro z
        exact e (sS_inj (by simpa using z))
      have e3 : ¬ c = d := fun z => e z.symm
      rw [e2]
      simp [e3]
theorem flat_signs (l : List Nat) : (l.map sg).all flatV = true := by
  rw [List.all_map, List.all_eq_true]
  intro c _
  rfl
theorem cut_take (l : List Nat) (k : Nat) : cutS ⟨l.toArray⟩ none (some (k : Int)) = ⟨(l.take k).toArray⟩ := by
  unfold cutS
  rw [HT.sIx_none, HT.sIx_nat]
  show (⟨((l.toArray.toList.drop 0).take (min k l.toArray.size - 0)).toArray⟩ : Str) = _
  have e1 : l.toArray.toList = l := by simp
  have e2 : l.toArray.size = l.length := by simp
  rw [e1, e2, List.drop_zero, Nat.sub_zero]
  congr 2
  rw [List.take_eq_take_iff]
  omega
theorem cut_one (l : List Nat) (k : Nat) (hk : k ≤ l.length) : cutS ⟨l.toArray⟩ (some (k : Int)) (some ((k : Int) + 1)) = ⟨((l.drop k).take 1).toArray⟩ := by
  unfold cutS
  have e0 : ((k : Int) + 1) = ((k + 1 : Nat) : Int) := by omega
  rw [e0, HT.sIx_nat, HT.sIx_nat]
  show (⟨((l.toArray.toList.drop (min k l.toArray.size)).take (min (k + 1) l.toArray.size - min k l.toArray.size)).toArray⟩ : Str) = _
  have e1 : l.toArray.toList = l := by simp
  have e2 : l.toArray.size = l.length := by simp
  rw [e1, e2, Nat.min_eq_left hk]
  congr 2
  rw [List.take_eq_take_iff, List.length_drop]
  omega
theorem tx_inj {a b : List Nat} (h : tx a = tx b) : a = b := by
  have h2 : (⟨a.toArray⟩ : Str) = ⟨b.toArray⟩ := V.str.inj h
  have h3 : a.toArray = b.toArray := congrArg Str.cps h2
  simpa using h3
/-! ### the letters that a question uses -/
def eqPart (one : List Nat) (es : List (Nat × Int)) : List Nat := one.takeWhile fun c => decide (c ∈ es.map (·.1))
def usedM (one : List Nat) (es : List (Nat × Int)) (rc : Option (Nat × Int × Int)) : List Nat :=
  match rc with
  | none => eqPart one es
  | some (c, _, _) => if (one.drop (eqPart one es).length).take 1 = [c] then one.take ((eqPart one es).length + 1) else eqPart one es
theorem eqPart_take (one : List Nat) (es : List (Nat × Int)) : eqPart one es = one.take (eqPart one es).length := by
  unfold eqPart
  exact List.prefix_iff_eq_take.mp (List.takeWhile_prefix _)
theorem eqPart_le (one : List Nat) (es : List (Nat × Int)) : (eqPart one es).length ≤ one.length := (List.takeWhile_prefix _).length_le
theorem take_while_at {α : Type} (p : α → Bool) : ∀ (l : List α) (k : Nat), k ≤ l.length → (∀ i (h : i < l.length), i < k → p l[i] = true) → (∀ (h : k < l.length), p l[k] = false) → (l.takeWhile p).length = k
  | [], k, hk, _, _ => by
    have : k = 0 := by
      have : k ≤ 0 := hk
      omega
    rw [this]
    rfl
  | a :: l, 0, _, _, h => by
    have := h (by simp)
    rw [List.takeWhile_cons, show p a = false from this]
    rfl
  | a :: l, k + 1, hk, h1, h2 => by
    have e := h1 0 (by simp) (by omega)
    rw [List.takeWhile_cons, show p a = true from e]
    have ih := take_while_at p l k (by have : k + 1 ≤ l.length + 1 := hk; omega) (fun i hi hik => h1 (i + 1) (by simpa using hi) (by omega)) (fun h => h2 (by simpa using h))
    show (a :: l.takeWhile p).length = k + 1
    rw [List.length_cons, ih]
section
variable (K : PySem.W.Frag) {X : Cx}
theorem ltTK (hu : X.A.units < cLine) (hK : X.K = K := by rfl) : OpR X (compareOp .Lt) (rLtT K) := by
  subst hK
  exact op_ltT hu
theorem leTK (hu : X.A.units < cLine) (hK : X.K = K := by rfl) : OpR X (compareOp .LtE) (rLeT K) := by
  subst hK
  exact op_leT hu
end
/-! ### the bounds that a question asks of a letter -/
def spanOf (es : List (Nat × Int)) (rc : Option (Nat × Int × Int)) (c : Nat) : Int × Int := match (spanL es rc).find? (fun t => decide (t.1 = c)) with
  | some t => t.2
  | none => (0, 0)
theorem spanOf_mem {es : List (Nat × Int)} {rc : Option (Nat × Int × Int)} {c : Nat} {lo hi : Int} (nd : ((spanL es rc).map (·.1)).Nodup) (h : (c, lo, hi) ∈ spanL es rc) : spanOf es rc c = (lo, hi) := by
  unfold spanOf
  generalize spanL es rc = l at nd h
  induction l with
  | nil => cases h
  | cons t l ih =>
    rw [List.find?_cons]
    by_cases e : t.1 = c
    · rw [decide_eq_true e]
      rcases List.mem_cons.mp h with z | z
      · rw [← z]
      · have := (List.nodup_cons.mp nd).1
        exfalso
        apply this
        show t.1 ∈ _
        rw [e]
        exact List.mem_map_of_mem (f := fun t : Nat × Int × Int => t.1) z
    · rw [decide_eq_false e]
      rcases List.mem_cons.mp h with z | z
      · exfalso
        apply e
        rw [← z]
      · exact ih (List.nodup_cons.mp nd).2 z
theorem mem_tw {α : Type} (p : α → Bool) : ∀ (l : List α) (a : α), a ∈ l.takeWhile p → p a = true
  | [], _, h => by cases h
  | b :: l, a, h => by
    rw [List.takeWhile_cons] at h
    by_cases e : p b = true
    · rw [if_pos e] at h
      rcases List.mem_cons.mp h with z | z
      · rw [z]
        exact e
      · exact mem_tw p l a z
    · rw [if_neg e] at h
      cases h
theorem used_span {one : List Nat} {es : List (Nat × Int)} {rc : Option (Nat × Int × Int)} {c : Nat} (h : c ∈ usedM one es rc) : ∃ lo hi, (c, lo, hi) ∈ spanL es rc := by
  have eqp : ∀ c ∈ eqPart one es, ∃ lo hi, (c, lo, hi) ∈ spanL es rc := fun c hc => by
    have hm : c ∈ es.map (·.1) := by
      unfold eqPart at hc
      have := mem_tw _ _ _ hc
      exact of_decide_eq_true this
    obtain ⟨p, hp, rfl⟩ := List.mem_map.mp hm
    exact ⟨p.2, p.2, List.mem_append_left _ (List.mem_map_of_mem (f := fun p : Nat × Int => (p.1, p.2, p.2)) hp)⟩
  cases rc with
  | none => exact eqp c h
  | some t =>
    obtain ⟨d, lo, hi⟩ := t
    have h2 : c ∈ (if (one.drop (eqPart one es).length).take 1 = [d] then one.take ((eqPart one es).length + 1) else eqPart one es) := h
    by_cases e : (one.drop (eqPart one es).length).take 1 = [d]
    · rw [if_pos e, List.take_add, ← eqPart_take, e] at h2
      rcases List.mem_append.mp h2 with z | z
      · exact eqp c z
      · rw [List.mem_singleton.mp z]
        exact ⟨lo, hi, List.mem_append_right _ (by simp)⟩
    · rw [if_neg e] at h2
      exact eqp c h2
theorem used_sub {one : List Nat} {es : List (Nat × Int)} {rc : Option (Nat × Int × Int)} : ∃ k, usedM one es rc = one.take k ∧ k ≤ one.length + 1 := by
  have hl := eqPart_le one es
  cases rc with
  | none => exact ⟨_, eqPart_take one es, by omega⟩
  | some t =>
    obtain ⟨d, lo, hi⟩ := t
    show ∃ k, (if (one.drop (eqPart one es).length).take 1 = [d] then one.take ((eqPart one es).length + 1) else eqPart one es) = one.take k ∧ _
    by_cases e : (one.drop (eqPart one es).length).take 1 = [d]
    · rw [if_pos e]
      exact ⟨_, rfl, by omega⟩
    · rw [if_neg e]
      exact ⟨_, eqPart_take one es, by omega⟩
theorem used_in {one : List Nat} {es : List (Nat × Int)} {rc : Option (Nat × Int × Int)} {c : Nat} (h : c ∈ usedM one es rc) : c ∈ one := by
  obtain ⟨k, e, _⟩ := used_sub (one := one) (es := es) (rc := rc)
  rw [e] at h
  exact List.mem_of_mem_take h
theorem used_len (one : List Nat) (es : List (Nat × Int)) (rc : Option (Nat × Int × Int)) : (usedM one es rc).length ≤ one.length := by
  obtain ⟨k, e, _⟩ := used_sub (one := one) (es := es) (rc := rc)
  rw [e, List.length_take]
  exact Nat.min_le_right _ _
theorem TG.mut {Ps : List Addr} {H : Hp} {p : Addr} {xs : List V} {o : HO} (t : TG Ps H) (h : H p = some (.lst xs)) : TG Ps (upd H p o) := fun P hP => by
  obtain ⟨ps, h2, q⟩ := t P hP
  refine ⟨ps, ?_, q⟩
  rw [upd_ne (fun z => ?_)]
  · exact h2
  · rw [z, h] at h2
    cases h2
theorem row_at_fz {H : Hp} {p : Addr} {row : List Int} (h : H p = some (.tup (row.map V.int))) : Fz H (.ref p) (rowD row) := .tup h FzA.ofInts
/-! ### stretches -/
def keyM (cols : List Nat) (row : List Int) (ls : List Nat) : List Int := ls.map (rowAt cols row)
def leK (ns ms : List Int) : Bool := Ob.lexAt (fun j => decide (ns.getD j 0 = ms.getD j 0)) (fun j => decide (ns.getD j 0 ≤ ms.getD j 0)) (decide (ns.length ≤ ms.length)) 0 (min ns.length ms.length)
def loM (es : List (Nat × Int)) (rc : Option (Nat × Int × Int)) (u : List Nat) : List Int := u.map fun c => (spanOf es rc c).1
def hiM (es : List (Nat × Int)) (rc : Option (Nat × Int × Int)) (u : List Nat) : List Int := u.map fun c => (spanOf es rc c).2
def aheadM (cols : List Nat) (rows : List (List Int)) (one : List Nat) (es : List (Nat × Int)) (rc : Option (Nat × Int × Int)) : Nat := (rows.filter fun row => HT.lexLt (keyM cols row (usedM one es rc)) (loM es rc (usedM one es rc))).length
def behindM (cols : List Nat) (rows : List (List Int)) (one : List Nat) (es : List (Nat × Int)) (rc : Option (Nat × Int × Int)) : Nat := (rows.filter fun row => leK (keyM cols row (usedM one es rc)) (hiM es rc (usedM one es rc))).length
end My

set_option Elab.async false
set_option linter.all false
set_option maxRecDepth 100000
set_option maxHeartbeats 2000000
namespace My
open PySem PySem.Spec PyProof.Rows L2
/-! ### tuples whose own object is told: without a dict of its own -/
def rTupF (K : PySem.W.Frag) : List V → Hp → VK → Prop := fun xs H Q => ∃ (p : Addr) (ys : List V), xs = [.ref p] ∧ SqL K H p ys ∧ ∀ (l : Addr) (o : Obj), H l = none → o.dict = none → Q (.ref l) (upd H l (.frz o (.tup ys)))
section
variable (K : PySem.W.Frag) {X : Cx}
theorem cTupF (hK : X.K = K := by rfl) : CallR X (.type "tuple") (rTupF K) := by
  subst hK
  intro pins s σ H xs us Q I r h
  obtain ⟨p, ys, rfl, hq, q⟩ := h
  obtain ⟨u, rfl, rx⟩ := vals1 r
  cases rx
  obtain ⟨its, rv, pl, hz⟩ := I.list hq
  have hlen := rv.length
  refine call_tuple_list pl.isList (fun h2 kp => ?_) (by rw [List.size_toArray]; omega)
  have I1 : Inv X pins σ H { s with heap := h2 } := I.kept (t' := s.toks) kp
  have new : ObjOk X.prog X.w (upd H h2.objs.size (.frz { cls := .type "tuple", data := .seq its.toArray } (.tup ys))) (h2.push { cls := .type "tuple", data := .seq its.toArray }) h2.objs.size (.frz { cls := .type "tuple", data := .seq its.toArray } (.tup ys)) := ⟨Heap.get?_push_size _ rfl, hz, its, rv, IsTup.new _ _⟩
  have I2 := I1.laid (t' := s.toks) (fun b o e => Heap.get?_push_of_some _ e) (Nat.le_refl _) new
  exact ⟨.ref h2.objs.size, _, I2, rfl, q _ _ (I1.hok.fresh (Nat.le_refl _)) rfl⟩
end
/-! ### questions: their equals are such a tuple -/
def KT (H H' : Hp) : Prop := Kt H H' ∧ ∀ b o xs, H b = some (.frz o (.tup xs)) → H' b = some (.frz o (.tup xs))
theorem KT.rfl' {H : Hp} : KT H H := ⟨Kt.rfl', fun _ _ _ h => h⟩
theorem KT.trans {H H1 H2 : Hp} (a : KT H H1) (b : KT H1 H2) : KT H H2 := ⟨a.1.trans b.1, fun c o xs h => b.2 c o xs (a.2 c o xs h)⟩
theorem Same.kT {H H' : Hp} (s : Same H H') : KT H H' := ⟨Same.kt s, fun b o xs h => s b _ h⟩
theorem Kp.kT {r : Addr} {H H' : Hp} {xs : List V} (k : Kp r H H') (hr : H r = some (.lst xs)) : KT H H' := ⟨k.kt hr, fun b o ys h => k b _ (fun z => by
  rw [z, hr] at h
  cases h) h⟩
theorem Sx.kT {Ps : List Addr} {H H' : Hp} (t : TG Ps H) (s : Sx Ps H H') : KT H H' := ⟨s.kt t, fun b o xs h => s b _ (t.not h fun q z => nomatch z) h⟩
theorem KT.new {H : Hp} {p : Addr} {o : HO} (n : H p = none) : KT H (upd H p o) := ⟨Kt.new n, fun b u xs h => keep_new h n⟩
theorem KT.lst {H : Hp} {p : Addr} {xs : List V} {o : HO} (n : H p = some (.lst xs)) : KT H (upd H p o) := ⟨Kt.lst n, fun b u ys h => keep_ne h fun z => by
  rw [z, n] at h
  cases h⟩
def EZ (H : Hp) (ev : V) (es : List (Nat × Int)) : Prop := ∃ (ea : Addr) (o : Obj) (ps : List V), ev = .ref ea ∧ o.dict = none ∧ H ea = some (.frz o (.tup ps)) ∧ FzA H ps (es.map eqD)
def QZ (H : Hp) (qv : V) (es : List (Nat × Int)) (rc : Option (Nat × Int × Int)) : Prop := ∃ (qa : Addr) (ev y : V), qv = .ref qa ∧ H qa = some (.tup [ev, y]) ∧ EZ H ev es ∧ Fz H y (rchD rc)
theorem EZ.kT {H H' : Hp} {ev : V} {es : List (Nat × Int)} (h : EZ H ev es) (k : KT H H') : EZ H' ev es := by
  obtain ⟨ea, o, ps, rfl, h1, h2, h3⟩ := h
  exact ⟨ea, o, ps, rfl, h1, k.2 _ _ _ h2, h3.kt k.1⟩
theorem QZ.kT {H H' : Hp} {qv : V} {es : List (Nat × Int)} {rc : Option (Nat × Int × Int)} (h : QZ H qv es rc) (k : KT H H') : QZ H' qv es rc := by
  obtain ⟨qa, ev, y, rfl, h1, h2, h3⟩ := h
  exact ⟨qa, ev, y, rfl, k.1 _ _ h1, h2.kT k, h3.kt k.1⟩
theorem EZ.made {H : Hp} {te : Addr} {o : Obj} {ps : List V} {es : List (Nat × Int)} (n : H te = none) (ho : o.dict = none) (f : FzA H ps (es.map eqD)) : EZ (upd H te (.frz o (.tup ps))) (.ref te) es := ⟨te, o, ps, rfl, ho, upd_same, f.kt (.new n)⟩
theorem QZ.made {H : Hp} {v : Addr} {ev y : V} {es : List (Nat × Int)} {rc : Option (Nat × Int × Int)} (n : H v = none) (e : EZ H ev es) (f : Fz H y (rchD rc)) : QZ (upd H v (.tup [ev, y])) (.ref v) es rc := ⟨v, ev, y, rfl, upd_same, e.kT (.new n), f.kt (.new n)⟩
end My

set_option Elab.async false
set_option linter.all false
set_option maxRecDepth 100000
set_option maxHeartbeats 2000000
namespace My
open PySem PySem.Spec PyProof.Rows L2
section
variable (K : PySem.W.Frag) {X : Cx}
end
/-! ### the order of keys, by a sign -/
def sgn (k lo hi : Int) : Int := (if decide (hi < k) = true then 1 else 0) - (if decide (k < lo) = true then 1 else 0)
def signF (k lo hi : Nat → Int) (u : List Nat) (s : Int) : Int := u.foldl (fun s c => if s = 0 then sgn (k c) (lo c) (hi c) else s) s
def signM (cols : List Nat) (row : List Int) (es : List (Nat × Int)) (rc : Option (Nat × Int × Int)) (u : List Nat) : Int := signF (rowAt cols row) (fun c => (spanOf es rc c).1) (fun c => (spanOf es rc c).2) u 0
end My

set_option Elab.async false
set_option linter.all false
set_option maxRecDepth 100000
set_option maxHeartbeats 2000000
namespace My
open PySem PySem.Spec PyProof.Rows L2
section
variable (K : PySem.W.Frag) {X : Cx}
theorem slLK (hK : X.K = K := by rfl) : SlR X (rSlL K) := by
  subst hK
  exact sl_list
end
/-! ### what a stretch of the sorted rows holds -/
def below (cols : List Nat) (rows : List (List Int)) (es : List (Nat × Int)) (rc : Option (Nat × Int × Int)) (u : List Nat) (n : Int) (o : Nat) : Bool := decide (signM cols (rows.getD o []) es rc u < n)
end My

set_option Elab.async false
set_option linter.all false
set_option maxRecDepth 100000
set_option maxHeartbeats 2000000
namespace My
open PySem PySem.Spec PyProof.Rows L2
/-! ### a walk over a dict's keys, texts of one sign -/
section
variable {X : Cx} {pins : List (Addr × Obj)} {σ : L2.St}
end
theorem SpA.keys {H : Hp} {kvs : List (Key × V)} {l : List (Nat × Int × Int)} (h : SpA H kvs l) : kvs.map (·.1) = (l.map (·.1)).map fun c => (Sum.inr (sS c) : Key) := by
  induction h with
  | nil => rfl
  | cons _ _ ih =>
    rw [List.map_cons, List.map_cons, List.map_cons, ih]
end My

set_option Elab.async false
set_option linter.all false
set_option maxRecDepth 100000
set_option maxHeartbeats 2000000
namespace My
open PySem PySem.Spec PyProof.Rows L2
theorem nodup_sub_len : ∀ {l m : List Nat}, l.Nodup → (∀ c ∈ l, c ∈ m) → l.length ≤ m.length
  | [], _, _, _ => Nat.zero_le _
  | a :: l, m, h, hs => by
    have h2 := List.nodup_cons.mp h
    have ha := hs a (by simp)
    have ih := nodup_sub_len (m := m.erase a) h2.2 (fun c hc => (List.mem_erase_of_ne (fun e => h2.1 (by rw [← e]; exact hc))).mpr (hs c (by simp [hc])))
    rw [List.length_erase_of_mem ha] at ih
    have hp : 0 < m.length := List.length_pos_of_mem ha
    rw [List.length_cons]
    omega
end My

set_option Elab.async false
set_option linter.all false
set_option maxRecDepth 100000
set_option maxHeartbeats 2000000
namespace My
open PySem PySem.Spec PyProof.Rows L2
/-! ### sorted of a tuple of data -/
def rSortD (K : PySem.W.Frag) {β : Type} (enc : β → PyData) : List V → Hp → VK → Prop := fun xs H Q => ∃ (p : Addr) (bs : List (V × β)), xs = [.ref p] ∧ SqT K H p (bs.map (·.1)) ∧ (∀ b ∈ bs, Dp K H b.1 (enc b.2)) ∧ W.AllAlike (bs.map fun b => enc b.2) ∧ W.Sortable (bs.map fun b => enc b.2) ∧ (∀ b ∈ bs, (enc b.2).depth ≤ 20) ∧
  ∀ l, H l = none → Q (.ref l) (upd H l (.lst ((bs.mergeSort (W.dataLe false fun b => enc b.2)).map (·.1))))
theorem each_ofB {β : Type} {R : Value → V × β → Prop} : ∀ {bs : List (V × β)} {its : List Value}, Vals (bs.map (·.1)) its → (∀ b ∈ bs, ∀ v, RelV b.1 v → R v b) → W.EachIs R its bs
  | [], _, r, _ => by
    cases r
    exact .nil
  | b :: bs, _, r, h => by
    rw [List.map_cons] at r
    cases r with
    | cons h1 h2 => exact .cons (h b (by simp) _ h1) (each_ofB h2 fun c hc => h c (by simp [hc]))
theorem vals_eachB {β : Type} : ∀ {bs : List (V × β)} {its : List Value}, W.EachIs (fun v b => RelV b.1 v) its bs → Vals (bs.map (·.1)) its
  | _, _, .nil => .nil
  | _, _, .cons h t => .cons h (vals_eachB t)
section
variable (K : PySem.W.Frag) {X : Cx}
theorem cSortD {β : Type} {enc : β → PyData} {k : Nat} (hr : Room k X.A) (hK : X.K = K := by rfl) : CallR X (.builtin "sorted") (rSortD K enc) := by
  subst hK
  intro pins s σ H xs us Q I r h
  obtain ⟨p, bs, rfl, hq, hf, hal, hso, hdp, q⟩ := h
  obtain ⟨u, rfl, rx⟩ := vals1 r
  cases rx
  obtain ⟨its, rv, pl, hz⟩ := I.tuple hq
  have hun := hr.un
  have e : W.EachIs (fun v (b : V × β) => RelV b.1 v) its bs := each_ofB rv fun b _ v h => h
  have er : W.EachIs (fun v (b : V × β) => ∃ as, Reads s.heap v (enc b.2) as) its bs := each_ofB rv fun b hb v h => Dp.reads I _ _ _ (hf b hb) h
  rw [List.length_map] at hz
  have hlen : its.length ≤ sizeLine := by
    have := e.length
    rw [this]
    exact hz
  obtain ⟨o, ho, hcl, hdt⟩ := pl
  refine Calls.call_function_entry PyProof.Rows.kind_sorted PyProof.Rows.plain_sorted PyProof.Rows.entry_sorted (PyProof.Rows.args_sorted1 _) ?_
  unfold Builtin.«sorted»
  refine wpAny_bind (m := checkCount "sorted" 1 1 _) (wpAny_pure ?_)
  obtain ⟨nn, hdt⟩ := hdt
  refine wpAny_bind (wpAny_collect_seq p (.inr rfl) ho hcl hdt (fun h' hk => ?_) (by rw [List.size_toArray]; exact hlen))
  have I1 : Inv X pins σ H { s with heap := h' } := I.kept (t' := s.toks) hk
  rw [show its.toArray.toList = its by simp]
  refine wpAny_bind (wpAny_newList ?_ hlen)
  have hnew : (h'.push (seqObj "list" its.toArray 0)).get? h'.objs.size = some (seqObj "list" its.toArray 0) := Heap.get?_push_size _ rfl
  have old : ∀ (b : Addr) (u : Obj), s.heap.get? b = some u → (W.sortingHeap (h'.push (seqObj "list" its.toArray 0)) h'.objs.size its).get? b = some u := fun b u hb =>
    W.sortingHeap_old (Nat.ne_of_lt (Heap.lt_size (hk b u hb))) (Heap.get?_push_of_some _ (hk b u hb))
  have er2 : W.EachIs (fun v (b : V × β) => ∃ as, Reads (W.sortingHeap (h'.push (seqObj "list" its.toArray 0)) h'.objs.size its) v (enc b.2) as) its bs := er.mono fun _ _ ⟨as, r⟩ => ⟨as, PyProof.Rows.Reads.keeps old r⟩
  have eo := W.sortVals_data (enc := fun b : V × β => enc b.2) false e er2 hal
  refine wpAny_bind (wpAny_holding (wpAny_call_entry PyProof.Rows.slot_list_sort ⟨_, hnew, rfl⟩ PyProof.Rows.entry_list_sort
    (W.list_sort_vals (s := { s with heap := h'.push (seqObj "list" its.toArray 0) }) hnew (W.SortsAt.data (s := { s with heap := W.sortingHeap (h'.push (seqObj "list" its.toArray 0)) h'.objs.size its }) (W.each_map (R := fun v d => ∃ as, Reads (W.sortingHeap (h'.push (seqObj "list" its.toArray 0)) h'.objs.size its) v d as) (fun b : V × β => enc b.2) er2) hal hso (fun d hd => ?_)) hlen ⟨_, rfl, ?_⟩)
    (PyProof.Rows.args_list_sort _)))
  · obtain ⟨b, hb, rfl⟩ := List.mem_map.mp hd
    have h1 := hdp b hb
    have h2 : X.A.in1.in1.units ≤ X.A.units + 2 := by
      show X.A.units + 1 + 1 ≤ X.A.units + 2
      omega
    show X.A.in1.in1.units + (enc b.2).depth < cLine
    omega
  · generalize W.sortVals (W.dataKind (W.sortingHeap (h'.push (seqObj "list" its.toArray 0)) h'.objs.size its) (bs.map fun b => enc b.2)) false its its = out at eo
    obtain ⟨ep, hep⟩ := PyProof.Rows.sortedHeap_at (vs := its) (out := out.toArray) hnew
    have hfit : ((bs.mergeSort (W.dataLe false fun b => enc b.2)).map (·.1)).length ≤ sizeLine := by
      rw [List.length_map, List.length_mergeSort]
      exact hz
    refine wpAny_pure ⟨_, rfl, .ref h'.objs.size, upd H h'.objs.size (.lst ((bs.mergeSort (W.dataLe false fun b => enc b.2)).map (·.1))), I1.laid (t' := s.toks) (fun b u eb => ?_) (Nat.le_refl _)
      (show ObjOk X.prog X.w _ _ _ (.lst ((bs.mergeSort (W.dataLe false fun b => enc b.2)).map (·.1))) from ⟨hfit, out, ep, vals_eachB eo, hep⟩), rfl, q _ (I1.hok.fresh (Nat.le_refl _))⟩
    have hb : b < h'.objs.size := Heap.lt_size eb
    rw [PyProof.Rows.sortedHeap_old (Nat.ne_of_lt hb) (by rw [size_push']; exact Nat.lt_succ_of_lt hb)]
    exact Heap.get?_push_of_some _ eb
end
/-! pairs of a letter and a number -/
end My

set_option Elab.async false
set_option linter.all false
set_option maxRecDepth 100000
set_option maxHeartbeats 2000000
namespace My
open PySem PySem.Spec PyProof.Rows L2
section
variable (K : PySem.W.Frag) {X : Cx}
theorem paStarK {e : Expr} {te : TE} {es : List Expr} {t : TA} {p : Pos} (he : PE X e te) (hr : PA X es t) (hK : X.K = K := by rfl) (hs : starEach (.Starred e p :: es) X.env = (true, eval e X.env) :: starEach es X.env := by rfl) : PA X (.Starred e p :: es) (StX.tStar K te t) := by
  subst hK
  exact StX.pa_star he hr hs
/-! ### the least of a list -/
def minM (n : Int) (ns : List Int) : Int := ns.foldl min n
theorem minM_spec : ∀ (ns : List Int) (n : Int), (minM n ns = n ∨ minM n ns ∈ ns) ∧ minM n ns ≤ n ∧ ∀ y ∈ ns, minM n ns ≤ y
  | [], n => ⟨.inl rfl, Int.le_refl _, fun y h => nomatch h⟩
  | m :: ns, n => by
    obtain ⟨h1, h2, h3⟩ := minM_spec ns (min n m)
    have e : minM n (m :: ns) = minM (min n m) ns := rfl
    rw [e]
    refine ⟨?_, by omega, fun y hy => ?_⟩
    · rcases h1 with z | z
      · rw [z]
        by_cases c : n ≤ m
        · exact .inl (by omega)
        · exact .inr (by rw [show min n m = m by omega]; exact List.mem_cons_self ..)
      · exact .inr (List.mem_cons_of_mem _ z)
    · rcases List.mem_cons.mp hy with z | z
      · omega
      · exact h3 y z
theorem minM_of {n m : Int} {ns : List Int} (h : m ∈ n :: ns) (hl : ∀ y ∈ n :: ns, m ≤ y) : m = minM n ns := by
  obtain ⟨h1, h2, h3⟩ := minM_spec ns n
  have a1 : m ≤ minM n ns := by
    rcases h1 with z | z
    · rw [z]
      exact hl n (by simp)
    · exact hl _ (by simp [z])
  have a2 : minM n ns ≤ m := by
    rcases List.mem_cons.mp h with z | z
    · omega
    · exact h3 m z
  omega
def rMinM (K : PySem.W.Frag) : List V → Hp → VK → Prop := fun vs H Q => ∃ (a : Addr) (n : Int) (ns : List Int), vs = [.ref a] ∧ SqL K H a ((n :: ns).map V.int) ∧ Q (.int (minM n ns)) H
theorem minK (hc : X.calm = true := by rfl) (hK : X.K = K := by rfl) : CallR X (.builtin "min") (rMinM K) := by
  subst hK
  intro pins s σ H xs us Q I r h
  obtain ⟨a, n, ns, rfl, hs, q⟩ := h
  refine cr_min hc pins s σ H _ us Q I r ⟨a, n :: ns, rfl, hs, by simp, fun m hm hl => ?_⟩
  rw [minM_of hm hl]
  exact q
end
/-! ### keys of a merged dict -/
/-! ### choices: texts in a row -/
abbrev txS (l : List Nat) : Str := ⟨l.toArray⟩
theorem txS_inj {a b : List Nat} (h : txS a = txS b) : a = b := tx_inj (congrArg V.str h)
/-! ### prices -/
def priceM (cols : List Nat) (rows : List (List Int)) (o : List Nat) (es : List (Nat × Int)) (rc : Option (Nat × Int × Int)) : Int := (behindM cols rows o es rc : Int) - (aheadM cols rows o es rc : Int) + 1
def priceByM (cols : List Nat) (rows : List (List Int)) (ov : Option (List Nat)) (es : List (Nat × Int)) (rc : Option (Nat × Int × Int)) : Int := match ov with
  | none => (rows.length : Int)
  | some o => priceM cols rows o es rc
def priceOfM (cols : List Nat) (rows : List (List Int)) (ch : List (List Nat)) (es : List (Nat × Int)) (rc : Option (Nat × Int × Int)) : Int := minM (rows.length : Int) (ch.map fun o => priceM cols rows o es rc)
def oV : Option (List Nat) → V
  | none => .non
  | some o => tx o
end My

set_option Elab.async false
set_option linter.all false
set_option maxRecDepth 100000
set_option maxHeartbeats 2000000
namespace My
open PySem PySem.Spec PyProof.Rows L2
theorem signs_len (l : List Nat) : ((l.map sS).map fun x : Str => x.length).sum = l.length := by
  induction l with
  | nil => rfl
  | cons a k ih =>
    rw [List.map_cons, List.map_cons, List.sum_cons, ih, List.length_cons]
    show 1 + k.length = k.length + 1
    omega
/-! ### texts cut -/
/-! ### list(x), x a text or a row -/
/-! ### a need and a list: two ways to look -/
end My

set_option Elab.async false
set_option linter.all false
set_option maxRecDepth 100000
set_option maxHeartbeats 2000000
namespace My
open PySem PySem.Spec PyProof.Rows L2
/-! ### sorted again -/
/-! ### rows of lists of numbers -/
mutual
theorem Ft.dp {K : PySem.W.Frag} {H : Hp} : ∀ (d : PyData) (v : V), Ft H v d → Dp K H v d
  | .none, _, .non => .non
  | .bool _, _, .bl b => .bl b
  | .int _, _, .int i => .int i
  | .str _, _, .str z => .str z
  | .list ds, _, .lst h a => .lst (.inl (.inl h)) (FtA.dp ds _ a)
  | .tuple ds, _, .tup h a => .tup (.inl (.inl h)) (FtA.dp ds _ a)
theorem FtA.dp {K : PySem.W.Frag} {H : Hp} : ∀ (ds : List PyData) (vs : List V), FtA H vs ds → DpAll K H vs ds
  | [], _, .nil => .nil
  | d :: ds, _, .cons h a => .cons (Ft.dp d _ h) (FtA.dp ds _ a)
end
theorem FtA.snoc {H : Hp} : ∀ {vs : List V} {ds : List PyData} {v : V} {d : PyData}, FtA H vs ds → Ft H v d → FtA H (vs ++ [v]) (ds ++ [d])
  | _, _, _, _, .nil, h => .cons h .nil
  | _, _, _, _, .cons a r, h => .cons a (r.snoc h)
end My
namespace My
open PySem PySem.Spec PyProof.Rows L2
end My

set_option Elab.async false
set_option linter.all false
set_option maxRecDepth 100000
set_option maxHeartbeats 2000000
namespace My
open PySem PySem.Spec PyProof.Rows L2
/-! ### generator expressions whose element calls defs -/
/-- the context of a generator expression's own frame -/
abbrev gxC (X : Cx) (A : Around) (s : Shared) (H : Hp) (cenv : Env) (fp : List Addr) (pn : List (Addr × Obj)) : Cx :=
  { X with A := A, s_0 := s, H_0 := H, env := cenv, outer := X.stack, stack := cenv :: X.stack, ex := fp, fn := fun _ => false, pn := pn, xe := fun _ _ => False }
theorem over_gen {A : Around} {elt : Expr} {gs : List Comprehension} {scope : Scope} {pos : Pos} {it acc : Value} {env : Env} : A.over (.compLoop (.GeneratorExp elt gs scope pos) 0 it acc env) [] = A.deeper env := rfl
section
variable {X : Cx} {pins : List (Addr × Obj)} {σ : L2.St} {H : Hp} {s : Shared}
/-- what its consumer wrote at S while it slept -/
theorem woke {S : Addr} {o o' : Obj} {pins0 : List (Addr × Obj)} {s' : Shared} (I : Inv X ((S, o) :: pins0) σ H s) (h0 : X.s_0.heap.objs.size ≤ S) (hc : ∀ x c, X.env.cells.lookup x = some c → c ≠ S) (hpn : ∀ p ∈ X.pn ++ pins0, p.1 ≠ S)
    (os : s'.os = s.os) (bare : AllBare s'.gens) (keep : ∀ b u, b ≠ S → s.heap.get? b = some u → s'.heap.get? b = some u) (own : s'.heap.get? S = some o') (hd : ∀ v, o'.data ≠ .cell v) : Inv X ((S, o') :: pins0) σ H s' := by
  obtain ⟨p1, p2, p3, p4, p5⟩ := I.pin (S, o) (List.mem_append_right _ List.mem_cons_self)
  have I0 : Inv X pins0 σ H s := I.pins_of fun p hp => I.pin p (List.mem_append_right _ (List.mem_cons_of_mem _ hp))
  have J : Inv X pins0 σ H { s with heap := s'.heap, toks := s.toks } := I0.turned (t' := s.toks) keep p2 p3 (.inr h0) hc hpn
  have J2 : Inv X pins0 σ H s' := J.call' (ch := []) os (Un.kept fun b o e => e) J.hok bare (fun b hb => absurd hb (by simp))
  refine J2.pins_of fun p hp => ?_
  rcases List.mem_cons.mp hp with z | z
  · rw [z]
    exact ⟨own, p2, p3, p4, hd⟩
  · exact J2.pin p (List.mem_append_right _ z)
/-- a scope without cells makes none -/
theorem none_made : ∀ {names : List (Str × NameKind)}, (∀ y ∈ names, y.2 ≠ .cell) → (∀ n acc, cellsFrom n names acc = acc) ∧ ∀ h, pushCells h names = h
  | [], _ => ⟨fun _ _ => rfl, fun _ => rfl⟩
  | y :: r, no => by
    have hy : (y.2 == NameKind.cell) = false := beq_eq_false_iff_ne.mpr (no y List.mem_cons_self)
    have ⟨p, q⟩ := none_made (names := r) fun z hz => no z (List.mem_cons_of_mem y hz)
    exact ⟨fun n acc => by rw [cellsFrom, hy]; exact p n acc, fun h => by rw [pushCells, hy]; exact q h⟩
/-- names keep their places when only their kinds change -/
theorem lookup_kinds {f : Str × NameKind → Str × NameKind} (same : ∀ p, (f p).1 = p.1) {x : Str} {k : NameKind} : ∀ {names : List (Str × NameKind)}, names.lookup x = some k → (names.map f).lookup x = some (f (x, k)).2
  | [], e => nomatch e
  | (n, j) :: r, e => by
    rw [List.map_cons, show f (n, j) = (n, (f (n, j)).2) from Prod.ext (same _) rfl]
    cases hx : x == n with
    | true =>
      rw [List.lookup_cons, hx] at e ⊢
      obtain rfl : j = k := Option.some.inj e
      rw [eq_of_beq hx]
    | false =>
      rw [List.lookup_cons, hx] at e ⊢
      exact lookup_kinds same e
/-- a free name stays free or is a cell in the block's scope -/
theorem relab_free {env : Env} {scope : Scope} {x : Str} (e : scope.names.lookup x = some .free) : (relabel scope env).names.lookup x = some .cell ∨ (relabel scope env).names.lookup x = some .free := by
  unfold relabel
  rw [lookup_kinds (fun p => ?_) e]
  · dsimp only
    split
    · exact .inl rfl
    · exact .inr rfl
  · dsimp only
    split <;> rfl
/-- the generator's frame as it begins: what a block's frame would know, with the iterator under its own name -/
theorem gx_start {scope : Scope} {own : List (Str × Nat)} {fp : List Addr} {A : Around} {code : Value} {it : Value} {h' : Heap} {go : Obj} {G : Array GenState} {tk : Nat} (I : Inv X pins σ H s) (ok : BlkOk X.N X.env.scope scope own) (hcell : ∀ y ∈ scope.names, y.2 ≠ .cell) (hN : X.N.Nodup)
    (hfp : ∀ b ∈ fp, FpOk X pins H b ∧ b < s.heap.objs.size) (hA : A.handled = none) (hfr : A.frames = some X.stack) (hn : h'.Ns s.heap.objs.size (fun y => if y = ".0" then some it else none))
    (hs : Heap.SameBut s.heap.objs.size (s.heap.push { cls := .type "frame", data := .dict #[] }) h') (hG : AllBare G) (hgp : (h'.push go).get? h'.objs.size = some go) (hgd : ∀ v, go.data ≠ .cell v) :
    Inv (gxC X (A.deeper (genEnv scope (cloFrom X.env.cells scope.names []) s.heap.objs.size code builtinsNs X.env)) s H (genEnv scope (cloFrom X.env.cells scope.names []) s.heap.objs.size code builtinsNs X.env) fp [(h'.objs.size, go)]) [] (wipe σ (own.map (·.2))) H
      { s with gens := G, toks := tk, heap := h'.push go } := by
  have J := block_start I ok hN hfp
  rw [(none_made hcell).1, (none_made hcell).2] at J
  have lt : s.heap.objs.size < h'.objs.size := hn.lt
  have kp : ∀ b o, s.heap.get? b = some o → (h'.push go).get? b = some o := fun b o e => Heap.get?_push_of_some _ (hs.extBut b o (Nat.ne_of_lt (Heap.lt_size e)) (Heap.get?_push_of_some _ e))
  have cells : ∀ {c : Addr} {v : Option Value}, (s.heap.push { cls := .type "dict", data := .dict #[] }).IsCell c v → (h'.push go).IsCell c v := by
    rintro c v ⟨o, e, d⟩
    have ne : c ≠ s.heap.objs.size := fun z => by
      rw [z, Heap.get?_push_size _ rfl] at e
      rw [← Option.some.inj e] at d
      cases d
    exact ⟨o, kp c o (Heap.get?_push_ne _ _ _ ne ▸ e), d⟩
  have outside : ∀ {y : Str}, scope.names.lookup y = some .cell ∨ scope.names.lookup y = some .free → (relabel scope X.env).names.lookup y = some .cell ∨ (relabel scope X.env).names.lookup y = some .free := fun z => z.elim (fun e => absurd rfl (hcell _ (PySem.mem_of_lookup e))) relab_free
  refine { ok := { mod := J.ok.mod, kind := ok.kind, glob := J.ok.glob, blt := rfl, above := Nat.le_refl _, inj := J.ok.inj, has := fun y z => J.ok.has y (outside z), cab := (fun _ _ z => nomatch z), hd := fun _ => hA, frames := Around.frames_deeper hfr, stk := .inr ⟨rfl, rfl⟩,
                   exf := J.ok.exf, bs := J.ok.bs, bsz := J.ok.bsz, noex := J.ok.noex, exfs := J.ok.exfs, funs := J.ok.funs, frf := J.ok.frf }
           os := rfl, bare := hG, base := Un.kept kp, loc := ⟨_, hn.push go, fun i y v hy hv vis => ?_⟩, cell := fun y c e => (J.cell y c e).imp fun _ => cells, free := J.free, freeC := J.freeC, pin := ?_, hok := I.hok.kept kp, len := J.len }
  · obtain ⟨m, hm, all⟩ := J.loc
    have blank : m y = none := hm.agree (Heap.Ns.new s.heap (.type "dict")) y
    have get := all i y v hy hv
    rcases vis with l | l
    · have l2 : (relabel scope X.env).names.lookup y = some .local := lookup_relabel_local l
      obtain ⟨u, _, z | z⟩ := get (.inl l2)
      · rw [blank] at z
        exact nomatch z.2
      · rcases z.1 with z | z <;> exact nomatch l2.symm.trans z
    · obtain ⟨u, r, z | ⟨_, c, e, k⟩⟩ := get (.inr (outside l))
      · rw [blank] at z
        exact nomatch z.2
      · exact ⟨u, r, .inr ⟨l, c, e, cells k⟩⟩
  · intro p hp
    obtain rfl : p = (h'.objs.size, go) := by simpa using hp
    refine ⟨hgp, I.hok.fresh (Nat.le_of_lt lt), Nat.ne_of_gt lt, fun z => ?_, hgd⟩
    rcases List.mem_cons.mp (I.stkSub _ z) with e | e
    · exact Nat.lt_irrefl _ (Nat.lt_trans lt (show h'.objs.size < _ from (show h'.objs.size = X.env.locals from e) ▸ I.lt))
    · exact I.nofs (Nat.le_of_lt lt) e
end
end My

set_option Elab.async false
set_option linter.all false
set_option maxRecDepth 100000
set_option maxHeartbeats 2000000
namespace My
open PySem PySem.Spec PyProof.Rows L2
/-- where such a generator stands: i items are out; S: what its consumer keeps -/
structure GxAt (X : Cx) (fp : List Addr) (tn : Nat → Heap → Prop) (σ0 : L2.St) (W : Nat → Hp → Prop) (S : Addr) (i : Nat) (o : Obj) (H : Hp) (s : Shared) : Prop where
  inv : Inv X [(S, o)] σ0 H s
  st : tn i s.heap
  nfp : ∀ b ∈ fp, H b = none
  w : W i H
/-- the consumer wrote at S alone -/
structure Wrote (S : Addr) (s s' : Shared) (o' : Obj) : Prop where
  os : s'.os = s.os
  bare : AllBare s'.gens
  keep : ∀ b u, b ≠ S → s.heap.get? b = some u → s'.heap.get? b = some u
  own : s'.heap.get? S = some o'
  nc : ∀ v, o'.data ≠ .cell v
def gxY (X : Cx) (fp : List Addr) (tn : Nat → Heap → Prop) (σ0 : L2.St) (W : Nat → Hp → Prop) (S : Addr) (n : Nat) (F : Nat → V) : Protocol := fun m s₀ v s kap =>
  ∃ i o H, m + i + 1 = n ∧ RelV (F i) v ∧ s₀.heap.get? S = some o ∧ GxAt X fp tn σ0 W S (i + 1) o H s ∧ ∀ s'' o', Wrote S s s'' o' → kap (.send .none) s''
def gxP (X : Cx) (σ0 : L2.St) (W : Nat → Hp → Prop) (S : Addr) (n : Nat) : Nat → Shared → Shared → Prop := fun m s₀ s₁ => m = 0 ∧ ∃ o H, Inv X [(S, o)] σ0 H s₁ ∧ W n H
section
variable {X : Cx}
/-- one item's reading -/
def gxStep (J : It) (g : L2.TG) (te : TE) (vs : List Nat) (σ0 : L2.St) (W : Nat → Hp → Prop) (n : Nat) (F : Nat → V) : Prop :=
  ∀ i H, W i H → (i < n → J.go i H ∧ ∀ x H', J.yld i H x H' → g x σ0 H' fun σ2 H2 => wipe σ2 vs = σ0 ∧ te σ2 H2 fun y H3 => y = F i ∧ W (i + 1) H3) ∧ (i = n → J.stop i H)
theorem gx_loop {A : Around} {elt tg iter : Expr} {scope : Scope} {pos : Pos} {J : It} {fp : List Addr} {it : Addr} {tn : Nat → Heap → Prop} {g : L2.TG} {te : TE} {vs : List Nat} {σ0 : L2.St} {W : Nat → Hp → Prop} {n : Nat} {F : Nat → V} {S : Addr}
    (hA : A.deeper X.env = X.A) (T : Turn X.prog X.w X.K tg J fp it tn) (hc : X.calm = true) (hex : X.ex = fp) (hSf : S ∉ fp) (hpf : ∀ p ∈ X.pn, p.1 ∉ fp) (hxe : ∀ e s, X.xe e s → False) (hco : X.env.scope.isCoroutine = false)
    (h0 : X.s_0.heap.objs.size ≤ S) (hcs : ∀ x c, X.env.cells.lookup x = some c → c ≠ S) (hpS : ∀ p ∈ X.pn, p.1 ≠ S)
    (pg : PG X tg g) (pe : PE X elt te) (step : gxStep J g te vs σ0 W n F) :
    ∀ (k i : Nat) (s₀ s : Shared) (o : Obj) (H : Hp), i + k = n → s₀.heap.get? S = some o → GxAt X fp tn σ0 W S i o H s →
      Seg (model X.prog X.w) A (fun m s₀ r s₁ => r = .ok .next ∧ gxP X σ0 W S n m s₀ s₁) (gxY X fp tn σ0 W S n F) k s₀
        (.compLoop (.GeneratorExp elt [⟨tg, iter, [], 0⟩] scope pos) 0 (.ref it) .none X.env)
        ((model X.prog X.w).den (.compLoop (.GeneratorExp elt [⟨tg, iter, [], 0⟩] scope pos) 0 (.ref it) .none X.env)) [] s := by
  have stat : ∀ {o : Obj} {σ' : L2.St} {H' : Hp} {s' : Shared}, Inv X [(S, o)] σ' H' s' → (∀ b ∈ fp, H' b = none) → ∀ b ∈ fp, FpOk X [(S, o)] H' b := fun {o σ' H' s'} I' hn b hb =>
    ⟨hn b hb, (I'.ok.exf b (hex ▸ hb)).1, I'.ok.exfs b (hex ▸ hb), .inl (hex ▸ hb), fun x c e => (I'.ok.exf b (hex ▸ hb)).2 x c e, fun p hp z => by
      rcases List.mem_append.mp hp with q | q
      · exact hpf p q (z ▸ hb)
      · have e : p = (S, o) := by simpa using q
        rw [e] at z
        exact hSf (by rw [show S = b from z]; exact hb)⟩
  intro k
  induction k with
  | zero =>
    intro i s₀ s o H hk hs0 G
    have hin : i = n := by omega
    subst hin
    show Seg _ A _ _ _ s₀ _ ((compTurn (.GeneratorExp elt [⟨tg, iter, [], 0⟩] scope pos) 0 (.ref it) .none X.env).onRaise (leaving X.env)) [] s
    rw [compTurn_gen, Sem.onRaise_eq_wrap]
    refine seg_bind_wrap (wpAny_standAt ?_)
    refine seg_bind_wrap ?_
    rw [over_gen, hA]
    refine thnF (T.done X rfl rfl rfl hc i [(S, o)] s σ0 H (fun _ _ => False) G.inv (stat G.inv G.nfp) G.st ((step i H G.w).2 rfl)) fun r s6 ⟨hr, I6⟩ => ?_
    subst hr
    exact seg_end (.ok .next) ⟨rfl, rfl, o, H, I6, G.w⟩
  | succ k ih =>
    intro i s₀ s o H hk hs0 G
    have hlt : i < n := by omega
    obtain ⟨go, st⟩ := (step i H G.w).1 hlt
    show Seg _ A _ _ _ s₀ _ ((compTurn (.GeneratorExp elt [⟨tg, iter, [], 0⟩] scope pos) 0 (.ref it) .none X.env).onRaise (leaving X.env)) [] s
    rw [compTurn_gen, Sem.onRaise_eq_wrap]
    refine seg_bind_wrap (wpAny_standAt ?_)
    refine seg_bind_wrap ?_
    rw [over_gen, hA]
    refine thnF (T.item X rfl rfl rfl hc i [(S, o)] s σ0 H (fun _ _ => False) G.inv (stat G.inv G.nfp) G.st go) fun r s6 ⟨u, hr, h6⟩ => ?_
    subst hr
    refine seg_bind_wrap ?_
    rw [over_gen, hA]
    refine thnF h6 fun _ s7 ⟨x, H7, I7, r7, y7, st7, n7⟩ => ?_
    have I7' := I7.pinned (stat I7 n7) (T.obj _ _ st7)
    refine seg_bind_wrap ?_
    rw [over_gen, hA]
    refine wpAny_mono (pg.run _ s7 _ H7 x u _ I7' r7 (st x H7 y7)) (fun _ s8 h8 => ?_) (fun e s' z => (hxe e s' z).elim)
    obtain ⟨σ8, H8, I8, hw8, q8⟩ := h8
    refine seg_bind_wrap (wpAny_tests_nil ?_)
    simp only [if_true]
    have hy : ∀ v, yieldOut X.env v = yieldValue v := fun v => by simp only [yieldOut, hco, Bool.false_eq_true, if_false]
    simp only [hy]
    rw [Sem.bind_eq_wrap', Sem.bind_eq_wrap', Sem.wrap_wrap, Sem.wrap_wrap]
    refine seg_wrap ?_
    rw [over_gen, hA]
    refine wpAny_mono (pe.run _ s8 σ8 H8 _ I8 q8) (fun yv s10 h10 => ?_) (fun e s' z => (hxe e s' z).elim)
    obtain ⟨y, H10, I10, r10, ey, w10⟩ := h10
    have pin' : ∀ b ∈ fp, ∀ ob, s7.heap.get? b = some ob → s10.heap.get? b = some ob ∧ H10 b = none := fun b hb ob e =>
      let z := I10.pin (b, ob) (List.mem_append_right _ (List.mem_append_right _ (mem_pinsAt hb e)))
      ⟨z.1, z.2.1⟩
    have hl : σ0.length = σ8.length := by rw [← hw8, wipe_length]
    have I11 : Inv X [(S, o)] σ0 H10 s10 := (I10.unpinned (pins := [(S, o)])).weak hl fun j v e => by
      rw [← hw8] at e
      exact (wipe_some e).1
    have G11 : GxAt X fp tn σ0 W S (i + 1) o H10 s10 := ⟨I11, T.keep _ _ _ st7 fun b hb ob e => (pin' b hb ob e).1, fun b hb => by
      obtain ⟨ob, e, _⟩ := T.obj _ _ st7 b hb
      exact (pin' b hb ob e).2, w10⟩
    refine seg_at (seg_yield rfl rfl rfl ⟨i, o, H10, by omega, by rw [← ey]; exact r10, hs0, G11, fun s'' o' z => ?_⟩)
    refine seg_again rfl (ih (i + 1) s'' s'' o' H10 (by omega) z.own ⟨woke G11.inv h0 hcs (fun p hp => hpS p (by simpa using hp)) z.os z.bare z.keep z.own z.nc, T.keep _ _ _ G11.st fun b hb ob e => z.keep b ob (fun q => hSf (q ▸ hb)) e, G11.nfp, G11.w⟩)
/-- from its beginning -/
theorem gx_begin {A : Around} {elt tg iter : Expr} {scope : Scope} {pos : Pos} {J : It} {fp : List Addr} {it : Addr} {tn : Nat → Heap → Prop} {R : GenEnd} {Y : Protocol} {k : Nat} {s₀ s : Shared} (T : Turn X.prog X.w X.K tg J fp it tn) (st : tn 0 s.heap)
    (loop : Seg (model X.prog X.w) A R Y k s₀ (.compLoop (.GeneratorExp elt [⟨tg, iter, [], 0⟩] scope pos) 0 (.ref it) .none X.env)
        ((model X.prog X.w).den (.compLoop (.GeneratorExp elt [⟨tg, iter, [], 0⟩] scope pos) 0 (.ref it) .none X.env)) [] s) :
    Seg (model X.prog X.w) A R Y k s₀ (.compStart (.GeneratorExp elt [⟨tg, iter, [], 0⟩] scope pos) 0 (.ref it) .none X.env)
        ((model X.prog X.w).den (.compStart (.GeneratorExp elt [⟨tg, iter, [], 0⟩] scope pos) 0 (.ref it) .none X.env)) [] s := by
  show Seg _ A _ _ _ s₀ _ ((compStart (.GeneratorExp elt [⟨tg, iter, [], 0⟩] scope pos) 0 (.ref it) .none X.env).onRaise (leaving X.env)) [] s
  unfold compStart
  rw [Sem.onRaise_eq_wrap]
  show Seg _ A _ _ _ s₀ _ ((ask >>= _).wrap _ _ _ _) [] s
  refine seg_bind_wrap (wpAny_askSetting ?_)
  split
  · exact seg_again rfl loop
  · refine seg_bind_wrap (wpAny_rule ?_)
    show Seg _ A _ _ _ s₀ _ ((standAt iter.pos >>= _).wrap _ _ _ _) [] s
    exact seg_bind_wrap (wpAny_standAt (seg_bind_wrap (T.self _ 0 s _ _ st (seg_again rfl loop))))
end
end My

set_option Elab.async false
set_option linter.all false
set_option maxRecDepth 100000
set_option maxHeartbeats 2000000
namespace My
open PySem PySem.Spec PyProof.Rows L2
section
variable {X : Cx}
/-- what sum() walks: the generator at a sleeps, k items are still to come -/
structure GxSt (X : Cx) (A : Around) (fp : List Addr) (tn : Nat → Heap → Prop) (σ0 : L2.St) (W : Nat → Hp → Prop) (S : Addr) (n : Nat) (F : Nat → V) (a : Addr) (g k : Nat) (s : Shared) : Prop where
  gen : s.heap.IsGen a g
  lim : s.heap.NoLimit
  bare : AllBare s.gens
  go : ∃ gs, s.gens[g]? = some gs ∧ ∀ s'' o', Wrote S s s'' o' → gs.Goes (model X.prog X.w) A (fun m s₀ r s₁ => r = .ok .next ∧ gxP X σ0 W S n m s₀ s₁) (gxY X fp tn σ0 W S n F) k (.send .none) s''
theorem sum_loopC {A : Around} {fp : List Addr} {tn : Nat → Heap → Prop} {σ0 : L2.St} {W : Nat → Hp → Prop} {S : Addr} {n : Nat} {val : Nat → Int} {a : Addr} {g : Nat} {go : Obj} {R : Result → Shared → Prop}
    (hh : A.handled = none) (hd : A.depth < recursionLimit) (hSa : S ≠ a) (hSc : S ≠ cStatics) (hpn : (a, go) ∈ X.pn) (hgo : ∀ h : Heap, h.get? a = some go → h.IsGen a g)
    (hfit : ∀ j, j < n → InLong (val j) ∧ InLong (preSum val (j + 1)))
    (hR : ∀ s' t' o H, Inv X [(S, o)] σ0 H s' → W n H → R (.ok (.ret (.int (preSum val n) t'))) s') :
    ∀ (k i : Nat) (s : Shared) (tA : Tok) (c : Nat), i + k = n → GxSt X A.in1.in1 fp tn σ0 W S n (fun i => .int (val i)) a g k s → s.heap.get? S = some { cls := .type "list", dict := none, data := .seq #[.int (preSum val i) tA] c, slots := #[] } →
      codeAny (model X.prog X.w) A (.builtin "sum.loop" ⟨[.ref a, .ref S, rawInt 0, rawInt 0], []⟩) R s := by
  intro k
  induction k with
  | zero =>
    intro i s tA c hk Z hS
    have hin : i = n := by omega
    subst hin
    obtain ⟨hg, hl, hb, gs, hgs, hgoes⟩ := Z
    refine codeAny_builtin F.entry_sum_loop ?_
    rw [Around.under_plainId F.plain_sum_loop _]
    show wpAny _ A.in1 (seqItems? (.ref S) >>= _) _ _ s
    refine wpAny_bind (wpAny_seqItems hS rfl ?_)
    show wpAny _ A.in1 (tryCatch (pyNext (.ref a)) _ >>= _) _ _ s
    refine wpAny_bind (wpAny_tryCatch (wpAny_pyNext_genexpQ (A := A.in1) hh hl hd hg hgs (hgoes (s.setGen g .running) _ ⟨rfl, allBare_setGen hb rfl, fun b u _ e => e, hS, fun v z => by cases z⟩) (fun v s₁ gs' hbare hv => ?_) fun s₁ hp h' hk' => ?_))
    · obtain ⟨i', o, H, _, _, _, G, hkap⟩ := hv
      obtain ⟨p1, _, _, _, p5⟩ := G.inv.pin (S, o) (List.mem_append_right _ List.mem_cons_self)
      exact (hkap s₁ o ⟨rfl, G.inv.bare, fun b u _ e => e, p1, p5⟩).elim
    · obtain ⟨_, o, H, I, w⟩ := hp
      refine wpAny_pure (hR _ tA o H ?_ w)
      exact I.call' (ch := []) rfl (Un.kept hk') (I.hok.kept hk') (allBare_setGen I.bare rfl) (fun b hb => absurd hb (by simp))
  | succ k ih =>
    intro i s tA c hk Z hS
    have hlt : i < n := by omega
    obtain ⟨hg, hl, hb, gs, hgs, hgoes⟩ := Z
    have hgl : g < s.gens.size := (Array.getElem?_eq_some_iff.mp hgs).1
    refine codeAny_builtin F.entry_sum_loop ?_
    rw [Around.under_plainId F.plain_sum_loop _]
    show wpAny _ A.in1 (seqItems? (.ref S) >>= _) _ _ s
    refine wpAny_bind (wpAny_seqItems hS rfl ?_)
    show wpAny _ A.in1 (tryCatch (pyNext (.ref a)) _ >>= _) _ _ s
    refine wpAny_bind (wpAny_tryCatch (GenW.wpAny_gsz (n := g + 1) hgl (wpAny_pyNext_genexpQ (A := A.in1) hh hl hd hg hgs (hgoes (s.setGen g .running) _ ⟨rfl, allBare_setGen hb rfl, fun b u _ e => e, hS, fun v z => by cases z⟩) (fun v s₁ gs' hbare hv => ?_) fun s₁ hp h' hk' => ?_)))
    · intro hsz
      obtain ⟨i', o, H, hi', hrel, hs0, G, hkap⟩ := hv
      have ei : i' = i := by omega
      subst ei
      obtain ⟨t, rfl⟩ : ∃ t, v = .int (val i') t := hrel
      have eo : o = { cls := .type "list", dict := none, data := .seq #[.int (preSum val i') tA] c, slots := #[] } := by
        have h1 : s.heap.get? S = some o := hs0
        rw [hS] at h1
        exact (Option.some.inj h1).symm
      obtain ⟨p1, _, _, _, p5⟩ := G.inv.pin (S, o) (List.mem_append_right _ List.mem_cons_self)
      have hS' : s₁.heap.get? S = some { cls := .type "list", dict := none, data := .seq #[.int (preSum val i') tA] c, slots := #[] } := by rw [← eo]; exact p1
      obtain ⟨⟨f1, f2⟩, f3, f4⟩ := hfit i' hlt
      have hc : ((decide (-(2 ^ 63) ≤ val i') && decide (val i' < 2 ^ 63)) && (decide (-(2 ^ 63) ≤ preSum val i' + val i') && decide (preSum val i' + val i' < 2 ^ 63))) = true := by
        simp only [preSum] at f3 f4
        simp only [Bool.and_eq_true, decide_eq_true_eq]
        exact ⟨⟨f1, f2⟩, f3, f4⟩
      show wpAny _ A.in1 (if (_ : Bool) = true then (mkInt (preSum val i' + val i') >>= _) else _) _ _ _
      split
      · refine wpAny_bind (wpAny_mkInt ?_)
        show wpAny _ A.in1 (updateSeq S (fun _ => #[.int (preSum val i' + val i') s₁.toks]) >>= _) _ _ _
        refine wpAny_bind ?_
        have hsz1 : g < s₁.gens.size := by
          have q : (s₁.setGen g gs').gens.size = s₁.gens.size := GenW.setGen_size _ _ _
          have hsz' : g + 1 ≤ (s₁.setGen g gs').gens.size := hsz
          omega
        have keep3 : ∀ (f : Obj → Obj) (b : Addr) (u : Obj), b ≠ S → s₁.heap.get? b = some u → (s₁.heap.update S f).get? b = some u := fun f b u hbS e => (Heap.get?_update_other _ _ (Ne.symm hbS)).trans e
        refine wpAny_updateSeq (s := { s₁.setGen g gs' with toks := s₁.toks + 1 }) hS' rfl (wpAny_pure ⟨plainId_quiet F.plain_sum_loop _, ih (i' + 1) _ s₁.toks _ (by omega) ⟨?_, ?_, ?_, gs', ?_, fun s'' o'' z => ?_⟩ (Heap.get?_update_self _ hS' rfl)⟩)
        · exact hgo _ (keep3 _ a go (Ne.symm hSa) (G.inv.pin (a, go) (List.mem_append_left _ hpn)).1)
        · obtain ⟨mc, hns, hnn⟩ := G.inv.nolimit
          exact ⟨mc, hns.at' fun o e => keep3 _ _ o (Ne.symm hSc) e, hnn⟩
        · exact allBare_setGen (s := s₁) G.inv.bare hbare
        · exact setGen_at (s := s₁) hsz1
        · exact hkap s'' o'' ⟨z.os, z.bare, fun b u hbS e => z.keep b u hbS (keep3 _ b u hbS e), z.own, z.nc⟩
      · rename_i hneg
        exact absurd hc hneg
    · exact absurd hp.1 (Nat.succ_ne_zero k)
end
end My

set_option Elab.async false
set_option linter.all false
set_option maxRecDepth 100000
set_option maxHeartbeats 2000000
namespace My
open PySem PySem.Spec PyProof.Rows L2
section
variable {X : Cx} {pins : List (Addr × Obj)} {σ : L2.St} {H : Hp} {s : Shared}
/-- the generator expression's scope -/
structure GxS (X : Cx) (scope : Scope) (own : List (Str × Nat)) : Prop where
  blk : BlkOk X.N X.env.scope scope own
  co : scope.isCoroutine = false
  cell : ∀ y ∈ scope.names, y.2 ≠ .cell
  dot : scope.names.lookup (".0" : Str) = some NameKind.local
/-- the generator at a, as it was made -/
def GxNew (X : Cx) (pins : List (Addr × Obj)) (σ : L2.St) (elt tg iter : Expr) (scope : Scope) (pos : Pos) (own : List (Str × Nat)) (J : It) (H2 : Hp) (a : Addr) (s5 : Shared) : Prop :=
  ∃ (s4 : Shared) (code : Value) (cenv : Env) (fp : List Addr) (it : Addr) (tn : Nat → Heap → Prop) (go : Obj),
    cenv = genEnv scope (cloFrom X.env.cells scope.names []) s4.heap.objs.size code builtinsNs X.env ∧ Inv X pins σ H2 s4 ∧ (∀ b ∈ fp, FpOk X pins H2 b ∧ b < s4.heap.objs.size) ∧ Turn X.prog X.w X.K tg J fp it tn ∧ tn 0 s5.heap ∧
    s5.gens = s4.gens.push (.fresh (.compStart (.GeneratorExp elt [⟨tg, iter, [], 0⟩] scope pos) 0 (.ref it) .none cenv)) ∧ (∀ h : Heap, h.get? a = some go → h.IsGen a s4.gens.size) ∧ s5.heap.get? a = some go ∧ s4.heap.objs.size < a ∧
    (∀ A : Around, A.handled = none → A.frames = some X.stack → Inv (gxC X (A.deeper cenv) s4 H2 cenv fp [(a, go)]) [] (wipe σ (own.map (·.2))) H2 s5)
theorem gx_make {c P : Addr} {elt tg iter : Expr} {gpos : Pos} {scope : Scope} {own : List (Str × Nat)} {wi : TI} {k : Nat} {Q' : Value → Shared → Prop} {R : It → Hp → Prop}
    (hr : Room k X.A) (TB : LamX.TabB X.base X.mg c P) (hcode : X.env.code = .ref c) (S : GxS X scope own) (hN : X.N.Nodup) (hi : PI X tg iter wi)
    (hs : ∀ v, genFold iter X.env v = pure v) (I : Inv X pins σ H s) (h : wi σ H fun J H1 => GxR.TabG H1 P ∧ R J H1)
    (hQ : ∀ J H1 H2 a s5, R J H1 → GxR.Tabbed P H1 H2 → GxNew X pins σ elt tg iter scope gpos own J H2 a s5 → Q' (.ref a) s5) :
    wpAny (model X.prog X.w) X.A (eval (.GeneratorExp elt [⟨tg, iter, [], 0⟩] scope gpos) X.env) Q' X.xe s := by
  have caught : ∀ y ∈ scope.names, y.2 = .free → ∃ c, X.env.cells.lookup y.1 = some c := fun y hy e => I.ok.has _ (S.blk.free y hy e)
  have deep : X.A.depth < recursionLimit := by
    have := hr.dp
    omega
  refine wpAny_GeneratorExp_make S.co (closure_ok caught) S.cell S.dot S.blk.kind deep (thn (hi.run pins s σ H _ I h) fun xv s1 hx => thn hx fun itv s2 h2 => ?_) hs
  obtain ⟨it, fp, tn, J, H1, rfl, I2, T, st2, f2, hT, hR⟩ := h2
  refine ⟨I2.nolimit, gen_code I2 TB hcode hT fun code H2 s4 tab I4 kp _ h' hn' hs' => ?_⟩
  have apart : ∀ b ∈ fp, b ≠ P := fun b hb z => by
    obtain ⟨_, e, _⟩ := hT
    rw [← z, (f2 b hb).1] at e
    cases e
  have kp5 : ∀ (go : Obj) b u, s4.heap.get? b = some u → (h'.push go).get? b = some u := fun go b u e => Heap.get?_push_of_some _ (hs'.extBut b u (Nat.ne_of_lt (Heap.lt_size e)) (Heap.get?_push_of_some _ e))
  have f4 : ∀ b ∈ fp, FpOk X pins H2 b ∧ b < s4.heap.objs.size := fun b hb => by
    obtain ⟨o, e, _⟩ := T.obj _ _ st2 b hb
    exact ⟨⟨(tab.2 b (apart b hb)).trans (f2 b hb).1, (f2 b hb).2⟩, Heap.lt_size (kp b o (apart b hb) e)⟩
  generalize hgo : ({ cls := .type "generator", data := .fields #[.int s4.gens.size 0, .str "<genexpr>" (s4.toks + 1), .str (X.env.qual ++ "<genexpr>") (s4.toks + 1 + 1)] } : Obj) = go
  have hgp : (h'.push go).get? h'.objs.size = some go := Heap.get?_push_size _ (by rw [← hgo]; rfl)
  have hgd : ∀ v, go.data ≠ .cell v := fun v z => by
    rw [← hgo] at z
    cases z
  exact hQ J H1 H2 h'.objs.size _ hR tab ⟨s4, code, _, fp, it, tn, go, rfl, I4, f4, T, T.keep _ _ _ st2 fun b hb u e => kp5 go b u (kp b u (apart b hb) e), rfl, fun hh e => ⟨go, _, _, e, by rw [← hgo], by rw [← hgo], by rw [← hgo]⟩, hgp, hn'.lt,
    fun A hA hfr => gx_start I4 S.blk S.cell hN f4 hA hfr hn' hs' (I4.bare.push rfl) hgp hgd⟩
/-- sum(elt for target in iter) of numbers -/
def tSumC (P : Addr) (wi : TI) (g : L2.TG) (te : TE) (vs : List Nat) : TE := fun σ H Q => wi σ H fun J H1 => GxR.TabG H1 P ∧ ∀ H2, GxR.Tabbed P H1 H2 →
  ∃ (n : Nat) (val : Nat → Int) (W : Nat → Hp → Prop), (∀ j, j < n → InLong (val j) ∧ InLong (preSum val (j + 1))) ∧ W 0 H2 ∧ gxStep J g te vs (wipe σ vs) W n (fun i => .int (val i)) ∧ ∀ H3, W n H3 → Q (.int (preSum val n)) H3
theorem pe_sumC {c P : Addr} {elt tg iter : Expr} {p pos gpos : Pos} {scope : Scope} {own : List (Str × Nat)} {wi : TI} {g : L2.TG} {te : TE} {k : Nat}
    (hr : Room (k + 3) X.A) (hg : Gl X "sum") (hm : X.mg "sum" = none) (TB : LamX.TabB X.base X.mg c P) (hcode : X.env.code = .ref c) (S : GxS X scope own) (hN : X.N.Nodup) (hc : X.calm = true) (hi : PI X tg iter wi)
    (pg : ∀ (A : Around) (s : Shared) (H : Hp) (C : Addr) (cl : List (Str × Addr)) (code : Value) (fp : List Addr) (pn : List (Addr × Obj)), PG (gxC X A s H (genEnv scope cl C code builtinsNs X.env) fp pn) tg g)
    (pe : ∀ (A : Around) (s : Shared) (H : Hp) (C : Addr) (cl : List (Str × Addr)) (code : Value) (fp : List Addr) (pn : List (Addr × Obj)), Room k A → PE (gxC X A s H (genEnv scope cl C code builtinsNs X.env) fp pn) elt te)
    (hb : bootBuiltins "sum" = some (.builtin "sum") := by decide +kernel) (hs : ∀ v, genFold iter X.env v = pure v := by intro _; rfl)
    (he : starEach [.GeneratorExp elt [⟨tg, iter, [], 0⟩] scope gpos] X.env = (false, eval (.GeneratorExp elt [⟨tg, iter, [], 0⟩] scope gpos) X.env) :: starEach [] X.env := by rfl) :
    PE X (.Call (.Name "sum" p) [.GeneratorExp elt [⟨tg, iter, [], 0⟩] scope gpos] [] pos) (tSumC P wi g te (own.map (·.2))) := by
  refine ⟨fun pins s σ H Q I h => ?_⟩
  refine wpAny_Call_Name_kw (ld_blt I hg hm hb (PyProof.Rows.callWith_builtin1 ?_ he (by rfl)))
  rw [he]
  refine Calls.spliced_cons (gx_make hr TB hcode S hN hi hs I h fun J H1 H2 a s5 hR hTb hG => ?_)
  refine Calls.spliced_nil ?_
  obtain ⟨n, val, W, hfit, w0, step, hend⟩ := hR H2 hTb
  obtain ⟨s4, code, cenv, fp, it, tn, go, ec, I4, f4, T, st5, egs, hgen, hga, hlt, hInv⟩ := hG
  have I5 := hInv X.A.in1.in1 hr.hd I4.ok.frames
  have hroom : Room k (X.A.in1.in1.deeper cenv) := hr.in1.in1.deeper cenv
  have pg' := pg (X.A.in1.in1.deeper cenv) s4 H2 s4.heap.objs.size (cloFrom X.env.cells scope.names []) code fp [(a, go)]
  have pe' := pe (X.A.in1.in1.deeper cenv) s4 H2 s4.heap.objs.size (cloFrom X.env.cells scope.names []) code fp [(a, go)] hroom
  rw [← ec] at pg' pe'
  have hgen5 : s5.heap.IsGen a s4.gens.size := hgen _ hga
  refine call_function_tree F.kind_sum F.plain_sum F.entry_sum (F.args_sum1 _) ?_
  unfold Builtin.«sum»
  simp only [List.length_cons, List.length_nil]
  rw [if_neg (by decide)]
  refine wpAny_bind (wpAny_of_eq (show Builtin.Builtins.bindParams "sum" ["start"] 0 { } = pure [none] from rfl) ?_)
  refine wpAny_bind (wpAny_pyIter_gen hgen5 ?_)
  refine wpAny_bind (wpAny_mkInt ?_)
  refine wpAny_bind (wpAny_pure ?_)
  simp only [List.forIn_cons, List.forIn_nil]
  refine wpAny_bind (wpAny_bind (wpAny_bind (wpAny_isInstance (T := "int") (b := false) (typeIs_int _ _ _) PySem.sub_int_str ?_)))
  simp only [Bool.false_eq_true, if_false]
  refine wpAny_pure (wpAny_bind (wpAny_bind (wpAny_isInstance (T := "int") (b := false) (typeIs_int _ _ _) PySem.sub_int_bytes ?_)))
  simp only [Bool.false_eq_true, if_false]
  refine wpAny_pure (wpAny_bind (wpAny_bind (wpAny_isInstance (T := "int") (b := false) (typeIs_int _ _ _) PySem.sub_int_bytearray ?_)))
  simp only [Bool.false_eq_true, if_false]
  refine wpAny_pure (wpAny_pure ?_)
  refine wpAny_bind (wpAny_newObj_type ?_)
  have hSo : ∀ o : Obj, o.isFreed = false → (s5.heap.push o).get? s5.heap.objs.size = some o := fun o ho => Heap.get?_push_size _ ho
  have kp : ∀ (o : Obj) b u, s5.heap.get? b = some u → (s5.heap.push o).get? b = some u := fun o b u e => Heap.get?_push_of_some _ e
  have hla : a < s5.heap.objs.size := Heap.lt_size hga
  have hcs5 : cStatics < s5.heap.objs.size := by
    obtain ⟨mc, hns, _⟩ := I5.nolimit
    exact hns.lt
  have F5 : FpOk (gxC X (X.A.in1.in1.deeper cenv) s4 H2 cenv fp [(a, go)]) [] H2 s5.heap.objs.size := I5.fpOk (Nat.le_refl _) (I5.hok.fresh (Nat.le_refl _))
  have hSf : s5.heap.objs.size ∉ fp := fun hb => by
    obtain ⟨o, e, _⟩ := T.obj _ _ st5 _ hb
    exact Nat.lt_irrefl _ (Heap.lt_size e)
  have hpf : ∀ p ∈ [(a, go)], p.1 ∉ fp := fun p hp hb => by
    rw [List.mem_singleton.mp hp] at hb
    exact Nat.lt_irrefl _ (Nat.lt_trans (f4 a hb).2 hlt)
  have h04 : s4.heap.objs.size ≤ s5.heap.objs.size := Nat.le_of_lt (Nat.lt_trans hlt hla)
  refine wpAny_pure ⟨plainId_quiet F.plain_sum_loop _, sum_loopC (X := gxC X (X.A.in1.in1.deeper cenv) s4 H2 cenv fp [(a, go)]) (A := X.A) (fp := fp) (tn := tn) (σ0 := wipe σ (own.map (·.2))) (W := W) (S := s5.heap.objs.size) (n := n) (val := val) (a := a) (g := s4.gens.size) (go := go)
    hr.hd (by have := hr.dp; omega) (Nat.ne_of_gt hla) (Nat.ne_of_gt hcs5) (List.mem_singleton.mpr rfl) hgen hfit (fun s' t' o H3 I' w' => ?_) n 0 _ s5.toks 0 (Nat.zero_add n) ⟨?_, ?_, ?_, .fresh (.compStart (.GeneratorExp elt [⟨tg, iter, [], 0⟩] scope gpos) 0 (.ref it) .none cenv), ?_, fun s'' o' z => ⟨rfl, ?_⟩⟩ (hSo _ rfl)⟩
  · refine ⟨.int (preSum val n), H3, ?_, ⟨t', rfl⟩, hend H3 w'⟩
    exact I4.call' (ch := fp) I'.os I'.base I'.hok I'.bare fun b hb => ⟨(f4 b hb).1.2.2.2.1, (f4 b hb).1.2.1, (f4 b hb).1.2.2.2.2.1, (f4 b hb).1.2.2.2.2.2⟩
  · exact hgen _ (kp _ _ _ hga)
  · exact I5.nolimit.keeps (kp _)
  · exact I5.bare
  · show s5.gens[s4.gens.size]? = _
    rw [egs]
    exact Array.getElem?_push_size ..
  · have Iz : Inv (gxC X (X.A.in1.in1.deeper cenv) s4 H2 cenv fp [(a, go)]) [(s5.heap.objs.size, o')] (wipe σ (own.map (·.2))) H2 s'' := by
      have kz : ∀ b u, s5.heap.get? b = some u → s''.heap.get? b = some u := fun b u e => z.keep b u (Nat.ne_of_lt (Heap.lt_size e)) (kp _ b u e)
      have J2 := I5.call' (s' := s'') (ch := []) z.os (Un.kept kz) (I5.hok.kept kz) z.bare (fun b hb => absurd hb (by simp))
      refine J2.pins_of fun p hp => ?_
      rw [List.mem_singleton.mp hp]
      exact ⟨z.own, F5.1, F5.2.1, F5.2.2.1, z.nc⟩
    have stz : tn 0 s''.heap := T.keep _ _ _ st5 fun b hb u e => z.keep b u (fun q => hSf (q ▸ hb)) (kp _ b u e)
    refine gx_begin (X := gxC X (X.A.in1.in1.deeper cenv) s4 H2 cenv fp [(a, go)]) T stz (gx_loop (X := gxC X (X.A.in1.in1.deeper cenv) s4 H2 cenv fp [(a, go)]) rfl T hc rfl hSf hpf (fun _ _ q => q) (by rw [ec]; exact S.co) h04 F5.2.2.2.2.1 (fun p hp q => ?_) pg' pe' step n 0 s'' s'' o' H2 (Nat.zero_add n) z.own ⟨Iz, stz, fun b hb => (f4 b hb).1.1, w0⟩)
    have hp' : p = (a, go) := List.mem_singleton.mp hp
    rw [hp'] at q
    exact Nat.ne_of_lt hla q
end
end My

set_option Elab.async false
set_option linter.all false
set_option maxRecDepth 100000
set_option maxHeartbeats 2000000
namespace My
open PySem PySem.Spec PyProof.Rows L2
def gxCk (scope : Scope) : Bool := !scope.isCoroutine && (scope.names.all fun y => match y.2 with | .cell => false | _ => true) && (match scope.names.lookup (".0" : Str) with | some .local => true | _ => false)
theorem gxS_by {X : Cx} {scope : Scope} {own : List (Str × Nat)} (b : BlkOk X.N X.env.scope scope own) (h : gxCk scope = true) : GxS X scope own := by
  unfold gxCk at h
  simp only [Bool.and_eq_true] at h
  obtain ⟨⟨h1, h2⟩, h3⟩ := h
  rw [List.all_eq_true] at h2
  refine ⟨b, by simpa using h1, fun y hy z => ?_, ?_⟩
  · have q := h2 y hy
    rw [z] at q
    cases q
  · revert h3
    cases scope.names.lookup (".0" : Str) with
    | none => simp
    | some k => cases k <;> simp
theorem sum_step {J : It} {n : Nat} {G : Hp → Prop} {Y : Nat → Hp → V → Hp → Prop} (w : Walk J n G Y) {g : L2.TG} {te : TE} {vs : List Nat} {σ0 : L2.St} {val : Nat → Int} {Pv : Nat → Hp → Prop}
    (hG : ∀ i H, i ≤ n → Pv i H → G H) (hs : ∀ i x H H', i < n → Pv i H → Y i H x H' → g x σ0 H' fun σ2 H2 => wipe σ2 vs = σ0 ∧ te σ2 H2 fun y H3 => y = .int (val i) ∧ i + 1 ≤ n ∧ Pv (i + 1) H3) :
    gxStep J g te vs σ0 (fun i H => i ≤ n ∧ Pv i H) n (fun i => .int (val i)) := fun i H hW => ⟨fun hi => ⟨w.goes i H hi (hG i H hW.1 hW.2), fun x H' y => hs i x H H' hi hW.2 (w.yields i H x H' hi (hG i H hW.1 hW.2) y)⟩, fun e => by
    subst e
    exact w.stops H (hG i H hW.1 hW.2)⟩
/-! sums -/
def atL (l : List Int) (i : Nat) : Int := l.getD i 0
theorem pre_take (l : List Int) : ∀ n, n ≤ l.length → preSum (atL l) n = (l.take n).sum
  | 0, _ => rfl
  | n + 1, h => by
    have h' : n < l.length := h
    show preSum (atL l) n + atL l n = _
    rw [pre_take l n (Nat.le_of_lt h'), List.take_succ_eq_append_getElem h', List.sum_append]
    show _ = _ + (l[n] + 0)
    unfold atL
    rw [List.getD_eq_getElem?_getD, List.getElem?_eq_getElem h', Int.add_zero]
    rfl
theorem sum_bound {B : Int} : ∀ (l : List Int), (∀ x ∈ l, -B ≤ x ∧ x ≤ B) → -(B * l.length) ≤ l.sum ∧ l.sum ≤ B * l.length
  | [], _ => by simp
  | x :: l, h => by
    obtain ⟨h1, h2⟩ := sum_bound l fun y hy => h y (List.mem_cons_of_mem _ hy)
    obtain ⟨h3, h4⟩ := h x (List.mem_cons_self ..)
    rw [List.sum_cons, List.length_cons, Int.natCast_succ, Int.mul_add, Int.mul_one]
    omega
theorem fit_of {l : List Int} (hl : l.length ≤ 1000) (h : ∀ x ∈ l, -1000000000 ≤ x ∧ x ≤ 1000000000) : ∀ j, j < l.length → InLong (atL l j) ∧ InLong (preSum (atL l) (j + 1)) := fun j hj => by
  have h1 : atL l j ∈ l := by
    unfold atL
    rw [List.getD_eq_getElem?_getD, List.getElem?_eq_getElem hj]
    exact List.getElem_mem hj
  obtain ⟨a1, a2⟩ := h _ h1
  obtain ⟨b1, b2⟩ := sum_bound (B := 1000000000) (l.take (j + 1)) fun x hx => h x (List.mem_of_mem_take hx)
  rw [← pre_take l (j + 1) hj] at b1 b2
  have b3 : (l.take (j + 1)).length ≤ 1000 := by
    rw [List.length_take]
    omega
  unfold InLong
  constructor <;> constructor <;> omega
theorem at_map {α : Type} {f : α → Int} {l : List α} {i : Nat} {a : α} (h : l[i]? = some a) : atL (l.map f) i = f a := by
  unfold atL
  rw [List.getD_eq_getElem?_getD, List.getElem?_map, h]
  rfl
theorem price_bound {cols : List Nat} {rows : List (List Int)} {ch : List (List Nat)} {es : List (Nat × Int)} {rc : Option (Nat × Int × Int)} (hr : rows.length ≤ 100) : -100 ≤ priceOfM cols rows ch es rc ∧ priceOfM cols rows ch es rc ≤ 100 := by
  obtain ⟨h1, h2, h3⟩ := minM_spec (ch.map fun o => priceM cols rows o es rc) (rows.length : Int)
  unfold priceOfM
  refine ⟨?_, by omega⟩
  rcases h1 with e | e
  · rw [e]
    omega
  · obtain ⟨o, _, e2⟩ := List.mem_map.mp e
    rw [← e2]
    have : aheadM cols rows o es rc ≤ rows.length := List.length_filter_le _ _
    unfold priceM
    omega
/-! works -/
structure Ask where
  es : List (Nat × Int)
  rc : Option (Nat × Int × Int)
  often : Int
def AskZ (H : Hp) (v : V) (a : Ask) : Prop := ∃ (p : Addr) (qv : V), v = .ref p ∧ H p = some (.tup [qv, .int a.often]) ∧ QZ H qv a.es a.rc
theorem AskZ.kT {H H' : Hp} {v : V} {a : Ask} (h : AskZ H v a) (k : KT H H') : AskZ H' v a := by
  obtain ⟨p, qv, rfl, h1, h2⟩ := h
  exact ⟨p, qv, rfl, k.1 _ _ h1, h2.kT k⟩
inductive AsksZ (H : Hp) : List V → List Ask → Prop
  | nil : AsksZ H [] []
  | cons {v : V} {a : Ask} {vs : List V} {as : List Ask} : AskZ H v a → AsksZ H vs as → AsksZ H (v :: vs) (a :: as)
theorem AsksZ.kT {H H' : Hp} {vs : List V} {as : List Ask} (h : AsksZ H vs as) (k : KT H H') : AsksZ H' vs as := by
  induction h with
  | nil => exact .nil
  | cons a _ ih => exact .cons (a.kT k) ih
theorem AsksZ.len {H : Hp} {vs : List V} {as : List Ask} (h : AsksZ H vs as) : vs.length = as.length := by
  induction h with
  | nil => rfl
  | cons _ _ ih => rw [List.length_cons, List.length_cons, ih]
theorem AsksZ.snoc {H : Hp} {vs : List V} {as : List Ask} {v : V} {a : Ask} (h : AsksZ H vs as) (x : AskZ H v a) : AsksZ H (vs ++ [v]) (as ++ [a]) := by
  induction h with
  | nil => exact .cons x .nil
  | cons b _ ih => exact .cons b ih
theorem AsksZ.get {H : Hp} {vs : List V} {as : List Ask} (h : AsksZ H vs as) : ∀ {i : Nat} {v : V}, vs[i]? = some v → ∃ a, as[i]? = some a ∧ AskZ H v a := by
  induction h with
  | nil =>
    intro i v e
    cases e
  | cons b _ ih =>
    intro i v e
    cases i with
    | zero =>
      cases e
      exact ⟨_, rfl, b⟩
    | succ i => exact ih (i := i) e
def WorkZ (H : Hp) (v : V) (cols : List Nat) (rows : List (List Int)) (as : List Ask) (chg : Int) : Prop :=
  ∃ (wa : Addr) (tv : V) (aa : Addr) (vs : List V), v = .ref wa ∧ H wa = some (.tup [tv, .ref aa, .int chg]) ∧ Fz H tv (tabD cols rows) ∧ H aa = some (.tup vs) ∧ AsksZ H vs as
theorem WorkZ.kT {H H' : Hp} {v : V} {cols : List Nat} {rows : List (List Int)} {as : List Ask} {chg : Int} (h : WorkZ H v cols rows as chg) (k : KT H H') : WorkZ H' v cols rows as chg := by
  obtain ⟨wa, tv, aa, vs, rfl, h1, h2, h3, h4⟩ := h
  exact ⟨wa, tv, aa, vs, rfl, k.1 _ _ h1, h2.kt k.1, k.1 _ _ h3, h4.kT k⟩
structure AsksOk (cols : List Nat) (as : List Ask) : Prop where
  len : as.length ≤ 5
  ok : ∀ a ∈ as, QOk cols a.es a.rc ∧ 1 ≤ a.often ∧ a.often ≤ 1001000
def roomM (ch : List (List Nat)) : Int := (ch.map fun o => (o.length : Int)).sum
def keepM (chg : Int) (ch : List (List Nat)) : Int := chg * (ch.map fun o => (o.length : Int) + 1).sum
def askedM (cols : List Nat) (rows : List (List Int)) (ch : List (List Nat)) (as : List Ask) : Int := (as.map fun a => a.often * priceOfM cols rows ch a.es a.rc).sum
def workM (cols : List Nat) (rows : List (List Int)) (ch : List (List Nat)) (as : List Ask) (chg : Int) : Int := askedM cols rows ch as + keepM chg ch
theorem sum_snoc {α : Type} (f : α → Int) (l : List α) (i : Nat) (hi : i < l.length) : ((l.take (i + 1)).map f).sum = ((l.take i).map f).sum + f l[i] := by
  rw [List.take_succ_eq_append_getElem hi, List.map_append, List.sum_append]
  show _ + (f l[i] + 0) = _
  rw [Int.add_zero]
end My

set_option Elab.async false
set_option linter.all false
set_option maxRecDepth 100000
set_option maxHeartbeats 2000000
namespace My
open PySem PySem.Spec PyProof.Rows L2
/-! ### slices of a tuple of its own, sorted(tuple of texts) -/
theorem cut_to (xs : List V) (b : Nat) : cutV xs none (some (b : Int)) = xs.take b := by
  unfold cutV
  rw [HT.sIx_nat, HT.sIx_none, List.drop_zero, Nat.sub_zero]
  by_cases h : b ≤ xs.length
  · rw [Nat.min_eq_left h]
  · rw [Nat.min_eq_right (by omega), List.take_length, List.take_of_length_le (by omega)]
theorem AsksZ.take {H : Hp} {vs : List V} {as : List Ask} (h : AsksZ H vs as) : ∀ n, AsksZ H (vs.take n) (as.take n) := by
  induction h with
  | nil => exact fun n => by rw [List.take_nil, List.take_nil]; exact .nil
  | cons a _ ih =>
    intro n
    cases n with
    | zero => exact .nil
    | succ n => exact .cons a (ih n)
theorem AsksZ.drop {H : Hp} {vs : List V} {as : List Ask} (h : AsksZ H vs as) : ∀ n, AsksZ H (vs.drop n) (as.drop n) := by
  induction h with
  | nil => exact fun n => by rw [List.drop_nil, List.drop_nil]; exact .nil
  | cons a r ih =>
    intro n
    cases n with
    | zero => exact .cons a r
    | succ n => exact ih n
theorem AsksOk.take {cols : List Nat} {as : List Ask} (h : AsksOk cols as) (n : Nat) : AsksOk cols (as.take n) := ⟨by rw [List.length_take]; have := h.len; omega, fun a ha => h.ok a (List.mem_of_mem_take ha)⟩
theorem AsksOk.drop {cols : List Nat} {as : List Ask} (h : AsksOk cols as) (n : Nat) : AsksOk cols (as.drop n) := ⟨by rw [List.length_drop]; have := h.len; omega, fun a ha => h.ok a (List.mem_of_mem_drop ha)⟩
def strD (o : List Nat) : PyData := .str (txS o)
/-! ### prices of more lists -/
theorem priceOf_le {cols : List Nat} {rows : List (List Int)} {ch ch' : List (List Nat)} {es : List (Nat × Int)} {rc : Option (Nat × Int × Int)} (h : ∀ o ∈ ch, ∃ o' ∈ ch', priceM cols rows o' es rc ≤ priceM cols rows o es rc) : priceOfM cols rows ch' es rc ≤ priceOfM cols rows ch es rc := by
  obtain ⟨h1, _, _⟩ := minM_spec (ch.map fun o => priceM cols rows o es rc) (rows.length : Int)
  obtain ⟨_, g2, g3⟩ := minM_spec (ch'.map fun o => priceM cols rows o es rc) (rows.length : Int)
  unfold priceOfM
  rcases h1 with z | z
  · rw [z]
    exact g2
  · obtain ⟨o, ho, e⟩ := List.mem_map.mp z
    obtain ⟨o', ho', hle⟩ := h o ho
    have := g3 _ (List.mem_map_of_mem ho')
    rw [← e]
    exact Int.le_trans this hle
theorem sum_le {α : Type} {f g : α → Int} : ∀ l : List α, (∀ x ∈ l, f x ≤ g x) → (l.map f).sum ≤ (l.map g).sum
  | [], _ => Int.le_refl _
  | a :: l, h => by
    have h1 := sum_le l fun x hx => h x (List.mem_cons_of_mem _ hx)
    have h2 := h a (List.mem_cons_self ..)
    rw [List.map_cons, List.sum_cons, List.map_cons, List.sum_cons]
    omega
theorem asked_le {cols : List Nat} {rows : List (List Int)} {ch ch' : List (List Nat)} {as : List Ask} (hok : AsksOk cols as) (h : ∀ a ∈ as, ∀ o ∈ ch, ∃ o' ∈ ch', priceM cols rows o' a.es a.rc ≤ priceM cols rows o a.es a.rc) : askedM cols rows ch' as ≤ askedM cols rows ch as :=
  sum_le as fun a ha => Int.mul_le_mul_of_nonneg_left (priceOf_le (h a ha)) (by have := (hok.ok a ha).2.1; omega)
theorem perm_sum : ∀ {l l' : List Int}, l.Perm l' → l.sum = l'.sum := by
  intro l l' h
  induction h with
  | nil => rfl
  | cons x _ ih => rw [List.sum_cons, List.sum_cons, ih]
  | swap x y l =>
    rw [List.sum_cons, List.sum_cons, List.sum_cons, List.sum_cons]
    omega
  | trans _ _ h1 h2 => rw [h1, h2]
end My

set_option Elab.async false
set_option linter.all false
set_option maxRecDepth 100000
set_option maxHeartbeats 2000000
namespace My
open PySem PySem.Spec PyProof.Rows L2
/-! ### all(elt for target in iter), any(..), the element of any kind -/
section
variable {X : Cx}
theorem repin {A : Around} {s s' : Shared} {H H' : Hp} {cenv : Env} {fp : List Addr} {pn pins : List (Addr × Obj)} {σ : L2.St} (I : Inv (gxC X A s H cenv fp pn) pins σ H' s') : Inv (gxC X A s H cenv fp []) (pn ++ pins) σ H' s' :=
  ⟨⟨I.ok.mod, I.ok.kind, I.ok.glob, I.ok.blt, I.ok.above, I.ok.inj, I.ok.has, I.ok.cab, I.ok.hd, I.ok.frames, I.ok.stk, I.ok.exf, I.ok.bs, I.ok.bsz, I.ok.noex, I.ok.exfs, I.ok.funs, I.ok.frf⟩, I.os, I.bare, I.base, I.loc, I.cell, I.free, I.freeC, I.pin, I.hok, I.len⟩
theorem all_loopC {A : Around} {fp : List Addr} {tn : Nat → Heap → Prop} {σ0 : L2.St} {W : Nat → Hp → Prop} {n : Nat} {tr : Nat → Bool} {a : Addr} {g : Nat} {go : Obj} {R : Result → Shared → Prop}
    (hh : A.handled = none) (hd : A.depth < recursionLimit) (hgo : ∀ h : Heap, h.get? a = some go → h.IsGen a g) (hnc : ∀ v, go.data ≠ .cell v)
    (hR1 : ∀ s' o H, (∀ j, j < n → tr j = true) → Inv X [(a, o)] σ0 H s' → W n H → R (.ok (.ret (.bool true))) s')
    (hR0 : ∀ s' o H j, j < n → tr j = false → (∀ i, i < j → tr i = true) → Inv X [(a, o)] σ0 H s' → W (j + 1) H → R (.ok (.ret (.bool false))) s') :
    ∀ (k i : Nat) (s : Shared), i + k = n → (∀ j, j < i → tr j = true) → GxSt X A.in1.in1 fp tn σ0 W a n (fun i => .bl (tr i)) a g k s → s.heap.get? a = some go →
      codeAny (model X.prog X.w) A (.builtin "all.loop" ⟨[.ref a], []⟩) R s := by
  intro k
  induction k with
  | zero =>
    intro i s hk hall Z hS
    have hin : i = n := by omega
    subst hin
    obtain ⟨hg, hl, hb, gs, hgs, hgoes⟩ := Z
    refine codeAny_builtin F.entry_all_loop ?_
    rw [Around.under_plainId F.plain_all_loop _]
    show wpAny _ A.in1 (pyNext (.ref a) >>= _) _ _ s
    refine wpAny_bind (wpAny_pyNext_genexpQ (A := A.in1) hh hl hd hg hgs (hgoes (s.setGen g .running) _ ⟨rfl, allBare_setGen hb rfl, fun b u _ e => e, hS, hnc⟩) (fun v s₁ gs' hbare hv => ?_) fun s₁ hp h' hk' => ?_)
    · obtain ⟨i', o, H, _, _, _, G, hkap⟩ := hv
      obtain ⟨p1, _, _, _, p5⟩ := G.inv.pin (a, o) (List.mem_append_right _ List.mem_cons_self)
      exact (hkap s₁ o ⟨rfl, G.inv.bare, fun b u _ e => e, p1, p5⟩).elim
    · obtain ⟨_, o, H, I, w⟩ := hp
      refine wpAny_bind (wpAny_rule (wpAny_pure (hR1 _ o H hall ?_ w)))
      exact I.call' (ch := []) rfl (Un.kept hk') (I.hok.kept hk') (allBare_setGen I.bare rfl) (fun b hb => absurd hb (by simp))
  | succ k ih =>
    intro i s hk hall Z hS
    have hlt : i < n := by omega
    obtain ⟨hg, hl, hb, gs, hgs, hgoes⟩ := Z
    have hgl : g < s.gens.size := (Array.getElem?_eq_some_iff.mp hgs).1
    refine codeAny_builtin F.entry_all_loop ?_
    rw [Around.under_plainId F.plain_all_loop _]
    show wpAny _ A.in1 (pyNext (.ref a) >>= _) _ _ s
    refine wpAny_bind (GenW.wpAny_gsz (n := g + 1) hgl (wpAny_pyNext_genexpQ (A := A.in1) hh hl hd hg hgs (hgoes (s.setGen g .running) _ ⟨rfl, allBare_setGen hb rfl, fun b u _ e => e, hS, hnc⟩) (fun v s₁ gs' hbare hv => ?_) fun s₁ hp h' hk' => ?_))
    · intro hsz
      obtain ⟨i', o, H, hi', hrel, hs0, G, hkap⟩ := hv
      have ei : i' = i := by omega
      subst ei
      obtain rfl : v = .bool (tr i') := hrel
      have eo : o = go := by
        have h1 : s.heap.get? a = some o := hs0
        rw [hS] at h1
        exact (Option.some.inj h1).symm
      subst eo
      obtain ⟨p1, _, _, _, p5⟩ := G.inv.pin (a, o) (List.mem_append_right _ List.mem_cons_self)
      refine wpAny_bind (wpAny_holding (wpAny_truthy_bool (wpAny_bind (wpAny_letGo ?_))))
      cases hb : tr i' with
      | true =>
        simp only [if_true]
        have hsz1 : g < s₁.gens.size := by
          have q : (s₁.setGen g gs').gens.size = s₁.gens.size := GenW.setGen_size _ _ _
          have hsz' : g + 1 ≤ (s₁.setGen g gs').gens.size := hsz
          omega
        refine wpAny_pure ⟨plainId_quiet F.plain_all_loop _, ih (i' + 1) _ (by omega) (fun j hj => ?_) ⟨hgo _ p1, G.inv.nolimit, allBare_setGen (s := s₁) G.inv.bare hbare, gs', setGen_at (s := s₁) hsz1, fun s'' o'' z => ?_⟩ p1⟩
        · by_cases e : j = i'
          · rw [e]
            exact hb
          · exact hall j (by omega)
        · exact hkap s'' o'' ⟨z.os, z.bare, z.keep, z.own, z.nc⟩
      | false =>
        simp only [Bool.false_eq_true, if_false]
        refine wpAny_bind (wpAny_rule (wpAny_pure (hR0 _ o H i' hlt hb hall ?_ G.w)))
        exact G.inv.call' (ch := []) rfl (Un.kept fun b u e => e) G.inv.hok (allBare_setGen G.inv.bare hbare) (fun b hb => absurd hb (by simp))
    · exact absurd hp.1 (Nat.succ_ne_zero k)
/-- all(..) -/
def tAllC (P : Addr) (wi : TI) (g : L2.TG) (te : TE) (vs : List Nat) : TE := fun σ H Q => wi σ H fun J H1 => GxR.TabG H1 P ∧ ∀ H2, GxR.Tabbed P H1 H2 →
  ∃ (n : Nat) (tr : Nat → Bool) (W : Nat → Hp → Prop), W 0 H2 ∧ gxStep J g te vs (wipe σ vs) W n (fun i => .bl (tr i)) ∧ (∀ H3, W n H3 → (∀ j, j < n → tr j = true) → Q (.bl true) H3) ∧ ∀ j H3, j < n → tr j = false → (∀ i, i < j → tr i = true) → W (j + 1) H3 → Q (.bl false) H3
theorem pe_allC {c P : Addr} {elt tg iter : Expr} {p pos gpos : Pos} {scope : Scope} {own : List (Str × Nat)} {wi : TI} {g : L2.TG} {te : TE} {k : Nat}
    (hr : Room (k + 3) X.A) (hg : Gl X "all") (hm : X.mg "all" = none) (TB : LamX.TabB X.base X.mg c P) (hcode : X.env.code = .ref c) (S : GxS X scope own) (hN : X.N.Nodup) (hc : X.calm = true) (hi : PI X tg iter wi)
    (pg : ∀ (A : Around) (s : Shared) (H : Hp) (C : Addr) (cl : List (Str × Addr)) (code : Value) (fp : List Addr) (pn : List (Addr × Obj)), PG (gxC X A s H (genEnv scope cl C code builtinsNs X.env) fp pn) tg g)
    (pe : ∀ (A : Around) (s : Shared) (H : Hp) (C : Addr) (cl : List (Str × Addr)) (code : Value) (fp : List Addr) (pn : List (Addr × Obj)), Room k A → PE (gxC X A s H (genEnv scope cl C code builtinsNs X.env) fp pn) elt te)
    (hb : bootBuiltins "all" = some (.builtin "all") := by decide +kernel) (hs : ∀ v, genFold iter X.env v = pure v := by intro _; rfl)
    (he : starEach [.GeneratorExp elt [⟨tg, iter, [], 0⟩] scope gpos] X.env = (false, eval (.GeneratorExp elt [⟨tg, iter, [], 0⟩] scope gpos) X.env) :: starEach [] X.env := by rfl) :
    PE X (.Call (.Name "all" p) [.GeneratorExp elt [⟨tg, iter, [], 0⟩] scope gpos] [] pos) (tAllC P wi g te (own.map (·.2))) := by
  refine ⟨fun pins s σ H Q I h => ?_⟩
  refine wpAny_Call_Name_kw (ld_blt I hg hm hb (PyProof.Rows.callWith_builtin1 ?_ he (by rfl)))
  rw [he]
  refine Calls.spliced_cons (gx_make hr TB hcode S hN hi hs I h fun J H1 H2 a s5 hR hTb hG => ?_)
  refine Calls.spliced_nil ?_
  obtain ⟨n, tr, W, w0, step, hend1, hend0⟩ := hR H2 hTb
  obtain ⟨s4, code, cenv, fp, it, tn, go, ec, I4, f4, T, st5, egs, hgen, hga, hlt, hInv⟩ := hG
  have I5 := repin (hInv X.A.in1.in1 hr.hd I4.ok.frames)
  have hroom : Room k (X.A.in1.in1.deeper cenv) := hr.in1.in1.deeper cenv
  have pg' := pg (X.A.in1.in1.deeper cenv) s4 H2 s4.heap.objs.size (cloFrom X.env.cells scope.names []) code fp []
  have pe' := pe (X.A.in1.in1.deeper cenv) s4 H2 s4.heap.objs.size (cloFrom X.env.cells scope.names []) code fp [] hroom
  rw [← ec] at pg' pe'
  have hgen5 : s5.heap.IsGen a s4.gens.size := hgen _ hga
  obtain ⟨_, ga, gb, gc, hnc⟩ := I5.pin (a, go) (by simp)
  have haf : a ∉ fp := fun hb => Nat.lt_irrefl _ (Nat.lt_trans (f4 a hb).2 hlt)
  have hcl : ∀ x c, cenv.cells.lookup x = some c → c ≠ a := fun x c e z => by
    obtain ⟨v, o, e1, e2⟩ := I5.cell x c e
    rw [z, hga] at e1
    cases e1
    exact hnc _ e2
  refine call_function_tree F.kind_all F.plain_all F.entry_all (F.args_all1 _) ?_
  unfold Builtin.«all»
  refine wpAny_bind (m := oneArg "all" _) (wpAny_pure ?_)
  refine wpAny_bind (wpAny_pyIter_gen hgen5 ?_)
  refine wpAny_pure ⟨plainId_quiet F.plain_all_loop _, all_loopC (X := gxC X (X.A.in1.in1.deeper cenv) s4 H2 cenv fp []) (A := X.A) (fp := fp) (tn := tn) (σ0 := wipe σ (own.map (·.2))) (W := W) (n := n) (tr := tr) (a := a) (g := s4.gens.size) (go := go)
    hr.hd (by have := hr.dp; omega) hgen hnc (fun s' o H3 hdone I' w' => ?_) (fun s' o H3 j hj hsj hal I' w' => ?_) n 0 _ (Nat.zero_add n) (fun j hj => absurd hj (Nat.not_lt_zero j)) ⟨hgen5, I5.nolimit, I5.bare, .fresh (.compStart (.GeneratorExp elt [⟨tg, iter, [], 0⟩] scope gpos) 0 (.ref it) .none cenv), ?_, fun s'' o' z => ⟨rfl, ?_⟩⟩ hga⟩
  · refine ⟨.bl true, H3, ?_, rfl, hend1 H3 w' hdone⟩
    exact I4.call' (ch := fp) I'.os I'.base I'.hok I'.bare fun b hb => ⟨(f4 b hb).1.2.2.2.1, (f4 b hb).1.2.1, (f4 b hb).1.2.2.2.2.1, (f4 b hb).1.2.2.2.2.2⟩
  · refine ⟨.bl false, H3, ?_, rfl, hend0 j H3 hj hsj hal w'⟩
    exact I4.call' (ch := fp) I'.os I'.base I'.hok I'.bare fun b hb => ⟨(f4 b hb).1.2.2.2.1, (f4 b hb).1.2.1, (f4 b hb).1.2.2.2.2.1, (f4 b hb).1.2.2.2.2.2⟩
  · show s5.gens[s4.gens.size]? = _
    rw [egs]
    exact Array.getElem?_push_size ..
  · have Iz : Inv (gxC X (X.A.in1.in1.deeper cenv) s4 H2 cenv fp []) [(a, o')] (wipe σ (own.map (·.2))) H2 s'' := woke I5 (Nat.le_of_lt hlt) hcl (fun p hp => absurd hp (by simp)) z.os z.bare z.keep z.own z.nc
    have stz : tn 0 s''.heap := T.keep _ _ _ st5 fun b hb u e => z.keep b u (fun q => haf (q ▸ hb)) e
    exact gx_begin (X := gxC X (X.A.in1.in1.deeper cenv) s4 H2 cenv fp []) T stz (gx_loop (X := gxC X (X.A.in1.in1.deeper cenv) s4 H2 cenv fp []) rfl T hc rfl haf (fun p hp => absurd hp List.not_mem_nil) (fun _ _ q => q) (by rw [ec]; exact S.co) (Nat.le_of_lt hlt) hcl (fun p hp => absurd hp List.not_mem_nil) pg' pe' step n 0 s'' s'' o' H2 (Nat.zero_add n) z.own ⟨Iz, stz, fun b hb => (f4 b hb).1.1, w0⟩)
theorem any_loopC {A : Around} {fp : List Addr} {tn : Nat → Heap → Prop} {σ0 : L2.St} {W : Nat → Hp → Prop} {n : Nat} {tr : Nat → Bool} {a : Addr} {g : Nat} {go : Obj} {R : Result → Shared → Prop}
    (hh : A.handled = none) (hd : A.depth < recursionLimit) (hgo : ∀ h : Heap, h.get? a = some go → h.IsGen a g) (hnc : ∀ v, go.data ≠ .cell v)
    (hR1 : ∀ s' o H, (∀ j, j < n → tr j = false) → Inv X [(a, o)] σ0 H s' → W n H → R (.ok (.ret (.bool false))) s')
    (hR0 : ∀ s' o H j, j < n → tr j = true → (∀ i, i < j → tr i = false) → Inv X [(a, o)] σ0 H s' → W (j + 1) H → R (.ok (.ret (.bool true))) s') :
    ∀ (k i : Nat) (s : Shared), i + k = n → (∀ j, j < i → tr j = false) → GxSt X A.in1.in1 fp tn σ0 W a n (fun i => .bl (tr i)) a g k s → s.heap.get? a = some go →
      codeAny (model X.prog X.w) A (.builtin "any.loop" ⟨[.ref a], []⟩) R s := by
  intro k
  induction k with
  | zero =>
    intro i s hk hall Z hS
    have hin : i = n := by omega
    subst hin
    obtain ⟨hg, hl, hb, gs, hgs, hgoes⟩ := Z
    refine codeAny_builtin F.entry_any_loop ?_
    rw [Around.under_plainId F.plain_any_loop _]
    show wpAny _ A.in1 (pyNext (.ref a) >>= _) _ _ s
    refine wpAny_bind (wpAny_pyNext_genexpQ (A := A.in1) hh hl hd hg hgs (hgoes (s.setGen g .running) _ ⟨rfl, allBare_setGen hb rfl, fun b u _ e => e, hS, hnc⟩) (fun v s₁ gs' hbare hv => ?_) fun s₁ hp h' hk' => ?_)
    · obtain ⟨i', o, H, _, _, _, G, hkap⟩ := hv
      obtain ⟨p1, _, _, _, p5⟩ := G.inv.pin (a, o) (List.mem_append_right _ List.mem_cons_self)
      exact (hkap s₁ o ⟨rfl, G.inv.bare, fun b u _ e => e, p1, p5⟩).elim
    · obtain ⟨_, o, H, I, w⟩ := hp
      refine wpAny_bind (wpAny_rule (wpAny_pure (hR1 _ o H hall ?_ w)))
      exact I.call' (ch := []) rfl (Un.kept hk') (I.hok.kept hk') (allBare_setGen I.bare rfl) (fun b hb => absurd hb (by simp))
  | succ k ih =>
    intro i s hk hall Z hS
    have hlt : i < n := by omega
    obtain ⟨hg, hl, hb, gs, hgs, hgoes⟩ := Z
    have hgl : g < s.gens.size := (Array.getElem?_eq_some_iff.mp hgs).1
    refine codeAny_builtin F.entry_any_loop ?_
    rw [Around.under_plainId F.plain_any_loop _]
    show wpAny _ A.in1 (pyNext (.ref a) >>= _) _ _ s
    refine wpAny_bind (GenW.wpAny_gsz (n := g + 1) hgl (wpAny_pyNext_genexpQ (A := A.in1) hh hl hd hg hgs (hgoes (s.setGen g .running) _ ⟨rfl, allBare_setGen hb rfl, fun b u _ e => e, hS, hnc⟩) (fun v s₁ gs' hbare hv => ?_) fun s₁ hp h' hk' => ?_))
    · intro hsz
      obtain ⟨i', o, H, hi', hrel, hs0, G, hkap⟩ := hv
      have ei : i' = i := by omega
      subst ei
      obtain rfl : v = .bool (tr i') := hrel
      have eo : o = go := by
        have h1 : s.heap.get? a = some o := hs0
        rw [hS] at h1
        exact (Option.some.inj h1).symm
      subst eo
      obtain ⟨p1, _, _, _, p5⟩ := G.inv.pin (a, o) (List.mem_append_right _ List.mem_cons_self)
      refine wpAny_bind (wpAny_holding (wpAny_truthy_bool (wpAny_bind (wpAny_letGo ?_))))
      cases hb : tr i' with
      | false =>
        simp only [Bool.false_eq_true, if_false]
        have hsz1 : g < s₁.gens.size := by
          have q : (s₁.setGen g gs').gens.size = s₁.gens.size := GenW.setGen_size _ _ _
          have hsz' : g + 1 ≤ (s₁.setGen g gs').gens.size := hsz
          omega
        refine wpAny_pure ⟨plainId_quiet F.plain_any_loop _, ih (i' + 1) _ (by omega) (fun j hj => ?_) ⟨hgo _ p1, G.inv.nolimit, allBare_setGen (s := s₁) G.inv.bare hbare, gs', setGen_at (s := s₁) hsz1, fun s'' o'' z => ?_⟩ p1⟩
        · by_cases e : j = i'
          · rw [e]
            exact hb
          · exact hall j (by omega)
        · exact hkap s'' o'' ⟨z.os, z.bare, z.keep, z.own, z.nc⟩
      | true =>
        simp only [if_true]
        refine wpAny_bind (wpAny_rule (wpAny_pure (hR0 _ o H i' hlt hb hall ?_ G.w)))
        exact G.inv.call' (ch := []) rfl (Un.kept fun b u e => e) G.inv.hok (allBare_setGen G.inv.bare hbare) (fun b hb => absurd hb (by simp))
    · exact absurd hp.1 (Nat.succ_ne_zero k)
/-- any(..) -/
def tAnyC (P : Addr) (wi : TI) (g : L2.TG) (te : TE) (vs : List Nat) : TE := fun σ H Q => wi σ H fun J H1 => GxR.TabG H1 P ∧ ∀ H2, GxR.Tabbed P H1 H2 →
  ∃ (n : Nat) (tr : Nat → Bool) (W : Nat → Hp → Prop), W 0 H2 ∧ gxStep J g te vs (wipe σ vs) W n (fun i => .bl (tr i)) ∧ (∀ H3, W n H3 → (∀ j, j < n → tr j = false) → Q (.bl false) H3) ∧ ∀ j H3, j < n → tr j = true → (∀ i, i < j → tr i = false) → W (j + 1) H3 → Q (.bl true) H3
theorem pe_anyC {c P : Addr} {elt tg iter : Expr} {p pos gpos : Pos} {scope : Scope} {own : List (Str × Nat)} {wi : TI} {g : L2.TG} {te : TE} {k : Nat}
    (hr : Room (k + 3) X.A) (hg : Gl X "any") (hm : X.mg "any" = none) (TB : LamX.TabB X.base X.mg c P) (hcode : X.env.code = .ref c) (S : GxS X scope own) (hN : X.N.Nodup) (hc : X.calm = true) (hi : PI X tg iter wi)
    (pg : ∀ (A : Around) (s : Shared) (H : Hp) (C : Addr) (cl : List (Str × Addr)) (code : Value) (fp : List Addr) (pn : List (Addr × Obj)), PG (gxC X A s H (genEnv scope cl C code builtinsNs X.env) fp pn) tg g)
    (pe : ∀ (A : Around) (s : Shared) (H : Hp) (C : Addr) (cl : List (Str × Addr)) (code : Value) (fp : List Addr) (pn : List (Addr × Obj)), Room k A → PE (gxC X A s H (genEnv scope cl C code builtinsNs X.env) fp pn) elt te)
    (hb : bootBuiltins "any" = some (.builtin "any") := by decide +kernel) (hs : ∀ v, genFold iter X.env v = pure v := by intro _; rfl)
    (he : starEach [.GeneratorExp elt [⟨tg, iter, [], 0⟩] scope gpos] X.env = (false, eval (.GeneratorExp elt [⟨tg, iter, [], 0⟩] scope gpos) X.env) :: starEach [] X.env := by rfl) :
    PE X (.Call (.Name "any" p) [.GeneratorExp elt [⟨tg, iter, [], 0⟩] scope gpos] [] pos) (tAnyC P wi g te (own.map (·.2))) := by
  refine ⟨fun pins s σ H Q I h => ?_⟩
  refine wpAny_Call_Name_kw (ld_blt I hg hm hb (PyProof.Rows.callWith_builtin1 ?_ he (by rfl)))
  rw [he]
  refine Calls.spliced_cons (gx_make hr TB hcode S hN hi hs I h fun J H1 H2 a s5 hR hTb hG => ?_)
  refine Calls.spliced_nil ?_
  obtain ⟨n, tr, W, w0, step, hend1, hend0⟩ := hR H2 hTb
  obtain ⟨s4, code, cenv, fp, it, tn, go, ec, I4, f4, T, st5, egs, hgen, hga, hlt, hInv⟩ := hG
  have I5 := repin (hInv X.A.in1.in1 hr.hd I4.ok.frames)
  have hroom : Room k (X.A.in1.in1.deeper cenv) := hr.in1.in1.deeper cenv
  have pg' := pg (X.A.in1.in1.deeper cenv) s4 H2 s4.heap.objs.size (cloFrom X.env.cells scope.names []) code fp []
  have pe' := pe (X.A.in1.in1.deeper cenv) s4 H2 s4.heap.objs.size (cloFrom X.env.cells scope.names []) code fp [] hroom
  rw [← ec] at pg' pe'
  have hgen5 : s5.heap.IsGen a s4.gens.size := hgen _ hga
  obtain ⟨_, ga, gb, gc, hnc⟩ := I5.pin (a, go) (by simp)
  have haf : a ∉ fp := fun hb => Nat.lt_irrefl _ (Nat.lt_trans (f4 a hb).2 hlt)
  have hcl : ∀ x c, cenv.cells.lookup x = some c → c ≠ a := fun x c e z => by
    obtain ⟨v, o, e1, e2⟩ := I5.cell x c e
    rw [z, hga] at e1
    cases e1
    exact hnc _ e2
  refine call_function_tree F.kind_any F.plain_any F.entry_any (F.args_any1 _) ?_
  unfold Builtin.«any»
  refine wpAny_bind (m := oneArg "any" _) (wpAny_pure ?_)
  refine wpAny_bind (wpAny_pyIter_gen hgen5 ?_)
  refine wpAny_pure ⟨plainId_quiet F.plain_any_loop _, any_loopC (X := gxC X (X.A.in1.in1.deeper cenv) s4 H2 cenv fp []) (A := X.A) (fp := fp) (tn := tn) (σ0 := wipe σ (own.map (·.2))) (W := W) (n := n) (tr := tr) (a := a) (g := s4.gens.size) (go := go)
    hr.hd (by have := hr.dp; omega) hgen hnc (fun s' o H3 hdone I' w' => ?_) (fun s' o H3 j hj hsj hal I' w' => ?_) n 0 _ (Nat.zero_add n) (fun j hj => absurd hj (Nat.not_lt_zero j)) ⟨hgen5, I5.nolimit, I5.bare, .fresh (.compStart (.GeneratorExp elt [⟨tg, iter, [], 0⟩] scope gpos) 0 (.ref it) .none cenv), ?_, fun s'' o' z => ⟨rfl, ?_⟩⟩ hga⟩
  · refine ⟨.bl false, H3, ?_, rfl, hend1 H3 w' hdone⟩
    exact I4.call' (ch := fp) I'.os I'.base I'.hok I'.bare fun b hb => ⟨(f4 b hb).1.2.2.2.1, (f4 b hb).1.2.1, (f4 b hb).1.2.2.2.2.1, (f4 b hb).1.2.2.2.2.2⟩
  · refine ⟨.bl true, H3, ?_, rfl, hend0 j H3 hj hsj hal w'⟩
    exact I4.call' (ch := fp) I'.os I'.base I'.hok I'.bare fun b hb => ⟨(f4 b hb).1.2.2.2.1, (f4 b hb).1.2.1, (f4 b hb).1.2.2.2.2.1, (f4 b hb).1.2.2.2.2.2⟩
  · show s5.gens[s4.gens.size]? = _
    rw [egs]
    exact Array.getElem?_push_size ..
  · have Iz : Inv (gxC X (X.A.in1.in1.deeper cenv) s4 H2 cenv fp []) [(a, o')] (wipe σ (own.map (·.2))) H2 s'' := woke I5 (Nat.le_of_lt hlt) hcl (fun p hp => absurd hp (by simp)) z.os z.bare z.keep z.own z.nc
    have stz : tn 0 s''.heap := T.keep _ _ _ st5 fun b hb u e => z.keep b u (fun q => haf (q ▸ hb)) e
    exact gx_begin (X := gxC X (X.A.in1.in1.deeper cenv) s4 H2 cenv fp []) T stz (gx_loop (X := gxC X (X.A.in1.in1.deeper cenv) s4 H2 cenv fp []) rfl T hc rfl haf (fun p hp => absurd hp List.not_mem_nil) (fun _ _ q => q) (by rw [ec]; exact S.co) (Nat.le_of_lt hlt) hcl (fun p hp => absurd hp List.not_mem_nil) pg' pe' step n 0 s'' s'' o' H2 (Nat.zero_add n) z.own ⟨Iz, stz, fun b hb => (f4 b hb).1.1, w0⟩)
end
end My

set_option Elab.async false
set_option linter.all false
set_option maxRecDepth 100000
set_option maxHeartbeats 2000000
namespace My
open PySem PySem.Spec PyProof.Rows L2
theorem gx_step {J : It} {n : Nat} {G : Hp → Prop} {Y : Nat → Hp → V → Hp → Prop} (w : Walk J n G Y) {g : L2.TG} {te : TE} {vs : List Nat} {σ0 : L2.St} {F : Nat → V} {Pv : Nat → Hp → Prop}
    (hG : ∀ i H, i ≤ n → Pv i H → G H) (hs : ∀ i x H H', i < n → Pv i H → Y i H x H' → g x σ0 H' fun σ2 H2 => wipe σ2 vs = σ0 ∧ te σ2 H2 fun y H3 => y = F i ∧ i + 1 ≤ n ∧ Pv (i + 1) H3) :
    gxStep J g te vs σ0 (fun i H => i ≤ n ∧ Pv i H) n F := fun i H hW => ⟨fun hi => ⟨w.goes i H hi (hG i H hW.1 hW.2), fun x H' y => hs i x H H' hi hW.2 (w.yields i H x H' hi (hG i H hW.1 hW.2) y)⟩, fun e => by
    subst e
    exact w.stops H (hG i H hW.1 hW.2)⟩
/-! ### data that lies away from some places -/
def hidS (L : List Addr) (H : Hp) : Hp := fun b => if b ∈ L then none else H b
theorem hid_some {L : List Addr} {H : Hp} {b : Addr} {o : HO} : hidS L H b = some o ↔ b ∉ L ∧ H b = some o := by
  unfold hidS
  split
  · rename_i h
    exact ⟨(fun z => nomatch z), (fun z => absurd h z.1)⟩
  · rename_i h
    exact ⟨fun z => ⟨h, z⟩, fun z => z.2⟩
abbrev Fl (L : List Addr) (H : Hp) (v : V) (d : PyData) : Prop := Ft (hidS L H) v d
abbrev FlA (L : List Addr) (H : Hp) (vs : List V) (ds : List PyData) : Prop := FtA (hidS L H) vs ds
theorem hid_same {L : List Addr} {H : Hp} : Same (hidS L H) H := fun _ _ e => (hid_some.mp e).2
theorem hid_keep {L : List Addr} {H H' : Hp} (k : ∀ b o, b ∉ L → H b = some o → H' b = some o) : Same (hidS L H) (hidS L H') := fun b o e => hid_some.mpr ⟨(hid_some.mp e).1, k b o (hid_some.mp e).1 (hid_some.mp e).2⟩
theorem hid_sub {L L' : List Addr} {H : Hp} (h : ∀ b ∈ L', b ∈ L) : Same (hidS L H) (hidS L' H) := fun b o e => hid_some.mpr ⟨fun z => (hid_some.mp e).1 (h b z), (hid_some.mp e).2⟩
theorem Fl.to {L : List Addr} {H : Hp} {v : V} {d : PyData} (h : Fl L H v d) : Ft H v d := Ft.mono hid_same _ _ h
theorem FlA.to {L : List Addr} {H : Hp} {vs : List V} {ds : List PyData} (h : FlA L H vs ds) : FtA H vs ds := FtA.mono hid_same _ _ h
theorem Fl.keep {L : List Addr} {H H' : Hp} {v : V} {d : PyData} (h : Fl L H v d) (k : ∀ b o, b ∉ L → H b = some o → H' b = some o) : Fl L H' v d := Ft.mono (hid_keep k) _ _ h
theorem FlA.keep {L : List Addr} {H H' : Hp} {vs : List V} {ds : List PyData} (h : FlA L H vs ds) (k : ∀ b o, b ∉ L → H b = some o → H' b = some o) : FlA L H' vs ds := FtA.mono (hid_keep k) _ _ h
theorem Fl.sub {L L' : List Addr} {H : Hp} {v : V} {d : PyData} (h : Fl L H v d) (hs : ∀ b ∈ L', b ∈ L) : Fl L' H v d := Ft.mono (hid_sub hs) _ _ h
theorem FlA.sub {L L' : List Addr} {H : Hp} {vs : List V} {ds : List PyData} (h : FlA L H vs ds) (hs : ∀ b ∈ L', b ∈ L) : FlA L' H vs ds := FtA.mono (hid_sub hs) _ _ h
theorem Fl.same {L : List Addr} {H H' : Hp} {v : V} {d : PyData} (h : Fl L H v d) (k : Same H H') : Fl L H' v d := h.keep fun b o _ e => k b o e
theorem FlA.same {L : List Addr} {H H' : Hp} {vs : List V} {ds : List PyData} (h : FlA L H vs ds) (k : Same H H') : FlA L H' vs ds := h.keep fun b o _ e => k b o e
theorem Fl.sx {Ps L : List Addr} {H H' : Hp} {v : V} {d : PyData} (h : Fl L H v d) (k : Sx Ps H H') (hs : ∀ b ∈ Ps, b ∈ L) : Fl L H' v d := h.keep fun b o nb e => k b o (fun z => nb (hs b z)) e
theorem FlA.sx {Ps L : List Addr} {H H' : Hp} {vs : List V} {ds : List PyData} (h : FlA L H vs ds) (k : Sx Ps H H') (hs : ∀ b ∈ Ps, b ∈ L) : FlA L H' vs ds := h.keep fun b o nb e => k b o (fun z => nb (hs b z)) e
theorem Fl.kp {r : Addr} {L : List Addr} {H H' : Hp} {v : V} {d : PyData} (h : Fl L H v d) (k : Kp r H H') (hs : r ∈ L) : Fl L H' v d := h.keep fun b o nb e => k b o (fun z => nb (z ▸ hs)) e
theorem FlA.kp {r : Addr} {L : List Addr} {H H' : Hp} {vs : List V} {ds : List PyData} (h : FlA L H vs ds) (k : Kp r H H') (hs : r ∈ L) : FlA L H' vs ds := h.keep fun b o nb e => k b o (fun z => nb (z ▸ hs)) e
theorem Fl.tup {L : List Addr} {H : Hp} {p : Addr} {xs : List V} {ds : List PyData} (n : p ∉ L) (h : H p = some (.tup xs)) (a : FlA L H xs ds) : Fl L H (.ref p) (.tuple ds) := Ft.tup (hid_some.mpr ⟨n, h⟩) a
theorem Fl.lst {L : List Addr} {H : Hp} {p : Addr} {xs : List V} {ds : List PyData} (n : p ∉ L) (h : H p = some (.lst xs)) (a : FlA L H xs ds) : Fl L H (.ref p) (.list ds) := Ft.lst (hid_some.mpr ⟨n, h⟩) a
theorem Fl.isStr {L : List Addr} {H : Hp} {v : V} {z : Str} (h : Fl L H v (.str z)) : v = .str z := by
  cases h
  rfl
theorem Fl.isInt {L : List Addr} {H : Hp} {v : V} {i : Int} (h : Fl L H v (.int i)) : v = .int i := by
  cases h
  rfl
theorem FlA.one {L : List Addr} {H : Hp} {vs : List V} {a : PyData} (h : FlA L H vs [a]) : ∃ x, vs = [x] ∧ Fl L H x a := by
  cases h with
  | cons f g =>
    cases g
    exact ⟨_, rfl, f⟩
theorem FlA.two {L : List Addr} {H : Hp} {vs : List V} {a b : PyData} (h : FlA L H vs [a, b]) : ∃ x y, vs = [x, y] ∧ Fl L H x a ∧ Fl L H y b := by
  cases h with
  | cons f g =>
    obtain ⟨y, rfl, fy⟩ := FlA.one g
    exact ⟨_, y, rfl, f, fy⟩
theorem FlA.three {L : List Addr} {H : Hp} {vs : List V} {a b c : PyData} (h : FlA L H vs [a, b, c]) : ∃ x y z, vs = [x, y, z] ∧ Fl L H x a ∧ Fl L H y b ∧ Fl L H z c := by
  cases h with
  | cons f g =>
    obtain ⟨y, z, rfl, fy, fz⟩ := FlA.two g
    exact ⟨_, y, z, rfl, f, fy, fz⟩
theorem FlA.at {L : List Addr} {H : Hp} {vs : List V} {ds : List PyData} (h : FlA L H vs ds) {i : Int} (h0 : 0 ≤ i) (h1 : i < ds.length) : ∃ v d, atI vs i = some v ∧ ds[i.toNat]? = some d ∧ Fl L H v d := by
  have hl := FtA.len h
  have hi : i.toNat < vs.length := by omega
  obtain ⟨d, e, f⟩ := FtA.getV h (List.getElem?_eq_getElem hi)
  refine ⟨_, d, ?_, e, f⟩
  have e2 := atI_nat (List.getElem?_eq_getElem hi)
  rw [show ((i.toNat : Nat) : Int) = i by omega] at e2
  exact e2
theorem FlA.app {L : List Addr} {H : Hp} : ∀ {vs us : List V} {ds es : List PyData}, FlA L H vs ds → FlA L H us es → FlA L H (vs ++ us) (ds ++ es)
  | _, _, _, _, .nil, h => h
  | _, _, _, _, .cons a r, h => .cons a (FlA.app r h)
theorem FlA.take {L : List Addr} {H : Hp} : ∀ (n : Nat) {vs : List V} {ds : List PyData}, FlA L H vs ds → FlA L H (vs.take n) (ds.take n)
  | 0, _, _, _ => .nil
  | _ + 1, _, _, .nil => .nil
  | n + 1, _, _, .cons a r => .cons a (FlA.take n r)
theorem FlA.drop {L : List Addr} {H : Hp} : ∀ (n : Nat) {vs : List V} {ds : List PyData}, FlA L H vs ds → FlA L H (vs.drop n) (ds.drop n)
  | 0, _, _, h => h
  | _ + 1, _, _, .nil => .nil
  | n + 1, _, _, .cons _ r => FlA.drop n r
theorem FlA.rev {L : List Addr} {H : Hp} : ∀ {vs : List V} {ds : List PyData}, FlA L H vs ds → FlA L H vs.reverse ds.reverse
  | _, _, .nil => .nil
  | _, _, .cons a r => by
    rw [List.reverse_cons, List.reverse_cons]
    exact (FlA.rev r).app (.cons a .nil)
/-! ### what isinstance tells of data, more -/
/-! ### questions, of any data -/
end My
namespace My
open PySem PySem.Spec PyProof.Rows L2
/-- a frozen thing among data away from places that hold no tuple -/
theorem Fz.fl {L : List Addr} {H : Hp} (hL : ∀ b ∈ L, ∀ xs, H b ≠ some (.tup xs)) : ∀ {d : PyData} {v : V}, Fz H v d → Fl L H v d := by
  have key : ∀ n, ∀ (d : PyData) (v : V), d.depth < n → Fz H v d → Fl L H v d := by
    intro n
    induction n with
    | zero => exact fun d v h => absurd h (Nat.not_lt_zero _)
    | succ n ih =>
      intro d v hd f
      have all : ∀ (ds : List PyData) (vs : List V), PyData.depthAll ds < n → FzA H vs ds → FlA L H vs ds := by
        intro ds
        induction ds with
        | nil =>
          intro vs _ g
          cases g
          exact .nil
        | cons d ds ih2 =>
          intro vs hn g
          simp only [PyData.depthAll] at hn
          cases g with
          | cons a r => exact .cons (ih d _ (by omega) a) (ih2 _ (by omega) r)
      cases f with
      | non => exact .non
      | bl b => exact .bl b
      | int i => exact .int i
      | str x => exact .str x
      | tup h a =>
        have h4 : PyData.depthAll _ + 1 < n + 1 := hd
        exact Fl.tup (fun z => hL _ z _ h) h (all _ _ (by omega) a)
  exact fun {d v} f => key (d.depth + 1) d v (Nat.lt_succ_self _) f
end My

set_option Elab.async false
set_option linter.all false
set_option maxRecDepth 100000
set_option maxHeartbeats 2000000
namespace My
open PySem PySem.Spec PyProof.Rows L2
/-! ### lists of columns, of any data -/
theorem cat_tx (l k : List Nat) : V.str ((⟨l.toArray⟩ : Str) ++ ⟨k.toArray⟩) = tx (l ++ k) := by
  show V.str ⟨l.toArray ++ k.toArray⟩ = V.str ⟨(l ++ k).toArray⟩
  simp
end My

set_option Elab.async false
set_option linter.all false
set_option maxRecDepth 100000
set_option maxHeartbeats 2000000
namespace My
open PySem PySem.Spec PyProof.Rows L2
theorem at_memZ {α : Type} {vs : List α} {i : Int} (h0 : -(vs.length : Int) ≤ i) (h1 : i < vs.length) : ∃ v ∈ vs, atI vs i = some v := by
  by_cases h : 0 ≤ i
  · have hi : i.toNat < vs.length := by omega
    refine ⟨vs[i.toNat], List.getElem_mem hi, ?_⟩
    have e2 := atI_nat (List.getElem?_eq_getElem hi)
    rw [show ((i.toNat : Nat) : Int) = i by omega] at e2
    exact e2
  · have hj : ((vs.length : Int) + i).toNat < vs.length := by omega
    refine ⟨vs[((vs.length : Int) + i).toNat], List.getElem_mem hj, ?_⟩
    unfold atI
    have e : ixN vs.length i = some ((vs.length : Int) + i).toNat := by
      unfold ixN
      rw [if_neg h]
      first
        | (rw [if_pos (by omega)]; congr 1; omega)
        | (split <;> first | (congr 1; omega) | omega)
    rw [e]
    exact List.getElem?_eq_getElem hj
end My
namespace My
open PySem PySem.Spec PyProof.Rows L2
end My

set_option Elab.async false
set_option linter.all false
set_option maxRecDepth 100000
set_option maxHeartbeats 2000000
namespace My
open PySem PySem.Spec PyProof.Rows L2
/-! ### sorted texts -/
/-! ### used beginnings -/
/-! ### lists cut -/
/-! ### texts in lists -/
theorem inV_texts (o : List Nat) : ∀ l : List (List Nat), inV (tx o) (l.map tx) = decide (o ∈ l)
  | [] => rfl
  | a :: l => by
    have ih := inV_texts o l
    show ((txS a == txS o) || inV (tx o) (l.map tx)) = decide (o ∈ a :: l)
    rw [ih]
    by_cases e : a = o
    · rw [e]
      simp
    · have e2 : (txS a == txS o) = false := by
        rw [Bool.eq_false_iff]
        intro z
        exact e (txS_inj (by simpa using z))
      have e3 : ¬ o = a := fun z => e z.symm
      rw [e2]
      simp [e3]
end My

set_option Elab.async false
set_option linter.all false
set_option maxRecDepth 100000
set_option maxHeartbeats 2000000
namespace My
open PySem PySem.Spec PyProof.Rows L2
/-! ### tuples of texts as data -/
theorem depA_texts : ∀ fs : List (List Nat), PyData.depthAll (fs.map strD) = 0
  | [] => rfl
  | o :: fs => by
    show max (PyData.depth (strD o)) (PyData.depthAll (fs.map strD)) = 0
    rw [depA_texts fs]
    rfl
theorem dep_texts (fs : List (List Nat)) : PyData.depth (.tuple (fs.map strD)) < 3 := by
  show PyData.depthAll (fs.map strD) + 1 < 3
  rw [depA_texts]
  decide
end My

set_option Elab.async false
set_option linter.all false
set_option maxRecDepth 100000
set_option maxHeartbeats 2000000
namespace My
open PySem PySem.Spec PyProof.Rows L2
/-! ### needs, one ahead of the other -/
abbrev Nd2 := List Nat × List Nat
/-! whether one list may serve both -/
/-! ### pairs, one right ahead of the other -/
end My

set_option Elab.async false
set_option linter.all false
set_option maxRecDepth 100000
set_option maxHeartbeats 2000000
namespace My
open PySem PySem.Spec PyProof.Rows L2
/-! ### needs as data -/
theorem lay_txt {l : List Nat} (h : ∀ c ∈ l, c ≤ 122) : PyData.canLay0 (.str (txS l)) = true := by
  show (txS l).cps.all (· < 0x110000) = true
  rw [Array.all_eq_true']
  intro c hc
  have := h c (by simpa using hc)
  exact decide_eq_true (by omega)
/-! ### dicts by numbers -/
end My

set_option Elab.async false
set_option linter.all false
set_option maxRecDepth 100000
set_option maxHeartbeats 2000000
namespace My
open PySem PySem.Spec PyProof.Rows L2
/-! ### needs in a list; what stays -/
def Off (L : List Addr) (H : Hp) : Prop := ∀ b xs, (H b = some (.tup xs) ∨ H b = some (.lst xs)) → b ∉ L
theorem Off.nil {H : Hp} : Off [] H := fun b xs _ h => nomatch h
theorem Off.cons {L : List Addr} {H : Hp} {a : Addr} {kvs : List (Key × V)} (o : Off L H) (h : H a = some (.dK kvs)) : Off (a :: L) H := fun b xs hb hm => by
  rcases List.mem_cons.mp hm with e | e
  · rw [e, h] at hb
    rcases hb with z | z <;> cases z
  · exact o b xs hb e
theorem TG.off {Ps : List Addr} {H : Hp} (t : TG Ps H) : Off Ps H := fun b xs h => by
  rcases h with h | h
  · exact t.not h fun q z => nomatch z
  · exact t.not h fun q z => nomatch z
theorem Sx.more {L L' : List Addr} {H H' : Hp} (s : Sx L H H') (h : ∀ b ∈ L, b ∈ L') : Sx L' H H' := fun b o nb e => s b o (fun z => nb (h b z)) e
theorem Sx.cons {L : List Addr} {H H' : Hp} (s : Sx L H H') (a : Addr) : Sx (a :: L) H H' := s.more fun b h => List.mem_cons_of_mem _ h
theorem Sx.updL {L : List Addr} {H H1 : Hp} {a : Addr} {o : HO} (s : Sx (a :: L) H H1) : Sx (a :: L) H (upd H1 a o) := fun b x nb e => keep_ne (s b x nb e) fun z => nb (by rw [z]; exact List.mem_cons_self)
theorem TG.upd {Ps : List Addr} {H : Hp} {a : Addr} {o : HO} (t : TG Ps H) (h : a ∉ Ps) : TG Ps (L2.upd H a o) := fun P hP => by
  obtain ⟨ps, h1, r⟩ := t P hP
  exact ⟨ps, keep_ne h1 fun z => h (z ▸ hP), r⟩
end My

set_option Elab.async false
set_option linter.all false
set_option maxRecDepth 100000
set_option maxHeartbeats 2000000
namespace My
open PySem PySem.Spec PyProof.Rows L2
/-! ### chains -/
/-! ### the first of like ones -/
def ixN (p : Nd2) : List Nd2 → Nat
  | [] => 0
  | q :: l => if q = p then 0 else ixN p l + 1
/-! ### the fewest lists -/
/-! ### the list for a chain, bounds -/
end My

set_option Elab.async false
set_option linter.all false
set_option maxRecDepth 100000
set_option maxHeartbeats 2000000
namespace My
open PySem PySem.Spec PyProof.Rows L2
theorem dp_texts {K : PySem.W.Frag} {H : Hp} : ∀ ls : List (List Nat), DpAll K H (ls.map tx) (ls.map strD)
  | [] => .nil
  | l :: ls => .cons (.str _) (dp_texts ls)
theorem lay_texts : ∀ {ls : List (List Nat)}, (∀ l ∈ ls, ∀ c ∈ l, c ≤ 122) → PyData.canLayAll0 (ls.map strD) = true
  | [], _ => by simp [PyData.canLayAll0]
  | l :: ls, h => by
    rw [List.map_cons]
    show (PyData.canLay0 (strD l) && PyData.canLayAll0 (ls.map strD)) = true
    rw [show PyData.canLay0 (strD l) = true from lay_txt (h l (by simp)), lay_texts fun q hq => h q (by simp [hq])]
    rfl
theorem shaped_texts {ls : List (List Nat)} (h : ∀ l ∈ ls, ∀ c ∈ l, c ≤ 122) : SeqAt.shaped (.list (ls.map strD)) = true := by
  unfold SeqAt.shaped
  have h1 : PyData.canLay0 (.list (ls.map strD)) = true := lay_texts h
  have h2 := depA_texts ls
  rw [h1, Bool.true_and]
  refine decide_eq_true ?_
  simp only [PyData.depth]
  omega
end My

set_option Elab.async false
set_option linter.all false
set_option maxRecDepth 100000
set_option maxHeartbeats 2000000
namespace My
open PySem PySem.Spec PyProof.Rows L2
/-! ### questions and their needs -/
abbrev Qn := List (Nat × Int) × Option (Nat × Int × Int)
/-! ### lists of questions -/
inductive QA (H : Hp) : List V → List Qn → Prop
  | nil : QA H [] []
  | cons {v : V} {q : Qn} {vs : List V} {qs : List Qn} : QZ H v q.1 q.2 → QA H vs qs → QA H (v :: vs) (q :: qs)
theorem QA.kT {H H' : Hp} {vs : List V} {qs : List Qn} (h : QA H vs qs) (k : KT H H') : QA H' vs qs := by
  induction h with
  | nil => exact .nil
  | cons h1 _ ih => exact .cons (h1.kT k) ih
theorem QA.snoc {H : Hp} {vs : List V} {qs : List Qn} {v : V} {q : Qn} (h : QA H vs qs) (hq : QZ H v q.1 q.2) : QA H (vs ++ [v]) (qs ++ [q]) := by
  induction h with
  | nil => exact .cons hq .nil
  | cons h1 _ ih => exact .cons h1 ih
theorem QA.len {H : Hp} {vs : List V} {qs : List Qn} (h : QA H vs qs) : vs.length = qs.length := by
  induction h with
  | nil => rfl
  | cons _ _ ih => rw [List.length_cons, List.length_cons, ih]
theorem QA.at {H : Hp} {vs : List V} {qs : List Qn} (h : QA H vs qs) : ∀ {i : Nat} {q : Qn}, qs[i]? = some q → ∃ v, vs[i]? = some v ∧ QZ H v q.1 q.2 := by
  induction h with
  | nil => intro i q e; cases e
  | cons h1 _ ih =>
    intro i q e
    cases i with
    | zero =>
      cases e
      exact ⟨_, rfl, h1⟩
    | succ i => exact ih (i := i) (q := q) e
/-! ### truths as data -/
end My

set_option Elab.async false
set_option linter.all false
set_option maxRecDepth 100000
set_option maxHeartbeats 2000000
namespace My
open PySem PySem.Spec PyProof.Rows L2
open NdefX (NF NScope Caps ncx startF slotAt cells_of inv_startN)
/-! ### a lambda of one parameter, called by a built-in that the frame X called -/
section
variable {X : Cx} {pins : List (Addr × Obj)} {σ : L2.St} {H : Hp} {s : Shared}
/-- the lambda as a made function: its frame is that of a nested def without statements -/
abbrev lamF (X : Cx) (params : Arguments) (scope : Scope) (c' : Addr) : NF := ⟨"<lambda>", X.env.qual ++ "<lambda>", params, [], scope, cloFrom X.env.cells scope.names [], c'⟩
abbrev lamX (X : Cx) (N : List Str) (params : Arguments) (scope : Scope) (f c' : Addr) (A : Around) (s : Shared) (H : Hp) : Cx := ncx CX0 X.prog X.w X.K X.mg X.base N (lamF X params scope c') f A X.stack s H E0
/-- what is told of a lambda's text: N its names (its parameter x, then the captured ones, then others), js where the frame X has the captured ones -/
structure LamT (X : Cx) (N : List Str) (x : Str) (fr : List Str) (js : List Nat) (params : Arguments) (scope : Scope) (body : Expr) : Prop where
  names : NScope N [x] fr scope
  free : ∀ y ∈ scope.names, y.2 = .free → X.env.scope.names.lookup y.1 = some .cell ∨ X.env.scope.names.lookup y.1 = some .free
  caps : ∀ y ∈ fr, (y, NameKind.free) ∈ scope.names
  slots : js.map (fun j => X.N[j]?) = fr.map some
  bind : ∀ (pm ctv u : Value) (c' : Addr), bindArgs (PySem.W.kla_fn "<lambda>" (X.env.qual ++ "<lambda>") params body scope (cloFrom X.env.cells scope.names []) pm (.ref c') ctv) ⟨[u], []⟩ = pure [(x, u)]
theorem lam_call1 {A : Around} {N fr : List Str} {js : List Nat} {params : Arguments} {body : Expr} {scope : Scope} {x : Str} {f c' : Addr} {pm ctv u : Value} {vx : V} {k : Nat} {tb : TE} {Q : VK} {E : Value → Shared → Prop} (I : Inv X pins σ H s) (L : LamT X N x fr js params scope body) (hA : A.frames = some X.stack) (hr : Room (k + 1) A)
    (hf : s.heap.get? f = some (PySem.W.kla_obj "<lambda>" (X.env.qual ++ "<lambda>") params body scope (cloFrom X.env.cells scope.names []) pm c' ctv)) (hc : H c' = some (LamX.CodeO c' (X.env.qual ++ "<lambda>"))) (ru : RelV vx u)
    (hbody : Room k (lamX X N params scope f c' A s H).A → PE (lamX X N params scope f c' A s H) body tb) (ht : tb (startF N [vx] (js.map (slotAt σ))) H Q) :
    wpAny (model X.prog X.w) A (call (.ref f) [u]) (fun r s' => EP X pins σ Q r s') E s := by
  have at0 : Env0 X.prog X.w X.K X.mg X.base A X.stack s H := { I.env0 with frames := hA }
  have caps := cells_of I (Caps.made I.ok L.free L.caps L.slots)
  have ran : codeAny (model X.prog X.w) A (.call (.ref f) ⟨[u], []⟩) (CR CX0 X.stack X.prog X.w H s Q E0) s := by
    refine PySem.W.kla_callFunE hr.depth hf rfl L.names.co L.names.gen rfl (NdefX.codeO_at I.hok hc) ?_
    rw [L.bind]
    refine wpAny_pure (wpAny_newFunctionEnv L.names.nocell (fun y hy => L.names.par y.1 ?_) (fun g ns same => ⟨I.nolimit.fresh _ same, ?_⟩) L.names.kind)
    · rw [List.mem_singleton.mp hy]
      exact List.mem_cons_self
    · have start := inv_startN (CX := CX0) (F := lamF X params scope c') (f := f) (E := E0) (h₁ := g) (tk := s.toks + 1) (us := [u]) L.names hr.hd at0 rfl (.cons ru .nil) caps ns fun b o e => same.extBut b o (Nat.ne_of_lt (Heap.lt_size e)) (Heap.get?_push_of_some _ e)
      refine PySem.W.kla_codeExpr (wpAny_mono ((hbody (hr.deeper _)).run [] _ _ H Q start ht) (fun v s' z => ?_) fun e s' z => z)
      obtain ⟨y, H', J, ry, q⟩ := z
      exact ⟨y, H', J.os, J.bare, J.base, J.hok, ry, q⟩
  refine wpAny_call (codeAny_mono ran fun r s' z => ?_)
  match r, z with
  | .ok (.ret v), z => exact I.after z
end
end My

set_option Elab.async false
set_option linter.all false
set_option maxRecDepth 100000
set_option maxHeartbeats 2000000
namespace My
/-! ### all lists of some columns; what a list costs hangs on its used letters alone -/
/-- the lists with k letters, as they are made: each list with one letter less, and behind it each letter that it lacks -/
def longM (cols : List Nat) : Nat → List (List Nat)
  | 0 => [[]]
  | k + 1 => (longM cols k).flatMap fun o => (cols.filter fun c => decide (c ∉ o)).map fun c => o ++ [c]
def listsM (cols : List Nat) (n : Nat) : List (List Nat) := (List.range n).flatMap fun k => longM cols (k + 1)
theorem nodup_snoc {o : List Nat} {c : Nat} : (o ++ [c]).Nodup ↔ o.Nodup ∧ c ∉ o := by
  rw [List.nodup_append]
  constructor
  · rintro ⟨a, _, d⟩
    exact ⟨a, fun z => d c z c (List.mem_singleton.mpr rfl) rfl⟩
  · rintro ⟨a, n⟩
    refine ⟨a, by simp, fun x hx y hy e => n ?_⟩
    rw [← List.mem_singleton.mp hy, ← e]
    exact hx
theorem long_mem {cols : List Nat} : ∀ {k : Nat} {o : List Nat}, o ∈ longM cols k ↔ o.length = k ∧ o.Nodup ∧ ∀ c ∈ o, c ∈ cols
  | 0, o => by
    show o ∈ [[]] ↔ _
    rw [List.mem_singleton]
    constructor
    · rintro rfl
      exact ⟨rfl, .nil, fun c h => nomatch h⟩
    · rintro ⟨e, _⟩
      exact List.length_eq_zero_iff.mp e
  | k + 1, o => by
    show o ∈ (longM cols k).flatMap _ ↔ _
    rw [List.mem_flatMap]
    constructor
    · rintro ⟨p, hp, ho⟩
      obtain ⟨c, hc, rfl⟩ := List.mem_map.mp ho
      obtain ⟨hc1, hc2⟩ := List.mem_filter.mp hc
      obtain ⟨l, nd, sub⟩ := long_mem.mp hp
      refine ⟨by rw [List.length_append, l]; rfl, nodup_snoc.mpr ⟨nd, of_decide_eq_true hc2⟩, fun d hd => ?_⟩
      rcases List.mem_append.mp hd with z | z
      · exact sub d z
      · rw [List.mem_singleton.mp z]
        exact hc1
    · rintro ⟨l, nd, sub⟩
      have ne : o ≠ [] := fun z => by rw [z] at l; cases l
      have e : o.dropLast ++ [o.getLast ne] = o := List.dropLast_concat_getLast ne
      rw [← e] at nd sub
      obtain ⟨nd1, nd2⟩ := nodup_snoc.mp nd
      refine ⟨o.dropLast, long_mem.mpr ⟨by rw [List.length_dropLast, l]; rfl, nd1, fun d hd => sub d (List.mem_append_left _ hd)⟩, List.mem_map.mpr ⟨o.getLast ne, List.mem_filter.mpr ⟨sub _ (List.mem_append_right _ (List.mem_singleton.mpr rfl)), decide_eq_true nd2⟩, e⟩⟩
theorem lists_mem {cols : List Nat} {n : Nat} {o : List Nat} : o ∈ listsM cols n ↔ o ≠ [] ∧ o.length ≤ n ∧ o.Nodup ∧ ∀ c ∈ o, c ∈ cols := by
  unfold listsM
  rw [List.mem_flatMap]
  constructor
  · rintro ⟨k, hk, ho⟩
    obtain ⟨l, r⟩ := long_mem.mp ho
    have := List.mem_range.mp hk
    exact ⟨(fun z => by rw [z] at l; exact nomatch l), (by omega), r⟩
  · rintro ⟨ne, le, r⟩
    have pos : 0 < o.length := List.length_pos_iff.mpr ne
    exact ⟨o.length - 1, List.mem_range.mpr (by omega), long_mem.mpr ⟨by omega, r⟩⟩
theorem price_alike {cols : List Nat} {rows : List (List Int)} {o o' : List Nat} {es : List (Nat × Int)} {rc : Option (Nat × Int × Int)} (h : usedM o es rc = usedM o' es rc) : priceM cols rows o es rc = priceM cols rows o' es rc := by
  unfold priceM aheadM behindM
  rw [h]
/-! ### chosen by and by: the order in which lists were chosen is one that the search meets -/
section
variable (sv most : List (List Nat) → Int) (choice : List (List Nat)) (many : Nat)
variable {sv most choice many}
end
end My

set_option Elab.async false
set_option linter.all false
set_option maxRecDepth 100000
set_option maxHeartbeats 2000000
namespace My
open PySem PySem.Spec PyProof.Rows L2
/-! ### min(list, key=function): the first item whose key is least -/
/-- the frame X while a built-in that it called runs; nothing is let out -/
abbrev inB (X : Cx) : Cx := { X with A := X.A.in1, xe := fun _ _ => False }
section
variable {X : Cx} {pins : List (Addr × Obj)} {σ : L2.St} {H : Hp} {s : Shared}
theorem toB (I : Inv X pins σ H s) : Inv (inB X) pins σ H s :=
  { I with ok := { I.ok with hd := fun h => I.ok.hd h, frames := I.ok.frames } }
theorem ofB (k : X.Ok) (I : Inv (inB X) pins σ H s) : Inv X pins σ H s := { I with ok := k }
end
/-- calls of the value fv with one argument, made by a built-in -/
def KeyR (Y : Cx) (pn : List (Addr × Obj)) (σ : L2.St) (fv : Value) (kr : V → Hp → VK → Prop) : Prop :=
  ∀ (s : Shared) (H : Hp) (x : V) (u : Value) (Q : VK) (E : Value → Shared → Prop), Inv Y pn σ H s → RelV x u → kr x H Q → wpAny (model Y.prog Y.w) Y.A (call fv [u]) (EP Y pn σ Q) E s
/-- the list that min keeps: the best item and its key -/
abbrev bestO (items : Array Value) (c : Nat) : Obj := { cls := .type "list", dict := none, data := .seq items c, slots := #[] }
/-- an address of min's own -/
structure Mine (Y : Cx) (pn : List (Addr × Obj)) (S : Addr) : Prop where
  late : Y.s_0.heap.objs.size ≤ S
  cell : ∀ x c, Y.env.cells.lookup x = some c → c ≠ S
  pins : ∀ p ∈ Y.pn ++ pn, p.1 ≠ S
/-- between two turns: i items of the list at a are out of the iterator it -/
structure Best (Y : Cx) (pn : List (Addr × Obj)) (σ : L2.St) (a it S : Addr) (items : Array Value) (c i : Nat) (H : Hp) (s : Shared) : Prop where
  inv : Inv Y ((S, bestO items c) :: pn) σ H s
  iter : s.heap.IsListIter it a i
  out : FpOk Y ((S, bestO items c) :: pn) H it
section
variable {Y : Cx} {pn : List (Addr × Obj)} {σ : L2.St} {a it S : Addr} {items : Array Value} {c i : Nat} {H : Hp} {s : Shared}
theorem Best.own (B : Best Y pn σ a it S items c i H s) : s.heap.get? S = some (bestO items c) := (B.inv.pin _ (List.mem_append_right _ List.mem_cons_self)).1
/-- the iterator gives the next item: it is pinned from now on -/
theorem Best.next {xs : List V} {x : V} {Q : Option Value → Shared → Prop} {E : Value → Shared → Prop} (B : Best Y pn σ a it S items c i H s) (hq : SqL Y.K H a xs) (hx : xs[i]? = some x)
    (k : ∀ (u : Value) (o : Obj) (s' : Shared), RelV x u → (∀ h : Heap, h.get? it = some o → h.IsListIter it a (i + 1)) → Inv Y ((it, o) :: (S, bestO items c) :: pn) σ H s' → Q (some u) s') : wpAny (model Y.prog Y.w) Y.A (pyNext (.ref it)) Q E s := by
  obtain ⟨its, vals, l, _⟩ := B.inv.list hq
  obtain ⟨u, hu, ru⟩ := vals.get hx
  refine wpAny_pyNext_list_item B.iter l.isList (x := u) (by simpa using hu) fun h' it' sb => ?_
  have J := past (t' := s.toks) B.inv B.out fun b u ne e => (sb.2 b ne).trans e
  obtain ⟨o, e, cls, d⟩ := id it'
  refine k u o _ ru (fun h e' => it'.at fun o2 e2 => ?_) (J.pins_of fun p hp => ?_)
  · rw [e] at e2
    exact e'.trans e2
  · rcases List.mem_cons.mp hp with z | z
    · rw [z]
      exact ⟨e, B.out.1, B.out.2.1, B.out.2.2.1, fun v q => by rw [d] at q; cases q⟩
    · exact J.pin p (List.mem_append_right _ z)
/-- a turn is over -/
theorem Best.turned {o : Obj} {items' : Array Value} {c' : Nat} {H' : Hp} {s' s'' : Shared} (m : Mine Y pn S) (ne : S ≠ it) (B : Best Y pn σ a it S items c i H s) (ito : ∀ h : Heap, h.get? it = some o → h.IsListIter it a (i + 1)) (I : Inv Y ((it, o) :: (S, bestO items c) :: pn) σ H' s')
    (os : s''.os = s'.os) (bare : AllBare s''.gens) (kp : ∀ b u, b ≠ S → s'.heap.get? b = some u → s''.heap.get? b = some u) (own : s''.heap.get? S = some (bestO items' c')) : Best Y pn σ a it S items' c' (i + 1) H' s'' := by
  obtain ⟨e, n, _⟩ := I.pin (it, o) (List.mem_append_right _ List.mem_cons_self)
  have I1 : Inv Y ((S, bestO items c) :: pn) σ H' s' := I.pins_of fun p hp => I.pin p (List.mem_append_right _ (List.mem_cons_of_mem _ hp))
  refine ⟨woke I1 m.late m.cell m.pins os bare kp own (fun v z => nomatch z), ito _ (kp it o ne.symm e), n, B.out.2.1, B.out.2.2.1, B.out.2.2.2.1, B.out.2.2.2.2.1, fun p hp => ?_⟩
  rcases List.mem_append.mp hp with z | z
  · exact B.out.2.2.2.2.2 p (List.mem_append_left _ z)
  · rcases List.mem_cons.mp z with q | q
    · rw [q]
      exact ne
    · exact B.out.2.2.2.2.2 p (List.mem_append_right _ (List.mem_cons_of_mem _ q))
end
section
variable {Y : Cx} {A : Around} {pn : List (Addr × Obj)} {σ : L2.St} {a it S f : Addr} {xs : List V} {kr : V → Hp → VK → Prop} {r : R2} {W : Nat → V → V → Hp → Prop}
theorem min_turns (hA : A.in1 = Y.A) (hc : Y.calm = true) (hxe : ∀ e s, Y.xe e s → False) (m : Mine Y pn S) (ne : S ≠ it) (key : ∀ o o', KeyR Y ((it, o) :: (S, o') :: pn) σ (.ref f) kr) (ord : OpR Y (compareOp .Lt) r)
    (hl : ∀ i b k H, W i b k H → SqL Y.K H a xs)
    (step : ∀ i x b k H, xs[i]? = some x → W i b k H → kr x H fun kx H1 => r kx k H1 fun y H2 => ∃ t : Bool, y = .bl t ∧ W (i + 1) (if t = true then x else b) (if t = true then kx else k) H2) :
    ∀ (n i : Nat) (s : Shared) (b k : V) (bv kv : Value) (H : Hp) (c : Nat), i + n = xs.length → Best Y pn σ a it S #[bv, kv] c i H s → RelV b bv → RelV k kv → W i b k H →
      codeAny (model Y.prog Y.w) A (.builtin "min.loop" ⟨[.ref it, .ref f, .ref S], []⟩) (fun r s' => ∃ v, r = .ok (.ret v) ∧ EP Y pn σ (fun y H' => ∃ k', W xs.length y k' H') v s') s := by
  intro n
  induction n with
  | zero =>
    intro i s b k bv kv H c e B rb rk w
    obtain rfl : i = xs.length := e
    obtain ⟨its, vals, l, _⟩ := B.inv.list (hl _ _ _ _ w)
    have len := vals.length
    refine codeAny_builtin F.entry_min_loop ?_
    rw [Around.under_plainId F.plain_min_loop _, hA]
    refine wpAny_bind (m := seqItems? (.ref S)) (wpAny_seqItems B.own rfl ?_)
    refine wpAny_bind (wpAny_tryCatch (m := pyNext (.ref it)) (wpAny_pyNext_list_end (B.inv.ok.hd hc) B.iter l.isList (by simp; omega) fun h' keep => ?_))
    have J := past (t' := s.toks) B.inv B.out keep
    have own : h'.get? S = some (bestO #[bv, kv] c) := (J.pin (S, bestO #[bv, kv] c) (List.mem_append_right _ List.mem_cons_self)).1
    refine wpAny_bind (m := updateSeq S fun _ => #[]) (wpAny_updateSeq own rfl (wpAny_bind (wpAny_letGo (wpAny_pure ?_))))
    refine ⟨bv, rfl, b, H, ?_, rb, k, w⟩
    have J2 := woke (o' := bestO #[] (c + 1)) (s' := { s with heap := h'.update S (Obj.mapSeq fun _ => #[]) }) J m.late m.cell m.pins rfl J.bare (fun b u ne e => (Heap.get?_update_other _ _ (Ne.symm ne)).trans e) (show (h'.update S (Obj.mapSeq fun _ => #[])).get? S = some (bestO #[] (c + 1)) from Heap.get?_update_self _ own rfl) fun v z => nomatch z
    exact J2.pins_of fun p hp => J2.pin p (List.mem_append_right _ (List.mem_cons_of_mem _ hp))
  | succ n ih =>
    intro i s b k bv kv H c e B rb rk w
    obtain ⟨x, hx⟩ : ∃ x, xs[i]? = some x := ⟨_, List.getElem?_eq_getElem (by omega)⟩
    refine codeAny_builtin F.entry_min_loop ?_
    rw [Around.under_plainId F.plain_min_loop _, hA]
    refine wpAny_bind (m := seqItems? (.ref S)) (wpAny_seqItems B.own rfl ?_)
    refine wpAny_bind (wpAny_tryCatch (m := pyNext (.ref it)) (B.next (hl _ _ _ _ w) hx fun u o s1 ru ito I1 => ?_))
    refine wpAny_bind (wpAny_tryCatch (m := holding [u] (call (.ref f) [u])) (wpAny_holding (thn (key o _ s1 H x u _ _ I1 ru (step i x b k H hx w)) fun kx s2 h2 => ?_)))
    obtain ⟨kw, H2, I2, rkx, q2⟩ := h2
    refine wpAny_bind (wpAny_tryCatch (wpAny_holding (wpAny_bind (m := richCompare .Lt kx kv) (wpAny_mono (ord _ s2 σ H2 kw k kx kv _ I2 rkx rk q2) (fun ans s3 h3 => ?_) fun e s' z => (hxe e s' z).elim))))
    obtain ⟨y, H3, I3, ry, t, ey, w3⟩ := h3
    subst ey
    obtain rfl : ans = .bool t := ry
    refine wpAny_bind (wpAny_holding (wpAny_truthy_bool (wpAny_bind (wpAny_letGo (wpAny_pure ?_)))))
    have own3 : s3.heap.get? S = some (bestO #[bv, kv] c) := (I3.pin (S, _) (List.mem_append_right _ (List.mem_cons_of_mem _ List.mem_cons_self))).1
    cases t with
    | true =>
      rw [if_pos rfl] at w3
      rw [if_pos rfl] at w3
      simp only [if_true]
      refine wpAny_bind (m := updateSeq S fun _ => #[u, kx]) (wpAny_updateSeq own3 rfl (wpAny_bind (wpAny_letGo (wpAny_pure ⟨plainId_quiet F.plain_min_loop _, ?_⟩))))
      exact ih (i + 1) _ x kw u kx H3 c (by omega) (B.turned m ne ito I3 rfl I3.bare (fun b u ne e => (Heap.get?_update_other _ _ (Ne.symm ne)).trans e) (Heap.get?_update_self _ own3 rfl)) ru rkx w3
    | false =>
      rw [if_neg (by decide), if_neg (by decide)] at w3
      simp only [Bool.false_eq_true, if_false]
      refine wpAny_bind (wpAny_letGo (wpAny_pure ⟨plainId_quiet F.plain_min_loop _, ?_⟩))
      exact ih (i + 1) _ b k bv kv H3 c (by omega) (B.turned m ne ito I3 rfl I3.bare (fun b u ne e => e) own3) rb rk w3
/-- the first turn: whatever comes is the best -/
theorem min_first {x0 : V} {H : Hp} {s : Shared} (hA : A.in1 = Y.A) (hc : Y.calm = true) (hxe : ∀ e s, Y.xe e s → False) (m : Mine Y pn S) (ne : S ≠ it) (key : ∀ o o', KeyR Y ((it, o) :: (S, o') :: pn) σ (.ref f) kr) (ord : OpR Y (compareOp .Lt) r)
    (hs : SqL Y.K H a xs) (hl : ∀ i b k H, W i b k H → SqL Y.K H a xs) (h0 : xs[0]? = some x0) (first : kr x0 H fun k H1 => W 1 x0 k H1)
    (step : ∀ i x b k H, xs[i]? = some x → W i b k H → kr x H fun kx H1 => r kx k H1 fun y H2 => ∃ t : Bool, y = .bl t ∧ W (i + 1) (if t = true then x else b) (if t = true then kx else k) H2) (B : Best Y pn σ a it S #[] 0 0 H s) :
    codeAny (model Y.prog Y.w) A (.builtin "min.loop" ⟨[.ref it, .ref f, .ref S], []⟩) (fun r s' => ∃ v, r = .ok (.ret v) ∧ EP Y pn σ (fun y H' => ∃ k', W xs.length y k' H') v s') s := by
  have pos : 0 < xs.length := (List.getElem?_eq_some_iff.mp h0).1
  refine codeAny_builtin F.entry_min_loop ?_
  rw [Around.under_plainId F.plain_min_loop _, hA]
  refine wpAny_bind (m := seqItems? (.ref S)) (wpAny_seqItems B.own rfl ?_)
  refine wpAny_bind (wpAny_tryCatch (m := pyNext (.ref it)) (B.next hs h0 fun u o s1 ru ito I1 => ?_))
  refine wpAny_bind (wpAny_tryCatch (m := holding [u] (call (.ref f) [u])) (wpAny_holding (thn (key o _ s1 H x0 u _ _ I1 ru first) fun kx s2 h2 => ?_)))
  obtain ⟨kw, H2, I2, rkx, w2⟩ := h2
  have own2 : s2.heap.get? S = some (bestO #[] 0) := (I2.pin (S, _) (List.mem_append_right _ (List.mem_cons_of_mem _ List.mem_cons_self))).1
  refine wpAny_bind (m := updateSeq S fun _ => #[u, kx]) (wpAny_updateSeq own2 rfl (wpAny_pure ⟨plainId_quiet F.plain_min_loop _, ?_⟩))
  exact min_turns hA hc hxe m ne key ord hl step (xs.length - 1) 1 _ x0 kw u kx H2 (0 + 1) (by omega) (B.turned m ne ito I2 rfl I2.bare (fun b u ne e => (Heap.get?_update_other _ _ (Ne.symm ne)).trans e) (Heap.get?_update_self _ own2 rfl)) ru rkx w2
end
section
variable {X : Cx} {pn : List (Addr × Obj)} {σ : L2.St} {a f : Addr} {xs : List V} {kr : V → Hp → VK → Prop} {r : R2} {W : Nat → V → V → Hp → Prop}
theorem call_minK {x0 : V} {H : Hp} {s : Shared} {Q : VK} {E : Value → Shared → Prop} (I : Inv X pn σ H s) (hc : X.calm = true) (key : ∀ p q, KeyR (inB X) (p :: q :: pn) σ (.ref f) kr) (ord : OpR (inB X) (compareOp .Lt) r)
    (hs : SqL X.K H a xs) (hl : ∀ i b k H, W i b k H → SqL X.K H a xs) (h0 : xs[0]? = some x0) (first : kr x0 H fun k H1 => W 1 x0 k H1)
    (step : ∀ i x b k H, xs[i]? = some x → W i b k H → kr x H fun kx H1 => r kx k H1 fun y H2 => ∃ t : Bool, y = .bl t ∧ W (i + 1) (if t = true then x else b) (if t = true then kx else k) H2) (fin : ∀ b k H, W xs.length b k H → Q b H) :
    wpAny (model X.prog X.w) X.A (call (.builtin "min") [.ref a] [(Str.ofString "key", .ref f)]) (EP X pn σ Q) E s := by
  obtain ⟨its, vals, l, _⟩ := I.list hs
  refine PyProof.Rows.kmk_tree F.kind_min F.plain_min F.entry_min (PyProof.Rows.kmk_min_key _ _) ?_
  refine wpAny_bind (m := Builtin.Builtins.bindParams "min" ["key", "default"] 0 ⟨[], [(Str.ofString "key", .ref f)]⟩) (wpAny_of_eq rfl (wpAny_bind (wpAny_pure ?_)))
  refine wpAny_bind (wpAny_pyIter_list l.isList (wpAny_bind (wpAny_newObj_type ?_)))
  generalize hit : s.heap.objs.size = it
  generalize hi1 : s.heap.push _ = h1
  have at1 : h1.objs.size = it + 1 := by rw [← hi1, Heap.size_push, hit]
  have I1 : Inv (inB X) pn σ H { s with heap := h1 } := toB (grew I rfl I.bare fun b u e => by rw [← hi1]; exact Heap.get?_push_of_some _ e)
  have fresh : H it = none := I.hok.fresh (Nat.le_of_eq hit)
  have freeS : H (it + 1) = none := I1.hok.fresh (Nat.le_of_eq at1)
  have FS : FpOk (inB X) pn H (it + 1) := I1.fpOk (Nat.le_of_eq at1) freeS
  have FI : FpOk (inB X) pn H it := (toB I).fpOk (Nat.le_of_eq hit) fresh
  have own : (h1.push (bestO #[] 0)).get? (it + 1) = some (bestO #[] 0) := by
    rw [← at1]
    exact Heap.get?_push_size _ rfl
  have I2 : Inv (inB X) ((it + 1, bestO #[] 0) :: pn) σ H { s with heap := h1.push (bestO #[] 0) } := by
    have J := grew I1 (s' := { s with heap := h1.push (bestO #[] 0) }) rfl I1.bare fun b u e => Heap.get?_push_of_some _ e
    refine J.pins_of fun p hp => ?_
    rcases List.mem_cons.mp hp with z | z
    · rw [z]
      exact ⟨own, FS.1, FS.2.1, FS.2.2.1, fun v z => nomatch z⟩
    · exact J.pin p (List.mem_append_right _ z)
  have iter1 : h1.IsListIter it a 0 := by
    rw [← hi1, ← hit]
    exact ⟨_, Heap.get?_push_size _ rfl, rfl, rfl⟩
  have iter : (h1.push (bestO #[] 0)).IsListIter it a 0 := iter1.at fun o e => Heap.get?_push_of_some _ e
  have B : Best (inB X) pn σ a it (it + 1) #[] 0 0 H { s with heap := h1.push (bestO #[] 0) } := ⟨I2, iter, FI.1, FI.2.1, FI.2.2.1, FI.2.2.2.1, FI.2.2.2.2.1, fun p hp => by
    rcases List.mem_append.mp hp with z | z
    · exact FI.2.2.2.2.2 p (List.mem_append_left _ z)
    · rcases List.mem_cons.mp z with q | q
      · rw [q]
        exact Nat.succ_ne_self it
      · exact FI.2.2.2.2.2 p (List.mem_append_right _ q)⟩
  have M : Mine (inB X) pn (it + 1) := ⟨Nat.le_trans I.sz (by rw [hit]; exact Nat.le_succ it), FS.2.2.2.2.1, FS.2.2.2.2.2⟩
  rw [at1]
  refine wpAny_pure ⟨plainId_quiet F.plain_min_loop _, codeAny_mono (min_first (Y := inB X) (A := X.A) rfl hc (fun _ _ z => z) M (Nat.succ_ne_self it) (fun o o' => key _ _) ord hs hl h0 first step B) fun r s' h => ?_⟩
  obtain ⟨v, rfl, y, H', J, ry, k', w⟩ := h
  exact ⟨y, H', ofB I.ok J, ry, fin _ _ _ w⟩
end
end My

set_option Elab.async false
set_option linter.all false
set_option maxRecDepth 100000
set_option maxHeartbeats 2000000
namespace My
open PySem PySem.Spec PyProof.Rows L2
open NdefX (startF slotAt)
/-! ### min(list, key=lambda x: body) -/
/-- its reading: the list, then for the made lambda (its code object at c') an invariant W over (turns, best item, its key, heap) -/
def tMinLam (K : PySem.W.Frag) (P : Addr) (q : Str) (r : R2) (N : List Str) (js : List Nat) (tb te : TE) : TE := fun σ H Q => te σ H fun v H1 => LamX.TabS H1 P q ∧ ∃ (a : Addr) (xs : List V) (x0 : V), v = .ref a ∧ SqL K H1 a xs ∧ xs[0]? = some x0 ∧
  ∀ (c' : Addr) (H2 : Hp), (∀ b o, b ≠ P → H1 b = some o → H2 b = some o) → LamX.TabS H2 P q → H2 c' = some (LamX.CodeO c' q) → ∃ W : Nat → V → V → Hp → Prop, (∀ i b k H3, W i b k H3 → SqL K H3 a xs ∧ H3 c' = some (LamX.CodeO c' q)) ∧ SqL K H2 a xs ∧
    tb (startF N [x0] (js.map (slotAt σ))) H2 (fun k H3 => W 1 x0 k H3) ∧
    (∀ i x b k H3, xs[i]? = some x → W i b k H3 → tb (startF N [x] (js.map (slotAt σ))) H3 fun kx H4 => r kx k H4 fun y H5 => ∃ t : Bool, y = .bl t ∧ W (i + 1) (if t = true then x else b) (if t = true then kx else k) H5) ∧
    ∀ b k H3, W xs.length b k H3 → Q b H3
/-- what follows the list in the reading, for an argument list of one -/
def onOne (R : V → Hp → Prop) : List V → Hp → Prop
  | [v], H => R v H
  | _, _ => False
theorem onOne_of {R : V → Hp → Prop} {vs : List V} {H : Hp} (h : onOne R vs H) : ∃ v, vs = [v] ∧ R v H :=
  match vs, h with
  | [v], h => ⟨v, rfl, h⟩
section
variable {X : Cx}
/-- a made function is none of the frames -/
theorem lam_pin {pins : List (Addr × Obj)} {σ : L2.St} {H : Hp} {s : Shared} {f : Addr} {o : Obj} {fd : FuncData} (I : Inv X pins σ H s) (hf : s.heap.get? f = some o) (hd : o.data = .func fd) (hn : H f = none) (hs : f ∉ frs X.stack) : Inv X ((f, o) :: pins) σ H s := by
  refine I.pins_of fun p hp => ?_
  rcases List.mem_cons.mp hp with z | z
  · rw [z]
    refine ⟨hf, hn, fun e => ?_, fun hb => hs ?_, fun v q => ?_⟩
    · obtain ⟨m, ⟨o', es, ep, h1, h2, _⟩, _⟩ := I.loc
      have e' : f = X.env.locals := e
      rw [← e', hf] at h1
      obtain rfl := Option.some.inj h1
      rw [hd] at h2
      cases h2
    · rcases I.ok.stk with e | ⟨e, ef⟩
      · rw [e]
        exact hb
      · rw [e]
        unfold frs
        rw [List.filterMap_cons, ef]
        exact List.mem_cons_of_mem _ hb
    · have q' : o.data = .cell v := q
      rw [hd] at q'
      cases q'
  · exact I.pin p (List.mem_append_right _ z)
/-- a lambda is made: its code object comes out of the maker's table at P, or is new and goes into it; all else stays -/
theorem lam_new {pins : List (Addr × Obj)} {σ : L2.St} {H : Hp} {s : Shared} {c P : Addr} {params : Arguments} {body : Expr} {scope : Scope} {pos : Pos} {E : Value → Shared → Prop} {Q : Value → Shared → Prop} (I : Inv X pins σ H s) (TB : LamX.TabB X.base X.mg c P) (hcode : X.env.code = .ref c)
    (hT : LamX.TabS H P (X.env.qual ++ "<lambda>")) (hdef : defaultsOf params X.env = ([], [])) (caught : ∀ y ∈ scope.names, y.2 = .free → ∃ c, X.env.cells.lookup y.1 = some c)
    (h : ∀ (f c' : Addr) (pm ctv : Value) (H1 : Hp) (s' : Shared), Inv X pins σ H1 s' → (∀ b o, b ≠ P → H b = some o → H1 b = some o) → LamX.TabS H1 P (X.env.qual ++ "<lambda>") →
      s'.heap.get? f = some (PySem.W.kla_obj "<lambda>" (X.env.qual ++ "<lambda>") params body scope (cloFrom X.env.cells scope.names []) pm c' ctv) → H1 f = none → f ∉ frs X.stack → H1 c' = some (LamX.CodeO c' (X.env.qual ++ "<lambda>")) → Q (.ref f) s') :
    wpAny (model X.prog X.w) X.A (eval (.Lambda params body scope pos) X.env) Q E s := by
  obtain ⟨ps, hP, tri, names⟩ := hT
  have raw := I.hok P _ hP
  have late : ∀ f, s.heap.objs.size ≤ f → f ∉ frs X.stack := fun f le z => by
    rcases List.mem_cons.mp (I.stkSub _ z) with e | e
    · exact Nat.lt_irrefl _ (Nat.lt_of_lt_of_le (e ▸ I.lt) le)
    · exact I.nofs le e
  refine PySem.W.kla_eval hdef ?_
  match hf : codeAmong pos ps.toList with
  | some cv =>
    obtain ⟨c', rfl, at'⟩ := names pos cv hf
    exact PySem.W.kla_makeFunctionHit (mg := X.mg) (c := c) (P := P) (ps := ps) (closure_ok caught) I.ok.glob (I.mod.glob.keeps I.bk) hcode (TB.code.keeps I.bk) raw tri hf (TB.bm.keeps I.bk) fun ctv g tk kp le =>
      h _ c' _ ctv H _ (I.kept (t' := tk) fun b o e => Heap.get?_push_of_some _ (kp b o e)) (fun _ _ _ e => e) ⟨ps, hP, tri, names⟩ (Heap.get?_push_size _ rfl) (I.hok.fresh le) (late _ le) at'
  | none =>
    refine PySem.W.kla_makeFunction (mg := X.mg) (c := c) (P := P) (ps := ps) (closure_ok caught) I.ok.glob (I.mod.glob.keeps I.bk) hcode (TB.code.keeps I.bk) raw tri hf TB.gP (TB.bm.keeps I.bk) fun c' ctv g tk ext ge lt isC tab => ?_
    obtain ⟨_, oc, vs, t, ec, hoc, hd, hv⟩ := isC
    cases ec
    have fresh : H c' = none := I.hok.fresh ge
    have apart : P ≠ c' := ne_of_none hP fresh
    have sz : s.heap.objs.size ≤ g.objs.size := Nat.le_trans ge (Nat.le_of_lt lt)
    have J := LamX.inv_table (t' := tk) (more := #[rawInt pos.line, rawInt pos.col, .ref c']) (h' := g.push (PySem.W.kla_obj "<lambda>" (X.env.qual ++ "<lambda>") params body scope (cloFrom X.env.cells scope.names []) ((X.mg "__name__").getD .none) c' ctv)) I hP
      (fun b o ne e => Heap.get?_push_of_some _ (ext b o ne e)) (Heap.get?_push_of_some _ tab) ge ⟨oc, vs, t, Heap.get?_push_of_some _ hoc, hd, hv⟩
    have stays : ∀ b o, b ≠ P → H b = some o → (upd (upd H P (.tbl (ps ++ #[rawInt pos.line, rawInt pos.col, .ref c']))) c' (LamX.CodeO c' (X.env.qual ++ "<lambda>"))) b = some o := fun b o ne e => by
      rw [upd_ne (ne_of_none e fresh), upd_ne ne]
      exact e
    refine h g.objs.size c' _ ctv _ _ J stays ⟨_, (upd_ne apart).trans upd_same, ?_, fun p cv hc => ?_⟩ (Heap.get?_push_size _ rfl) ?_ (late _ sz) upd_same
    · rw [Array.toList_append]
      exact PySem.TriplesOk_snoc _ _ _ _ tri
    · rw [Array.toList_append] at hc
      rcases LamX.among_app _ tri hc with z | z
      · obtain ⟨c0, e1, e2⟩ := names p cv z
        exact ⟨c0, e1, stays _ _ (fun q => by rw [q, hP] at e2; exact LamX.codeO_ne _ (Option.some.inj e2).symm) e2⟩
      · exact ⟨c', z, upd_same⟩
    · have older : P < g.objs.size := Nat.lt_of_lt_of_le (Heap.lt_size raw) sz
      rw [upd_ne (Nat.ne_of_gt lt), upd_ne (Nat.ne_of_gt older)]
      exact I.hok.fresh sz
theorem pe_minLam {e body : Expr} {te tb : TE} {p1 p2 q1 lpos : Pos} {n1 : Option Str} {params : Arguments} {scope : Scope} {x : Str} {N fr : List Str} {js : List Nat} {k : Nat} {c P : Addr} {r : R2} (K : PySem.W.Frag) (hc : X.calm = true) (hr : Room (k + 2) X.A)
    (hg : Gl X "min") (hm : X.mg "min" = none) (TB : LamX.TabB X.base X.mg c P) (hcode : X.env.code = .ref c) (L : LamT X N x fr js params scope body) (hdef : defaultsOf params X.env = ([], []))
    (ord : OpR (inB X) (compareOp .Lt) r) (hA : PA X [e] (tCons te tNil)) (hbody : ∀ (A : Around) (s : Shared) (H : Hp) (f c' : Addr), Room k (lamX X N params scope f c' A s H).A → PE (lamX X N params scope f c' A s H) body tb) (hK : X.K = K := by rfl)
    (hb : bootBuiltins "min" = some (.builtin "min") := by decide +kernel)
    (hse : backTo p2 (starEach [e] X.env) = (false, eval e X.env) :: backTo p2 (starEach [] X.env) := by rfl) (hpl : (backTo p2 (starEach [e] X.env)).any (·.1) = false := by rfl)
    (hall : (backToKw p2 (keywordEach [⟨n1, .Lambda params body scope lpos, q1⟩] X.env)).all (·.1.isSome) = true := by rfl)
    (hnone : (backToKw p2 (keywordEach [⟨n1, .Lambda params body scope lpos, q1⟩] X.env)).any (·.1.isNone) = false := by rfl)
    (hks : (backToKw p2 (keywordEach [⟨n1, .Lambda params body scope lpos, q1⟩] X.env)).filterMap (·.1) = [Str.ofString "key"] := by rfl) :
    PE X (.Call (.Name "min" p1) [e] [⟨n1, .Lambda params body scope lpos, q1⟩] p2) (tMinLam K P (X.env.qual ++ "<lambda>") r N js tb te) := by
  subst hK
  constructor
  intro pins s σ H Q I h
  refine wpAny_Call_Name_kw (ld_blt I hg hm hb ?_)
  refine PyProof.Rows.callWith_kw (thn (hA.run p2 pins s σ H (onOne fun v H1 => LamX.TabS H1 P _ ∧ _) I h) fun us s1 h1 => ?_) hse hpl hall hnone
  obtain ⟨vs, H1, I1, r1, q1'⟩ := h1
  obtain ⟨v, rfl, tab1, a, xs, x0, rfl, hs, h0, q⟩ := onOne_of q1'
  obtain ⟨u, rfl, ru⟩ := vals1 r1
  cases ru
  rw [hks]
  show wpAny _ _ (evalAll [(do let v ← eval (.Lambda params body scope lpos) X.env; standAt p2; pure v)]) _ _ s1
  have hfree : ∀ y ∈ scope.names, y.2 = .free → ∃ c, X.env.cells.lookup y.1 = some c := fun y hy z => I.ok.has _ (L.free y hy z)
  refine wpAny_evalAll_cons (wpAny_bind (lam_new I1 TB hcode tab1 hdef hfree fun f c' pm ctv H2 s2 I2 ext tab2 hf hn hst hco => wpAny_bind (wpAny_standAt (wpAny_pure (wpAny_evalAll_nil ?_)))))
  have I3 := lam_pin I2 hf rfl hn hst
  obtain ⟨W, hW, hs2, first, step, fin⟩ := q c' H2 ext tab2 hco
  have key : ∀ p q, KeyR (inB X) (p :: q :: (f, _) :: pins) σ (.ref f) (fun x H Q => H c' = some (LamX.CodeO c' (X.env.qual ++ "<lambda>")) ∧ tb (startF N [x] (js.map (slotAt σ))) H Q) := fun p q s H x u Q E J ru z =>
    lam_call1 (X := inB X) (N := N) (js := js) (fr := fr) (k := k) (f := f) (c' := c') (pm := pm) (ctv := ctv) J ⟨L.names, L.free, L.caps, L.slots, L.bind⟩ J.ok.frames (hr.in1.mono (by omega)) ((J.pin (f, _) (List.mem_append_right _ (List.mem_cons_of_mem _ (List.mem_cons_of_mem _ List.mem_cons_self)))).1) z.1 ru
      (hbody X.A.in1 s H f c') z.2
  refine thn (call_minK (X := X) (pn := (f, _) :: pins) (W := W) I3 hc key ord hs2 (fun i b k H z => (hW i b k H z).1) h0 ⟨hco, first⟩ (fun i x b k H hx w => ⟨(hW i b k H w).2, step i x b k H hx w⟩) fin) fun v s' z => ?_
  obtain ⟨y, H', J, ry, qy⟩ := z
  exact ⟨y, H', J.pins_of fun p hp => J.pin p (List.mem_append_right _ (List.mem_cons_of_mem _ hp)), ry, qy⟩
end
end My

set_option Elab.async false
set_option linter.all false
set_option maxRecDepth 100000
set_option maxHeartbeats 2000000
namespace My
open PySem PySem.Spec PyProof.Rows L2
/-! ### for x, y, z in zip(a, b, c) over three lists -/
/-- the new objects of zip(a, b, c) over the heap h, the last one first -/
abbrev liO (l : Addr) : Obj := { cls := .type "list_iterator", data := .fields #[.ref l, .int 0 0] }
abbrev tuO (a b c : Value) : Obj := { cls := .type "tuple", data := .seq #[a, b, c] }
abbrev grown3 (h : Heap) (a b c : Addr) : Heap :=
  let n := h.objs.size
  (((((h.push (liO a)).push (liO b)).push (liO c)).push (tuO (.ref n) (.ref (n + 1)) (.ref (n + 2)))).push (tuO .none .none .none)).push { cls := .type "zip", data := .fields #[.none, .bool false, .bool false, .ref (n + 3), .ref (n + 4)] }
theorem zip3_new (a b c : Addr) (xs ys zs : Array Value) :
    Meets (Builtin.«zip.__new__» ⟨[.type "zip", .ref a, .ref b, .ref c], []⟩) (fun _ R s => s.heap.IsList a xs ∧ s.heap.IsList b ys ∧ s.heap.IsList c zs ∧ R (.ok (.ret (.ref (s.heap.objs.size + 5)))) { s with heap := grown3 s.heap a b c }) :=
  .of_wp fun prog w A R s h => by
    obtain ⟨hp, g, d, tk, os⟩ := s
    obtain ⟨la, lb, lc, h⟩ := h
    have isZ := sub_zip
    have at1 : Heap.IsList (Shared.heap ⟨hp, g, d, tk, os⟩) a xs := la
    have at2 : Heap.IsList (Shared.heap ⟨hp.push (liO a), g, d, tk, os⟩) b ys := Heap.IsList.push lb _
    have at3 : Heap.IsList (Shared.heap ⟨(hp.push (liO a)).push (liO b), g, d, tk, os⟩) c zs := Heap.IsList.push (Heap.IsList.push lc _) _
    simp only [grown3] at h
    have e1 : (hp.push (liO a)).objs.size = hp.objs.size + 1 := Heap.size_push ..
    have e2 : ((hp.push (liO a)).push (liO b)).objs.size = hp.objs.size + 2 := by rw [Heap.size_push, e1]
    have e3 : (((hp.push (liO a)).push (liO b)).push (liO c)).objs.size = hp.objs.size + 3 := by rw [Heap.size_push, e2]
    have e4 : ∀ o, ((((hp.push (liO a)).push (liO b)).push (liO c)).push o).objs.size = hp.objs.size + 4 := fun o => by rw [Heap.size_push, e3]
    have e5 : ∀ o o', (((((hp.push (liO a)).push (liO b)).push (liO c)).push o).push o').objs.size = hp.objs.size + 5 := fun o o' => by rw [Heap.size_push, e4]
    wp_walk using wpAny_pyIter_list at1, wpAny_pyIter_list at2, wpAny_pyIter_list at3
    refine ⟨_, rfl, ?_⟩
    simp only [liO, tuO] at *
    simp only [e1, e2, e3, e4, e5]
    exact h
end My

set_option Elab.async false
set_option linter.all false
set_option maxRecDepth 100000
set_option maxHeartbeats 2000000
namespace My
open PySem PySem.Spec PyProof.Rows L2
/-- the cells of a walk over zip(a, b, c) -/
structure Z3 where
  z : Addr
  TI : Addr
  TO : Addr
  i : Addr
  j : Addr
  k : Addr
abbrev Z3.fp (Z : Z3) : List Addr := [Z.z, Z.TI, Z.TO, Z.i, Z.j, Z.k]
abbrev Z3.wr (Z : Z3) : List Addr := [Z.z, Z.TO, Z.i, Z.j, Z.k]
theorem wr_fp {Z : Z3} {x : Addr} (h : x ∈ [Z.z, Z.TO, Z.i, Z.j, Z.k]) : x ∈ Z.fp := by
  simp only [List.mem_cons, List.not_mem_nil, or_false] at h
  rcases h with e | e | e | e | e <;> simp [e]
/-- m turns of it are over -/
structure Z3At (Z : Z3) (a b c : Addr) (m : Nat) (h : Heap) : Prop where
  zip : IsZip h Z.z Z.TI Z.TO .none
  its : IsTupOf3 h Z.TI (.ref Z.i) (.ref Z.j) (.ref Z.k)
  out : ∃ u v w, IsTupOf3 h Z.TO u v w
  i : h.IsListIter Z.i a m
  j : h.IsListIter Z.j b m
  k : h.IsListIter Z.k c m
theorem IsListIter.ob {h : Heap} {i l : Addr} {n : Nat} (s : h.IsListIter i l n) : ∃ o, h.get? i = some o ∧ ∀ v, o.data ≠ .cell v := by
  obtain ⟨o, e, _, d⟩ := s
  exact ⟨o, e, fun v z => by rw [d] at z; cases z⟩
theorem Z3At.obj {Z : Z3} {a b c : Addr} {m : Nat} {h : Heap} (s : Z3At Z a b c m h) : ∀ x ∈ Z.fp, ∃ o, h.get? x = some o ∧ ∀ v, o.data ≠ .cell v := fun x hx => by
  simp only [List.mem_cons, List.not_mem_nil, or_false] at hx
  obtain ⟨_, _, _, so⟩ := s.out
  rcases hx with e | e | e | e | e | e <;> rw [e]
  · exact ⟨_, s.zip, fun v z => nomatch z⟩
  · exact ⟨_, s.its, fun v z => nomatch z⟩
  · exact ⟨_, so, fun v z => nomatch z⟩
  · exact IsListIter.ob s.i
  · exact IsListIter.ob s.j
  · exact IsListIter.ob s.k
theorem Z3At.keep {Z : Z3} {a b c : Addr} {m : Nat} {h h' : Heap} (s : Z3At Z a b c m h) (kp : ∀ x ∈ Z.fp, ∀ o, h.get? x = some o → h'.get? x = some o) : Z3At Z a b c m h' := by
  obtain ⟨u, v, w, so⟩ := s.out
  exact ⟨kp _ (by simp) _ s.zip, kp _ (by simp) _ s.its, ⟨u, v, w, kp _ (by simp) _ so⟩, s.i.at (kp _ (by simp)), s.j.at (kp _ (by simp)), s.k.at (kp _ (by simp))⟩
/-- the lists as they stand at each turn, their items in a new tuple -/
def It3 (K : PySem.W.Frag) (a b c : Addr) : It :=
  ⟨fun i H => ∃ (xs ys zs : List V) (x y z : V), SqL K H a xs ∧ SqL K H b ys ∧ SqL K H c zs ∧ xs[i]? = some x ∧ ys[i]? = some y ∧ zs[i]? = some z,
    fun i H v H' => ∃ (T : Addr) (x y z : V), v = .ref T ∧ H T = none ∧ H' = upd H T (.tup [x, y, z]) ∧ (∀ xs, SqL K H a xs → xs[i]? = some x) ∧ (∀ ys, SqL K H b ys → ys[i]? = some y) ∧ ∀ zs, SqL K H c zs → zs[i]? = some z,
    fun i H => ∃ xs ys zs : List V, SqL K H a xs ∧ SqL K H b ys ∧ SqL K H c zs ∧ xs.length = i ∧ ys.length = i ∧ zs.length = i⟩
/-- the library's walk over lists that stand still, at one heap -/
def walk3 {P : Program} {w : World} {A : Around} (hA : A.handled = none) {Z : Z3} {a b c : Addr} (S : ZipSep3 Z.z Z.TI Z.TO Z.i Z.j Z.k [Z.i, a] [Z.j, b] [Z.k, c]) (ne : a ≠ Z.i ∧ b ≠ Z.j ∧ c ≠ Z.k) (xs ys zs : Array Value) :=
  WalksT.zipD3 (A := A) S (Draws.list (prog := P) (w := w) (A := A.in1) hA Z.i a ne.1 xs) (Draws.list (prog := P) (w := w) (A := A.in1) hA Z.j b ne.2.1 ys) (Draws.list (prog := P) (w := w) (A := A.in1) hA Z.k c ne.2.2 zs)
theorem vals3 {x y z : V} {u v w : Value} (a : RelV x u) (b : RelV y v) (c : RelV z w) : Vals [x, y, z] [u, v, w] := .cons a (.cons b (.cons c .nil))
theorem turn_zip3 {P : Program} {w : World} {K : PySem.W.Frag} {elts : List Expr} {kk : Nat} {tpos : Pos} {Z : Z3} {a b c : Addr} (S : ZipSep3 Z.z Z.TI Z.TO Z.i Z.j Z.k [Z.i, a] [Z.j, b] [Z.k, c]) (ne : a ≠ Z.i ∧ b ≠ Z.j ∧ c ≠ Z.k) :
    Turn P w K (.Tuple elts kk tpos) (It3 K a b c) Z.fp Z.z (Z3At Z a b c) where
  mem := List.mem_cons_self
  obj := fun _ _ st => st.obj
  keep := fun _ _ _ st kp => st.keep kp
  item := by
    rintro X rfl rfl rfl hc i pins s σ H E I free st ⟨xs, ys, zs, x, y, z, qx, qy, qz, hx, hy, hz⟩
    obtain ⟨us, ru, lu, _⟩ := I.list qx
    obtain ⟨vs, rv, lv, _⟩ := I.list qy
    obtain ⟨ws, rw', lw, _⟩ := I.list qz
    obtain ⟨u, hu, ru1⟩ := ru.get hx
    obtain ⟨v, hv, rv1⟩ := rv.get hy
    obtain ⟨w, hw, rw1⟩ := rw'.get hz
    have W := walk3 (P := X.prog) (w := X.w) (A := X.A) (I.ok.hd hc) S ne us.toArray vs.toArray ws.toArray
    have lt : i < min (min us.toArray.size vs.toArray.size) ws.toArray.size := by
      have h1 := (List.getElem?_eq_some_iff.mp hu).1
      have h2 := (List.getElem?_eq_some_iff.mp hv).1
      have h3 := (List.getElem?_eq_some_iff.mp hw).1
      simp only [List.size_toArray]
      omega
    refine W.item i s _ E lt ⟨st.zip, st.its, st.out, ⟨st.i, lu.isList⟩, ⟨st.j, lv.isList⟩, ⟨st.k, lw.isList⟩⟩ fun T vals h' tk pt late tup mid kp => ?_
    refine ⟨.ref T, rfl, W.go elts kk tpos i T { s with heap := h', toks := tk } _ E mid fun h2 st2 kp2 => ?_⟩
    have tup2 : h2.IsTuple T vals := tup.at fun o e => kp2 _ _ (W.apart _ _ _ mid) e
    obtain ⟨u', v', w', hu', hv', hw', rfl⟩ := pt
    obtain rfl : u = u' := by simpa [hu] using hu'
    obtain rfl : v = v' := by simpa [hv] using hv'
    obtain rfl : w = w' := by simpa [hw] using hw'
    obtain ⟨s1, s2, s3, s4, s5, s6⟩ := st2
    have all : ∀ d o, d ∉ Z.fp → s.heap.get? d = some o → h2.get? d = some o := fun d o n e => kp2 d o (fun z => n (wr_fp z)) (kp d o (fun z => n (wr_fp z)) e)
    have new : ObjOk X.prog X.w (upd H T (.tup [x, y, z])) h2 T (.tup [x, y, z]) := ⟨by show 3 ≤ sizeLine; decide, [u, v, w], vals3 ru1 rv1 rw1, tup2⟩
    have J : Inv X pins σ (upd H T (.tup [x, y, z])) { s with heap := h2, toks := tk } := I.turnedNew (ch := Z.fp) all free late new
    exact ⟨.ref T, _, J, rfl, ⟨T, x, y, z, rfl, I.hok.fresh late, rfl, fun l q => by rw [I.list_inj q qx]; exact hx, fun l q => by rw [I.list_inj q qy]; exact hy, fun l q => by rw [I.list_inj q qz]; exact hz⟩, ⟨s1, s2, s3, s4.1, s5.1, s6.1⟩, fun d hd => by
      obtain ⟨o, e, _⟩ := st.obj d hd
      rw [upd_ne (Nat.ne_of_lt (Nat.lt_of_lt_of_le (Heap.lt_size e) late))]
      exact (free d hd).1⟩
  done := by
    rintro X rfl rfl rfl hc i pins s σ H E I free st ⟨xs, ys, zs, qx, qy, qz, hx, hy, hz⟩
    obtain ⟨us, ru, lu, _⟩ := I.list qx
    obtain ⟨vs, rv, lv, _⟩ := I.list qy
    obtain ⟨ws, rw', lw, _⟩ := I.list qz
    have W := walk3 (P := X.prog) (w := X.w) (A := X.A) (I.ok.hd hc) S ne us.toArray vs.toArray ws.toArray
    have e : min (min us.toArray.size vs.toArray.size) ws.toArray.size = i := by
      have h1 := ru.length
      have h2 := rv.length
      have h3 := rw'.length
      simp only [List.size_toArray]
      omega
    refine W.done s _ E (e.symm ▸ ⟨st.zip, st.its, st.out, ⟨st.i, lu.isList⟩, ⟨st.j, lv.isList⟩, ⟨st.k, lw.isList⟩⟩) fun h' tk kp => ⟨rfl, I.turnedL (ch := Z.fp) (fun d o n q => kp d o (fun z => n (wr_fp z)) q) free⟩
  self := fun _ _ _ _ _ st h => wpAny_pyIter_zip st.zip h
end My

set_option Elab.async false
set_option linter.all false
set_option maxRecDepth 100000
set_option maxHeartbeats 2000000
namespace My
open PySem PySem.Spec PyProof.Rows L2
theorem zip3_type (a b c : Value) : checkTypeCall "zip" ⟨[a, b, c], []⟩ = pure () := by kernel_rfl
theorem zip3_check (a b c : Value) : checkBuiltinCall "zip.__new__" ⟨[.type "zip", a, b, c], []⟩ = pure () := by kernel_rfl
theorem init4 (a b c d : Value) : argsOk "object.__init__" ⟨[a, b, c, d], []⟩ := by
  unfold argsOk
  rw [signature?_of (id := "object.__init__") (n := ['_', '_', 't', 'i', 'n', 'i', '_', '_']) (o := ['t', 'c', 'e', 'j', 'b', 'o']) (by kernel_rfl) F.owner_object]
  kernel_rfl
section
variable {prog : Program} {w : World} {A : Around} {E : Value → Shared → Prop} {s : Shared} {a b c : Addr} {xs ys zs : Array Value}
/-- the cells of zip(a, b, c) made at a heap of n objects -/
abbrev cells3 (n : Nat) : Z3 := ⟨n + 5, n + 3, n + 4, n, n + 1, n + 2⟩
theorem call_zip3 {Q : Value → Shared → Prop} (la : s.heap.IsList a xs) (lb : s.heap.IsList b ys) (lc : s.heap.IsList c zs)
    (h : ∀ h', Z3At (cells3 s.heap.objs.size) a b c 0 h' → (∀ d o, s.heap.get? d = some o → h'.get? d = some o) → Q (.ref (s.heap.objs.size + 5)) { s with heap := h' }) :
    wpAny (model prog w) A (call (.type "zip") [.ref a, .ref b, .ref c]) Q E s := by
  refine callType_new F.called_zip (by decide) (zip3_type _ _ _) (zip3_check _ _ _) (fun obj => init4 obj _ _ _) F.entry_zip_new (zip3_new a b c xs ys zs) ⟨la, lb, lc, ?_⟩
  generalize hh : s.heap = h0 at h ⊢
  generalize hn : h0.objs.size = n at h ⊢
  have up : ∀ {h : Heap} {o o' : Obj} {x : Addr}, h.get? x = some o → (h.push o').get? x = some o := fun e => Heap.get?_push_of_some _ e
  have top : ∀ {h : Heap} {o : Obj} {x : Addr}, h.objs.size = x → o.isFreed = false → (h.push o).get? x = some o := fun e f => e ▸ Heap.get?_push_size _ f
  have sz : ∀ {h : Heap} {o : Obj} {k : Nat}, h.objs.size = k → (h.push o).objs.size = k + 1 := fun e => by rw [Heap.size_push, e]
  have z1 := sz (o := liO a) hn
  have z2 := sz (o := liO b) z1
  have z3 := sz (o := liO c) z2
  have z4 := sz (o := tuO (.ref n) (.ref (n + 1)) (.ref (n + 2))) z3
  have z5 := sz (o := tuO .none .none .none) z4
  have eg : grown3 h0 a b c = (((((h0.push (liO a)).push (liO b)).push (liO c)).push (tuO (.ref n) (.ref (n + 1)) (.ref (n + 2)))).push (tuO .none .none .none)).push { cls := .type "zip", data := .fields #[.none, .bool false, .bool false, .ref (n + 3), .ref (n + 4)] } := by
    simp only [grown3, hn]
  rw [eg]
  refine ⟨⟨_, top z5 rfl, rfl⟩, h _ ⟨top z5 rfl, up (up (top z3 rfl)), ⟨_, _, _, up (top z4 rfl)⟩, ⟨_, up (up (up (up (up (top hn rfl))))), rfl, rfl⟩, ⟨_, up (up (up (up (top z1 rfl)))), rfl, rfl⟩, ⟨_, up (up (up (top z2 rfl))), rfl, rfl⟩⟩ fun d o e => up (up (up (up (up (up e)))))⟩
end
theorem apart3 {n a b c : Nat} (la : a < n) (lb : b < n) (lc : c < n) : ZipSep3 (n + 5) (n + 3) (n + 4) n (n + 1) (n + 2) [n, a] [n + 1, b] [n + 2, c] := by
  constructor <;> first
    | (intro e; have e' : (_ : Nat) = _ := e; omega)
    | (intro e; simp only [List.mem_cons, List.not_mem_nil, or_false] at e; rcases e with e | e <;> (have e' : (_ : Nat) = _ := e; omega))
    | simp
def iZip3 (K : PySem.W.Frag) (ta : TA) : TI := fun σ H R => ta σ H fun vs H1 => ∃ (a b c : Addr) (xs ys zs : List V), vs = [.ref a, .ref b, .ref c] ∧ SqL K H1 a xs ∧ SqL K H1 b ys ∧ SqL K H1 c zs ∧ R (It3 K a b c) H1
theorem pi_zip3 {X : Cx} {e e2 e3 : Expr} {ta : TA} {p pos tpos : Pos} {elts : List Expr} {kk : Nat} (K : PySem.W.Frag) (hg : Gl X "zip") (hm : X.mg "zip" = none) (ha : PA X [e, e2, e3] ta) (hK : X.K = K := by rfl)
    (hs : starEach [e, e2, e3] X.env = (false, eval e X.env) :: starEach [e2, e3] X.env := by rfl) (hpl : (backTo pos (starEach [e2, e3] X.env)).any (·.1) = false := by rfl) :
    PI X (.Tuple elts kk tpos) (.Call (.Name "zip" p) [e, e2, e3] [] pos) (iZip3 K ta) := by
  subst hK
  constructor
  intro pins s σ H R I h
  refine Call_ (ld_blt I hg hm PyProof.Rows.boot_zip (PyProof.Rows.callWith_type1 (thn (ha.run pos pins s σ H _ I h) fun us s1 h1 => ?_) hs hpl))
  obtain ⟨vs, H1, I1, r1, a, b, c, xs, ys, zs, rfl, qx, qy, qz, q⟩ := h1
  obtain ⟨its, _, la, _⟩ := I1.list qx
  obtain ⟨its2, _, lb, _⟩ := I1.list qy
  obtain ⟨its3, _, lc, _⟩ := I1.list qz
  match us, r1 with
  | [_, _, _], .cons rfl (.cons rfl (.cons rfl .nil)) =>
    refine call_zip3 la.isList lb.isList lc.isList fun h' at0 kp => wpAny_pyIter_zip at0.zip ?_
    refine ⟨_, _, _, _, H1, rfl, I1.kept (t' := s1.toks) kp, turn_zip3 (Z := cells3 s1.heap.objs.size) (apart3 la.lt lb.lt lc.lt) ⟨Nat.ne_of_lt la.lt, Nat.ne_of_lt (Nat.lt_succ_of_lt lb.lt), Nat.ne_of_lt (Nat.lt_succ_of_lt (Nat.lt_succ_of_lt lc.lt))⟩, at0, fun d hd => ?_, q⟩
    have late : s1.heap.objs.size ≤ d := by
      simp only [List.mem_cons, List.not_mem_nil, or_false] at hd
      rcases hd with z | z | z | z | z | z <;> (rw [z]; first | exact Nat.le_add_right _ _ | exact Nat.le_refl _)
    exact I1.fpOk late (I1.hok.fresh late)
end My

set_option Elab.async false
set_option linter.all false
set_option maxRecDepth 100000
set_option maxHeartbeats 2000000
namespace My
open PySem PySem.Spec PyProof.Rows L2
open NdefX (NScope nscB nscope_by)
/-! ### what is told of a lambda's text -/
/-- the name of a def's lambda -/
abbrev lamQ (q : Str) : Str := q ++ ".<locals>." ++ "<lambda>"
def caughtB (sc scope : Scope) : Bool := scope.names.all fun y => match y.2 with
  | .free => (match sc.names.lookup y.1 with | some .cell => true | some .free => true | _ => false)
  | _ => true
def takenB (fr : List Str) (scope : Scope) : Bool := fr.all fun y => scope.names.any fun p => decide (p.1 = y) && (match p.2 with | .free => true | _ => false)
theorem lamT_by {X : Cx} {N fr : List Str} {js : List Nat} {params : Arguments} {body : Expr} {scope : Scope} {x : Str} (names : nscB N [x] fr scope = true) (caught : caughtB X.env.scope scope = true) (taken : takenB fr scope = true) (slots : js.map (fun j => X.N[j]?) = fr.map some)
    (bind : ∀ (pm ctv u : Value) (c' : Addr), bindArgs (PySem.W.kla_fn "<lambda>" (X.env.qual ++ "<lambda>") params body scope (cloFrom X.env.cells scope.names []) pm (.ref c') ctv) ⟨[u], []⟩ = pure [(x, u)]) : LamT X N x fr js params scope body := by
  refine ⟨nscope_by names, fun y hy e => ?_, fun y hy => ?_, slots, bind⟩
  · have q := List.all_eq_true.mp caught y hy
    rw [e] at q
    revert q
    cases X.env.scope.names.lookup y.1 with
    | none => exact fun q => nomatch q
    | some k => cases k <;> simp
  · obtain ⟨p, hp, q⟩ := List.any_eq_true.mp (List.all_eq_true.mp taken y hy)
    obtain ⟨n, k⟩ := p
    rw [Bool.and_eq_true] at q
    obtain ⟨q1, q2⟩ := q
    obtain rfl : n = y := of_decide_eq_true q1
    cases k with
    | free => exact hp
    | _ => cases q2
/-- the turns of a walk, whatever one turn asks -/
theorem turns {J : It} {n : Nat} {G : Hp → Prop} {Y : Nat → Hp → V → Hp → Prop} (w : Walk J n G Y) {Qd : Hp → Prop} {B : (Hp → Prop) → V → Hp → Prop} {H1 : Hp} (Pv : Nat → Hp → Prop) (h0 : Pv 0 H1) (hG : ∀ i H, i ≤ n → Pv i H → G H)
    (hs : ∀ i x H H', i < n → Pv i H → Y i H x H' → B (Pv (i + 1)) x H') (hd : ∀ H, Pv n H → Qd H) :
    ∃ W : Nat → Nat → Hp → Prop, (∃ m, W 0 m H1) ∧ ∀ i m H, W i m H → (J.stop i H ∧ Qd H) ∨ (J.go i H ∧ ∃ Nx : Hp → Prop, (∀ H', Nx H' → ∃ m', m' < m ∧ W (i + 1) m' H') ∧ ∀ x H', J.yld i H x H' → B Nx x H') := by
  refine ⟨fun i m H => i + m = n ∧ Pv i H, ⟨n, Nat.zero_add n, h0⟩, fun i m H ⟨e, p⟩ => ?_⟩
  have le : i ≤ n := by omega
  cases m with
  | zero =>
    obtain rfl : i = n := e
    exact .inl ⟨w.stops H (hG _ H le p), hd H p⟩
  | succ m => exact .inr ⟨w.goes i H (by omega) (hG _ H le p), Pv (i + 1), fun H' q => ⟨m, Nat.lt_succ_self m, by omega, q⟩, fun x H' y => hs i x H H' (by omega) p (w.yields i H x H' (by omega) (hG _ H le p) y)⟩
/-! ### how many lists there are -/
theorem long_len (cols : List Nat) : ∀ k, (longM cols k).length ≤ cols.length ^ k
  | 0 => Nat.le_refl _
  | k + 1 => by
    have ih := long_len cols k
    show ((longM cols k).flatMap _).length ≤ _
    have key : ∀ l : List (List Nat), (l.flatMap fun o => (cols.filter fun c => decide (c ∉ o)).map fun c => o ++ [c]).length ≤ l.length * cols.length := by
      intro l
      induction l with
      | nil => simp
      | cons o l ih2 =>
        rw [List.flatMap_cons, List.length_append, List.length_map, List.length_cons, Nat.succ_mul]
        have := List.length_filter_le (fun c => decide (c ∉ o)) cols
        omega
    rw [Nat.pow_succ]
    exact Nat.le_trans (key _) (Nat.mul_le_mul_right _ ih)
theorem long_small {cols : List Nat} {k : Nat} (h : cols.length ≤ 6) (hk : k ≤ 6) : (longM cols k).length ≤ 46656 :=
  Nat.le_trans (long_len cols k) (Nat.le_trans (Nat.pow_le_pow_left h k) (Nat.le_trans (Nat.pow_le_pow_right (by decide) hk) (by decide)))
theorem lists_succ (cols : List Nat) (n : Nat) : listsM cols (n + 1) = listsM cols n ++ longM cols (n + 1) := by
  unfold listsM
  rw [List.range_succ, List.flatMap_append]
  simp
theorem lists_small {cols : List Nat} (h : cols.length ≤ 6) : ∀ {n : Nat}, n ≤ 6 → (listsM cols n).length ≤ n * 46656
  | 0, _ => by
    show ([] : List (List Nat)).length ≤ _
    simp
  | n + 1, hn => by
    have ih := lists_small h (n := n) (by omega)
    have h1 := long_small (k := n + 1) h hn
    rw [lists_succ, List.length_append]
    omega
/-- one turn of the inner walk -/
theorem flat_snoc {α β : Type} (f : α → List β) (l : List α) (i : Nat) (a : α) (h : l[i]? = some a) : (l.take (i + 1)).flatMap f = (l.take i).flatMap f ++ f a := by
  obtain ⟨lt, e⟩ := List.getElem?_eq_some_iff.mp h
  rw [List.take_succ_eq_append_getElem lt, List.flatMap_append, e]
  simp
theorem flat_take {α β : Type} (f : α → List β) (l : List α) (n : Nat) : ((l.take n).flatMap f).length ≤ (l.flatMap f).length := by
  conv => rhs; rw [← List.take_append_drop n l, List.flatMap_append, List.length_append]
  exact Nat.le_add_right _ _
theorem filter_snoc {α : Type} (p : α → Bool) (l : List α) (i : Nat) (a : α) (h : l[i]? = some a) : (l.take (i + 1)).filter p = (l.take i).filter p ++ (if p a = true then [a] else []) := by
  obtain ⟨lt, e⟩ := List.getElem?_eq_some_iff.mp h
  rw [List.take_succ_eq_append_getElem lt, List.filter_append, e]
  congr 1
  by_cases q : p a = true <;> simp [q]
end My

set_option Elab.async false
set_option linter.all false
set_option maxRecDepth 100000
set_option maxHeartbeats 2000000
namespace My
open PySem PySem.Spec PyProof.Rows L2
/-! ### walks over what is a list or a tuple; the turns of a zip of three -/
/-- a list or a tuple of these -/
def SqA (K : PySem.W.Frag) (H : Hp) (a : Addr) (xs : List V) : Prop := SqL K H a xs ∨ SqT K H a xs
theorem SqA.same {K : PySem.W.Frag} {H H' : Hp} {a : Addr} {xs : List V} (h : SqA K H a xs) (s : Same H H') : SqA K H' a xs := h.imp (fun z => s.seq z) fun z => z.imp (fun y => y.imp (fun e => s _ _ e) fun ⟨o, e⟩ => ⟨o, s _ _ e⟩) id
def iSeq (K : PySem.W.Frag) (te : TE) : TI := fun σ H R => te σ H fun x H1 => ∃ (a : Addr) (xs : List V), x = .ref a ∧ SqA K H1 a xs ∧ ∀ (J : It) (G : Hp → Prop), Walk J xs.length G (YAt xs) → (∀ H', Same H1 H' → G H') → R J H1
section
variable {X : Cx}
theorem pi_seq {tg e : Expr} {te : TE} (K : PySem.W.Frag) (he : PE X e te) (hK : X.K = K := by rfl) : PI X tg e (iSeq K te) := by
  subst hK
  constructor
  intro pins s σ H R I h
  refine thn (he.run pins s σ H _ I h) fun v s1 h1 => ?_
  obtain ⟨x, H1, I1, r1, a, xs, rfl, h2, q⟩ := h1
  obtain rfl : v = .ref a := r1
  have fresh : ∀ b ∈ [s1.heap.objs.size], FpOk X pins H1 b := fun b hb => by
    rw [List.mem_singleton.mp hb]
    exact I1.fpOk (Nat.le_refl _) (I1.hok.fresh (Nat.le_refl _))
  have I2 : ∀ o, Inv X pins σ H1 { s1 with heap := s1.heap.push o } := fun o => grew I1 rfl I1.bare fun b u e => Heap.get?_push_of_some _ e
  rcases h2 with hq | hq
  · obtain ⟨its, _, l, _⟩ := I1.list hq
    have q := q (Itl X.K a) _ walk_list fun H' s => s.seq hq
    exact wpAny_pyIter_list l.isList ⟨_, _, _, _, H1, rfl, I2 _, turn_list a _, ⟨_, Heap.get?_push_size _ rfl, rfl, rfl⟩, fresh, q⟩
  · obtain ⟨its, _, l, _⟩ := I1.tuple hq
    have q := q (Itt X.K a) _ walk_tup fun H' s => (SqA.same (.inr hq) s).elim (fun z => hq.imp (fun y => y.imp (fun e => s _ _ e) fun ⟨o, e⟩ => ⟨o, s _ _ e⟩) id) id
    exact wpAny_pyIter_tuple (show s1.heap.IsTuple a its.toArray from l) ⟨_, _, _, _, H1, rfl, I2 _, turn_tuple a _, ⟨_, Heap.get?_push_size _ rfl, rfl, rfl⟩, fresh, q⟩
end
theorem fldK {X : Cx} {e : Expr} {f : Str} {pos : Pos} {ta : TE} (K : PySem.W.Frag) (he : PE X e ta) (hb : attributeBase e f X.env (eval e X.env) = eval e X.env) (hK : X.K = K := by rfl) : PE X (.Attribute e f pos) (tFld K ta f) := hK ▸ pe_fld he hb
theorem walk_zip3 {K : PySem.W.Frag} {a b c : Addr} {xs ys zs : List V} (e1 : ys.length = xs.length) (e2 : zs.length = xs.length) : Walk (It3 K a b c) xs.length (fun H => SqL K H a xs ∧ SqL K H b ys ∧ SqL K H c zs)
    (fun i H v H' => ∃ (T : Addr) (x y z : V), v = .ref T ∧ H T = none ∧ H' = upd H T (.tup [x, y, z]) ∧ xs[i]? = some x ∧ ys[i]? = some y ∧ zs[i]? = some z) := by
  refine ⟨fun i H hi q => ?_, fun H q => ⟨xs, ys, zs, q.1, q.2.1, q.2.2, rfl, e1, e2⟩, fun i H v H' hi q y => ?_⟩
  · exact ⟨xs, ys, zs, xs[i], ys[i]'(by omega), zs[i]'(by omega), q.1, q.2.1, q.2.2, List.getElem?_eq_getElem _, List.getElem?_eq_getElem _, List.getElem?_eq_getElem _⟩
  · obtain ⟨T, x, y', z, h1, h2, h3, h4, h5, h6⟩ := y
    exact ⟨T, x, y', z, h1, h2, h3, h4 _ q.1, h5 _ q.2.1, h6 _ q.2.2⟩
/-- all but tables stays -/
theorem Sx.ext {Ps : List Addr} {H H' : Hp} (t : TG Ps H) (s : Sx Ps H H') : LamX.ExtN H H' := fun b o h n => s b o (t.not h n) h
theorem TG.free {Ps : List Addr} {H : Hp} {p : Addr} (t : TG Ps H) (h : H p = none) : p ∉ Ps := fun hp => by
  obtain ⟨ps, h2, _⟩ := t p hp
  rw [h] at h2
  cases h2
theorem TG.put {Ps : List Addr} {H : Hp} {p : Addr} {o : HO} (t : TG Ps H) (h : p ∉ Ps) : TG Ps (L2.upd H p o) := fun q hq => by
  obtain ⟨ps, a, b⟩ := t q hq
  exact ⟨ps, keep_ne a (fun z : q = p => h (by rw [← z]; exact hq)), b⟩
end My

set_option Elab.async false
set_option linter.all false
set_option maxRecDepth 100000
set_option maxHeartbeats 2000000
namespace My
open PySem PySem.Spec PyProof.Rows L2
/-! ### sorted(tuple of texts), in full -/
abbrev leO : List Nat → List Nat → Bool := fun a b => decide (a ≤ b)
/-- lists of a choice as sorted puts them -/
def sortO (os : List (List Nat)) : List (List Nat) := os.mergeSort leO
theorem sortO_perm (os : List (List Nat)) : (sortO os).Perm os := List.mergeSort_perm os leO
theorem sortO_mem {os : List (List Nat)} {o : List Nat} : o ∈ sortO os ↔ o ∈ os := (sortO_perm os).mem_iff
theorem sortO_pw (os : List (List Nat)) : (sortO os).Pairwise (· ≤ ·) := by
  have h := List.pairwise_mergeSort (le := leO) (fun a b c h1 h2 => decide_eq_true (List.le_trans (of_decide_eq_true h1) (of_decide_eq_true h2))) (fun a b => by
    rcases List.le_total a b with h | h
    · exact Bool.or_eq_true _ _ ▸ .inl (decide_eq_true h)
    · exact Bool.or_eq_true _ _ ▸ .inr (decide_eq_true h)) os
  exact h.imp fun h => of_decide_eq_true h
/-- what is sorted and a permutation is it -/
theorem sortO_eq {os ys : List (List Nat)} (p : ys.Perm os) (h : ys.Pairwise (· ≤ ·)) : ys = sortO os :=
  List.Perm.eq_of_pairwise (le := fun a b : List Nat => a ≤ b) (fun a b _ _ h1 h2 => List.le_antisymm h1 h2) h (sortO_pw os) (p.trans (sortO_perm os).symm)
def rSortTz (K : PySem.W.Frag) : List V → Hp → VK → Prop := fun xs H Q => ∃ (p : Addr) (os : List (List Nat)), xs = [.ref p] ∧ SqT K H p (os.map tx) ∧ ∀ l, H l = none → Q (.ref l) (upd H l (.lst ((sortO os).map tx)))
theorem cSortTz (K : PySem.W.Frag) {X : Cx} {k : Nat} (hr : Room k X.A) (hK : X.K = K := by rfl) : CallR X (.builtin "sorted") (rSortTz K) := by
  intro pins s σ H xs us Q I r h
  obtain ⟨p, os, rfl, hq, q⟩ := h
  have pairs : (os.map fun o => (tx o, o)).map (·.1) = os.map tx := by
    rw [List.map_map]
    rfl
  have same : W.dataLe false (fun b : V × List Nat => strD b.2) = fun b c => leO b.2 c.2 := by
    show W.dataLe false (fun b : V × List Nat => .str (txS b.2)) = _
    rw [W.dataLe_str]
  have out : ((os.map fun o => (tx o, o)).mergeSort (W.dataLe false fun b : V × List Nat => strD b.2)).map (·.1) = (sortO os).map tx := by
    rw [same]
    unfold sortO
    have h1 : os.map (fun o => (tx o, o)) = os.map (fun o : List Nat => (tx o, o)) := rfl
    rw [← List.map_mergeSort (r := leO) (s := fun b c : V × List Nat => leO b.2 c.2) (f := fun o : List Nat => (tx o, o)) (l := os) (fun a _ b _ => rfl), List.map_map]
    all_goals rfl
  refine cSortD K (enc := strD) hr hK pins s σ H _ us Q I r ⟨p, os.map fun o => (tx o, o), rfl, by rw [pairs]; exact hq, fun b hb => ?_, fun d hd d' hd' => ?_, .inr fun d hd => ?_, fun b hb => ?_, fun l nl => ?_⟩
  · obtain ⟨o, _, rfl⟩ := List.mem_map.mp hb
    exact Fz.to (.str _)
  · obtain ⟨b, _, rfl⟩ := List.mem_map.mp hd
    obtain ⟨b', _, rfl⟩ := List.mem_map.mp hd'
    rfl
  · obtain ⟨b, _, rfl⟩ := List.mem_map.mp hd
    exact ⟨(fun z => nomatch z), (fun xs z => nomatch z)⟩
  · show (PyData.str (txS b.2)).depth ≤ 20
    simp [PyData.depth]
  · rw [out]
    exact q l nl
/-! ### a lambda's table beside those of generator expressions -/
theorem tab_sx {Ps : List Addr} {P : Addr} {q : Str} {H H' : Hp} (t : LamX.TabS H P q) (tg : TG Ps H) (s : Sx Ps H H') (n : P ∉ Ps) : LamX.TabS H' P q := by
  obtain ⟨ps, h1, h2, h3⟩ := t
  exact ⟨ps, s _ _ n h1, h2, fun pos cv e => let ⟨c, e1, e2⟩ := h3 pos cv e; ⟨c, e1, s _ _ (tg.not e2 fun ps z => LamX.codeO_ne ps z) e2⟩⟩
theorem tab_same {P : Addr} {q : Str} {H H' : Hp} (t : LamX.TabS H P q) (s : Same H H') : LamX.TabS H' P q := t.ext fun b o e => s b o e
theorem tab_tg {Ps : List Addr} {P : Addr} {q : Str} {H : Hp} (t : LamX.TabS H P q) (tg : TG Ps H) : TG (P :: Ps) H := fun b hb => by
  rcases List.mem_cons.mp hb with z | z
  · obtain ⟨ps, h1, h2, _⟩ := t
    rw [z]
    exact ⟨ps, h1, h2⟩
  · exact tg b z
theorem tg_past {Ps : List Addr} {P : Addr} {q : Str} {H H' : Hp} (tg : TG Ps H) (s : Sx [P] H H') (t : LamX.TabS H' P q) : TG Ps H' := fun b hb => by
  by_cases e : b = P
  · obtain ⟨ps, h1, h2, _⟩ := t
    rw [e]
    exact ⟨ps, h1, h2⟩
  · obtain ⟨ps, h1, h2⟩ := tg b hb
    exact ⟨ps, s _ _ (fun z => e (List.mem_singleton.mp z)) h1, h2⟩
end My

set_option Elab.async false
set_option linter.all false
set_option maxRecDepth 100000
set_option maxHeartbeats 2000000
namespace My
open PySem PySem.Spec PyProof.Rows L2
/-! ### what a choice saves; the most that one more list saves -/
theorem Rd.same {H H' : Hp} {a : Addr} {u : HO} (h : Rd H a u) (s : Same H H') : Rd H' a u := h.imp (fun e => s _ _ e) fun ⟨o, e⟩ => ⟨o, s _ _ e⟩
/-! ### the search for an order, one step -/
section
variable {sv most : List (List Nat) → Int} {ch : List (List Nat)} {many d : Nat} {ahead : List (List Nat)}
end
end My

set_option Elab.async false
set_option linter.all false
set_option maxRecDepth 100000
set_option maxHeartbeats 2000000
namespace My
open PySem PySem.Spec PyProof.Rows L2
/-! ### no list twice; dict(..) and sorted(..) of a choice; the dict of prices as it is filled -/
theorem long_nodup {cols : List Nat} (hc : cols.Nodup) : ∀ k, (longM cols k).Nodup
  | 0 => by simp [longM]
  | k + 1 => by
    show ((longM cols k).flatMap _).Nodup
    unfold List.Nodup
    rw [List.pairwise_flatMap]
    refine ⟨fun o ho => ?_, (long_nodup hc k).imp fun {a b} ne x hx y hy e => ?_⟩
    · rw [List.pairwise_map]
      exact (hc.filter _).imp fun {a b} ne e => ne (List.singleton_inj.mp (List.append_cancel_left e))
    · obtain ⟨c, _, rfl⟩ := List.mem_map.mp hx
      obtain ⟨d, _, rfl⟩ := List.mem_map.mp hy
      exact ne (List.append_inj_left' e rfl)
theorem lists_nodup {cols : List Nat} (hc : cols.Nodup) (n : Nat) : (listsM cols n).Nodup := by
  unfold listsM List.Nodup
  rw [List.pairwise_flatMap]
  refine ⟨fun k _ => long_nodup hc _, List.nodup_range.imp fun {a b} ne x hx y hy e => ?_⟩
  have h1 := (long_mem.mp hx).1
  have h2 := (long_mem.mp hy).1
  rw [e] at h1
  omega
theorem eqv_same (os : List (List Nat)) : PyData.eqv (.list (os.map strD)) (.list (os.map strD)) = true := by
  show PyData.eqvAll (os.map strD) (os.map strD) = true
  induction os with
  | nil => rfl
  | cons o os ih =>
    show (PyData.eqv (strD o) (strD o) && PyData.eqvAll (os.map strD) (os.map strD)) = true
    rw [ih, Bool.and_true]
    simp [strD, PyData.eqv]
end My

set_option Elab.async false
set_option linter.all false
set_option maxRecDepth 100000
set_option maxHeartbeats 2000000
namespace My
open PySem PySem.Spec PyProof.Rows L2
/-! ### how much less lists save that are chosen one by one -/
section
variable {cols : List Nat} {rows : List (List Int)}
theorem price_alike2 {ch ch' : List (List Nat)} {es : List (Nat × Int)} {rc : Option (Nat × Int × Int)} (h : ∀ o, o ∈ ch ↔ o ∈ ch') : priceOfM cols rows ch es rc = priceOfM cols rows ch' es rc :=
  Int.le_antisymm (priceOf_le fun o ho => ⟨o, (h o).mpr ho, Int.le_refl _⟩) (priceOf_le fun o ho => ⟨o, (h o).mp ho, Int.le_refl _⟩)
end
end My

set_option Elab.async false
set_option linter.all false
set_option maxRecDepth 100000
set_option maxHeartbeats 2000000
namespace My
open PySem PySem.Spec PyProof.Rows L2
/-! ### the cheapest choice of so many letters: what the search has to show (mathematics for k20 to k29) -/
def lettersM (ch : List (List Nat)) : Nat := (ch.map List.length).sum
theorem letters_app (a b : List (List Nat)) : lettersM (a ++ b) = lettersM a + lettersM b := by
  unfold lettersM
  rw [List.map_append, List.sum_append]
theorem nat_perm_sum : ∀ {l l' : List Nat}, l.Perm l' → l.sum = l'.sum := by
  intro l l' h
  induction h with
  | nil => rfl
  | cons x _ ih => rw [List.sum_cons, List.sum_cons, ih]
  | swap x y l =>
    simp only [List.sum_cons]
    omega
  | trans _ _ a b => exact a.trans b
theorem letters_perm {a b : List (List Nat)} (p : a.Perm b) : lettersM a = lettersM b := nat_perm_sum (p.map _)
theorem letters_mem {a : List (List Nat)} {o : List Nat} (h : o ∈ a) : o.length ≤ lettersM a := by
  induction a with
  | nil => cases h
  | cons x a ih =>
    have e : lettersM (x :: a) = x.length + lettersM a := rfl
    rw [e]
    rcases List.mem_cons.mp h with z | z
    · rw [z]
      omega
    · have := ih z
      omega
section
variable {cols : List Nat} {rows : List (List Int)} {as : List Ask} {chg : Int}
theorem keep_app (a b : List (List Nat)) : keepM chg (a ++ b) = keepM chg a + keepM chg b := by
  unfold keepM
  rw [List.map_append, List.sum_append, Int.mul_add]
theorem keep_pos (hg : 0 ≤ chg) (a : List (List Nat)) : 0 ≤ keepM chg a := by
  refine Int.mul_nonneg hg ?_
  induction a with
  | nil => exact Int.le_refl _
  | cons o a ih =>
    rw [List.map_cons, List.sum_cons]
    omega
theorem asked_perm {a b : List (List Nat)} (p : a.Perm b) : askedM cols rows a as = askedM cols rows b as := by
  unfold askedM
  refine congrArg List.sum (List.map_congr_left fun x _ => ?_)
  rw [price_alike2 fun o => p.mem_iff]
theorem work_perm {a b : List (List Nat)} (p : a.Perm b) : workM cols rows a as chg = workM cols rows b as chg := by
  unfold workM
  rw [asked_perm p]
  unfold keepM
  rw [perm_sum (p.map _)]
/-- what no choice that goes on so can be cheaper than -/
theorem floor_le (hok : AsksOk cols as) (hg : 0 ≤ chg) {ins near T : List (List Nat)} (h : ∀ o ∈ T, o ∈ near) : askedM cols rows (ins ++ near) as + keepM chg ins ≤ workM cols rows (ins ++ T) as chg := by
  have h1 : askedM cols rows (ins ++ near) as ≤ askedM cols rows (ins ++ T) as := asked_le hok fun _ _ o ho => ⟨o, (List.mem_append.mp ho).elim (fun z => List.mem_append_left _ z) fun z => List.mem_append_right _ (h o z), Int.le_refl _⟩
  have h2 := keep_pos hg T
  unfold workM
  rw [keep_app]
  omega
/-- r: the least that b and the choices of so many letters cost that hold ins and some of free -/
structure Good (cols : List Nat) (rows : List (List Int)) (as : List Ask) (chg : Int) (room : Nat) (b : Int) (ins free : List (List Nat)) (r : Int) : Prop where
  le : r ≤ b
  all : ∀ T : List (List Nat), T.Nodup → (∀ o ∈ T, o ∈ free) → lettersM (ins ++ T) ≤ room → r ≤ workM cols rows (ins ++ T) as chg
  is : r = b ∨ ∃ T : List (List Nat), T.Nodup ∧ (∀ o ∈ T, o ∈ free) ∧ lettersM (ins ++ T) ≤ room ∧ r = workM cols rows (ins ++ T) as chg
variable {room : Nat} {b : Int} {ins free : List (List Nat)}
theorem Good.cut (hok : AsksOk cols as) (hg : 0 ≤ chg) (h : b ≤ askedM cols rows (ins ++ free.filter fun o => decide (lettersM ins + o.length ≤ room)) as + keepM chg ins) : Good cols rows as chg room b ins free b :=
  ⟨Int.le_refl _, fun T _ sub l => Int.le_trans h (floor_le hok hg fun o ho => List.mem_filter.mpr ⟨sub o ho, decide_eq_true (by
    have := letters_mem ho
    rw [letters_app] at l
    omega)⟩), .inl rfl⟩
theorem Good.split {one : List Nat} {r1 r2 : Int} (ho : one ∈ free) (g1 : Good cols rows as chg room b (ins ++ [one]) (free.filter fun o => decide (o ≠ one)) r1) (g2 : Good cols rows as chg room r1 ins (free.filter fun o => decide (o ≠ one)) r2) : Good cols rows as chg room b ins free r2 := by
  have mem : ∀ {o : List Nat}, o ∈ free.filter (fun o => decide (o ≠ one)) ↔ o ∈ free ∧ o ≠ one := fun {o} => by rw [List.mem_filter, decide_eq_true_eq]
  have shift : ∀ T : List (List Nat), (ins ++ (one :: T)).Perm ((ins ++ [one]) ++ T) := fun T => by rw [List.append_assoc]; exact List.Perm.refl _
  refine ⟨Int.le_trans g2.le g1.le, fun T nd sub l => ?_, ?_⟩
  · by_cases e : one ∈ T
    · have p : T.Perm (one :: T.erase one) := List.perm_cons_erase e
      have p2 : (ins ++ T).Perm ((ins ++ [one]) ++ T.erase one) := (p.append_left ins).trans (shift _)
      rw [work_perm p2]
      refine Int.le_trans g2.le (g1.all _ (nd.erase _) (fun o ho' => mem.mpr ⟨sub o (List.mem_of_mem_erase ho'), fun z => ?_⟩) (by rw [← letters_perm p2]; exact l))
      rw [z] at ho'
      exact nd.not_mem_erase ho'
    · exact g2.all T nd (fun o h => mem.mpr ⟨sub o h, fun z => e (z ▸ h)⟩) l
  · rcases g2.is with z | ⟨T, nd, sub, l, e⟩
    · rcases g1.is with y | ⟨T, nd, sub, l, e⟩
      · exact .inl (z.trans y)
      · refine .inr ⟨one :: T, List.nodup_cons.mpr ⟨fun h => (mem.mp (sub one h)).2 rfl, nd⟩, fun o h => ?_, by rw [letters_perm (shift T)]; exact l, by rw [z, e, work_perm (shift T)]⟩
        rcases List.mem_cons.mp h with y | y
        · rw [y]
          exact ho
        · exact (mem.mp (sub o y)).1
    · exact .inr ⟨T, nd, fun o h => (mem.mp (sub o h)).1, l, e⟩
theorem Good.start {b1 r : Int} (g : Good cols rows as chg room b1 ins free r) (e : b1 = min b (workM cols rows ins as chg)) (l : lettersM ins ≤ room) : Good cols rows as chg room b ins free r := by
  refine ⟨Int.le_trans g.le (by rw [e]; omega), g.all, ?_⟩
  rcases g.is with z | z
  · by_cases y : b ≤ workM cols rows ins as chg
    · exact .inl (by rw [z, e]; omega)
    · refine .inr ⟨[], List.nodup_nil, (fun o h => nomatch h), by rw [List.append_nil]; exact l, ?_⟩
      rw [z, e, List.append_nil]
      omega
  · exact .inr z
/-- the least that a choice of so many letters costs -/
structure Opt (cols : List Nat) (rows : List (List Int)) (as : List Ask) (chg : Int) (room : Nat) (all : List (List Nat)) (r : Int) : Prop where
  le : ∀ ch : List (List Nat), ch.Nodup → (∀ o ∈ ch, o ∈ all) → lettersM ch ≤ room → r ≤ workM cols rows ch as chg
  is : ∃ ch : List (List Nat), ch.Nodup ∧ (∀ o ∈ ch, o ∈ all) ∧ lettersM ch ≤ room ∧ r = workM cols rows ch as chg
theorem Good.opt {r : Int} (g : Good cols rows as chg room b [] free r) (hb : ∃ ch : List (List Nat), ch.Nodup ∧ (∀ o ∈ ch, o ∈ free) ∧ lettersM ch ≤ room ∧ b = workM cols rows ch as chg) : Opt cols rows as chg room free r := by
  refine ⟨fun ch nd sub l => g.all ch nd sub l, ?_⟩
  rcases g.is with z | z
  · rw [z]
    exact hb
  · exact z
theorem Opt.one {all : List (List Nat)} {r r' : Int} (a : Opt cols rows as chg room all r) (b : Opt cols rows as chg room all r') : r = r' := by
  obtain ⟨ch, n1, s1, l1, e1⟩ := a.is
  obtain ⟨ch', n2, s2, l2, e2⟩ := b.is
  have h1 := a.le ch' n2 s2 l2
  have h2 := b.le ch n1 s1 l1
  omega
/-- one list reads no more than another, with no more letters -/
def Outdoes (cols : List Nat) (rows : List (List Int)) (as : List Ask) (one other : List Nat) : Prop := one.length ≤ other.length ∧ ∀ a ∈ as, priceM cols rows one a.es a.rc ≤ priceM cols rows other a.es a.rc
end
end My

set_option Elab.async false
set_option linter.all false
set_option maxRecDepth 100000
set_option maxHeartbeats 2000000
namespace My
open PySem PySem.Spec PyProof.Rows L2
/-! ### min(a, b) of two that are alike data -/
theorem min_of_two {prog : Program} {w : World} {A : Around} {E Q : Value → Shared → Prop} {s : Shared} {x y : Value} {d e : PyData} {as bs : List Addr} (hA : A.handled = none) (rx : Reads s.heap x d as) (ry : Reads s.heap y e bs) (al : W.AlikeAll [d, e]) (hu : A.units + 1 + PyData.depthAll [d, e] < cLine)
    (h : ∀ h' tk, (∀ b o, s.heap.get? b = some o → h'.get? b = some o) → Q (if W.dataLt e d = true then y else x) { s with heap := h', toks := tk }) : wpAny (model prog w) A (call (.builtin "min") [x, y]) Q E s := by
  refine call_function_tree F.kind_min F.plain_min F.entry_min (F.args_min2 _ _) ?_
  refine wpAny_bind (m := Builtin.Builtins.bindParams "min" ["key", "default"] 0 ⟨[], []⟩) (wpAny_of_eq rfl (wpAny_bind (m := newTuple [x, y]) (wpAny_newObj_type ?_)))
  have old : ∀ b o, s.heap.get? b = some o → (s.heap.push { cls := .type "tuple", data := .seq #[x, y] }).get? b = some o := fun b o q => Heap.get?_push_of_some _ q
  have two : (s.heap.push { cls := .type "tuple", data := .seq #[x, y] }).IsTuple s.heap.objs.size #[x, y] := ⟨_, Heap.get?_push_size _ rfl, rfl, 0, rfl⟩
  refine wpAny_bind (W.iter_tupleW (A := A.in1) (s := { s with heap := s.heap.push { cls := .type "tuple", data := .seq #[x, y] } }) hA two fun s2 e2 walk at0 low apart kept => wpAny_bind (wpAny_newObj_type ?_))
  have rs : ReadsAll (s.heap.push { cls := .type "tuple", data := .seq #[x, y] }) (#[x, y] : Array Value).toList [d, e] (as ++ (bs ++ [])) := .cons (W.reads_keeps old rx) (.cons (W.reads_keeps old ry) .nil)
  have cmp := W.cmpIn_lt (prog := prog) (w := w) (A := A.in1) (s := { s with heap := s.heap.push { cls := .type "tuple", data := .seq #[x, y] } }) (vs := #[x, y]) rs al hu
  refine wpAny_pure ⟨plainId_quiet F.plain_min_loop _, codeAny_min_loop_firstH walk _ apart _ cmp s2.heap.objs.size (fun z => Nat.lt_irrefl _ (low _ z)) (fresh_in kept) _ (show 0 < 2 by decide) (fun b o q => Heap.get?_push_of_some _ (kept b o q)) (walk.frame 0 s2 _ s2.toks at0 (Nat.le_refl _) fun b _ o q => Heap.get?_push_of_some _ q) (Heap.get?_push_size _ rfl) fun v s' pv moved => ?_⟩
  obtain ⟨h', tk, rfl, kp⟩ := W.moved_old e2 rfl (Moved.drop_new (tk := s2.toks) moved (Nat.le_refl _))
  have best : v = if W.dataLt e d = true then y else x := by
    have bt : argBest (fun i j => W.dataLt ([d, e].getD i .none) ([d, e].getD j .none)) 1 = if W.dataLt e d = true then 1 else 0 := rfl
    have pv' : (#[x, y] : Array Value)[argBest (fun i j => W.dataLt ([d, e].getD i .none) ([d, e].getD j .none)) 1]? = some v := pv
    rw [bt] at pv'
    by_cases c : W.dataLt e d = true
    · rw [if_pos c] at pv' ⊢
      simpa using pv'.symm
    · rw [if_neg c] at pv' ⊢
      simpa using pv'.symm
  rw [best]
  exact h h' tk fun b o q => kp b o (old b o q)
def rMin2D (K : PySem.W.Frag) : List V → Hp → VK → Prop := fun xs H Q => ∃ (x y : V) (d e : PyData), xs = [x, y] ∧ Dp K H x d ∧ Dp K H y e ∧ W.AlikeAll [d, e] ∧ PyData.depthAll [d, e] ≤ 20 ∧ Q (if W.dataLt e d = true then y else x) H
theorem min2DK (K : PySem.W.Frag) {X : Cx} {k : Nat} (hr : Room k X.A) (hK : X.K = K := by rfl) : CallR X (.builtin "min") (rMin2D K) := by
  subst hK
  intro pins s σ H xs us Q I r h
  obtain ⟨x, y, d, e, rfl, dx, dy, al, dep, q⟩ := h
  obtain ⟨u, v, rfl, rx, ry⟩ := vals2 r
  obtain ⟨as, ra⟩ := Dp.reads I _ _ _ dx rx
  obtain ⟨bs, rb⟩ := Dp.reads I _ _ _ dy ry
  have hun := hr.un
  refine min_of_two hr.hd ra rb al (by omega) fun h' tk kp => ⟨if W.dataLt e d = true then y else x, H, I.kept kp, ?_, q⟩
  by_cases c : W.dataLt e d = true
  · rw [if_pos c, if_pos c]
    exact ry
  · rw [if_neg c, if_neg c]
    exact rx
end My

set_option Elab.async false
set_option linter.all false
set_option maxRecDepth 100000
set_option maxHeartbeats 2000000
namespace My
open PySem PySem.Spec PyProof.Rows L2
/-! ### a price and a choice, as they are compared -/
abbrev bD (p : Int) (ch : List (List Nat)) : PyData := .tuple [.int p, .tuple (ch.map strD)]
theorem alike_texts : ∀ a b : List (List Nat), W.alikeAll (a.map strD) (b.map strD) = true
  | [], b => by cases b <;> rfl
  | x :: a, [] => rfl
  | x :: a, y :: b => by
    show (W.alike (strD x) (strD y) && W.alikeAll (a.map strD) (b.map strD)) = true
    rw [alike_texts a b]
    rfl
theorem bD_alike1 (p q : Int) (a b : List (List Nat)) : W.alike (bD p a) (bD q b) = true := by
  show (W.alike (.int p) (.int q) && W.alikeAll [.tuple (a.map strD)] [.tuple (b.map strD)]) = true
  show (true && (W.alikeAll (a.map strD) (b.map strD) && W.alikeAll [] [])) = true
  rw [alike_texts]
  rfl
theorem bD_alike (p q : Int) (a b : List (List Nat)) : W.AlikeAll [bD p a, bD q b] := by
  refine ⟨fun x hx y hy => ?_, fun x hx => ?_⟩
  · simp only [List.mem_cons, List.not_mem_nil, or_false] at hx hy
    rcases hx with e | e <;> rcases hy with e' | e' <;> (rw [e, e']; exact bD_alike1 _ _ _ _)
  · simp only [List.mem_cons, List.not_mem_nil, or_false] at hx
    rcases hx with e | e <;> (rw [e]; intro z; cases z)
theorem bD_depth (p q : Int) (a b : List (List Nat)) : PyData.depthAll [bD p a, bD q b] ≤ 20 := by
  have h1 := dep_texts a
  have h2 := dep_texts b
  simp only [PyData.depthAll, PyData.depth] at h1 h2 ⊢
  omega
theorem bD_lt {p q : Int} {a b : List (List Nat)} : (W.dataLt (bD p a) (bD q b) = true → p ≤ q) ∧ (¬ W.dataLt (bD p a) (bD q b) = true → q ≤ p) := by
  have al : W.alike (.tuple (a.map strD)) (.tuple (b.map strD)) = true := alike_texts a b
  rw [W.dataLt_pair rfl al, W.dataLt_int]
  by_cases e : p = q
  · rw [e]
    exact ⟨fun _ => Int.le_refl _, fun _ => Int.le_refl _⟩
  · have ne : ¬ PyData.eqv (.int p) (.int q) = true := fun z => e (by simpa [PyData.eqv] using z)
    rw [if_neg ne, decide_eq_true_eq]
    exact ⟨fun h => Int.le_of_lt h, fun h => by omega⟩
end My

set_option Elab.async false
set_option linter.all false
set_option maxRecDepth 100000
set_option maxHeartbeats 2000000
namespace My
open PySem PySem.Spec PyProof.Rows L2
/-! ### defs whose facts are told by names -/
abbrev DefAt (K : PySem.W.Frag) (p : He.Defn) (x qual : Str) (st : Stmt) (fd : FuncData) : Prop := FunD K x qual (defArgs st) (defBody st) (defScope st) [] [] (He.fAd K p) fd
theorem DefAt.fn {K : PySem.W.Frag} {p : He.Defn} {x qual : Str} {st : Stmt} {fd : FuncData} (D : DefAt K p x qual st fd) : Fun K x qual st (He.fAd K p) fd := by
  obtain ⟨⟨oc, od, dV, kV, doc, pm, an, cd, ct, sl, e, l, c, dfl, _⟩, kp⟩ := D
  rcases dfl with ⟨_, rfl⟩ | ⟨ne, _⟩
  · exact ⟨⟨oc, od, kV, doc, pm, an, cd, ct, sl, e, l, c⟩, kp⟩
  · exact absurd rfl ne
theorem DefAt.fc {K : PySem.W.Frag} {p : He.Defn} {x qual : Str} {st : Stmt} {fd : FuncData} (D : DefAt K p x qual st fd) : FunC K x qual st (He.fAd K p) fd (He.codeOf K p) := by
  obtain ⟨⟨oc, od, dV, kV, doc, pm, an, cd, ct, sl, e, l, c, dfl, _⟩, kp⟩ := D
  obtain ⟨c', rfl⟩ := He.codeIn_ref c
  rcases dfl with ⟨_, rfl⟩ | ⟨ne, _⟩
  · have ec : He.codeOf K p = c' := He.codeOf_eq l (by rw [e])
    rw [ec]
    exact ⟨oc, od, kV, doc, pm, an, ct, sl, e, l, c⟩
  · exact absurd rfl ne
end My

set_option Elab.async false
set_option linter.all false
set_option maxRecDepth 100000
set_option maxHeartbeats 2000000
namespace My
open PySem PySem.Spec PyProof.Rows L2
/-! ### how many lists; the stairs -/
theorem out_count {cols o : List Nat} (hc : cols.Nodup) (ho : o.Nodup) (sub : ∀ c ∈ o, c ∈ cols) : (cols.filter fun c => decide (c ∉ o)).length + o.length = cols.length := by
  have pm : (cols.filter fun c => decide (c ∈ o)).Perm o := (List.perm_ext_iff_of_nodup (hc.filter _) ho).mpr fun c => by
    rw [List.mem_filter, decide_eq_true_eq]
    exact ⟨fun h => h.2, fun h => ⟨sub c h, h⟩⟩
  rw [← pm.length_eq]
  clear pm hc ho sub
  induction cols with
  | nil => rfl
  | cons c cols ih =>
    by_cases h : c ∈ o
    · rw [List.filter_cons_of_neg (by simpa using h), List.filter_cons_of_pos (by simpa using h), List.length_cons, List.length_cons]
      omega
    · rw [List.filter_cons_of_pos (by simpa using h), List.filter_cons_of_neg (by simpa using h), List.length_cons, List.length_cons]
      omega
theorem long_count {cols : List Nat} (hc : cols.Nodup) (k : Nat) : (longM cols (k + 1)).length = (longM cols k).length * (cols.length - k) := by
  have key : ∀ ls : List (List Nat), (∀ o ∈ ls, o ∈ longM cols k) → (ls.flatMap fun o => (cols.filter fun c => decide (c ∉ o)).map fun c => o ++ [c]).length = ls.length * (cols.length - k) := fun ls => by
    induction ls with
    | nil =>
      intro _
      simp
    | cons o ls ih =>
      intro h
      obtain ⟨l, nd, sub⟩ := long_mem.mp (h o List.mem_cons_self)
      have e := out_count hc nd sub
      rw [List.flatMap_cons, List.length_append, ih fun x hx => h x (List.mem_cons_of_mem _ hx), List.length_map, List.length_cons, Nat.succ_mul]
      omega
  exact key _ fun _ h => h
theorem lists_four {cols : List Nat} (hc : cols.Nodup) (h : cols.length ≤ 4) : (listsM cols cols.length).length ≤ 64 := by
  have c0 : (longM cols 0).length = 1 := rfl
  have c1 := long_count hc 0
  have c2 := long_count hc 1
  have c3 := long_count hc 2
  have c4 := long_count hc 3
  have e0 : (listsM cols 0).length = 0 := rfl
  have s1 := congrArg List.length (lists_succ cols 0)
  have s2 := congrArg List.length (lists_succ cols 1)
  have s3 := congrArg List.length (lists_succ cols 2)
  have s4 := congrArg List.length (lists_succ cols 3)
  rw [List.length_append] at s1 s2 s3 s4
  simp only [Nat.zero_add, Nat.reduceAdd] at s1 s2 s3 s4 c1 c2 c3 c4
  have : cols.length = 0 ∨ cols.length = 1 ∨ cols.length = 2 ∨ cols.length = 3 ∨ cols.length = 4 := by omega
  rcases this with z | z | z | z | z <;> rw [z] at c1 c2 c3 c4 ⊢ <;> simp only [c0, Nat.sub_self, Nat.reduceSub, Nat.reduceMul] at c1 c2 c3 c4 <;> simp only [c1, Nat.reduceMul, Nat.zero_mul] at c2 <;> simp only [c2, Nat.reduceMul, Nat.zero_mul] at c3 <;> simp only [c3, Nat.reduceMul, Nat.zero_mul] at c4 <;> omega
/-- one step for each size from which on the least is less -/
def stairsM (f : Nat → Int) : Nat → List (Int × Int)
  | 0 => [(0, f 0)]
  | n + 1 => if f (n + 1) < ((stairsM f n).getLast?.map (·.2)).getD 0 then stairsM f n ++ [(((n + 1 : Nat) : Int), f (n + 1))] else stairsM f n
end My

set_option Elab.async false
set_option linter.all false
set_option maxRecDepth 100000
set_option maxHeartbeats 4000000
namespace My
open PySem PySem.Spec PyProof.Rows L2
/-! ### sorted(list, key=f): the keys are found by calls that may change what is tracked; then the library's sort of alike keys -/
theorem reads_each {K : PySem.W.Frag} {X : Cx} {pins : List (Addr × Obj)} {σ : L2.St} {H : Hp} {s : Shared} (I : Inv X pins σ H s) : ∀ {ks : List V} {ds : List PyData} {us : List Value}, DpAll X.K H ks ds → Vals ks us → W.EachIs (fun v d => ∃ as, Reads s.heap v d as) us ds
  | [], [], [], .nil, .nil => .nil
  | k :: ks, d :: ds, u :: us, .cons h t, .cons r rs => .cons (Dp.reads I _ _ _ h r) (reads_each (K := K) I t rs)
theorem each_zip : ∀ {xs : List V} {us : List Value} {ds : List PyData}, Vals xs us → xs.length = ds.length → W.EachIs (fun v (b : V × PyData) => RelV b.1 v) us (xs.zip ds)
  | [], [], [], .nil, _ => .nil
  | _ :: _, _ :: _, _ :: _, .cons r t, h => .cons r (each_zip t (by simpa using h))
theorem valsD_each : ∀ {us : List Value} {bs : List (V × PyData)}, W.EachIs (fun v (b : V × PyData) => RelV b.1 v) us bs → Vals (bs.map (·.1)) us
  | _, _, .nil => .nil
  | _, _, .cons r t => .cons r (valsD_each t)
theorem dpAll_len {K : PySem.W.Frag} {H : Hp} : ∀ {ks : List V} {ds : List PyData}, DpAll K H ks ds → ks.length = ds.length
  | _, _, .nil => rfl
  | _, _, .cons _ t => by rw [List.length_cons, List.length_cons, dpAll_len t]
/-- the items as sorted puts them by these keys -/
def keySort (xs : List V) (ds : List PyData) : List V := ((xs.zip ds).mergeSort (W.dataLe false fun b : V × PyData => b.2)).map (·.1)
theorem keySort_perm {xs : List V} {ds : List PyData} (h : xs.length = ds.length) : (keySort xs ds).Perm xs := by
  unfold keySort
  refine ((List.mergeSort_perm _ _).map _).trans ?_
  rw [List.map_fst_zip (by omega)]
abbrev ksO (its : Array Value) (n : Nat) : Obj := seqObj "list" its n
section
variable {X : Cx} {pn : List (Addr × Obj)} {σ : L2.St} {a f : Addr} {xs : List V} {kr : V → Hp → VK → Prop} {G : Nat → List V → Hp → Prop}
theorem call_sortK {H : Hp} {s : Shared} {Q : VK} {E : Value → Shared → Prop} (I : Inv X pn σ H s) (key : ∀ p q, KeyR (inB (inB X)) (p :: q :: pn) σ (.ref f) kr) (hs : SqL X.K H a xs) (room : X.A.in1.in1.units + 20 < cLine) (first : G 0 [] H)
    (step : ∀ i x ks H, xs[i]? = some x → G i ks H → kr x H fun k H1 => G (i + 1) (ks ++ [k]) H1)
    (fin : ∀ ks H1, G xs.length ks H1 → ∃ ds : List PyData, DpAll X.K H1 ks ds ∧ W.AllAlike ds ∧ W.Sortable ds ∧ (∀ d ∈ ds, d.depth ≤ 20) ∧ ∀ (D : Addr), ks.length = ds.length → H1 D = none → Q (.ref D) (upd H1 D (.lst (keySort xs ds)))) :
    wpAny (model X.prog X.w) X.A (call (.builtin "sorted") [.ref a] [(Str.ofString "key", .ref f)]) (EP X pn σ Q) E s := by
  obtain ⟨its, vals, l, hz⟩ := I.list hs
  have il : its.length = xs.length := vals.length.symm
  refine W.sorted_of_sort (vs := its) l.isList (by omega) (ksk_s1 _ _) (fun x => ksk_l1 _ _) fun E' => ?_
  rw [ksk_t1]
  generalize hD : s.heap.objs.size + 1 = D
  have oD : (W.copyHeap s.heap its).get? D = some (ksO its.toArray 0) := hD ▸ W.copyHeap_at s.heap its
  have up0 : ∀ b o, s.heap.get? b = some o → (W.copyHeap s.heap its).get? b = some o := fun b o e => W.copyHeap_old e
  generalize W.copyHeap s.heap its = h0 at oD up0 ⊢
  unfold ksk_tree
  refine wpAny_bind (listItems_at oD rfl (wpAny_bind (listUpdate_at oD rfl ?_ (by rw [List.size_toArray]; omega) (Nat.zero_le _))))
  obtain ⟨e1, oD1⟩ : ∃ e1, (h0.update D (Obj.mapSeq fun _ => #[])).get? D = some (ksO #[] e1) := ⟨_, get?_update_seq oD fun _ => #[]⟩
  have up1 : ∀ b o, s.heap.get? b = some o → (h0.update D (Obj.mapSeq fun _ => #[])).get? b = some o := fun b o e => (Heap.get?_update_other _ _ (fun z : D = b => absurd (Heap.lt_size e) (by rw [← z, ← hD]; exact Nat.not_lt.mpr (Nat.le_succ _)))).trans (up0 b o e)
  generalize h0.update D (Obj.mapSeq fun _ => #[]) = h1 at oD1 up1 ⊢
  refine wpAny_bind (seqEpoch_at oD1 rfl (wpAny_bind (wpAny_newTuple ?_ (by show its.length ≤ _; omega))))
  refine wpAny_bind (wpAny_newList ?_ (Nat.zero_le _))
  refine wpAny_holding ?_
  have oD2 : (h1.push { cls := .type "tuple", data := .seq its.toArray.toList.toArray }).get? D = some (ksO #[] e1) := Heap.get?_push_of_some _ oD1
  have up2 : ∀ b o, s.heap.get? b = some o → (h1.push { cls := .type "tuple", data := .seq its.toArray.toList.toArray }).get? b = some o := fun b o e => Heap.get?_push_of_some _ (up1 b o e)
  generalize h1.push { cls := .type "tuple", data := .seq its.toArray.toList.toArray } = h2 at oD2 up2 ⊢
  generalize hS : h2.objs.size = S
  have lD : s.heap.objs.size ≤ D := hD ▸ Nat.le_succ _
  have SD : S ≠ D := fun z => Nat.lt_irrefl _ (by
    have := Heap.lt_size oD2
    rw [hS, z] at this
    exact this)
  have oD3 : (h2.push { cls := .type "list", data := .seq #[] }).get? D = some (ksO #[] e1) := Heap.get?_push_of_some _ oD2
  have oS3 : (h2.push { cls := .type "list", data := .seq #[] }).get? S = some (ksO #[] 0) := hS ▸ Heap.get?_push_size _ rfl
  have up3 : ∀ b o, s.heap.get? b = some o → (h2.push { cls := .type "list", data := .seq #[] }).get? b = some o := fun b o e => Heap.get?_push_of_some _ (up2 b o e)
  have lS : s.heap.objs.size ≤ S := by
    rw [← hS]
    refine Nat.le_of_not_lt fun lt => ?_
    have := Heap.lt_size oD2
    exact absurd lD (Nat.not_le.mpr (Nat.lt_of_lt_of_le this (Nat.le_of_lt lt)))
  generalize h2.push { cls := .type "list", data := .seq #[] } = h3 at oD3 oS3 up3 ⊢
  have fD : H D = none := I.hok.fresh lD
  have fS : H S = none := I.hok.fresh lS
  have IY : Inv (inB (inB X)) pn σ H { s with heap := h3 } := toB (toB (I.kept (t' := s.toks) up3))
  have FD : FpOk (inB (inB X)) pn H D := (toB (toB I)).fpOk lD fD
  have FS : FpOk (inB (inB X)) pn H S := (toB (toB I)).fpOk lS fS
  have I3 : Inv (inB (inB X)) ((S, ksO #[] 0) :: (D, ksO #[] e1) :: pn) σ H { s with heap := h3 } := IY.pins_of fun p hp => by
    rcases List.mem_cons.mp hp with z | z
    · rw [z]
      exact ⟨oS3, FS.1, FS.2.1, FS.2.2.1, fun v z => nomatch z⟩
    · rcases List.mem_cons.mp z with y | y
      · rw [y]
        exact ⟨oD3, FD.1, FD.2.1, FD.2.2.1, fun v z => nomatch z⟩
      · exact IY.pin p (List.mem_append_right _ y)
  have mS : ∀ p ∈ (inB (inB X)).pn ++ ((D, ksO #[] e1) :: pn), p.1 ≠ S := fun p hp => by
    rcases List.mem_append.mp hp with z | z
    · exact FS.2.2.2.2.2 p (List.mem_append_left _ z)
    · rcases List.mem_cons.mp z with y | y
      · rw [y]
        exact fun z => SD z.symm
      · exact FS.2.2.2.2.2 p (List.mem_append_right _ y)
  unfold ksk_rest
  refine wpAny_bind (wpAny_rule ?_)
  rw [List.forIn_toArray]
  refine wpAny_bind (ksk_fold (fun i s' => ∃ (Hi : Hp) (ks : List V) (kA : Array Value) (e : Nat), Inv (inB (inB X)) ((S, ksO kA e) :: (D, ksO #[] e1) :: pn) σ Hi s' ∧ Vals ks kA.toList ∧ ks.length = i ∧ G i ks Hi) its 0 _ ⟨H, [], #[], 0, I3, .nil, rfl, first⟩ (fun j x s' hx hP => ?_) fun s' hP => ?_)
  · obtain ⟨Hi, ks, kA, e, J, rk, lk, g⟩ := hP
    simp only [Nat.zero_add] at lk g ⊢
    have hj : j < xs.length := by
      have := (List.getElem?_eq_some_iff.mp hx).1
      omega
    obtain ⟨u, hu, ru⟩ := vals.get (List.getElem?_eq_getElem hj)
    obtain rfl : x = u := Option.some.inj (hx.symm.trans hu)
    refine wpAny_bind (wpAny_attempt (wpAny_mono (key (S, ksO kA e) (D, ksO #[] e1) s' Hi _ x _ (fun _ _ => False) J ru (step j _ ks Hi (List.getElem?_eq_getElem hj) g)) (fun v s'' he => ?_) fun _ _ z => z.elim))
    obtain ⟨k, H', J', rv, g'⟩ := he
    try dsimp only
    have own : s''.heap.get? S = some (ksO kA e) := (J'.pin (S, ksO kA e) (List.mem_append_right _ List.mem_cons_self)).1
    have kl : kA.size = j := by rw [← lk, rk.length, Array.length_toList]
    obtain ⟨e2, own2⟩ : ∃ e2, (s''.heap.update S (Obj.mapSeq (·.push v))).get? S = some (ksO (kA.push v) e2) := ⟨_, get?_update_seq own (·.push v)⟩
    refine wpAny_bind (listUpdate_at own rfl (wpAny_pure ⟨rfl, H', ks ++ [k], kA.push v, e2, ?_, ?_, ?_, g'⟩) (by omega) (by rw [Array.size_push]; omega))
    · exact woke J' (Nat.le_trans I.sz lS) FS.2.2.2.2.1 mS rfl J'.bare (fun b o ne q => (Heap.get?_update_other _ _ (Ne.symm ne)).trans q) own2 fun v z => nomatch z
    · have ea : (kA.push v).toList = kA.toList ++ [v] := by simp
      rw [ea]
      exact rk.append (.cons rv .nil)
    · rw [List.length_append, lk]
      rfl
  · obtain ⟨Hn, ks, kA, e, J, rk, lk, g⟩ := hP
    simp only [Nat.zero_add] at lk g
    rw [il] at lk g
    have own : s'.heap.get? S = some (ksO kA e) := (J.pin (S, ksO kA e) (List.mem_append_right _ List.mem_cons_self)).1
    have ownD := J.pin (D, ksO #[] e1) (List.mem_append_right _ (List.mem_cons_of_mem _ List.mem_cons_self))
    have ownS := J.pin (S, ksO kA e) (List.mem_append_right _ List.mem_cons_self)
    refine wpAny_bind (listItems_at own rfl ?_)
    obtain ⟨ds, dall, al, so, dep, q⟩ := fin ks Hn g
    have J0 : Inv (inB (inB X)) pn σ Hn s' := J.pins_of fun p hp => J.pin p (List.mem_append_right _ (List.mem_cons_of_mem _ (List.mem_cons_of_mem _ hp)))
    have er := reads_each (K := X.K) J0 dall rk
    have ksl : kA.toList.length = its.length := by
      have := rk.length
      omega
    refine W.keyH_end (h₁ := PySem.W.hideAll s'.heap [S]) (κ := W.dataKind s'.heap ds) (e := e) (fun b o ne q => PySem.W.of_hideAll _ q) (PySem.W.hideAll_none _ List.mem_cons_self) own ownD.1 SD (W.SortsAt.data er al so fun d hd => ?_) (by rw [Array.length_toList] at ksl; exact ksl) (by omega) fun h' tk c kp oD' => ⟨rfl, ?_⟩
    · have := dep d hd
      omega
    · have kd := dpAll_len dall
      have e2 : (xs.zip ds).map (fun b : V × PyData => b.2) = ds := List.map_snd_zip (by omega)
      have out := W.keyedOut_each (R := fun v (b : V × PyData) => RelV b.1 v) (bs := xs.zip ds) (fun b : V × PyData => b.2) (rev := false) ⟨s'.heap, kA.toList, by rw [e2]; exact al, rfl, by rw [e2]; exact er⟩ (each_zip vals (by omega))
      rw [e2] at out
      have vys : Vals (keySort xs ds) (W.sortVals (W.dataKind s'.heap ds) false kA.toList its) := valsD_each out
      have pys := keySort_perm (xs := xs) (ds := ds) (by omega)
      have FD' : FpOk (inB (inB X)) pn Hn D := ⟨ownD.2.1, FD.2⟩
      have FS' : FpOk (inB (inB X)) pn Hn S := ⟨ownS.2.1, FS.2⟩
      have J1 : Inv (inB (inB X)) pn σ Hn { s' with heap := h', toks := tk } := J0.turnedL (ch := [S, D]) (fun b o nb q => kp b o (fun z => nb (by simp [z])) (PySem.W.hideAll_get _ q fun z => nb (by simp [List.mem_singleton.mp z]))) fun b hb => by
        rcases List.mem_cons.mp hb with z | z
        · rw [z]
          exact FS'
        · rw [List.mem_singleton.mp z]
          exact FD'
      have J2 : Inv (inB (inB X)) pn σ (upd Hn D (.lst (keySort xs ds))) { s' with heap := h', toks := tk } := J1.take (h' := h') (t' := tk) (fun b o _ q => q) FD' ⟨by rw [pys.length_eq]; exact hz, _, c, vys, oD'⟩
      exact ⟨.ref D, _, ofB I.ok (ofB (toB I).ok J2), rfl, q D kd ownD.2.1⟩
end
end My

set_option Elab.async false
set_option linter.all false
set_option maxRecDepth 100000
set_option maxHeartbeats 4000000
namespace My
open PySem PySem.Spec PyProof.Rows L2
/-! ### sorted(list, key=o.m), m a method of the program -/
def tSortM (K : PySem.W.Frag) (C : Addr) (m : Str) (g : Addr) (sp : Sp) (te to : TE) : TE := fun σ H Q => te σ H fun v H1 => to σ H1 fun x H2 => ∃ (a p dx : Addr) (fs : List (Str × V)) (xs : List V), v = .ref a ∧ x = .ref p ∧ H2 p = some (.ins C dx fs) ∧ fs.lookup m = none ∧
  ∀ q, H2 q = none → ∃ G : Nat → List V → Hp → Prop, SqL K (upd H2 q (.met g p)) a xs ∧ G 0 [] (upd H2 q (.met g p)) ∧
    (∀ i y ks H, xs[i]? = some y → G i ks H → H q = some (.met g p) ∧ sp [.ref p, y] H (fun k H1 => G (i + 1) (ks ++ [k]) H1) L2.E0) ∧
    ∀ ks H1, G xs.length ks H1 → ∃ ds : List PyData, DpAll K H1 ks ds ∧ W.AllAlike ds ∧ W.Sortable ds ∧ (∀ d ∈ ds, d.depth ≤ 20) ∧ ∀ (D : Addr), ks.length = ds.length → H1 D = none → Q (.ref D) (upd H1 D (.lst (keySort xs ds)))
theorem pe_sortM {X : Cx} {e o : Expr} {te to : TE} {p1 p2 q1 apos : Pos} {n1 : Option Str} {m : Str} {k : Nat} {C g : Addr} {fd : FuncData} {ps : List Str} {sp : Sp} (K : PySem.W.Frag) (hr : Room (k + 3) X.A) (hg : Gl X "sorted") (hm : X.mg "sorted" = none) (c : Cls K C) (b : BMeth K C m g)
    (F : FnOk X.prog X.w X.K X.mg X.base CX0 k g fd ps sp) (hbi : Binds X.K fd ps []) (hA : PA X [e] (tCons te tNil)) (ho : PE X o to) (hK : X.K = K := by rfl) (hattr : attributeBase o m X.env (eval o X.env) = eval o X.env := by rfl)
    (hb : bootBuiltins "sorted" = some (.builtin "sorted") := by decide +kernel)
    (hse : backTo p2 (starEach [e] X.env) = (false, eval e X.env) :: backTo p2 (starEach [] X.env) := by rfl) (hpl : (backTo p2 (starEach [e] X.env)).any (·.1) = false := by rfl)
    (hall : (backToKw p2 (keywordEach [⟨n1, .Attribute o m apos, q1⟩] X.env)).all (·.1.isSome) = true := by rfl)
    (hnone : (backToKw p2 (keywordEach [⟨n1, .Attribute o m apos, q1⟩] X.env)).any (·.1.isNone) = false := by rfl)
    (hks : (backToKw p2 (keywordEach [⟨n1, .Attribute o m apos, q1⟩] X.env)).filterMap (·.1) = [Str.ofString "key"] := by rfl) :
    PE X (.Call (.Name "sorted" p1) [e] [⟨n1, .Attribute o m apos, q1⟩] p2) (tSortM K C m g sp te to) := by
  subst hK
  constructor
  intro pins s σ H Q I h
  refine wpAny_Call_Name_kw (ld_blt I hg hm hb ?_)
  refine PyProof.Rows.callWith_kw (thn (hA.run p2 pins s σ H (onOne fun v H1 => to σ H1 _) I h) fun us s1 h1 => ?_) hse hpl hall hnone
  obtain ⟨vs, H1, I1, r1, q1'⟩ := h1
  obtain ⟨v, rfl, hto⟩ := onOne_of q1'
  obtain ⟨u, rfl, ru⟩ := vals1 r1
  rw [hks]
  show wpAny _ _ (evalAll [(do let v ← eval (.Attribute o m apos) X.env; standAt p2; pure v)]) _ _ s1
  refine wpAny_evalAll_cons (wpAny_bind (attr_of hattr (thn (ho.run pins s1 σ H1 _ I1 hto) fun u2 s2 h2 => ?_)))
  obtain ⟨x, H2, I2, rx, a, p, dx, fs, xs, rfl, rfl, ep, lk, q⟩ := h2
  obtain rfl : u2 = .ref p := rx
  cases ru
  refine getbound_ok I2 ep c b lk fun m0 s3 hm0 I3 => wpAny_bind (wpAny_standAt (wpAny_pure (wpAny_evalAll_nil ?_)))
  obtain ⟨G, hs, first, step, fin⟩ := q m0 hm0
  have key : ∀ p' q', KeyR (inB (inB X)) (p' :: q' :: pins) σ (.ref m0) (fun x H Q => H m0 = some (.met g p) ∧ sp [.ref p, x] H Q L2.E0) := fun p' q' s H x u Q E J ru z =>
    wpAny_mono (wpAny_call (call_met J z.1 (run_fnR (X := inB (inB X)) (us := [.ref p, u]) (vs := [.ref p, x]) (E := L2.E0) (F.raw hbi .nil) (hr.in1.in1.mono (by omega)) pass0 J (.cons rfl (.cons ru .nil)) z.2))) (fun _ _ h => h) fun _ _ h => h.elim
  have un := hr.in1.in1.un
  exact call_sortK (X := X) I3 key hs (by omega) first step fin
end My

set_option Elab.async false
set_option linter.all false
set_option maxRecDepth 100000
set_option maxHeartbeats 2000000
namespace My
open PySem PySem.Spec PyProof.Rows L2
/-! ### stairs: rising sizes, falling costs; works twice as dear (mathematics for k29) -/
section
variable {cols : List Nat} {rows : List (List Int)} {as : List Ask} {chg : Int} {all : List (List Nat)}
/-- more letters, no dearer -/
theorem Opt.down {m n : Nat} {r r' : Int} (a : Opt cols rows as chg m all r) (b : Opt cols rows as chg n all r') (h : m ≤ n) : r' ≤ r := by
  obtain ⟨ch, nd, sub, l, e⟩ := a.is
  have := b.le ch nd sub (by omega)
  omega
/-- the asks with other numbers -/
def oftM (g : Int → Int) (as : List Ask) : List Ask := as.map fun a => { a with often := g a.often }
theorem asked_twice (g : Int → Int) (ch : List (List Nat)) : ∀ as : List Ask, askedM cols rows ch (oftM (fun n => 2 * g n) as) = 2 * askedM cols rows ch (oftM g as)
  | [] => rfl
  | a :: as => by
    have ih := asked_twice g ch as
    unfold askedM oftM at ih ⊢
    simp only [List.map_cons, List.sum_cons] at ih ⊢
    rw [ih, Int.mul_add, Int.mul_assoc]
theorem work_twice (g : Int → Int) (c : Int) (ch : List (List Nat)) (as : List Ask) : workM cols rows ch (oftM (fun n => 2 * g n) as) (2 * c) = 2 * workM cols rows ch (oftM g as) c := by
  unfold workM keepM
  rw [asked_twice, Int.mul_add, Int.mul_assoc]
theorem Opt.twice {g : Int → Int} {c : Int} {n : Nat} {r : Int} (h : Opt cols rows (oftM g as) c n all r) : Opt cols rows (oftM (fun n => 2 * g n) as) (2 * c) n all (2 * r) := by
  refine ⟨fun ch nd sub l => ?_, ?_⟩
  · have := h.le ch nd sub l
    rw [work_twice]
    omega
  · obtain ⟨ch, nd, sub, l, e⟩ := h.is
    exact ⟨ch, nd, sub, l, by rw [work_twice, e]⟩
end
end My

set_option Elab.async false
set_option linter.all false
set_option maxRecDepth 100000
set_option maxHeartbeats 2000000
namespace My
open PySem PySem.Spec PyProof.Rows L2
/-! ### lists that an ask uses wholly; all choices of them within a room (mathematics for k20, k26, k61, k62) -/
section
variable {cols : List Nat} {rows : List (List Int)} {as : List Ask} {chg : Int}
theorem letters_room (ch : List (List Nat)) : roomM ch = (lettersM ch : Nat) := by
  unfold roomM lettersM
  induction ch with
  | nil => rfl
  | cons o ch ih =>
    simp only [List.map_cons, List.sum_cons] at ih ⊢
    rw [ih]
    rfl
end
/-! ### all choices, put together list by list -/
def moreM (most : Nat) (found : List (List (List Nat))) (one : List Nat) : List (List (List Nat)) := found ++ (found.filter fun some => decide (lettersM some + one.length ≤ most)).map fun some => some ++ [one]
def choicesM (most : Nat) (lists : List (List Nat)) : List (List (List Nat)) := lists.foldl (moreM most) [[]]
theorem choices_snoc (most : Nat) (lists : List (List Nat)) (one : List Nat) : choicesM most (lists ++ [one]) = moreM most (choicesM most lists) one := by
  unfold choicesM
  rw [List.foldl_append]
  rfl
theorem letters_snoc (some : List (List Nat)) (one : List Nat) : lettersM (some ++ [one]) = lettersM some + one.length := by
  unfold lettersM
  simp
theorem snoc_ind {α : Type} {p : List α → Prop} (h0 : p []) (h1 : ∀ l a, p l → p (l ++ [a])) (l : List α) : p l := by
  have : ∀ (n : Nat) (l : List α), l.length = n → p l := fun n => by
    induction n with
    | zero =>
      intro l hl
      rw [List.length_eq_zero_iff.mp hl]
      exact h0
    | succ n ih =>
      intro l hl
      have ne : l ≠ [] := fun z => by
        rw [z] at hl
        cases hl
      rw [← List.dropLast_concat_getLast ne]
      exact h1 _ _ (ih _ (by rw [List.length_dropLast, hl]; rfl))
  exact this l.length l rfl
theorem choices_mem {most : Nat} (lists : List (List Nat)) : ∀ some : List (List Nat), some ∈ choicesM most lists ↔ some.Sublist lists ∧ lettersM some ≤ most := by
  induction lists using snoc_ind with
  | h0 =>
    intro some
    show some ∈ [[]] ↔ _
    rw [List.mem_singleton, List.sublist_nil]
    exact ⟨fun h => ⟨h, by rw [h]; exact Nat.zero_le _⟩, fun h => h.1⟩
  | h1 l one ih =>
    intro some
    rw [choices_snoc]
    unfold moreM
    rw [List.mem_append, ih, List.mem_map]
    constructor
    · rintro (⟨h1, h2⟩ | ⟨s, h1, rfl⟩)
      · exact ⟨h1.trans (List.sublist_append_left _ _), h2⟩
      · obtain ⟨h3, h4⟩ := List.mem_filter.mp h1
        exact ⟨((ih s).mp h3).1.append (List.Sublist.refl _), by rw [letters_snoc]; exact of_decide_eq_true h4⟩
    · rintro ⟨h1, h2⟩
      obtain ⟨a, b, rfl, ha, hb⟩ := List.sublist_append_iff.mp h1
      rcases List.sublist_cons_iff.mp hb with z | ⟨b', rfl, hb'⟩
      · rw [List.sublist_nil] at z
        subst z
        rw [List.append_nil] at h2 ⊢
        exact .inl ⟨ha, h2⟩
      · rw [List.sublist_nil] at hb'
        subst hb'
        rw [letters_snoc] at h2
        exact .inr ⟨a, List.mem_filter.mpr ⟨(ih a).mpr ⟨ha, by omega⟩, decide_eq_true h2⟩, rfl⟩
/-- any choice of the lists stands in their order among them -/
theorem choice_in {lists ch : List (List Nat)} (hl : lists.Nodup) (nd : ch.Nodup) (sub : ∀ o ∈ ch, o ∈ lists) : ∃ s : List (List Nat), s.Sublist lists ∧ s.Perm ch := by
  refine ⟨lists.filter fun o => decide (o ∈ ch), List.filter_sublist, (List.perm_ext_iff_of_nodup (hl.filter _) nd).mpr fun o => ?_⟩
  rw [List.mem_filter, decide_eq_true_eq]
  exact ⟨fun h => h.2, fun h => ⟨sub o h, h⟩⟩
section
variable {cols : List Nat} {rows : List (List Int)} {as : List Ask} {chg : Int}
/-- the least of all choices put together -/
theorem Opt.choices {lists : List (List Nat)} {most : Nat} {r : Int} (hl : lists.Nodup) (h : Opt cols rows as chg most lists r) : (∀ s ∈ choicesM most lists, r ≤ workM cols rows s as chg) ∧ ∃ s ∈ choicesM most lists, r = workM cols rows s as chg := by
  refine ⟨fun s hs => ?_, ?_⟩
  · obtain ⟨h1, h2⟩ := (choices_mem lists s).mp hs
    exact h.le s (hl.sublist h1) (fun o ho => h1.subset ho) h2
  · obtain ⟨ch, nd, sub, l, e⟩ := h.is
    obtain ⟨s, h1, p⟩ := choice_in hl nd sub
    exact ⟨s, (choices_mem lists s).mpr ⟨h1, by rw [letters_perm p]; exact l⟩, by rw [e, work_perm p]⟩
end
end My

set_option Elab.async false
set_option linter.all false
set_option maxRecDepth 100000
set_option maxHeartbeats 2000000
namespace My
open PySem PySem.Spec PyProof.Rows L2
/-! ### things looked at: == of data of any depth with shallow data; any thing in a list of texts -/
/-! ### data under tables that change -/
mutual
theorem Ft.keepG {H H' : Hp} (k1 : ∀ b xs, H b = some (.tup xs) → H' b = some (.tup xs)) (k2 : ∀ b xs, H b = some (.lst xs) → H' b = some (.lst xs)) : ∀ (d : PyData) (v : V), Ft H v d → Ft H' v d
  | .none, _, .non => .non
  | .bool _, _, .bl b => .bl b
  | .int _, _, .int i => .int i
  | .str _, _, .str x => .str x
  | .list ds, _, .lst h a => .lst (k2 _ _ h) (FtA.keepG k1 k2 ds _ a)
  | .tuple ds, _, .tup h a => .tup (k1 _ _ h) (FtA.keepG k1 k2 ds _ a)
theorem FtA.keepG {H H' : Hp} (k1 : ∀ b xs, H b = some (.tup xs) → H' b = some (.tup xs)) (k2 : ∀ b xs, H b = some (.lst xs) → H' b = some (.lst xs)) : ∀ (ds : List PyData) (vs : List V), FtA H vs ds → FtA H' vs ds
  | [], _, .nil => .nil
  | d :: ds, _, .cons h a => .cons (Ft.keepG k1 k2 d _ h) (FtA.keepG k1 k2 ds _ a)
end
theorem Ft.sx {Ps : List Addr} {H H' : Hp} {d : PyData} {v : V} (h : Ft H v d) (t : TG Ps H) (s : Sx Ps H H') : Ft H' v d := Ft.keepG (s.kt t) (fun _ _ e => s.lst t e) d v h
theorem Ft.same {H H' : Hp} {d : PyData} {v : V} (h : Ft H v d) (s : Same H H') : Ft H' v d := Ft.mono s d v h
theorem Ft.to {K : PySem.W.Frag} {H : Hp} {v : V} {d : PyData} (h : Ft H v d) : Dp K H v d := Ft.dp d v h
theorem Fz.toFt {H : Hp} {v : V} {d : PyData} (h : Fz H v d) : Ft H v d := Fz.ft d v h
theorem FtA.four {H : Hp} {vs : List V} {a b c d : PyData} (h : FtA H vs [a, b, c, d]) : ∃ x y z u, vs = [x, y, z, u] ∧ Ft H x a ∧ Ft H y b ∧ Ft H z c ∧ Ft H u d := by
  cases h with
  | cons h1 t =>
    cases t with
    | cons h2 t =>
      cases t with
      | cons h3 t =>
        cases t with
        | cons h4 t =>
          cases t
          exact ⟨_, _, _, _, rfl, h1, h2, h3, h4⟩
theorem Ft.open {H : Hp} {v : V} {ds : List PyData} (h : Ft H v (.tuple ds)) : ∃ (a : Addr) (xs : List V), v = .ref a ∧ H a = some (.tup xs) ∧ FtA H xs ds := by
  cases h with
  | tup h a => exact ⟨_, _, rfl, h, a⟩
/-- whether it has the form of a knot with a free list -/
def forkD (free : List (List Nat)) : PyData → Bool
  | .tuple [a, .str o, _, _] => PyData.eqv a (.str ("list" : Str)) && decide (o.cps.toList ∈ free)
  | _ => false
end My

set_option Elab.async false
set_option linter.all false
set_option maxRecDepth 100000
set_option maxHeartbeats 2000000
namespace My
open PySem PySem.Spec PyProof.Rows L2
/-! ### displays and slices whose own object is told; sorted(list of data) -/
def tTupF (t : TA) : TE := fun σ H Q => t σ H fun ys H1 => ys.length ≤ sizeLine ∧ ∀ (l : Addr) (o : Obj), H1 l = none → o.dict = none → Q (.ref l) (upd H1 l (.frz o (.tup ys)))
theorem pe_tupF {X : Cx} {es : List Expr} {t : TA} {n : Nat} {pos : Pos} (h : PA X es t) : PE X (.Tuple es n pos) (tTupF t) := by
  constructor
  intro pins s σ H Q I hq
  have run := h.run pos pins s σ H _ I hq
  refine wpAny_Tuple_spliced (thn run fun us s1 he => ?_)
  obtain ⟨ys, H1, I1, rv, hz, q⟩ := he
  have hu : us.length ≤ sizeLine := by
    have := rv.length
    omega
  refine ⟨hu, ?_⟩
  have new : ObjOk X.prog X.w (upd H1 s1.heap.objs.size (.frz { cls := .type "tuple", data := .seq us.toArray } (.tup ys))) (s1.heap.push { cls := .type "tuple", data := .seq us.toArray }) s1.heap.objs.size (.frz { cls := .type "tuple", data := .seq us.toArray } (.tup ys)) := ⟨Heap.get?_push_size _ rfl, hz, us, rv, IsTup.new _ _⟩
  have I2 := I1.laid (t' := s1.toks) (fun b o e => Heap.get?_push_of_some _ e) (Nat.le_refl _) new
  exact ⟨.ref s1.heap.objs.size, _, I2, rfl, q _ _ (I1.hok.fresh (Nat.le_refl _)) rfl⟩
end My

set_option Elab.async false
set_option linter.all false
set_option maxRecDepth 100000
set_option maxHeartbeats 1000000
namespace My
open PySem PySem.Spec PyProof.Rows L2
/-! ### a work put otherwise: other letters, rows turned, one column more -/
section
variable {f : Nat → Nat} {L : List Nat}
end
/-- the rows turned: each price stays -/
theorem work_turn {cols : List Nat} {rows rows' : List (List Int)} (p : rows'.Perm rows) (ch : List (List Nat)) (as : List Ask) (chg : Int) : workM cols rows' ch as chg = workM cols rows ch as chg := by
  have pr : ∀ (o : List Nat) (es : List (Nat × Int)) (rc : Option (Nat × Int × Int)), priceM cols rows' o es rc = priceM cols rows o es rc := fun o es rc => by
    unfold priceM aheadM behindM
    rw [(p.filter _).length_eq, (p.filter _).length_eq]
  unfold workM askedM priceOfM
  simp only [pr, p.length_eq]
theorem Opt.turn {cols : List Nat} {rows rows' : List (List Int)} {as : List Ask} {chg : Int} {room : Nat} {all : List (List Nat)} {r : Int} (p : rows'.Perm rows) (h : Opt cols rows as chg room all r) : Opt cols rows' as chg room all r := by
  refine ⟨fun ch nd sub l => ?_, ?_⟩
  · rw [work_turn p]
    exact h.le ch nd sub l
  · obtain ⟨ch, nd, sub, l, e⟩ := h.is
    exact ⟨ch, nd, sub, l, by rw [work_turn p]; exact e⟩
end My

set_option Elab.async false
set_option linter.all false
set_option maxRecDepth 100000
set_option maxHeartbeats 2000000
namespace My
open PySem PySem.Spec PyProof.Rows L2
/-! ### data in a list of data -/
def rNotInD (K : PySem.W.Frag) : R2 := fun x y H Q => ∃ d ds, Dp K H x d ∧ Dp K H y (.list ds) ∧ PyData.canLayAll0 ds = true ∧ d.canLay0 = true ∧ d.depth ≤ 60 ∧ Q (.bl (!ds.any fun e => PyData.eqv e d)) H
theorem notInDK (K : PySem.W.Frag) {X : Cx} (hu : X.A.units + 64 < cLine) (hK : X.K = K := by rfl) : OpR X (compareOp .NotIn) (rNotInD K) := by
  subst hK
  intro pins s σ H x y v u Q I rx ry h
  obtain ⟨d, ds, hd, hds, cds, cd, de, q⟩ := h
  obtain ⟨as, ra⟩ := Dp.reads I d x v hd rx
  obtain ⟨bs, rb⟩ := Dp.reads I _ y u hds ry
  exact SeqAt.notIn_list_reads rb ra cds cd (by
    have := Nat.min_le_right (PyData.depthAll ds) d.depth
    omega) ⟨.bl _, H, I, rfl, q⟩
/-! ### questions as data -/
theorem QZ.dp {K : PySem.W.Frag} {H : Hp} {v : V} {es : List (Nat × Int)} {rc : Option (Nat × Int × Int)} (h : QZ H v es rc) : Dp K H v (qD es rc) := by
  obtain ⟨qa, ev, y, rfl, h1, ⟨ea, o, ps, rfl, ho, hea, fps⟩, fy⟩ := h
  exact .tup (.inl (.inl h1)) (.cons (.tup (.inl (.inr ⟨_, hea⟩)) (FzA.dp _ _ fps)) (.cons fy.to .nil))
theorem QA.dp {K : PySem.W.Frag} {H : Hp} {vs : List V} {qs : List Qn} (h : QA H vs qs) : DpAll K H vs (qs.map fun q => qD q.1 q.2) := by
  induction h with
  | nil => exact .nil
  | cons h1 _ ih => exact .cons h1.dp ih
theorem lay_sign {c : Nat} (h : c ≤ 122) : PyData.canLay0 (.str ⟨#[c]⟩) = true := by
  show ((#[c] : Array Nat).all (· < 0x110000)) = true
  simp
  omega
theorem lay_q {cols : List Nat} (hz : ∀ c ∈ cols, c ≤ 122) {es : List (Nat × Int)} {rc : Option (Nat × Int × Int)} (h : QOk cols es rc) : PyData.canLay0 (qD es rc) = true := by
  have h1 := shaped_eqs (es := es) fun p hp => hz _ (h.ok p hp).1
  unfold SeqAt.shaped at h1
  rw [Bool.and_eq_true] at h1
  have h2 : PyData.canLay0 (rchD rc) = true := by
    match rc, h with
    | none, _ => rfl
    | some (c, lo, hi), h =>
      show ((PyData.canLay0 (.str ⟨#[c]⟩)) && (true && (true && true))) = true
      rw [lay_sign (hz c (h.rc c lo hi rfl).1)]
      rfl
  show (PyData.canLay0 (eqsD es) && (PyData.canLay0 (rchD rc) && true)) = true
  rw [h1.1, h2]
  rfl
theorem lay_qs {cols : List Nat} (hz : ∀ c ∈ cols, c ≤ 122) : ∀ {qs : List Qn}, (∀ q ∈ qs, QOk cols q.1 q.2) → PyData.canLayAll0 (qs.map fun q => qD q.1 q.2) = true
  | [], _ => rfl
  | q :: qs, h => by
    show (PyData.canLay0 (qD q.1 q.2) && PyData.canLayAll0 (qs.map fun q => qD q.1 q.2)) = true
    rw [lay_q hz (h q (by simp)), lay_qs hz fun x hx => h x (by simp [hx])]
    rfl
theorem dep_q (es : List (Nat × Int)) (rc : Option (Nat × Int × Int)) : PyData.depth (qD es rc) ≤ 60 := by
  have e1 : PyData.depthAll (es.map eqD) ≤ 1 := by
    induction es with
    | nil => exact Nat.zero_le _
    | cons p es ih =>
      show max (PyData.depth (eqD p)) (PyData.depthAll (es.map eqD)) ≤ 1
      have : PyData.depth (eqD p) = 1 := rfl
      omega
  have e2 : PyData.depth (rchD rc) ≤ 1 := by
    match rc with
    | none => exact Nat.zero_le _
    | some (c, lo, hi) => exact Nat.le_refl _
  show max (PyData.depthAll (es.map eqD) + 1) (max (PyData.depth (rchD rc)) 0) + 1 ≤ 60
  omega
/-! ### how many rows fit; the lists of a choice -/
end My

set_option Elab.async false
set_option linter.all false
set_option maxRecDepth 100000
set_option maxHeartbeats 2000000
namespace My
open PySem PySem.Spec PyProof.Rows L2
/-! ### rows by their numbers, as a dict holds them -/
abbrev Nmd := List (Nat × List Int)
section
variable {H H' : Hp} {kvs : List (Key × V)} {th : Nmd}
/-- rows numbered from n -/
def thN : Nat → List (List Int) → Nmd
  | _, [] => []
  | n, r :: rs => (n, r) :: thN (n + 1) rs
end
/-! ### the numbers sorted by a list -/
section
variable {cols one : List Nat}
end
/-! ### the list by which a question is read -/
end My

set_option Elab.async false
set_option linter.all false
set_option maxRecDepth 100000
set_option maxHeartbeats 2000000
namespace My
open PySem PySem.Spec PyProof.Rows L2
/-! ### a list in order, by the places of the rows -/
section
variable {cols one : List Nat} {th : Nmd} {w n : Nat} {es : List (Nat × Int)} {rc : Option (Nat × Int × Int)}
/-- the number of the row at a place -/
def numAt (th : Nmd) (i : Nat) : Nat := (th.getD i (0, [])).1
theorem getD_at {th : Nmd} {i : Nat} (h : i < th.length) : th.getD i (0, []) = th[i] := by
  rw [List.getD_eq_getElem?_getD, List.getElem?_eq_getElem h]
  rfl
/-- rows numbered anew -/
theorem anew (th : Nmd) : th = (thN 0 (th.map (·.2))).map fun x => (numAt th x.1, x.2) := by
  have key : ∀ (k : Nat) (l : Nmd), th.drop k = l → l = (thN k (l.map (·.2))).map fun x => (numAt th x.1, x.2) := fun k l => by
    induction l generalizing k with
    | nil => intro _; rfl
    | cons a l ih =>
      intro h
      have hk : k < th.length := by
        apply Nat.lt_of_not_le
        intro z
        rw [List.drop_eq_nil_of_le z] at h
        cases h
      have ha : th[k] = a := by
        have := List.drop_eq_getElem_cons hk
        rw [h] at this
        exact (List.cons.inj this).1.symm
      have hl : th.drop (k + 1) = l := by
        have := List.drop_eq_getElem_cons hk
        rw [h] at this
        exact (List.cons.inj this).2.symm
      have e := ih (k + 1) hl
      show a :: l = (numAt th k, a.2) :: (thN (k + 1) (l.map (·.2))).map fun x => (numAt th x.1, x.2)
      rw [← e]
      unfold numAt
      rw [getD_at hk, ha]
  exact key 0 th rfl
end
end My

set_option Elab.async false
set_option linter.all false
set_option maxRecDepth 100000
set_option maxHeartbeats 2000000
namespace My
open PySem PySem.Spec PyProof.Rows L2
/-! ### dicts of numbers whose keys are tuples of any depth -/
mutual
/-- the value is that key -/
inductive KyAt (H : Hp) : NestedKey → V → Prop
  | non : KyAt H .none .non
  | int (i : Int) : KyAt H (.num i) (.int i)
  | txt (x : Str) : KyAt H (.text x) (.str x)
  | tup {a : Addr} {ks : List NestedKey} {xs : List V} : Rd H a (.tup xs) → KyAll H ks xs → KyAt H (.tup ks) (.ref a)
inductive KyAll (H : Hp) : List NestedKey → List V → Prop
  | nil : KyAll H [] []
  | cons {k : NestedKey} {v : V} {ks : List NestedKey} {vs : List V} : KyAt H k v → KyAll H ks vs → KyAll H (k :: ks) (v :: vs)
end
mutual
theorem KyAt.kT {H H' : Hp} (k : KT H H') : ∀ {x : NestedKey} {v : V}, KyAt H x v → KyAt H' x v
  | .none, _, .non => .non
  | .num _, _, .int i => .int i
  | .text _, _, .txt x => .txt x
  | .tup _, _, .tup h r => .tup (h.imp (k.1 _ _) fun ⟨o, e⟩ => ⟨o, k.2 _ _ _ e⟩) (KyAll.kT k r)
theorem KyAll.kT {H H' : Hp} (k : KT H H') : ∀ {ks : List NestedKey} {vs : List V}, KyAll H ks vs → KyAll H' ks vs
  | [], _, .nil => .nil
  | _ :: _, _, .cons h r => .cons (KyAt.kT k h) (KyAll.kT k r)
end
section
variable {X : Cx} {pins : List (Addr × Obj)} {σ : L2.St} {H : Hp} {s : Shared}
mutual
theorem KyAt.is (I : L2.Inv X pins σ H s) : ∀ {x : NestedKey} {v : V} {u : Value}, KyAt H x v → RelV v u → NestedIs s.heap x u
  | .none, _, _, .non, r => by
    cases r
    exact .none
  | .num _, _, _, .int i, r => by
    obtain ⟨t, rfl⟩ := r
    exact .int _ _
  | .text _, _, _, .txt x, r => by
    obtain ⟨t, rfl⟩ := r
    exact .text _ _
  | .tup _, _, _, .tup h a, r => by
    cases r
    obtain ⟨its, rv, ⟨o, e, c, n, d⟩, _⟩ := I.tuple (.inl h)
    exact .tup e c d (by simpa using KyAll.is I a rv)
theorem KyAll.is (I : L2.Inv X pins σ H s) : ∀ {ks : List NestedKey} {vs : List V} {us : List Value}, KyAll H ks vs → Vals vs us → NestedAll s.heap ks us
  | [], _, _, .nil, r => by
    cases r
    exact .nil
  | _ :: _, _, _, .cons h a, r => by
    cases r with
    | cons r t => exact .cons (KyAt.is I h r) (KyAll.is I a t)
end
end
abbrev KvQ := List (NestedKey × Addr × Int)
abbrev RelQ : KvQ → List (NestedKey × Addr × Value) → Prop := Paired fun p q => p.1 = q.1 ∧ p.2.1 = q.2.1 ∧ RelV (.int p.2.2) q.2.2
def entQ (w : World) (x : NestedKey × Addr × Value) : DictEntry := ⟨x.1.hash w, .ref x.2.1, x.2.2⟩
/-- the dict at d with these keys (each with the place of its tuple) and numbers, as it lies -/
def LiesQ (w : World) (d : Addr) (kvs : KvQ) (h : Heap) : Prop :=
  (d == sysModules) = false ∧ kvs.length ≤ 1000 ∧ ∃ xs, RelQ kvs xs ∧ (xs.map (·.1)).Nodup ∧ ∃ (o : Obj) (es : Array DictEntry) (ep : Nat), h.get? d = some o ∧ o.ExactDict ∧ o.data = .dict es ep ∧ es.toList = xs.map (entQ w)
def dicQ (w : World) (d : Addr) (kvs : KvQ) : HO := .ext (LiesQ w d kvs)
/-- each key's tuple stands at its place -/
def KeysQ (H : Hp) (kvs : KvQ) : Prop := ∀ p ∈ kvs, KyAt H p.1 (.ref p.2.1) ∧ p.1.depth ≤ 8
theorem KeysQ.kT {H H' : Hp} {kvs : KvQ} (h : KeysQ H kvs) (k : KT H H') : KeysQ H' kvs := fun p hp => ⟨(h p hp).1.kT k, (h p hp).2⟩
def valQ (kvs : KvQ) (k : NestedKey) : Option Int := (kvs.find? fun p => decide (p.1 = k)).map (·.2.2)
def putQ (kvs : KvQ) (k : NestedKey) (a : Addr) (n : Int) : KvQ := if (valQ kvs k).isSome then kvs.map fun p => if p.1 = k then (p.1, p.2.1, n) else p else kvs ++ [(k, a, n)]
def dropQ (kvs : KvQ) (k : NestedKey) : KvQ := kvs.filter fun p => decide (p.1 ≠ k)
section
variable {kvs : KvQ} {xs : List (NestedKey × Addr × Value)} {k : NestedKey} {a : Addr} {n : Int} {v : Value}
theorem RelQ.look (r : RelQ kvs xs) (k : NestedKey) : (valQ kvs k = none ∧ atKey xs k = none) ∨ ∃ n p, valQ kvs k = some n ∧ atKey xs k = some p ∧ RelV (.int n) p.2 := by
  induction r with
  | nil => exact .inl ⟨rfl, rfl⟩
  | @cons p q ps qs e t ih =>
    unfold valQ atKey at ih ⊢
    by_cases z : p.1 = k
    · rw [List.find?_cons_of_pos (by simpa using z), List.find?_cons_of_pos (by simpa using e.1 ▸ z)]
      exact .inr ⟨_, _, rfl, rfl, e.2.2⟩
    · rw [List.find?_cons_of_neg (by simpa using z), List.find?_cons_of_neg (by simpa using e.1 ▸ z)]
      exact ih
theorem RelQ.has (r : RelQ kvs xs) (k : NestedKey) : (atKey xs k).isSome = (valQ kvs k).isSome := by
  rcases r.look k with ⟨h1, h2⟩ | ⟨n, p, h1, h2, _⟩ <;> rw [h1, h2] <;> rfl
theorem RelQ.map (r : RelQ kvs xs) (hv : RelV (.int n) v) (k : NestedKey) : RelQ (kvs.map fun p => if p.1 = k then (p.1, p.2.1, n) else p) (xs.map (putAt k v)) := by
  induction r with
  | nil => exact .nil
  | @cons p q ps qs e t ih =>
    refine .cons ?_ ih
    unfold putAt
    dsimp only
    by_cases z : p.1 = k
    · rw [if_pos z, if_pos (e.1 ▸ z)]
      exact ⟨e.1, e.2.1, hv⟩
    · rw [if_neg z, if_neg (e.1 ▸ z)]
      exact e
theorem RelQ.app {kvs' : KvQ} {xs' : List (NestedKey × Addr × Value)} (r : RelQ kvs xs) (t : RelQ kvs' xs') : RelQ (kvs ++ kvs') (xs ++ xs') := by
  induction r with
  | nil => exact t
  | cons e _ ih => exact .cons e ih
theorem RelQ.put (r : RelQ kvs xs) (hv : RelV (.int n) v) (k : NestedKey) (a : Addr) : RelQ (putQ kvs k a n) (storedH xs k a v) := by
  unfold putQ storedH
  rw [r.has k]
  split
  · exact r.map hv k
  · exact r.app (.cons ⟨rfl, rfl, hv⟩ .nil)
theorem RelQ.drop (r : RelQ kvs xs) (k : NestedKey) : RelQ (dropQ kvs k) (withoutH xs k) := by
  unfold dropQ withoutH
  induction r with
  | nil => exact .nil
  | @cons p q ps qs e t ih =>
    rw [List.filter_cons, List.filter_cons]
    by_cases z : p.1 = k
    · rw [if_neg (by simpa using z), if_neg (by simpa using e.1 ▸ z)]
      exact ih
    · rw [if_pos (by simpa using z), if_pos (by simpa using e.1 ▸ z)]
      exact .cons e ih
theorem RelQ.at : ∀ {kvs : KvQ} {xs : List (NestedKey × Addr × Value)} {j : Nat} {p : NestedKey × Addr × Int} {q : NestedKey × Addr × Value}, RelQ kvs xs → kvs[j]? = some p → xs[j]? = some q → p.1 = q.1 ∧ p.2.1 = q.2.1 ∧ RelV (.int p.2.2) q.2.2
  | _, _, _, _, _, .nil, h, _ => by simp at h
  | _, _, 0, _, _, .cons e _, h1, h2 => by
    cases h1
    cases h2
    exact e
  | _, _, j + 1, _, _, .cons _ t, h1, h2 => RelQ.at (j := j) t h1 h2
theorem RelQ.len (r : RelQ kvs xs) : kvs.length = xs.length := Paired.length r
theorem putQ_len : (putQ kvs k a n).length ≤ kvs.length + 1 := by
  unfold putQ
  split
  · rw [List.length_map]
    exact Nat.le_succ _
  · rw [List.length_append]
    exact Nat.le_refl _
theorem KeysQ.put {H : Hp} (h : KeysQ H kvs) (hk : KyAt H k (.ref a)) (hd : k.depth ≤ 8) : KeysQ H (putQ kvs k a n) := by
  intro p hp
  unfold putQ at hp
  split at hp
  · obtain ⟨q, hq, rfl⟩ := List.mem_map.mp hp
    split
    · exact h q hq
    · exact h q hq
  · rcases List.mem_append.mp hp with z | z
    · exact h p z
    · rw [List.mem_singleton.mp z]
      exact ⟨hk, hd⟩
theorem KeysQ.drop {H : Hp} (h : KeysQ H kvs) : KeysQ H (dropQ kvs k) := fun p hp => h p (List.mem_filter.mp hp).1
end
section
variable {X : Cx} {pins : List (Addr × Obj)} {σ : L2.St} {H : Hp} {s : Shared} {d : Addr} {kvs : KvQ} {K : PySem.W.Frag}
theorem ext_dicQ {P : Program} {w : World} {H : Hp} {h : Heap} (l : LiesQ w d kvs h) : ObjOk P w H h d (dicQ w d kvs) :=
  ⟨l, (let ⟨_, _, _, _, _, o, _, _, e, _⟩ := l; ⟨o, e⟩), fun h1 h2 l k => let ⟨a, b, xs, r, nd, o, es, ep, e, c⟩ := l; ⟨a, b, xs, r, nd, o, es, ep, k o e, c⟩⟩
/-- the dict with its keys, for the library's rules -/
theorem dicQ_at (I : L2.Inv X pins σ H s) (h : H d = some (dicQ X.w d kvs)) (ok : KeysQ H kvs) : ∃ xs, (d == sysModules) = false ∧ kvs.length ≤ 1000 ∧ RelQ kvs xs ∧ s.heap.DictOfH (nestedKind X.prog X.w) d xs := by
  obtain ⟨a, b, xs, r, nd, o, es, ep, e, c, dt, el⟩ : LiesQ X.w d kvs s.heap := (I.hok d _ h).1
  refine ⟨xs, a, b, r, o, es, ep, e, c, dt, el, fun x hx => ?_, nd⟩
  have key : ∀ {kvs : KvQ} {xs : List (NestedKey × Addr × Value)}, RelQ kvs xs → KeysQ H kvs → ∀ x ∈ xs, (nestedKind X.prog X.w).is s.heap x.1 x.2.1 := fun {kvs xs} r => by
    induction r with
    | nil => exact fun _ x hx => nomatch hx
    | @cons p q ps qs e t ih =>
      intro ok x hx
      rcases List.mem_cons.mp hx with z | z
      · have := ok p List.mem_cons_self
        rw [z, ← e.1, ← e.2.1]
        exact ⟨this.1.is I rfl, this.2⟩
      · exact ih (fun p hp => ok p (List.mem_cons_of_mem _ hp)) x z
  exact key r ok x hx
/-- the dict behind a change -/
theorem dicQ_put (I : L2.Inv X pins σ H s) (h : H d = some (dicQ X.w d kvs)) {kvs' : KvQ} {xs' : List (NestedKey × Addr × Value)} {h' : Heap} {tk : Nat} (hd : (d == sysModules) = false) (l : kvs'.length ≤ 1000) (r : RelQ kvs' xs') (m : h'.DictOfH (nestedKind X.prog X.w) d xs') (sb : Heap.SameBut d s.heap h') :
    L2.Inv X pins σ (upd H d (dicQ X.w d kvs')) { s with heap := h', toks := tk } := by
  obtain ⟨o, es, ep, e, c, dt, el, _, nd⟩ := m
  refine I.write (x := d) (e := d) (by rw [h]; exact trivial) (.inl rfl) (fun b u nb hu => (sb.2 b nb).trans hu) ⟨o, e⟩ (ext_dicQ ⟨hd, l, xs', r, nd, o, es, ep, e, c, dt, el⟩)
/-! #### the operations -/
def tDNewQ (w : World) : TE := fun _ H Q => ∀ p, H p = none → Q (.ref p) (upd H p (dicQ w p []))
theorem pe_dnewQ (w : World) {pos : Pos} (hw : X.w = w := by rfl) : PE X (.Dict [] [] pos) (tDNewQ w) := by
  subst hw
  refine ⟨fun pins s σ H Q I h => wpAny_Dict_empty ?_⟩
  have here := Heap.get?_push_size s.heap (o := { cls := .type "dict", data := .dict #[] }) rfl
  exact ⟨.ref s.heap.objs.size, _, I.laid (a := s.heap.objs.size) (o := dicQ X.w s.heap.objs.size []) (t' := s.toks) (fun _ _ q => Heap.get?_push_of_some _ q) (Nat.le_refl _)
    (ext_dicQ ⟨beq_eq_false_iff_ne.mpr (Nat.ne_of_gt I.big), Nat.zero_le _, [], .nil, .nil, _, _, _, here, ⟨rfl, rfl, rfl⟩, rfl, rfl⟩), rfl, h _ (I.hok.fresh (Nat.le_refl _))⟩
abbrev roomQ (hu : X.A.units + 64 < cLine) : (nestedKind X.prog X.w).room X.A.in1 := by
  show X.A.units + 1 + 8 < cLine
  omega
def rInQ (w : World) (neg : Bool) : R2 := fun x y H Q => ∃ (a d : Addr) (kvs : KvQ) (k : NestedKey), x = .ref a ∧ y = .ref d ∧ H d = some (dicQ w d kvs) ∧ KeysQ H kvs ∧ KyAt H k (.ref a) ∧ k.depth ≤ 8 ∧ Q (.bl (neg != (valQ kvs k).isSome)) H
theorem notInQ (w : World) (hu : X.A.units + 64 < cLine) (hw : X.w = w := by rfl) : OpR X (compareOp .NotIn) (rInQ w true) := by
  subst hw
  intro pins s σ H x y v u Q I rx ry h
  obtain ⟨a, d, kvs, k, rfl, rfl, hd, ok, hk, dk, q⟩ := h
  cases rx
  cases ry
  obtain ⟨xs, nd, _, r, m⟩ := dicQ_at I hd ok
  show wpAny _ _ (contains (.ref d) (.ref a) >>= fun z => pure (Value.bool (!z))) _ _ s
  refine wpAny_bind (wpAny_contains_heap (roomQ hu) ⟨hk.is I rfl, dk⟩ nd m (wpAny_pure ?_))
  rw [r.has k]
  exact ⟨.bl (!(valQ kvs k).isSome), H, I.kept (t' := _) fun _ _ e => e, rfl, by simpa using q⟩
def rLenQ (w : World) : List V → Hp → VK → Prop := fun xs H Q => ∃ (d : Addr) (kvs : KvQ), xs = [.ref d] ∧ H d = some (dicQ w d kvs) ∧ KeysQ H kvs ∧ Q (.int (kvs.length : Nat)) H
theorem lenQ (w : World) (hw : X.w = w := by rfl) : CallR X (.builtin "len") (rLenQ w) := by
  subst hw
  intro pins s σ H xs us Q I r h
  obtain ⟨d, kvs, rfl, hd, ok, q⟩ := h
  rw [Vals.ref1 r]
  obtain ⟨ys, nd, l, r, m⟩ := dicQ_at I hd ok
  have hl := r.len
  refine call_len_dictH nd m (by omega) ?_
  rw [← hl]
  exact ⟨.int (kvs.length : Nat), H, I.kept (t' := _) fun _ _ e => e, ⟨_, rfl⟩, q⟩
theorem plain_dic {P : Program} {w : World} {h : Heap} {xs : List (NestedKey × Addr × Value)} (m : h.DictOfH (nestedKind P w) d xs) : ∀ b, Value.ref d = .ref b → ∃ ob, h.get? b = some ob ∧ ob.dict = none := fun b e => by
  cases e
  obtain ⟨o, _, _, h1, h2, _⟩ := m
  exact ⟨o, h1, h2.2.1⟩
/-- d.get(k, x) -/
def tDGetQ (w : World) (td ty tx : TE) : TE := fun σ H Q => td σ H fun x H1 => ∃ d kvs, x = .ref d ∧ H1 d = some (dicQ w d kvs) ∧ KeysQ H1 kvs ∧ ty σ H1 fun y H2 => tx σ H2 fun z H3 => ∃ (a : Addr) (kvs : KvQ) (k : NestedKey) (n : Int), y = .ref a ∧ z = .int n ∧ H3 d = some (dicQ w d kvs) ∧ KeysQ H3 kvs ∧ KyAt H3 k (.ref a) ∧ k.depth ≤ 8 ∧ Q (.int ((valQ kvs k).getD n)) H3
theorem pe_dgetQ (w : World) {o e f : Expr} {apos cpos : Pos} {td ty tx : TE} (hu : X.A.units + 64 < cLine) (ho : PE X o td) (he : PE X e ty) (hf : PE X f tx) (m : M2 X o "get" apos e f cpos) (hw : X.w = w := by rfl) : PE X (.Call (.Attribute o "get" apos) [e, f] [] cpos) (tDGetQ w td ty tx) := by
  subst hw
  constructor
  intro pins s σ H Q I h
  refine wpAny_Call_method m.base m.few m.line F.plainAttrs_dict F.slot_dict_get F.type_dict_get (thn (ho.run pins s σ H _ I h) fun u s1 hh => ?_)
  obtain ⟨x, H1, I1, rx, d, kvs, rfl, hd, ok, q1⟩ := hh
  cases rx
  obtain ⟨xs, nd, _, r, mm⟩ := dicQ_at I1 hd ok
  refine ⟨mm.typeIs, plain_dic mm, ?_⟩
  rw [m.trees]
  refine Calls.callWith_builtin rfl (Calls.evalArgs_plain (Calls.spliced_cons (thn (he.run pins s1 σ H1 _ I1 q1) fun iv s2 ⟨y, H2, I2, ry, q2⟩ => Calls.spliced_cons (thn (hf.run pins s2 σ H2 _ I2 q2) fun fv s3 hh3 => Calls.spliced_nil ?_))))
  obtain ⟨z, H3, I3, rz, a, kvs3, k, n, rfl, rfl, hd3, ok3, hk, dk, q3⟩ := hh3
  cases ry
  obtain ⟨xs3, nd3, _, r3, m3⟩ := dicQ_at I3 hd3 ok3
  refine call_meetsIn F.slot_dict_get m3.typeIs F.entry_dict_get (F.args_dict_get_3 _ _ _) (meetsH_dict_get_default (nestedKind X.prog X.w) d a nd3 fv) ⟨roomQ hu, k, xs3, ⟨hk.is I3 rfl, dk⟩, m3, ?_⟩
  have I4 := I3.kept (h' := s3.heap) (t' := s3.toks + (nestedKind X.prog X.w).draws k) fun _ _ e => e
  rcases r3.look k with ⟨h1, h2⟩ | ⟨m1, p, h1, h2, h3⟩
  · rw [h1] at q3
    rw [h2]
    exact ⟨_, H3, I4, rz, q3⟩
  · rw [h1] at q3
    rw [h2]
    exact ⟨_, H3, I4, h3, q3⟩
/-- d[k] = n -/
def sSetQ (w : World) : TSet := fun x y z H N => ∃ (a d : Addr) (kvs : KvQ) (k : NestedKey) (n : Int), x = .ref d ∧ y = .ref a ∧ z = .int n ∧ H d = some (dicQ w d kvs) ∧ KeysQ H kvs ∧ KyAt H k (.ref a) ∧ k.depth ≤ 8 ∧ kvs.length < 1000 ∧ N (upd H d (dicQ w d (putQ kvs k a n)))
theorem setQ (w : World) (hu : X.A.units + 64 < cLine) (hw : X.w = w := by rfl) : PSet X (sSetQ w) := by
  subst hw
  intro pins s σ H o i v ov iv u Q I ro ri rv h
  obtain ⟨a, d, kvs, k, n, rfl, rfl, rfl, hd, ok, hk, dk, hl, q⟩ := h
  cases ro
  cases ri
  obtain ⟨xs, nd, _, r, m⟩ := dicQ_at I hd ok
  have hl2 := r.len
  refine wpAny_setItem_heap (hsz := Nat.le_of_lt (small1000 (by omega))) (roomQ hu) ⟨hk.is I rfl, dk⟩ m fun h' m' sb => ?_
  have := @putQ_len kvs k a n
  exact ⟨_, dicQ_put I hd nd (by omega) (r.put rv k a) m' sb, q⟩
/-- del d[k] -/
def sDDelQ (w : World) (td ty : TE) : TS := fun D σ H => td σ H fun x H1 => ty σ H1 fun y H2 => ∃ (a d : Addr) (kvs : KvQ) (k : NestedKey), x = .ref d ∧ y = .ref a ∧ H2 d = some (dicQ w d kvs) ∧ KeysQ H2 kvs ∧ KyAt H2 k (.ref a) ∧ k.depth ≤ 8 ∧ (valQ kvs k).isSome = true ∧ D.nx σ (upd H2 d (dicQ w d (dropQ kvs k)))
theorem ps_ddelQ (w : World) {o i : Expr} {td ty : TE} {pos tpos : Pos} (hu : X.A.units + 64 < cLine) (ho : PE X o td) (hi : PE X i ty) (hw : X.w = w := by rfl) : PS X (.Delete [.Subscript o i tpos] pos) (sDDelQ w td ty) := by
  subst hw
  refine ⟨fun pins s σ H D I h => ?_⟩
  refine wpAny_Delete (wpAny_deleteEach_cons (wpAny_delete_Subscript (thn (ho.run pins s σ H _ I h) fun u s1 h1 => ?_)))
  obtain ⟨x, H1, I1, rx, q1⟩ := h1
  refine thn (hi.run pins s1 σ H1 _ I1 q1) fun iv s2 h2 => ?_
  obtain ⟨y, H2, I2, ry, a, d, kvs, k, rfl, rfl, hd, ok, hk, dk, there, q2⟩ := h2
  cases rx
  cases ry
  obtain ⟨xs, nd, hl, r, m⟩ := dicQ_at I2 hd ok
  have hl2 := r.len
  obtain ⟨p, hp⟩ := Option.isSome_iff_exists.mp ((r.has k).trans there)
  refine wpAny_delItem_heap (hsz := Nat.le_of_lt (small1000 (by omega))) (roomQ hu) ⟨hk.is I2 rfl, dk⟩ nd m hp fun h' m' sb => wpAny_deleteEach_nil ⟨σ, _, dicQ_put I2 hd nd ?_ (r.drop k) m' sb, q2⟩
  exact Nat.le_trans (List.length_filter_le _ _) hl
/-! #### tuple(d.items()) -/
/-- many new objects at once -/
theorem _root_.L2.Inv.many {H' : Hp} {h' : Heap} {tk : Nat} (I : L2.Inv X pins σ H s) (k : ∀ b o, s.heap.get? b = some o → h'.get? b = some o) (sm : Same H H') (low : ∀ b o, s.heap.get? b = some o → H b = none → H' b = none) (new : ∀ b o, H' b = some o → H b = none → ObjOk X.prog X.w H' h' b o) : L2.Inv X pins σ H' { s with heap := h', toks := tk } := by
  refine I.un ⟨fun b o e _ _ _ => k b o e, fun b o e _ _ _ => ⟨o.slots, k b o e⟩, fun b o e n _ => low b o e n, fun b o e _ => ⟨o, k b o e⟩, fun b xs e => sm _ _ e, fun b o u e => sm _ _ e, fun b ps e => ⟨#[], by rw [sm _ _ e]; simp⟩⟩ fun b o e => ?_
  cases z : H b with
  | none => exact new b o e z
  | some o2 =>
    have e2 := sm _ _ z
    rw [e] at e2
    cases e2
    exact (I.hok b _ z).stay (fun c u _ q => k c u q) (fun c q => sm _ _ q) fun c xs q => sm _ _ q
theorem Vals.refs : ∀ as : List Addr, Vals (as.map V.ref) (as.map Value.ref)
  | [] => .nil
  | a :: as => .cons rfl (Vals.refs as)
/-- pairs at these places -/
def pairsU (H : Hp) : List Addr → KvQ → Hp
  | a :: as, x :: kvs => upd (pairsU H as kvs) a (.tup [.ref x.2.1, .int x.2.2])
  | _, _ => H
theorem pairsU_off {H : Hp} : ∀ {as : List Addr} {kvs : KvQ} {b : Addr}, b ∉ as → pairsU H as kvs b = H b
  | [], _, _, _ => by unfold pairsU; rfl
  | a :: as, [], _, _ => by unfold pairsU; rfl
  | a :: as, x :: kvs, b, h => by
    unfold pairsU
    rw [upd_ne (show b ≠ a from fun z => h (by rw [z]; exact List.mem_cons_self))]
    exact pairsU_off fun z => h (List.mem_cons_of_mem _ z)
theorem pairsU_at {H : Hp} : ∀ {as : List Addr} {kvs : KvQ} {j : Nat} {a : Addr} {x : NestedKey × Addr × Int}, as.Pairwise (· < ·) → as[j]? = some a → kvs[j]? = some x → pairsU H as kvs a = some (.tup [.ref x.2.1, .int x.2.2])
  | [], _, _, _, _, _, h, _ => by simp at h
  | _ :: _, [], _, _, _, _, _, h => by simp at h
  | a :: as, x :: kvs, 0, _, _, _, h1, h2 => by
    cases h1
    cases h2
    unfold pairsU
    exact upd_same
  | a :: as, x :: kvs, j + 1, b, y, hp, h1, h2 => by
    have h3 : as[j]? = some b := h1
    obtain ⟨p1, p2⟩ := List.pairwise_cons.mp hp
    unfold pairsU
    rw [upd_ne (Nat.ne_of_gt (p1 b (List.mem_of_getElem? h3)))]
    exact pairsU_at p2 h3 h2
theorem meets_tuple_items {prog : Program} {w : World} {r d : Addr} {es : Array DictEntry} {ep : Nat} {T : String} (ty : ∀ s : Shared, s.heap.IsItemsView r d → s.TypeIs (.ref r) T) (other : Nonempty (PLift ((Value.type T == Value.type "tuple") = false))) (hn : es.size ≤ sizeLine) :
    MeetsIn prog w (Builtin.«tuple.__new__» ⟨[.type "tuple", .ref r], []⟩) (fun A R s => A.handled = none ∧ s.heap.IsItemsView r d ∧ s.heap.DictRaw d es ep ∧ ∀ (h' : Heap) (tk : Nat) (as : List Addr), (∀ b o, s.heap.get? b = some o → h'.get? b = some o) → as.length = es.size → PySem.W.DilG es s.heap.objs.size h' as → R (.ok (.ret (.ref h'.objs.size))) { s with heap := h'.push { cls := .type "tuple", data := .seq (as.map Value.ref).toArray }, toks := tk }) :=
  .of_wp fun A R s ⟨hh, hv, hm, h⟩ => by
    have hsub := sub_tuple_self
    have hinit := init_tuple_lookup
    have hmh := madeHere_tuple
    have hT := ty s hv
    wp_walk using wpAny_typeOf hT
    rw [other.elim PLift.down, if_neg Bool.false_ne_true]
    refine wpAny_bind (PySem.W.dil_collect hh hv hm hn fun h' tk as hk hl hG => ?_)
    show wpAny _ _ (Builtin.Tuple.tupleExact (as.map Value.ref).toArray >>= fun v => ret v) _ _ _
    unfold Builtin.Tuple.tupleExact
    refine wpAny_bind (wpAny_newObj_type ?_ (by show (as.map Value.ref).toArray.size ≤ sizeLine; rw [List.size_toArray, List.length_map, hl]; exact hn))
    exact wpAny_pure ⟨_, rfl, h h' tk as hk hl hG⟩
def tTupItemsQ (w : World) (te : TE) : TE := fun σ H Q => te σ H fun x H1 => ∃ (d : Addr) (kvs : KvQ), x = .ref d ∧ H1 d = some (dicQ w d kvs) ∧ KeysQ H1 kvs ∧ ∀ (p : Addr) (as : List Addr) (H' : Hp), Same H1 H' → H1 p = none → (∀ a ∈ as, H1 a = none) → as.length = kvs.length → H' p = some (.tup (as.map V.ref)) → (∀ (j : Nat) (a : Addr) (x : NestedKey × Addr × Int), as[j]? = some a → kvs[j]? = some x → H' a = some (.tup [.ref x.2.1, .int x.2.2])) → Q (.ref p) H'
theorem pe_tupItemsQ (w : World) {e : Expr} {te : TE} {p apos cpos pos : Pos} (hc : X.calm = true) (he : PE X e te) (hg : Gl X "tuple") (hm : X.mg "tuple" = none) (hw : X.w = w := by rfl) (hv : bootBuiltins "tuple" = some (.type "tuple") := by decide +kernel) (hbase : attributeBase e "items" X.env (eval e X.env) = eval e X.env := by rfl) (hline : (apos.endLine == cpos.line) = true := by rfl)
    (hs : starEach [.Call (.Attribute e "items" apos) [] [] cpos] X.env = (false, eval (.Call (.Attribute e "items" apos) [] [] cpos) X.env) :: starEach [] X.env := by rfl) :
    PE X (.Call (.Name "tuple" p) [.Call (.Attribute e "items" apos) [] [] cpos] [] pos) (tTupItemsQ w te) := by
  subst hw
  constructor
  intro pins s σ H Q I hq
  refine wpAny_Call_Name_kw (ld_blt I hg hm hv (PyProof.Rows.callWith_type1 ?_ hs rfl))
  rw [hs]
  refine Calls.spliced_cons (rest := backTo pos (starEach [] X.env)) ?_
  refine wpAny_Call_method (T := "dict") (id := "dict.items") hbase rfl hline F.plainAttrs_dict F.slot_dict_items F.type_dict_items (thn (he.run pins s σ H _ I hq) fun u s1 hh => ?_)
  obtain ⟨x, H1, I1, rx, d, kvs, rfl, hd, ok, q⟩ := hh
  cases rx
  obtain ⟨xs, nd, hl, rel, m⟩ := dicQ_at I1 hd ok
  obtain ⟨es, ep, raw, hes, at'⟩ := m.raw
  have hlx := rel.len
  have fit : es.size ≤ sizeLine := Nat.le_of_lt (small1000 (by omega))
  refine ⟨m.typeIs, plain_dic m, method_meetsIn F.slot_dict_items F.entry_dict_items rfl (PySem.evalArgs_none ⟨rfl, m.typeIs, F.args_dict_items_1 _, _, meets_dict_items_raw d nd, ⟨⟨es, ep, raw⟩, Calls.spliced_nil ?_⟩⟩)⟩
  have I2 : L2.Inv X pins σ H1 { s1 with heap := s1.heap.push { cls := .type "dict_items", data := .fields #[.ref d] } } := I1.kept (t' := s1.toks) fun _ _ => Heap.get?_push_of_some _
  refine callType_newIn F.called_tuple (by decide) (F.typeCall_tuple_1 _) (F.newCall_tuple_1 _) (fun obj => F.args_object_init_2 obj _) F.entry_tuple_new (meets_tuple_items (T := "dict_items") (es := es) (ep := ep) (d := d) (fun _ v => v.typeIs) ⟨⟨by decide⟩⟩ fit) ⟨I1.ok.hd hc, ⟨_, Heap.get?_push_size _ rfl, rfl, rfl⟩, raw.push _, fun h' tk as hk has hG => ⟨⟨_, Heap.get?_push_size _ rfl, rfl⟩, ?_⟩⟩
  have I3 : L2.Inv X pins σ H1 { s1 with heap := h', toks := tk } := I2.kept (t' := tk) hk
  have free : ∀ a ∈ as, H1 a = none := fun a ha => I2.hok.fresh (Nat.le_of_lt (hG.above a ha))
  have there : ∀ a ∈ as, a < h'.objs.size := fun a ha => hG.there ha
  have hp : H1 h'.objs.size = none := I3.hok.fresh (Nat.le_refl _)
  have sm : Same H1 (upd (pairsU H1 as kvs) h'.objs.size (.tup (as.map V.ref))) := fun b o e => by
    rw [upd_ne (ne_of_none e hp), pairsU_off fun z => by rw [free b z] at e; cases e]
    exact e
  have len2 : as.length = kvs.length := by omega
  have got : ∀ (j : Nat) (a : Addr) (x : NestedKey × Addr × Int), as[j]? = some a → kvs[j]? = some x → (upd (pairsU H1 as kvs) h'.objs.size (.tup (as.map V.ref))) a = some (.tup [.ref x.2.1, .int x.2.2]) := fun j a x h1 h2 => by
    rw [upd_ne (Nat.ne_of_lt (there a (List.mem_of_getElem? h1)))]
    exact pairsU_at hG.rise h1 h2
  refine ⟨.ref h'.objs.size, _, I2.many (tk := tk) (fun b o e => Heap.get?_push_of_some _ (hk b o e)) sm (fun b o e n => ?_) (fun b o e n => ?_), rfl, q _ as _ sm hp free len2 upd_same got⟩
  · have hb := Heap.lt_size e
    have nb : b ∉ as := fun z => Nat.lt_irrefl _ (Nat.lt_trans (hG.above b z) hb)
    rw [upd_ne (Nat.ne_of_lt (Heap.lt_size (hk b o e))), pairsU_off nb]
    exact n
  · by_cases z : b = h'.objs.size
    · subst z
      rw [upd_same] at e
      cases e
      refine ⟨by rw [List.length_map]; exact Nat.le_of_lt (small1000 (by omega)), as.map Value.ref, ?_, IsTup.new _ _⟩
      exact Vals.refs as
    · by_cases y : b ∈ as
      · obtain ⟨j, hj⟩ := List.mem_iff_getElem?.mp y
        obtain ⟨hj2, ej⟩ := List.getElem?_eq_some_iff.mp hj
        obtain ⟨x, hx⟩ : ∃ x, kvs[j]? = some x := ⟨_, List.getElem?_eq_getElem (by omega)⟩
        rw [got j b x hj hx] at e
        cases e
        obtain ⟨hj3, e3⟩ := hG.pairs j b hj
        obtain ⟨y2, hy2, k1, k2, _⟩ := at' j hj3
        have rr := RelQ.at rel hx hy2
        refine ⟨by show 2 ≤ sizeLine; decide, [.ref y2.2.1, y2.2.2], .cons (by rw [rr.2.1]; rfl) (.cons rr.2.2 .nil), ⟨_, Heap.get?_push_of_some _ e3, rfl, _, by rw [k1, k2]⟩⟩
      · rw [upd_ne z, pairsU_off y, n] at e
        cases e
end
end My

set_option Elab.async false
set_option linter.all false
set_option maxRecDepth 100000
set_option maxHeartbeats 2000000
namespace My
open PySem PySem.Spec PyProof.Rows L2
/-! ### questions as keys -/
def nkE (p : Nat × Int) : NestedKey := .tup [.text (sS p.1), .num p.2]
def nkR : Option (Nat × Int × Int) → NestedKey
  | none => .none
  | some (c, lo, hi) => .tup [.text (sS c), .num lo, .num hi]
def nkQ (q : Qn) : NestedKey := .tup [.tup (q.1.map nkE), nkR q.2]
theorem nkE_inj {a b : Nat × Int} (h : nkE a = nkE b) : a = b := by
  unfold nkE at h
  injection h with h
  injection h with h1 h
  injection h with h2 _
  injection h1 with h1
  injection h2 with h2
  exact Prod.ext (sS_inj h1) h2
theorem nkEs_inj : ∀ {a b : List (Nat × Int)}, a.map nkE = b.map nkE → a = b
  | [], [], _ => rfl
  | [], _ :: _, h => nomatch h
  | _ :: _, [], h => nomatch h
  | x :: a, y :: b, h => by
    injection h with h1 h2
    rw [nkE_inj h1, nkEs_inj h2]
theorem nkR_inj : ∀ {a b : Option (Nat × Int × Int)}, nkR a = nkR b → a = b
  | none, none, _ => rfl
  | none, some _, h => nomatch h
  | some _, none, h => nomatch h
  | some (c, lo, hi), some (c', lo', hi'), h => by
    injection h with h
    injection h with h1 h
    injection h with h2 h
    injection h with h3 _
    injection h1 with h1
    injection h2 with h2
    injection h3 with h3
    rw [sS_inj h1, h2, h3]
theorem nkQ_inj {a b : Qn} (h : nkQ a = nkQ b) : a = b := by
  unfold nkQ at h
  injection h with h
  injection h with h1 h
  injection h with h2 _
  injection h1 with h1
  exact Prod.ext (nkEs_inj h1) (nkR_inj h2)
theorem nkQ_depth (q : Qn) : (nkQ q).depth ≤ 8 := by
  have e1 : NestedKey.depthAll (q.1.map nkE) ≤ 1 := by
    induction q.1 with
    | nil => exact Nat.zero_le _
    | cons p es ih =>
      show max (nkE p).depth (NestedKey.depthAll (es.map nkE)) ≤ 1
      exact Nat.max_le.mpr ⟨Nat.le_refl _, ih⟩
  have e2 : (nkR q.2).depth ≤ 1 := by
    match q.2 with
    | none => exact Nat.zero_le _
    | some (c, lo, hi) => exact Nat.le_refl _
  show max (NestedKey.depthAll (q.1.map nkE) + 1) (max (nkR q.2).depth 0) + 1 ≤ 8
  omega
theorem FzA.nkE {H : Hp} : ∀ {es : List (Nat × Int)} {ps : List V}, FzA H ps (es.map eqD) → KyAll H (es.map nkE) ps
  | [], _, .nil => .nil
  | p :: es, _, .cons f r => .cons (by
      cases f with
      | tup h a =>
        cases a with
        | cons x a =>
          cases x
          cases a with
          | cons y a =>
            cases y
            cases a
            exact .tup (.inl h) (.cons (.txt _) (.cons (.int _) .nil))) (FzA.nkE r)
theorem Fz.nkR {H : Hp} {v : V} : ∀ {rc : Option (Nat × Int × Int)}, Fz H v (rchD rc) → KyAt H (nkR rc) v
  | none, f => by
    cases f
    exact .non
  | some (c, lo, hi), f => by
    cases f with
    | tup h a =>
      cases a with
      | cons x a =>
        cases x
        cases a with
        | cons y a =>
          cases y
          cases a with
          | cons z a =>
            cases z
            cases a
            exact .tup (.inl h) (.cons (.txt _) (.cons (.int _) (.cons (.int _) .nil)))
theorem QZ.ky {H : Hp} {v : V} {es : List (Nat × Int)} {rc : Option (Nat × Int × Int)} (h : QZ H v es rc) : KyAt H (nkQ (es, rc)) v := by
  obtain ⟨qa, ev, y, rfl, h1, ⟨ea, o, ps, rfl, _, hea, fps⟩, fy⟩ := h
  exact .tup (.inl h1) (.cons (.tup (.inr ⟨o, hea⟩) (FzA.nkE fps)) (.cons (Fz.nkR fy) .nil))
theorem QZ.ref {H : Hp} {v : V} {es : List (Nat × Int)} {rc : Option (Nat × Int × Int)} (h : QZ H v es rc) : ∃ a, v = .ref a := by
  obtain ⟨qa, ev, y, rfl, _⟩ := h
  exact ⟨qa, rfl⟩
/-! ### what is wanted -/
def isQ (q : Qn) (a : Ask) : Bool := decide (a.es = q.1 ∧ a.rc = q.2)
def oftenOf (as : List Ask) (q : Qn) : Int := ((as.find? (isQ q)).map (·.often)).getD 0
/-- a question asked so much more often -/
def moreA (as : List Ask) (q : Qn) (n : Int) : List Ask := if as.any (isQ q) then as.map fun a => if isQ q a then ⟨q.1, q.2, oftenOf as q + n⟩ else a else as ++ [⟨q.1, q.2, n⟩]
/-- a question left -/
def lessA (as : List Ask) (q : Qn) : List Ask := as.filter fun a => !isQ q a
/-- the asks with the places of their questions, as keys -/
def kvsA (ws : List (Addr × Ask)) : KvQ := ws.map fun x => (nkQ (x.2.es, x.2.rc), x.1, x.2.often)
theorem isQ_key {q : Qn} {a : Ask} : isQ q a = true ↔ nkQ (a.es, a.rc) = nkQ q := by
  unfold isQ
  rw [decide_eq_true_iff]
  exact ⟨fun ⟨h1, h2⟩ => by rw [h1, h2], fun h => by
    have e := nkQ_inj h
    exact ⟨congrArg Prod.fst e, congrArg Prod.snd e⟩⟩
theorem val_kvs (q : Qn) : ∀ ws : List (Addr × Ask), valQ (kvsA ws) (nkQ q) = ((ws.map (·.2)).find? (isQ q)).map (·.often)
  | [] => rfl
  | x :: ws => by
    have ih := val_kvs q ws
    unfold valQ kvsA at ih ⊢
    rw [List.map_cons, List.map_cons]
    by_cases e : isQ q x.2 = true
    · rw [List.find?_cons_of_pos (by simpa using isQ_key.mp e), List.find?_cons_of_pos e]
      rfl
    · rw [List.find?_cons_of_neg (by simpa using fun z => e (isQ_key.mpr z)), List.find?_cons_of_neg e]
      exact ih
theorem has_kvs (q : Qn) (ws : List (Addr × Ask)) : (valQ (kvsA ws) (nkQ q)).isSome = (ws.map (·.2)).any (isQ q) := by
  rw [val_kvs, Option.isSome_map, Bool.eq_iff_iff, List.find?_isSome]
  simp
  exact ⟨fun ⟨x, ⟨a, h⟩, e⟩ => ⟨a, x, h, e⟩, fun ⟨a, x, h, e⟩ => ⟨x, ⟨a, h⟩, e⟩⟩
/-- the same with the places -/
def moreW (ws : List (Addr × Ask)) (qa : Addr) (q : Qn) (n : Int) : List (Addr × Ask) := if (ws.map (·.2)).any (isQ q) then ws.map fun x => if isQ q x.2 then (x.1, ⟨q.1, q.2, oftenOf (ws.map (·.2)) q + n⟩) else x else ws ++ [(qa, ⟨q.1, q.2, n⟩)]
def lessW (ws : List (Addr × Ask)) (q : Qn) : List (Addr × Ask) := ws.filter fun x => !isQ q x.2
theorem moreW_asks (ws : List (Addr × Ask)) (qa : Addr) (q : Qn) (n : Int) : (moreW ws qa q n).map (·.2) = moreA (ws.map (·.2)) q n := by
  unfold moreW moreA
  split
  · rw [List.map_map, List.map_map]
    refine List.map_congr_left fun x _ => ?_
    show (if isQ q x.2 = true then ((x.1, ⟨q.1, q.2, oftenOf (ws.map (·.2)) q + n⟩) : Addr × Ask) else x).2 = if isQ q x.2 = true then (⟨q.1, q.2, oftenOf (ws.map (·.2)) q + n⟩ : Ask) else x.2
    split <;> rfl
  · rw [List.map_append]
    rfl
theorem lessW_asks (ws : List (Addr × Ask)) (q : Qn) : (lessW ws q).map (·.2) = lessA (ws.map (·.2)) q := by
  unfold lessW lessA
  rw [List.filter_map]
  rfl
theorem moreW_kvs (ws : List (Addr × Ask)) (qa : Addr) (q : Qn) (n : Int) : kvsA (moreW ws qa q n) = putQ (kvsA ws) (nkQ q) qa ((valQ (kvsA ws) (nkQ q)).getD 0 + n) := by
  unfold moreW putQ
  rw [has_kvs, val_kvs]
  by_cases e : (ws.map (·.2)).any (isQ q) = true
  · rw [if_pos e, if_pos e]
    unfold kvsA
    rw [List.map_map, List.map_map]
    refine List.map_congr_left fun x _ => ?_
    show (nkQ ((if isQ q x.2 = true then ((x.1, ⟨q.1, q.2, oftenOf (ws.map (·.2)) q + n⟩) : Addr × Ask) else x).2.es, (if isQ q x.2 = true then ((x.1, ⟨q.1, q.2, oftenOf (ws.map (·.2)) q + n⟩) : Addr × Ask) else x).2.rc), (if isQ q x.2 = true then ((x.1, ⟨q.1, q.2, oftenOf (ws.map (·.2)) q + n⟩) : Addr × Ask) else x).1, (if isQ q x.2 = true then ((x.1, ⟨q.1, q.2, oftenOf (ws.map (·.2)) q + n⟩) : Addr × Ask) else x).2.often) = if nkQ (x.2.es, x.2.rc) = nkQ q then _ else _
    by_cases z : isQ q x.2 = true
    · rw [if_pos z, if_pos (isQ_key.mp z)]
      exact congrArg (fun k => (k, x.1, oftenOf (ws.map (·.2)) q + n)) (isQ_key.mp z).symm
    · rw [if_neg z, if_neg fun y => z (isQ_key.mpr y)]
  · rw [if_neg e, if_neg e]
    have : ((ws.map (·.2)).find? (isQ q)) = none := by
      rw [List.find?_eq_none]
      intro a ha y
      exact e (List.any_eq_true.mpr ⟨a, ha, y⟩)
    rw [this]
    unfold kvsA
    rw [List.map_append]
    show _ ++ [(nkQ (q.1, q.2), qa, n)] = _ ++ [(nkQ q, qa, 0 + n)]
    rw [Int.zero_add]
theorem lessW_kvs (ws : List (Addr × Ask)) (q : Qn) : kvsA (lessW ws q) = dropQ (kvsA ws) (nkQ q) := by
  unfold lessW dropQ kvsA
  rw [List.filter_map]
  refine congrArg _ (List.filter_congr fun x _ => ?_)
  show (!isQ q x.2) = decide (nkQ (x.2.es, x.2.rc) ≠ nkQ q)
  rw [Bool.eq_iff_iff]
  simp [← isQ_key]
/-! ### data in a list of data, questions compared -/
theorem eqv_e (x y : Nat × Int) : PyData.eqv (eqD x) (eqD y) = decide (x = y) := by
  show ((sS x.1 == sS y.1) && ((x.2 == y.2) && true)) = _
  rw [Bool.eq_iff_iff, Bool.and_eq_true, Bool.and_eq_true, beq_iff_eq, beq_iff_eq, decide_eq_true_iff]
  exact ⟨fun ⟨h1, h2, _⟩ => Prod.ext (sS_inj h1) h2, fun h => by rw [h]; exact ⟨rfl, rfl, rfl⟩⟩
theorem eqv_es : ∀ a b : List (Nat × Int), PyData.eqvAll (a.map eqD) (b.map eqD) = decide (a = b)
  | [], [] => rfl
  | [], _ :: _ => rfl
  | _ :: _, [] => rfl
  | x :: a, y :: b => by
    show (PyData.eqv (eqD x) (eqD y) && PyData.eqvAll (a.map eqD) (b.map eqD)) = _
    rw [eqv_es a b, eqv_e, Bool.eq_iff_iff, Bool.and_eq_true, decide_eq_true_iff, decide_eq_true_iff, decide_eq_true_iff]
    exact ⟨fun ⟨h1, h2⟩ => by rw [h1, h2], fun h => by
      injection h with h1 h2
      exact ⟨h1, h2⟩⟩
theorem eqv_r : ∀ a b : Option (Nat × Int × Int), PyData.eqv (rchD a) (rchD b) = decide (a = b)
  | none, none => rfl
  | none, some (_, _, _) => rfl
  | some (_, _, _), none => rfl
  | some (c, lo, hi), some (c', lo', hi') => by
    show ((sS c == sS c') && ((lo == lo') && ((hi == hi') && true))) = _
    rw [Bool.eq_iff_iff, Bool.and_eq_true, Bool.and_eq_true, Bool.and_eq_true, beq_iff_eq, beq_iff_eq, beq_iff_eq, decide_eq_true_iff]
    exact ⟨fun ⟨h1, h2, h3, _⟩ => by rw [sS_inj h1, h2, h3], fun h => by
      injection h with h
      injection h with h1 h
      injection h with h2 h3
      rw [h1, h2, h3]
      exact ⟨rfl, rfl, rfl, rfl⟩⟩
theorem eqv_q (a b : Qn) : PyData.eqv (qD a.1 a.2) (qD b.1 b.2) = decide (a = b) := by
  show (PyData.eqvAll (a.1.map eqD) (b.1.map eqD) && (PyData.eqv (rchD a.2) (rchD b.2) && true)) = _
  rw [eqv_es, eqv_r, Bool.eq_iff_iff, Bool.and_eq_true, Bool.and_eq_true, decide_eq_true_iff, decide_eq_true_iff, decide_eq_true_iff]
  exact ⟨fun ⟨h1, h2, _⟩ => Prod.ext h1 h2, fun h => by rw [h]; exact ⟨rfl, rfl, rfl⟩⟩
theorem any_qs (q : Qn) (qs : List Qn) : ((qs.map fun x => qD x.1 x.2).any fun e => PyData.eqv e (qD q.1 q.2)) = decide (q ∈ qs) := by
  rw [List.any_map, Bool.eq_iff_iff, List.any_eq_true, decide_eq_true_iff]
  constructor
  · rintro ⟨x, hx, e⟩
    have e2 : PyData.eqv (qD x.1 x.2) (qD q.1 q.2) = true := e
    rw [eqv_q, decide_eq_true_iff] at e2
    exact e2 ▸ hx
  · intro h
    refine ⟨q, h, ?_⟩
    show PyData.eqv (qD q.1 q.2) (qD q.1 q.2) = true
    rw [eqv_q]
    exact decide_eq_true rfl
/-- the questions that are asked -/
def qsOf (as : List Ask) : List Qn := as.map fun a => (a.es, a.rc)
theorem any_isQ (q : Qn) (as : List Ask) : as.any (isQ q) = decide (q ∈ qsOf as) := by
  unfold qsOf isQ
  rw [Bool.eq_iff_iff, List.any_eq_true, decide_eq_true_iff, List.mem_map]
  exact ⟨fun ⟨a, ha, e⟩ => by
    obtain ⟨h1, h2⟩ := of_decide_eq_true e
    exact ⟨a, ha, Prod.ext h1 h2⟩, fun ⟨a, ha, e⟩ => ⟨a, ha, decide_eq_true ⟨congrArg Prod.fst e, congrArg Prod.snd e⟩⟩⟩
end My

set_option Elab.async false
set_option linter.all false
set_option maxRecDepth 100000
set_option maxHeartbeats 4000000
namespace My
open PySem PySem.Spec PyProof.Rows L2
/-! ### all orders of letters, in the order in which they are found -/
/-! ### the least of all rows of lists, looked for deep first -/
section
variable {ls : List (List Nat)} {most : Nat} {W : List (List Nat) → Int}
end
/-- the least over all rows of those lists -/
theorem Opt.rows' {cols : List Nat} {rows : List (List Int)} {as : List Ask} {chg : Int} {ls : List (List Nat)} {most : Nat} {r : Int} (hl : ls.Nodup) (h : Opt cols rows as chg most ls r) : (∀ T, T.Sublist ls → lettersM T ≤ most → r ≤ workM cols rows T as chg) ∧ ∃ T, T.Sublist ls ∧ lettersM T ≤ most ∧ r = workM cols rows T as chg := by
  refine ⟨fun T hT l => h.le T (hl.sublist hT) (fun o ho => hT.subset ho) l, ?_⟩
  obtain ⟨ch, nd, sub, l, e⟩ := h.is
  obtain ⟨s, h1, p⟩ := choice_in hl nd sub
  exact ⟨s, h1, by rw [letters_perm p]; exact l, by rw [e, work_perm p]⟩
end My

set_option Elab.async false
set_option linter.all false
set_option maxRecDepth 100000
set_option maxHeartbeats 2000000
namespace My
open PySem PySem.Spec PyProof.Rows L2
/-! ### asks by their places -/
theorem moreA_new {q : Qn} {n : Int} {as : List Ask} (h : q ∉ qsOf as) : moreA as q n = as ++ [⟨q.1, q.2, n⟩] := by
  unfold moreA
  rw [if_neg (fun z => by rw [any_isQ] at z; exact h (of_decide_eq_true z))]
/-! ### asks in a list of values -/
theorem AsksZ.set {H : Hp} {vs : List V} {as : List Ask} (h : AsksZ H vs as) {v : V} {a : Ask} (x : AskZ H v a) : ∀ j, AsksZ H (vs.set j v) (as.set j a) := by
  induction h with
  | nil => exact fun _ => .nil
  | cons y r ih =>
    intro j
    cases j with
    | zero => exact .cons x r
    | succ j => exact .cons y (ih j)
theorem AsksZ.erase {H : Hp} {vs : List V} {as : List Ask} (h : AsksZ H vs as) : ∀ j, AsksZ H (vs.eraseIdx j) (as.eraseIdx j) := by
  induction h with
  | nil => exact fun _ => .nil
  | cons y r ih =>
    intro j
    cases j with
    | zero => exact r
    | succ j => exact .cons y (ih j)
/-! ### data whose tuples may be frozen -/
mutual
inductive Fg (H : Hp) : V → PyData → Prop
  | non : Fg H .non .none
  | bl (b : Bool) : Fg H (.bl b) (.bool b)
  | int (i : Int) : Fg H (.int i) (.int i)
  | str (x : Str) : Fg H (.str x) (.str x)
  | lst {a : Addr} {xs : List V} {ds : List PyData} : H a = some (.lst xs) → FgA H xs ds → Fg H (.ref a) (.list ds)
  | tup {a : Addr} {xs : List V} {ds : List PyData} : Rd H a (.tup xs) → FgA H xs ds → Fg H (.ref a) (.tuple ds)
inductive FgA (H : Hp) : List V → List PyData → Prop
  | nil : FgA H [] []
  | cons {v : V} {vs : List V} {d : PyData} {ds : List PyData} : Fg H v d → FgA H vs ds → FgA H (v :: vs) (d :: ds)
end
theorem Rd.mono {H H' : Hp} {a : Addr} {o : HO} (k : Same H H') (h : Rd H a o) : Rd H' a o := by
  rcases h with h | ⟨b, h⟩
  · exact .inl (k _ _ h)
  · exact .inr ⟨b, k _ _ h⟩
mutual
theorem Fg.mono {H H' : Hp} (k : Same H H') : ∀ (d : PyData) (v : V), Fg H v d → Fg H' v d
  | .none, _, .non => .non
  | .bool _, _, .bl b => .bl b
  | .int _, _, .int i => .int i
  | .str _, _, .str x => .str x
  | .list ds, _, .lst h a => .lst (k _ _ h) (FgA.mono k ds _ a)
  | .tuple ds, _, .tup h a => .tup (Rd.mono k h) (FgA.mono k ds _ a)
theorem FgA.mono {H H' : Hp} (k : Same H H') : ∀ (ds : List PyData) (vs : List V), FgA H vs ds → FgA H' vs ds
  | [], _, .nil => .nil
  | d :: ds, _, .cons h a => .cons (Fg.mono k d _ h) (FgA.mono k ds _ a)
end
mutual
theorem Ft.fg {H : Hp} : ∀ (d : PyData) (v : V), Ft H v d → Fg H v d
  | .none, _, .non => .non
  | .bool _, _, .bl b => .bl b
  | .int _, _, .int i => .int i
  | .str _, _, .str x => .str x
  | .list ds, _, .lst h a => .lst h (FtA.fg ds _ a)
  | .tuple ds, _, .tup h a => .tup (.inl h) (FtA.fg ds _ a)
theorem FtA.fg {H : Hp} : ∀ (ds : List PyData) (vs : List V), FtA H vs ds → FgA H vs ds
  | [], _, .nil => .nil
  | d :: ds, _, .cons h a => .cons (Ft.fg d _ h) (FtA.fg ds _ a)
end
theorem FgA.len : ∀ {H : Hp} {vs : List V} {ds : List PyData}, FgA H vs ds → vs.length = ds.length
  | _, _, _, .nil => rfl
  | _, _, _, .cons _ a => congrArg (· + 1) (FgA.len a)
theorem FgA.getV : ∀ {H : Hp} {vs : List V} {ds : List PyData} {i : Nat} {v : V}, FgA H vs ds → vs[i]? = some v → ∃ d, ds[i]? = some d ∧ Fg H v d
  | _, _, _, 0, _, .cons a _, h => ⟨_, rfl, Option.some.inj h ▸ a⟩
  | _, _, _, i + 1, _, .cons _ a, h => FgA.getV (i := i) a h
theorem FzA.fg {H : Hp} {vs : List V} {ds : List PyData} (h : FzA H vs ds) : FgA H vs ds := FtA.fg _ _ (FzA.ft _ _ h)
theorem Fz.fg {H : Hp} {v : V} {d : PyData} (h : Fz H v d) : Fg H v d := Ft.fg _ _ h.toFt
theorem QZ.fg {H : Hp} {v : V} {es : List (Nat × Int)} {rc : Option (Nat × Int × Int)} (h : QZ H v es rc) : Fg H v (qD es rc) := by
  obtain ⟨qa, ev, y, rfl, h1, ⟨ea, o, ps, rfl, _, hea, fps⟩, fy⟩ := h
  exact .tup (.inl h1) (.cons (.tup (.inr ⟨o, hea⟩) fps.fg) (.cons fy.fg .nil))
/-- an ask as data -/
def askG (a : Ask) : PyData := .tuple [qD a.es a.rc, .int a.often]
theorem AsksZ.fg {H : Hp} {vs : List V} {as : List Ask} (h : AsksZ H vs as) : FgA H vs (as.map askG) := by
  induction h with
  | nil => exact .nil
  | cons a _ ih =>
    obtain ⟨p, qv, rfl, h1, h2⟩ := a
    exact .cons (.tup (.inl h1) (.cons h2.fg (.cons (.int _) .nil))) ih
end My

set_option Elab.async false
set_option linter.all false
set_option maxRecDepth 100000
set_option maxHeartbeats 2000000
namespace My
open PySem PySem.Spec PyProof.Rows L2
/-! ### an exception kept behind its except clause -/
/-- an exception object of the class cls, without a dict, at a -/
def ExN (cls : Value) (a : Addr) : HO := .ext fun h => ∃ (oe : Obj) (vs : Array Value), h.get? a = some oe ∧ Zc cls none oe ∧ oe.data = .fields vs
section
variable {X : Cx} {pins : List (Addr × Obj)} {σ : L2.St} {H : Hp} {s : Shared} {a : Addr}
/-- an object that nothing of ours speaks of is tracked from now on -/
theorem Inv.noted {o : HO} (I : Inv X pins σ H s) (n : H a = none) (n0 : X.s_0.heap.get? a = none) (nL : a ≠ X.env.locals) (nC : ∀ x c, X.env.cells.lookup x = some c → c ≠ a) (nP : ∀ p ∈ X.pn ++ pins, p.1 ≠ a) (ok : ObjOk X.prog X.w (upd H a o) s.heap a o) : Inv X pins σ (upd H a o) s := by
  have up : ∀ {b : Addr} {u : HO}, H b = some u → upd H a o b = some u := fun {b u} e => keep_new e n
  have off : ∀ {b : Addr}, b ≠ a → upd H a o b = H b := fun h => upd_ne h
  have old : ∀ {b : Addr} {u : Obj}, X.s_0.heap.get? b = some u → b ≠ a := fun {b u} e z => by
    rw [z, n0] at e
    cases e
  exact { ok := I.ok, os := I.os, bare := I.bare, loc := I.loc, cell := I.cell, len := I.len
          base := { keep := I.base.keep, slot := I.base.slot, there := I.base.there
                    free := fun b u e1 e2 e3 => (off (old e1)).trans (I.base.free b u e1 e2 e3)
                    tups := fun b xs e => up (I.base.tups b xs e)
                    frzs := fun b u v e => up (I.base.frzs b u v e)
                    tbls := fun b ps e => let ⟨m, z⟩ := I.base.tbls b ps e; ⟨m, up z⟩ }
          free := (off (Ne.symm nL)).trans I.free
          freeC := fun x c e => (off (nC x c e)).trans (I.freeC x c e)
          pin := fun p hp => let ⟨e, z, r⟩ := I.pin p hp; ⟨e, (off (nP p hp)).trans z, r⟩
          hok := fun b u e => by
            by_cases c : b = a
            · subst c
              rw [upd_same] at e
              exact Option.some.inj e ▸ ok
            · exact (I.hok b u ((off c).symm.trans e)).stay (fun _ _ _ q => q) (fun _ q => up q) fun _ _ q => up q }
end
/-- what is wished of an exception that 'except c as n: m = n' notes: slot i is n's, slot j is m's -/
def wNote (K : PySem.W.Frag) (c : Value) (i j : Nat) (D : Ends) : WX := fun cls d σ H => PySem.W.exmOne K cls c = some true ∧ d = none ∧ ∀ a, H a = none → D.nx ((σ.set i (some (.ref a))).set j (some (.ref a)) |>.set i none) (upd H a (ExN cls a))
/-- where an exception has come down: the state with it -/
structure Fell (X : Cx) (pins : List (Addr × Obj)) (a : Addr) (cls : Value) (σ : L2.St) (H : Hp) (s : Shared) (oe : Obj) : Prop where
  inv : Inv X pins σ H s
  at' : s.heap.get? a = some oe
  zc : Zc cls none oe
  da : ∃ vs, oe.data = .fields vs
  na : H a = none
  nL : a ≠ X.env.locals
  nF : a ∉ X.fs
  n0 : X.s_0.heap.get? a = none
  nP : ∀ p ∈ X.pn ++ pins, p.1 ≠ a
section
variable {X : Cx} {pins : List (Addr × Obj)} {σ : L2.St} {H : Hp} {s sI s' : Shared} {a : Addr} {B : Heap} {cls : Value}
theorem fell_of (hs : X.stack = X.env :: X.outer) (hf : X.env.frame = some X.env.locals) (hex : X.ex = []) (J : Inv X pins σ H sI) (nb : ∀ b o, sI.heap.get? b = some o → b ∉ frs X.stack → B.get? b = some o) (fl : HandSPX.FlyingZ B (X.env :: X.outer) a (Zc cls none) s'.heap) (up : sI.heap.UpToSlots s'.heap) (os : s'.os = sI.os) (ag : AllBare s'.gens) (na : H a = none) : ∃ oe, Fell X pins a cls σ H s' oe := by
  obtain ⟨oe, vs, h⟩ := fl.there
  obtain ⟨he, hz, hd⟩ := h
  have nS : a ∉ frs (X.env :: X.outer) := fun hm => by
    obtain ⟨_, o2, e2, n2⟩ := fl.2.2.1.mem hm
    cases he.symm.trans e2
    exact n2 vs hd
  have no : ∀ o, sI.heap.get? a = some o → False := fun o e => by
    have := nb a o e (by rw [hs]; exact nS)
    rw [fl.2.1] at this
    cases this
  refine ⟨oe, J.landed nb fl.1 up os ag, he, hz, ⟨vs, hd⟩, na, fun z => nS (List.mem_filterMap.mpr ⟨_, List.mem_cons_self, hf.trans (congrArg some z.symm)⟩), fun hm => ?_, ?_, fun p hp z => ?_⟩
  · obtain ⟨e, h1, h2⟩ := List.mem_filterMap.mp hm
    exact nS (List.mem_filterMap.mpr ⟨e, List.mem_cons_of_mem _ h1, h2⟩)
  · cases e : X.s_0.heap.get? a with
    | none => rfl
    | some o =>
      obtain ⟨o2, e2⟩ := J.base.there a o e (by rw [hex]; exact List.not_mem_nil)
      exact (no o2 e2).elim
  · have := (J.pin p hp).1
    rw [z] at this
    exact no _ this
end
/-- try: .. except x as n: m = n -/
theorem ps_try_note {X : Cx} {x n m : Str} {c : Value} {i j : Nat} {body : List Stmt} {np mp qp ap pos pos' : Pos} {tb : WX → TS} (hs : X.stack = X.env :: X.outer) (hf : X.env.frame = some X.env.locals) (hex : X.ex = []) (hN : X.N.Nodup) (hi : X.N[i]? = some n) (hj : X.N[j]? = some m) (hln : X.env.kindOf n = some .local) (hlm : X.env.kindOf m = some .local) (hlm2 : X.env.scope.names.lookup m = some .local) (hc : Names X x c)
    (hnd : (n == ("__debug__" : Str)) = false) (hncd : (n == ("__classdict__" : Str)) = false)
    (hsw : swapsWith (.Name n qp) (some (.Name m mp)) ap.line X.env = pure false)
    (hb : ∀ (W : WX) (pn : List (Addr × Obj)) (xe : Value → Shared → Prop), Takes (X.tr pn xe) W → PassesOwn (model X.prog X.w) X.A X.env xe → PSs (X.tr pn xe) body (tb W)) :
    PS X (.Try body [.ExceptHandler (some (.Name x np)) (some n) [.Assign [.Name m mp] (.Name n qp) ap] pos'] [] [] pos) (fun D σ H => tb (wNote X.K c i j D) D σ H) := by
  refine ⟨fun pins s σ H D I h => wpAny_Try_except ?_⟩
  have ok := I.ok
  refine wpAny_mono ((hb (wNote X.K c i j D) (X.pn ++ pins) _ (fun u s' air => ?air) PassesOwn.looking).run [] s σ H D (I.toTry _) h) (fun f s1 hsp => ?_) fun _ _ he => he
  case air =>
    obtain ⟨a, B, sI, pins', σ1, H1, cls, d, rfl, J', nb, up, sky, na, os, ag, hx, rfl, go⟩ := air
    have J : Inv X pins σ1 H1 sI := J'.ofTry ok
    refine Sky.land (outer := X.outer) (B := B) Zc.steady (ok.frames.trans (congrArg some hs)) hf (by rw [← hs]; exact sky) fun h3 fl3 up3 => ?_
    obtain ⟨o3, F3⟩ := fell_of (s' := { s' with heap := h3 }) hs hf hex J nb fl3 (up.trans up3) os ag na
    obtain ⟨v3, d3⟩ := F3.da
    have S3 := F3.inv.suite F3.at' d3 F3.na F3.nL F3.nF
    refine wpAny_handleBy_cons (codeAny_handlers_test ?_) (fun z => nomatch z)
    have look : PySem.W.Looks (model X.prog X.w) h3 (typeOf (.ref a)) cls := fun _ _ _ _ k q => wpAny_typeOf_ref (k _ _ F3.at') (by rw [F3.zc.1]; exact q)
    have hit := (PySem.W.exm_one F3.inv.kIn look hx)
    suffices thenit : wpAny (model X.prog X.w) (X.A.mark (some (.ref a))) (eval (.Name x np) X.env) (fun v t => v = c ∧ t = { s' with heap := h3 }) (fun _ _ => False) { s' with heap := h3 } by
      refine wpAny_mono thenit (fun v t e => ?_) fun _ _ z => z.elim
      obtain ⟨rfl, rfl⟩ := e
      refine hit.here ?_
      refine codeAny_handlers_suite_as (HandSPX.lands_againZ fl3 fun h4 fl4 up4 => ?_)
      obtain ⟨o4, F4⟩ := fell_of (s' := { s' with heap := h4 }) hs hf hex J nb fl4 ((up.trans up3).trans up4) os ag na
      obtain ⟨v4, d4⟩ := F4.da
      have S4 := F4.inv.suite F4.at' d4 F4.na F4.nL F4.nF
      refine store_ok (X := X.suite a ((a, o4) :: (X.pn ++ pins))) (v := .ref a) S4 hN hi (.inl hln) rfl (fun s5 S5 => ?_) (.inr hln)
      have li : i < σ1.length := by
        have := S4.len
        rw [this]
        exact (List.getElem?_eq_some_iff.mp hi).1
      have asg := pss_one (ps_set (X := X.suite a ((a, o4) :: (X.pn ++ pins))) (pos' := mp) (pos := ap) (i := j) hN hj (.inl hlm) (pv i hi (.inl hln) hnd hncd) hsw (.inr hlm2))
      refine wpAny_mono (asg.run [] s5 _ H1 { nx := fun σ6 H6 => σ6 = (σ1.set i (some (.ref a))).set j (some (.ref a)) ∧ H6 = H1, rt := fun _ _ => False, bk := fun _ _ => False, ct := fun _ _ => False } S5 ⟨.ref a, List.getElem?_set_self li, rfl, rfl⟩) (fun f s6 hsp => ?_) fun _ _ z => z.elim
      cases f with
      | next =>
        obtain ⟨σ6, H6, S6, rfl, rfl⟩ := hsp
        refine gone_ok (X := X.suite a ((a, o4) :: (X.pn ++ pins))) S6 hN hi hln fun s7 S7 => ?_
        obtain ⟨e7, _, _, _, nd7⟩ := S7.pin (a, o4) (List.mem_append_left _ List.mem_cons_self)
        have J7 := S7.unsuite ok
        exact ⟨_, _, Inv.noted (o := ExN cls a) J7 F4.na F4.n0 F4.nL (fun y c2 e z => by
          obtain ⟨v, oc, ho, hd⟩ := J7.cell y c2 e
          rw [z, e7] at ho
          exact nd7 v (Option.some.inj ho ▸ hd)) F4.nP ⟨⟨o4, v4, e7, F4.zc, d4⟩, ⟨o4, e7⟩, fun _ _ ⟨u, w', q, r⟩ k => ⟨u, w', k u q, r⟩⟩, go a na⟩
      | brk => exact hsp.elim fun _ h => h.elim fun _ h => h.2.elim
      | cont => exact hsp.elim fun _ h => h.elim fun _ h => h.2.elim
      | ret u => exact hsp.elim fun _ h => h.elim fun _ h => h.elim fun _ h => h.2.2.elim
    obtain ⟨hg, hdb, hm | ⟨hm, hv, hnn⟩⟩ := hc
    · exact ld_glob (X := X.suite a ((a, o3) :: (X.pn ++ pins))) S3 hg hm ⟨rfl, rfl⟩ hdb
    · exact ld_blt (X := X.suite a ((a, o3) :: (X.pn ++ pins))) S3 hg hm hv ⟨rfl, rfl⟩ hnn hdb
  · cases f with
    | next => exact let ⟨_, _, J, q⟩ := hsp; wpAny_execs_nil ⟨_, _, J.ofTry ok, q⟩
    | brk => exact let ⟨_, _, J, q⟩ := hsp; ⟨_, _, J.ofTry ok, q⟩
    | cont => exact let ⟨_, _, J, q⟩ := hsp; ⟨_, _, J.ofTry ok, q⟩
    | ret u => exact let ⟨_, _, _, J, q⟩ := hsp; ⟨_, _, _, J.ofTry ok, q⟩
end My

set_option Elab.async false
set_option linter.all false
set_option maxRecDepth 100000
set_option maxHeartbeats 2000000
namespace My
open PySem PySem.Spec PyProof.Rows L2
/-! ### isinstance of a noted exception -/
/-- isinstance(e, c), isinstance(e, (c, ..)), e noted -/
def rIsN (K : PySem.W.Frag) : List V → Hp → VK → Prop := fun xs H Q => ∃ (a D : Addr) (c : V) (b : Bool), xs = [.ref a, c] ∧ H a = some (ExN (.ref D) a) ∧ ExcC K D ∧
  ((∃ cv : Value, (∀ u, RelV c u → u = cv) ∧ PySem.W.kitOne K (.ref D) cv = some b) ∨ ∃ (t : Addr) (cs : List V) (cvs : List Value), c = .ref t ∧ H t = some (.tup cs) ∧ (∀ us, Vals cs us → us = cvs) ∧ PySem.W.kitAny K (.ref D) cvs = some b) ∧ Q (.bl b) H
theorem isN (K : PySem.W.Frag) {X : Cx} (hK : X.K = K := by rfl) : CallR X (.builtin "isinstance") (rIsN K) := by
  subst hK
  intro pins s σ H xs us Q I r ⟨a, D, c, b, ex, ha, C, hc, q⟩
  subst ex
  obtain ⟨x, y, rfl, rx, ry⟩ : ∃ x y, us = [x, y] ∧ RelV (.ref a) x ∧ RelV c y := by
    cases r with
    | cons r1 r2 => cases r2 with
      | cons r3 r4 => cases r4; exact ⟨_, _, rfl, r1, r3⟩
  obtain rfl : x = .ref a := rx
  obtain ⟨⟨oe, vs, ho, hz, hd⟩, _, _⟩ := I.hok a _ ha
  have J : PySem.W.InstAt s.heap a oe D none := by
    obtain ⟨oc, od, oda, osl⟩ := oe
    obtain ⟨rfl, rfl⟩ : oc = .ref D ∧ od = none := hz
    obtain rfl : oda = .fields vs := hd
    exact ⟨ho, rfl, rfl, trivial⟩
  have KX := PySem.W.handS_kitx_exc (x := a) (ox := oe) C.hg C.hk C.hs C.hd C.ha C.hn C.ht C.hm
  have fin : ∀ tk, EP X pins σ Q (.bool b) { s with toks := tk } := fun tk => ⟨.bl b, H, I.kept (t' := tk) fun _ _ z => z, rfl, q⟩
  rcases hc with ⟨cv, hcv, e⟩ | ⟨t, cs, cvs, rfl, ht, hcv, e⟩
  · exact PySem.W.kia_one KX I.kIn J (hcv _ ry ▸ e) (fun z => nomatch z) fin
  · obtain rfl : y = .ref t := ry
    obtain ⟨_, its, rv, ⟨oc, od, oda, osl⟩, ht2, hcl, ⟨n, hdt⟩⟩ := I.hok t _ ht
    obtain rfl : oc = .type "tuple" := hcl
    obtain rfl : oda = .seq its.toArray n := hdt
    exact PySem.W.kia_tup KX I.kIn J ht2 (hcv _ rv ▸ e) (fun z => nomatch z) fin
/-! ### a method that may raise, called in a try or where the raise goes on -/
def tMethX (C : Addr) (m : Str) (sp : Sp) (E : L2.St → XK) (ta : TE) (t : TA) : TE := fun σ H Q => ta σ H fun x H1 => ∃ a dx fs, x = .ref a ∧ H1 a = some (.ins C dx fs) ∧ fs.lookup m = none ∧ t σ H1 fun vs H2 => sp (x :: vs) H2 Q (E σ)
theorem pe_methX {X : Cx} {CX : CXT} {k : Nat} {f C : Addr} {fd : FuncData} {ps : List Str} {sp : Sp} {E : L2.St → XK} {m : Str} {pos apos : Pos} {e o : Expr} {es : List Expr} {ta : TE} {t : TA} {pl : Sem Bool}
    (he : PE X o ta) (c : Cls X.K C) (hm : Meth X.K C m f) (F : FnOk X.prog X.w X.K X.mg X.base CX k f fd ps sp) (hr : Room k X.A) (hb : Binds X.K fd ps []) (hx : ∀ σ, PassesAt CX X σ (E σ)) (ha : PA X (e :: es) t)
    (hst : starEach (e :: es) X.env = (false, eval e X.env) :: starEach es X.env := by rfl) (hpl : (backTo pos (starEach es X.env)).any (·.1) = false := by rfl)
    (ht : eval (.Call (.Attribute o m apos) (e :: es) [] pos) X.env = (do
      let ov ← eval o X.env
      standAt apos.atName
      let (f, first) ← holding [ov] (getMethod ov m pl)
      callWith pos f first (backTo pos (starEach (e :: es) X.env)) (backToKw pos (keywordEach [] X.env))) := by rfl) :
    PE X (.Call (.Attribute o m apos) (e :: es) [] pos) (tMethX C m sp E ta t) := ⟨fun pins s σ H Q I h =>
  PySem.W.methodCall_KW (pl := pl) (thn (he.run pins s σ H _ I h) fun u s1 ⟨x, H1, I1, rx, a, dx, fs, ex, ea, l, q⟩ => by
    subst ex
    obtain rfl : u = Value.ref a := rx
    exact getmeth_ok I1 ea c hm l (PySem.W.callWith_K (first := [.ref a]) (h₀ := X.base) I.ok.mod.kin hm.kp (thn (ha.run pos pins s1 σ H1 _ I1 q) fun us s2 ⟨vs, H2, I2, r, q2⟩ =>
      ⟨I2.kIn, run_fnS (us := .ref a :: us) (vs := .ref a :: vs) F hr hb (hx σ) I2 (.cons rfl r) q2⟩) hst hpl)) ht⟩
/-! ### the program's exceptions -/
abbrev veL : List Value := [.type "ValueError", .type "Exception", .type "BaseException", .type "object"]
/-- an own exception class, made with a text, that leaves by raise and is caught under LE -/
structure XCls (K : PySem.W.Frag) (C LE : Addr) : Prop where
  q : PySem.W.excIn K C veL "ValueError.__new__" = true
  kp : PySem.W.keepIn K (.ref C) = true
  bE : PySem.W.subIn K (.ref C) (.type "BaseException") = some true
  tE : PySem.W.typeIn K (.ref C) = some (.type "type")
  ex : ExcC K C
  le : PySem.W.exmOne K (.ref C) (.ref LE) = some true
  se : PySem.W.exmOne K (.ref C) (.ref C) = some true
  ve : PySem.W.kitOne K (.ref C) (.type "ValueError") = some true
def xclsB (K : PySem.W.Frag) (C LE : Addr) : Bool :=
  PySem.W.excIn K C veL "ValueError.__new__" && (PySem.W.keepIn K (.ref C) && (decide (PySem.W.subIn K (.ref C) (.type "BaseException") = some true) && (decide (PySem.W.typeIn K (.ref C) = some (.type "type")) &&
    ((decide (PySem.W.findIn K (.ref C) "__getattribute__" = some (some (.builtin "BaseException.__getattribute__"))) && (decide (PySem.W.findIn K (.ref C) "__getattr__" = some none) && (PySem.W.hasDictIn K C && (decide (PySem.W.findIn K (.ref C) "__class__" = some (some (.builtin "object.__class__"))) &&
      (decide (PySem.W.specialIn K (.builtin "object.__class__") "__get__" = some (some (.builtin "getset_descriptor.__get__"))) && (decide (PySem.W.takesIn K (.builtin "object.__class__") = some true) && decide (PySem.W.mroIn K C (.type "object") = some true))))))) &&
    (decide (PySem.W.exmOne K (.ref C) (.ref LE) = some true) && (decide (PySem.W.exmOne K (.ref C) (.ref C) = some true) && decide (PySem.W.kitOne K (.ref C) (.type "ValueError") = some true)))))))
theorem xcls_of {K : PySem.W.Frag} {C LE : Addr} (h : xclsB K C LE = true) : XCls K C LE := by
  unfold xclsB at h
  simp only [Bool.and_eq_true, decide_eq_true_eq] at h
  obtain ⟨h1, h2, h3, h4, ⟨g1, g2, g3, g4, g5, g6, g7⟩, h5, h6, h7⟩ := h
  exact ⟨h1, h2, h3, h4, ⟨g1, g2, h3, g3, g4, g5, g6, g7⟩, h5, h6, h7⟩
/-- the exceptions R that are raised and caught, among those that are asked for, A -/
structure XFam (K : PySem.W.Frag) (xa : Str → Addr) (R A : List Str) : Prop where
  cls : ∀ n ∈ R, XCls K (xa n) (xa "ListError")
  kit : ∀ n ∈ R, ∀ m ∈ A, PySem.W.kitOne K (.ref (xa n)) (.ref (xa m)) = some (n == m)
def xfamB (K : PySem.W.Frag) (xa : Str → Addr) (R A : List Str) : Bool :=
  R.all (fun n => xclsB K (xa n) (xa "ListError")) && R.all fun n => A.all fun m => decide (PySem.W.kitOne K (.ref (xa n)) (.ref (xa m)) = some (n == m))
theorem xfam_of {K : PySem.W.Frag} {xa : Str → Addr} {R A : List Str} (h : xfamB K xa R A = true) : XFam K xa R A := by
  obtain ⟨h1, h2⟩ := (Bool.and_eq_true _ _).mp h
  exact ⟨fun n hn => xcls_of (List.all_eq_true.mp h1 n hn), fun n hn m hm => of_decide_eq_true (List.all_eq_true.mp (List.all_eq_true.mp h2 n hn) m hm)⟩
end My

set_option Elab.async false
set_option linter.all false
set_option maxRecDepth 100000
set_option maxHeartbeats 2000000
namespace My
open PySem PySem.Spec PyProof.Rows L2
/-! ### xs.count(y) of flat values -/
def rCntF (K : PySem.W.Frag) : V → List V → Hp → VK → Prop := fun x xs H Q => ∃ (p : Addr) (ys : List V) (y : V), x = .ref p ∧ xs = [y] ∧ SqL K H p ys ∧ flatV y = true ∧ ys.all flatV = true ∧ Q (.int ((ys.countP fun z => eqV z y : Nat) : Int)) H
theorem countU {y : V} : ∀ {ys : List V} {its : List Value}, Vals ys its → ys.all flatV = true → its.countP (eqU y) = ys.countP fun z => eqV z y
  | _, _, .nil, _ => rfl
  | z :: ys, u :: its, .cons r rs, h => by
    obtain ⟨h1, h2⟩ := (Bool.and_eq_true _ _).mp (List.all_cons.symm.trans h)
    rw [List.countP_cons, List.countP_cons, countU rs h2, eqU_of r h1]
theorem mt_countF (K : PySem.W.Frag) {X : Cx} (hK : X.K = K := by rfl) : MtR X "list.count" (rCntF K) := by
  subst hK
  intro pins s σ H x xs v us Q I rx rxs ⟨p, ys, y, ex, exs, hs, fy, fys, q⟩
  subst ex
  subst exs
  obtain rfl : v = .ref p := rx
  obtain ⟨u, rfl, ru⟩ := rxs.one
  obtain ⟨its, rv, ⟨⟨oc, od, oda, osl⟩, n, ho, hc, _, hd⟩, _⟩ := I.list hs
  obtain rfl : oc = .type "list" := hc
  obtain rfl : oda = .seq its.toArray n := hd
  refine call_meets PySem.F.slot_list_count ⟨_, ho, rfl⟩ PySem.F.entry_list_count (PySem.F.args_list_count_2 _ _) (SeqAt.list_countAt p its.toArray n od osl u (eqU y)) ⟨ho, fun z hz => mem_eqAt ru fy rv fys z (by simpa using hz), ?_⟩
  refine ⟨.int ((ys.countP fun z => eqV z y : Nat) : Int), H, I.tok _, ⟨s.toks, ?_⟩, q⟩
  exact congrArg (fun k : Nat => Value.int (k : Int) s.toks) (countU rv fys)
/-! ### a() within a try, a the lambda that was handed in -/
theorem Takes.len {X : Cx} {W : WX} (tk : Takes X W) : Takes X fun cls d σ H => σ.length = X.N.length → W cls d σ H := fun u s' ⟨a, B, sI, pins, σ, H, cls, d, e, I, nb, up, sky, na, os, ag, w⟩ =>
  tk u s' ⟨a, B, sI, pins, σ, H, cls, d, e, I, nb, up, sky, na, os, ag, w I.len⟩
def tAct (n : Nat) (f c' : Addr) (q : Str) (tl : XK → Hp → VK → Prop) (W : WX) : TS := fun D σ H => ∃ E : XK, (∀ cls d σ' H', E cls d H' → σ'.length = n → W cls d σ' H') ∧ σ[0]? = some (some (.ref f)) ∧ H c' = some (LamX.CodeO c' q) ∧ tl E H fun _ H1 => D.nx σ H1
theorem ps_act {X : Cx} {pn : List (Addr × Obj)} {xe : Value → Shared → Prop} {W : WX} {f c' : Addr} {q a : Str} {tl : XK → Hp → VK → Prop} {p1 p2 pos : Pos}
    (act : ∀ (W : WX) (pn : List (Addr × Obj)) (xe : Value → Shared → Prop) (E : XK) (p1 p2 : Pos), Takes (X.tr pn xe) W → (∀ cls d σ' H', E cls d H' → W cls d σ' H') → PE (X.tr pn xe) (.Call (.Name a p1) [] [] p2) (fun σZ HZ Q => σZ[0]? = some (some (.ref f)) ∧ HZ c' = some (LamX.CodeO c' q) ∧ tl E HZ Q))
    (tk : Takes (X.tr pn xe) W) (hs : swapsWith (.Call (.Name a p1) [] [] p2) none pos.line X.env = pure false) : PS (X.tr pn xe) (.Expr (.Call (.Name a p1) [] [] p2) pos) (tAct X.N.length f c' q tl W) :=
  ⟨fun pins s σ H D I ⟨E, hW, h1, h2, h3⟩ => (ps_expr (act _ pn xe E p1 p2 (Takes.len tk) hW) hs).run pins s σ H D I ⟨h1, h2, h3⟩⟩
/-! ### x(lambda: body): of all else that stands nothing is lost -/
def tLamK (P : Addr) (q : Str) (TT : (XK → Hp → VK → Prop) → Hp → VK → Prop) (t : XK → TE) : TE := fun σ H Q => LamX.TabS H P q ∧ ∀ H1, Kp P H H1 → LamX.TabS H1 P q → TT (fun E H' Q' => t E σ H' Q') H1 Q
theorem pe_lamK {X : Cx} {TT : (XK → Hp → VK → Prop) → Hp → VK → Prop} {x a : Str} {g c P : Addr} {k : Nat} {pg : Arguments} {bg : List Stmt} {sg : Scope} {dV kV doc pm cdv ct oc : Value} {an od : Option Addr} {osl : Array (Option Value)} {Ng : List Str}
    {params : Arguments} {body : Expr} {scope : Scope} {t : XK → TE} {p lpos pos : Pos} (hg : Gl X x) (hm : X.mg x = some (.ref g)) (hk : PySem.W.keepIn X.K (.ref g) = true)
    (lk : X.K.lookup g = some ⟨oc, od, .func (PySem.W.fnOf x x pg bg sg dV kV doc pm an cdv ct), osl⟩) (hcg : PySem.W.codeIn X.K cdv x = true) (hb : Binds X.K (PySem.W.fnOf x x pg bg sg dV kV doc pm an cdv ct) [a] []) (Sg : FnScope Ng [a] sg) (hNg : Ng[0]? = some a) (hva : Vis sg a)
    (hG : LamX.GivesTo X Ng x sg g cdv bg a (X.env.qual ++ "<lambda>") TT) (TB : LamX.TabB X.base X.mg c P) (hcode : X.env.code = .ref c) (hr : Room (k + 2) X.A) (L : LamX.LamS X.env.scope scope) (hdef : defaultsOf params X.env = ([], []))
    (hbind : ∀ (q : Str) (cl : List (Str × Addr)) (pm cv ctv : Value), bindArgs (PySem.W.kla_fn "<lambda>" q params body scope cl pm cv ctv) ⟨[], []⟩ = pure [])
    (hbody : ∀ (A : Around) (outer : List Env) (s : Shared) (H : Hp) (E : XK) (f c' : Addr), Room k (A.deeper (LamX.lamEnv X scope s.heap.objs.size f c')) → PE (LamX.lamCx X A outer s H E scope f c') body (t E))
    (hdb : (x == ("__debug__" : Str)) = false := by decide) (hd : (a == ("__debug__" : Str)) = false := by decide) (hcd : (a == ("__classdict__" : Str)) = false := by decide) :
    PE X (.Call (.Name x p) [.Lambda params body scope lpos] [] pos) (tLamK P (X.env.qual ++ "<lambda>") TT t) := by
  refine ⟨fun pins s σ H Q I ⟨hT, h⟩ => wpAny_Call_Name_kw (ld_glob I hg hm (PySem.W.callWith_K (h₀ := X.base) I.ok.mod.kin hk ?_ (by rfl) (by rfl)) hdb)⟩
  have made : ∀ (u : Value) (s1 : Shared), (∃ (f c' : Addr) (pm ctv : Value) (H1 : Hp), u = .ref f ∧ L2.Inv X pins σ H1 s1 ∧ Kp P H H1 ∧ LamX.TabS H1 P (X.env.qual ++ "<lambda>") ∧ s1.heap.get? f = some (PySem.W.kla_obj "<lambda>" (X.env.qual ++ "<lambda>") params body scope (cloFrom X.env.cells scope.names []) pm c' ctv) ∧ H1 f = none ∧ f ∉ frs X.stack ∧ H1 c' = some (LamX.CodeO c' (X.env.qual ++ "<lambda>"))) → wpAny (model X.prog X.w) X.A (call (.ref g) [u]) (EP X pins σ Q) X.xe s1 := by
    rintro _ s1 ⟨f, c', pm', ctv, H1, rfl, I1, kp, T1, hf, fn, ffr, hc⟩
    have run := LamX.run_ofS (CX := C8.CX0) (E := C8.E0) (Q := Q) (N := Ng) (ps := [a]) (args := ⟨[.ref f], []⟩) (us := [.ref f]) (vs := [.ref f]) lk hcg Sg hr I1.env0 (hb s1 [.ref f] I1.kIn rfl) (.cons rfl .nil) rfl fun hr' =>
      let ⟨t', ht, hq⟩ := hG f c' s1 H1 Q (fun E H' Q' => t E σ H' Q') (fun W pn xe E p1 p2 tk hW => LamX.pe_act (i := 0) I1 L hf fn ffr (hbind _ _ _ _ _) tk hW hr' (fun A outer s H room => hbody A outer s H E f c' room) hNg hva hd hcd) hc (h H1 kp T1)
      ⟨t', ht.nox, hq⟩
    refine wpAny_call (codeAny_mono run fun r s2 out => ?_)
    match r, out with
    | .ok (.ret _), out => exact I1.after out
    | .ok .next, out => exact False.elim out
    | .ok .brk, out => exact False.elim out
    | .ok .cont, out => exact False.elim out
    | .error _, out => exact False.elim (show False from out)
  show wpAny _ _ (spliced ((false, eval (.Lambda params body scope lpos) X.env) :: backTo pos (starEach [] X.env))) _ _ s
  exact Calls.spliced_cons (lam_new I TB hcode hT hdef (L.has I.ok) fun f c' pm' ctv H1 s1 I1 kp T1 hf fn ffr hc => Calls.spliced_nil ⟨I1.kIn, made _ _ ⟨f, c', pm', ctv, H1, rfl, I1, kp, T1, hf, fn, ffr, hc⟩⟩)
end My

set_option Elab.async false
set_option linter.all false
set_option maxRecDepth 100000
set_option maxHeartbeats 2000000
namespace My
open PySem PySem.Spec PyProof.Rows L2
/-! ### a method that may raise, called where it doesn't; x(lambda: body) by the fact of the def x -/
theorem passNo {P : Program} {w : World} {X : Cx} (σ : L2.St) : PassesAt (L2.CX P w) X σ (fun _ _ _ => False) := fun _ _ _ _ _ _ h => by
  obtain ⟨_, _, _, _, _, _, _, _, _, _, _, _, z⟩ := h
  exact z.elim
theorem pe_lamF {X : Cx} {TT : (XK → Hp → VK → Prop) → Hp → VK → Prop} {x a : Str} {st : Stmt} {g c P : Addr} {fd : FuncData} {k : Nat} {Ng : List Str} {params : Arguments} {body : Expr} {scope : Scope} {t : XK → TE} {p lpos pos : Pos}
    (F : Fun X.K x x st g fd) (hg : Gl X x) (hm : X.mg x = some (.ref g)) (hb : Binds X.K fd [a] []) (Sg : FnScope Ng [a] (defScope st)) (hNg : Ng[0]? = some a) (hva : Vis (defScope st) a)
    (hG : ∀ cdv : Value, LamX.GivesTo X Ng x (defScope st) g cdv (defBody st) a (X.env.qual ++ "<lambda>") TT) (TB : LamX.TabB X.base X.mg c P) (hcode : X.env.code = .ref c) (hr : Room (k + 2) X.A) (L : LamX.LamS X.env.scope scope) (hdef : defaultsOf params X.env = ([], []))
    (hbind : ∀ (q : Str) (cl : List (Str × Addr)) (pm cv ctv : Value), bindArgs (PySem.W.kla_fn "<lambda>" q params body scope cl pm cv ctv) ⟨[], []⟩ = pure [])
    (hbody : ∀ (A : Around) (outer : List Env) (s : Shared) (H : Hp) (E : XK) (f c' : Addr), Room k (A.deeper (LamX.lamEnv X scope s.heap.objs.size f c')) → PE (LamX.lamCx X A outer s H E scope f c') body (t E))
    (hdb : (x == ("__debug__" : Str)) = false := by decide) (hd : (a == ("__debug__" : Str)) = false := by decide) (hcd : (a == ("__classdict__" : Str)) = false := by decide) :
    PE X (.Call (.Name x p) [.Lambda params body scope lpos] [] pos) (tLamK P (X.env.qual ++ "<lambda>") TT t) := by
  obtain ⟨oc, od, kV, doc, pm, an, cdv, ct, osl, rfl, lk, hcd2⟩ := F.ex
  exact pe_lamK hg hm F.kp lk hcd2 hb Sg hNg hva (hG cdv) TB hcode hr L hdef hbind hbody hdb hd hcd
end My

set_option Elab.async false
set_option linter.all false
set_option maxRecDepth 100000
set_option maxHeartbeats 2000000
namespace My
open PySem PySem.Spec PyProof.Rows L2
/-! ### d[k], d keyed by nested tuples, the values whole numbers -/
def tDIxQ (w : World) (td ty : TE) : TE := fun σ H Q => td σ H fun x H1 => ty σ H1 fun y H2 => ∃ (a d : Addr) (kvs : KvQ) (k : NestedKey) (n : Int), x = .ref d ∧ y = .ref a ∧ H2 d = some (dicQ w d kvs) ∧ KeysQ H2 kvs ∧ KyAt H2 k (.ref a) ∧ k.depth ≤ 8 ∧ valQ kvs k = some n ∧ Q (.int n) H2
theorem pe_dixQ (w : World) {X : Cx} {o i : Expr} {td ty : TE} {pos : Pos} (hu : X.A.units + 64 < cLine) (ho : PE X o td) (hi : PE X i ty) (hs : NoSl i) (hw : X.w = w := by rfl) : PE X (.Subscript o i pos) (tDIxQ w td ty) := by
  subst hw
  constructor
  intro pins s σ H Q I h
  refine subD_of PySem.F.slot_dict_getitem.lookup hs (thn (ho.run pins s σ H _ I h) fun u s1 hh => ?_)
  obtain ⟨x, H1, I1, rx, q1⟩ := hh
  refine thn (hi.run pins s1 σ H1 _ I1 q1) fun iv s2 hh2 => ?_
  obtain ⟨y, H2, I2, ry, a, d, kvs, k, n, rfl, rfl, hd, ok, hk, dk, hv, q2⟩ := hh2
  cases rx
  cases ry
  obtain ⟨xs, nd, _, r, mm⟩ := dicQ_at I2 hd ok
  rcases r.look k with ⟨h1, _⟩ | ⟨m, p, h1, h2, h3⟩
  · rw [hv] at h1
    cases h1
  · obtain rfl : n = m := Option.some.inj (hv.symm.trans h1)
    exact ⟨mm.typeIs, wpAny_getItem_heap (roomQ hu) ⟨hk.is I2 rfl, dk⟩ mm h2 ⟨.int n, H2, I2.tok _, h3, q2⟩⟩
theorem val_put (kvs : KvQ) (k k' : NestedKey) (a : Addr) (n : Int) : valQ (putQ kvs k a n) k' = if k' = k then some n else valQ kvs k' := by
  unfold putQ
  by_cases h : (valQ kvs k).isSome = true
  · rw [if_pos h]
    induction kvs with
    | nil => cases h
    | cons p r ih =>
      unfold valQ at *
      rw [List.map_cons, List.find?_cons]
      by_cases e : p.1 = k
      · rw [if_pos e]
        dsimp only
        by_cases e2 : k' = k
        · rw [if_pos e2, e, e2, decide_eq_true rfl]
          rfl
        · rw [if_neg e2, decide_eq_false (by rw [e]; exact Ne.symm e2), List.find?_cons, decide_eq_false (by rw [e]; exact Ne.symm e2)]
          dsimp only
          clear ih h
          induction r with
          | nil => rfl
          | cons x r ih2 =>
            rw [List.map_cons, List.find?_cons, List.find?_cons]
            by_cases ex : x.1 = k
            · rw [if_pos ex]
              dsimp only
              rw [decide_eq_false (by rw [ex]; exact Ne.symm e2)]
              exact ih2
            · rw [if_neg ex]
              cases decide (x.1 = k') with
              | true => rfl
              | false => exact ih2
      · rw [if_neg e, List.find?_cons]
        have h2 : ((r.find? fun p => decide (p.1 = k)).map (·.2.2)).isSome = true := by
          rw [List.find?_cons, decide_eq_false e] at h
          exact h
        by_cases e3 : p.1 = k'
        · rw [decide_eq_true e3, if_neg (fun z => e (e3.trans z))]
        · rw [decide_eq_false e3]
          exact ih h2
  · rw [if_neg h]
    have hn : valQ kvs k = none := by simpa using h
    unfold valQ at *
    rw [List.find?_append]
    by_cases e2 : k' = k
    · subst e2
      rw [if_pos rfl]
      have hf : (kvs.find? fun p => decide (p.1 = k')) = none := by simpa using hn
      rw [hf]
      simp
    · rw [if_neg e2]
      cases hf : kvs.find? fun p => decide (p.1 = k') with
      | some x => rfl
      | none => simp [Ne.symm e2]
end My

set_option Elab.async false
set_option linter.all false
set_option maxRecDepth 100000
set_option maxHeartbeats 1000000
namespace My
open PySem PySem.Spec PyProof.Rows L2
def topS (i : Nat) : Stmt := PySem.Challenge.pw_stretchkeep_k45_chosen_refused.main.body.getD i (.Pass ⟨0, 0, 0, 0⟩)
abbrev s_lists_of : Stmt := topS 1
theorem sc_lists_of : FnScope ["columns", "found", "longest", "many", "one", "letter"] ["columns"] (defScope s_lists_of) := ⟨rfl, rfl, rfl, by decide +kernel, rfl, by decide +kernel, by decide +kernel⟩
abbrev s_picked : Stmt := topS 2
theorem sc_picked : FnScope ["columns", "row", "letters"] ["columns", "row", "letters"] (defScope s_picked) := ⟨rfl, rfl, rfl, by decide +kernel, rfl, by decide +kernel, by decide +kernel⟩
abbrev s_letters_of : Stmt := topS 4
theorem sc_letters_of : FnScope ["equals", "letter", "number"] ["equals"] (defScope s_letters_of) := ⟨rfl, rfl, rfl, by decide +kernel, rfl, by decide +kernel, by decide +kernel⟩
abbrev s_spans : Stmt := topS 5
theorem sc_spans : FnScope ["question", "equals", "reach", "letter", "wanted", "low", "high", "number"] ["question"] (defScope s_spans) := ⟨rfl, rfl, rfl, by decide +kernel, rfl, by decide +kernel, by decide +kernel⟩
abbrev s_used : Stmt := topS 7
theorem sc_used : FnScope ["one", "question", "equals", "reach", "letters", "many"] ["one", "question"] (defScope s_used) := ⟨rfl, rfl, rfl, by decide +kernel, rfl, by decide +kernel, by decide +kernel⟩
abbrev s_stretch : Stmt := topS 8
theorem sc_stretch : FnScope ["table", "one", "question", "columns", "rows", "letters", "first", "last", "keys", "ahead", "behind", "wanted", "row", "key"] ["table", "one", "question"] (defScope s_stretch) := ⟨rfl, rfl, rfl, by decide +kernel, rfl, by decide +kernel, by decide +kernel⟩
abbrev s_price_by : Stmt := topS 10
theorem sc_price_by : FnScope ["table", "one", "question", "columns", "rows", "start", "end"] ["table", "one", "question"] (defScope s_price_by) := ⟨rfl, rfl, rfl, by decide +kernel, rfl, by decide +kernel, by decide +kernel⟩
abbrev s_price_of : Stmt := topS 11
theorem sc_price_of : FnScope ["table", "choice", "question", "one"] ["table", "choice", "question"] (defScope s_price_of) := ⟨rfl, rfl, rfl, by decide +kernel, rfl, by decide +kernel, by decide +kernel⟩
abbrev s_upkeep : Stmt := topS 12
theorem sc_upkeep : FnScope ["changes", "choice", "one"] ["changes", "choice"] (defScope s_upkeep) := ⟨rfl, rfl, rfl, by decide +kernel, rfl, by decide +kernel, by decide +kernel⟩
abbrev s_price : Stmt := topS 13
theorem sc_price : FnScope ["work", "choice", "asks", "changes", "asked", "table", "question", "often"] ["work", "choice"] (defScope s_price) := ⟨rfl, rfl, rfl, by decide +kernel, rfl, by decide +kernel, by decide +kernel⟩
abbrev s_room : Stmt := topS 14
theorem sc_room : FnScope ["choice", "one"] ["choice"] (defScope s_room) := ⟨rfl, rfl, rfl, by decide +kernel, rfl, by decide +kernel, by decide +kernel⟩
abbrev s_prices_by : Stmt := topS 16
theorem sc_prices_by : FnScope ["table", "question", "lists", "known", "found", "one", "letters"] ["table", "question", "lists"] (defScope s_prices_by) := ⟨rfl, rfl, rfl, by decide +kernel, rfl, by decide +kernel, by decide +kernel⟩
abbrev s_Sheet___init__ : Stmt := inClass (topS 17) 0
theorem sc_Sheet___init__ : FnScope ["self", "work", "table", "asks", "changes", "question", "often"] ["self", "work"] (defScope s_Sheet___init__) := ⟨rfl, rfl, rfl, by decide +kernel, rfl, by decide +kernel, by decide +kernel⟩
abbrev s_Sheet_asked : Stmt := inClass (topS 17) 1
theorem sc_Sheet_asked : FnScope ["self", "near", "total", "often", "bare", "prices", "one"] ["self", "near"] (defScope s_Sheet_asked) := ⟨rfl, rfl, rfl, by decide +kernel, rfl, by decide +kernel, by decide +kernel⟩
abbrev s_Sheet_cost : Stmt := inClass (topS 17) 2
theorem sc_Sheet_cost : FnScope ["self", "choice"] ["self", "choice"] (defScope s_Sheet_cost) := ⟨rfl, rfl, rfl, by decide +kernel, rfl, by decide +kernel, by decide +kernel⟩
abbrev s_Sheet_outdoes : Stmt := inClass (topS 17) 3
theorem sc_Sheet_outdoes : FnScope ["self", "one", "other", "prices"] ["self", "one", "other"] (defScope s_Sheet_outdoes) := ⟨rfl, rfl, rfl, by decide +kernel, rfl, by decide +kernel, by decide +kernel⟩
abbrev s_Sheet_most_saving : Stmt := inClass (topS 17) 4
theorem sc_Sheet_most_saving : FnScope ["self", "choice", "lists"] ["self", "choice", "lists"] (defScope s_Sheet_most_saving) := ⟨rfl, rfl, rfl, by decide +kernel, rfl, by decide +kernel, by decide +kernel⟩
abbrev s_Sheet_strong_lists : Stmt := inClass (topS 17) 5
theorem sc_Sheet_strong_lists : FnScope ["self", "strong", "one", "other"] ["self"] (defScope s_Sheet_strong_lists) := ⟨rfl, rfl, rfl, by decide +kernel, rfl, by decide +kernel, by decide +kernel⟩
abbrev s_Sheet_strength : Stmt := inClass (topS 17) 6
theorem sc_Sheet_strength : FnScope ["self", "one", "prices"] ["self", "one"] (defScope s_Sheet_strength) := ⟨rfl, rfl, rfl, by decide +kernel, rfl, by decide +kernel, by decide +kernel⟩
abbrev s_left_of : Stmt := topS 19
theorem sc_left_of : FnScope ["room", "inside", "one"] ["room", "inside"] (defScope s_left_of) := ⟨rfl, rfl, rfl, by decide +kernel, rfl, by decide +kernel, by decide +kernel⟩
abbrev s_fitting : Stmt := topS 20
theorem sc_fitting : FnScope ["room", "inside", "free", "left", "one"] ["room", "inside", "free"] (defScope s_fitting) := ⟨rfl, rfl, rfl, by decide +kernel, rfl, by decide +kernel, by decide +kernel⟩
abbrev s_floor : Stmt := topS 21
theorem sc_floor : FnScope ["sheet", "room", "inside", "free", "near"] ["sheet", "room", "inside", "free"] (defScope s_floor) := ⟨rfl, rfl, rfl, by decide +kernel, rfl, by decide +kernel, by decide +kernel⟩
abbrev s_grown : Stmt := topS 22
theorem sc_grown : FnScope ["sheet", "room", "best", "inside", "free", "one", "rest", "within", "without", "other"] ["sheet", "room", "best", "inside", "free"] (defScope s_grown) := ⟨rfl, rfl, rfl, by decide +kernel, rfl, by decide +kernel, by decide +kernel⟩
abbrev s_cheapest : Stmt := topS 23
theorem sc_cheapest : FnScope ["work", "room", "sheet", "strong", "best", "tree", "price", "choice"] ["work", "room"] (defScope s_cheapest) := ⟨rfl, rfl, rfl, by decide +kernel, rfl, by decide +kernel, by decide +kernel⟩
abbrev s_Wanted___init__ : Stmt := inClass (topS 33) 0
theorem sc_Wanted___init__ : FnScope ["self"] ["self"] (defScope s_Wanted___init__) := ⟨rfl, rfl, rfl, by decide +kernel, rfl, by decide +kernel, by decide +kernel⟩
abbrev s_Wanted_more : Stmt := inClass (topS 33) 1
theorem sc_Wanted_more : FnScope ["self", "question", "often"] ["self", "question", "often"] (defScope s_Wanted_more) := ⟨rfl, rfl, rfl, by decide +kernel, rfl, by decide +kernel, by decide +kernel⟩
abbrev s_Wanted_leave : Stmt := inClass (topS 33) 2
theorem sc_Wanted_leave : FnScope ["self", "question"] ["self", "question"] (defScope s_Wanted_leave) := ⟨rfl, rfl, rfl, by decide +kernel, rfl, by decide +kernel, by decide +kernel⟩
abbrev s_Wanted_as_asks : Stmt := inClass (topS 33) 3
theorem sc_Wanted_as_asks : FnScope ["self"] ["self"] (defScope s_Wanted_as_asks) := ⟨rfl, rfl, rfl, by decide +kernel, rfl, by decide +kernel, by decide +kernel⟩
abbrev s_Chosen___init__ : Stmt := inClass (topS 34) 0
theorem sc_Chosen___init__ : FnScope ["self", "table", "changes", "room"] ["self", "table", "changes", "room"] (defScope s_Chosen___init__) := ⟨rfl, rfl, rfl, by decide +kernel, rfl, by decide +kernel, by decide +kernel⟩
abbrev s_Chosen_ask : Stmt := inClass (topS 34) 1
theorem sc_Chosen_ask : FnScope ["self", "question", "often"] ["self", "question", "often"] (defScope s_Chosen_ask) := ⟨rfl, rfl, rfl, by decide +kernel, rfl, by decide +kernel, by decide +kernel⟩
abbrev s_Chosen_leave : Stmt := inClass (topS 34) 2
theorem sc_Chosen_leave : FnScope ["self", "question"] ["self", "question"] (defScope s_Chosen_leave) := ⟨rfl, rfl, rfl, by decide +kernel, rfl, by decide +kernel, by decide +kernel⟩
abbrev s_Chosen_choose : Stmt := inClass (topS 34) 3
theorem sc_Chosen_choose : FnScope ["self", "sheet", "least", "found", "tree", "one"] ["self"] (defScope s_Chosen_choose) := ⟨rfl, rfl, rfl, by decide +kernel, rfl, by decide +kernel, by decide +kernel⟩
abbrev s_Chosen_asks : Stmt := inClass (topS 34) 4
theorem sc_Chosen_asks : FnScope ["self"] ["self"] (defScope s_Chosen_asks) := ⟨rfl, rfl, rfl, by decide +kernel, rfl, by decide +kernel, by decide +kernel⟩
abbrev s_Chosen_choice : Stmt := inClass (topS 34) 5
theorem sc_Chosen_choice : FnScope ["self"] ["self"] (defScope s_Chosen_choice) := ⟨rfl, rfl, rfl, by decide +kernel, rfl, by decide +kernel, by decide +kernel⟩
abbrev s_Chosen_price : Stmt := inClass (topS 34) 6
theorem sc_Chosen_price : FnScope ["self"] ["self"] (defScope s_Chosen_price) := ⟨rfl, rfl, rfl, by decide +kernel, rfl, by decide +kernel, by decide +kernel⟩
abbrev s_Chosen_made : Stmt := inClass (topS 34) 7
theorem sc_Chosen_made : FnScope ["self"] ["self"] (defScope s_Chosen_made) := ⟨rfl, rfl, rfl, by decide +kernel, rfl, by decide +kernel, by decide +kernel⟩
abbrev s_l_bag : Stmt := topS 36
theorem sc_l_bag : FnScope ["script"] ["script"] (defScope s_l_bag) := ⟨rfl, rfl, rfl, by decide +kernel, rfl, by decide +kernel, by decide +kernel⟩
abbrev s_l_lot : Stmt := topS 37
theorem sc_l_lot : FnScope ["bag", "many", "at", "cell", "one", "two", "three", "found"] ["bag", "many"] (defScope s_l_lot) := ⟨rfl, rfl, rfl, by decide +kernel, rfl, by decide +kernel, by decide +kernel⟩
abbrev s_l_columns : Stmt := topS 38
theorem sc_l_columns : FnScope ["bag", "most", "left", "found", "k"] ["bag", "most"] (defScope s_l_columns) := ⟨rfl, rfl, rfl, by decide +kernel, rfl, by decide +kernel, by decide +kernel⟩
abbrev s_l_table : Stmt := topS 39
theorem sc_l_table : FnScope ["bag", "most", "rows", "columns", "spread", "found", "k", "letter"] ["bag", "most", "rows"] (defScope s_l_table) := ⟨rfl, rfl, rfl, by decide +kernel, rfl, by decide +kernel, by decide +kernel⟩
abbrev s_l_near : Stmt := topS 40
theorem sc_l_near : FnScope ["bag", "table", "at", "way", "number"] ["bag", "table", "at"] (defScope s_l_near) := ⟨rfl, rfl, rfl, by decide +kernel, rfl, by decide +kernel, by decide +kernel⟩
abbrev s_l_question : Stmt := topS 41
theorem sc_l_question : FnScope ["bag", "table", "columns", "equals", "others", "at", "letter", "some"] ["bag", "table"] (defScope s_l_question) := ⟨rfl, rfl, rfl, by decide +kernel, rfl, by decide +kernel, by decide +kernel⟩
abbrev s_l_pool : Stmt := topS 42
theorem sc_l_pool : FnScope ["bag", "table", "many", "found", "k", "question"] ["bag", "table", "many"] (defScope s_l_pool) := ⟨rfl, rfl, rfl, by decide +kernel, rfl, by decide +kernel, by decide +kernel⟩
abbrev s_l_kind : Stmt := topS 43
theorem sc_l_kind : FnScope ["ask", "caught", "e", "flags"] ["ask"] (defScope s_l_kind) := ⟨rfl, rfl, rfl, by decide +kernel, rfl, by decide +kernel, by decide +kernel⟩
abbrev s_l_state : Stmt := topS 44
theorem sc_l_state : FnScope ["chosen"] ["chosen"] (defScope s_l_state) := ⟨rfl, rfl, rfl, by decide +kernel, rfl, by decide +kernel, by decide +kernel⟩
abbrev s_l_refused : Stmt := topS 45
theorem sc_l_refused : FnScope ["chosen", "question", "asks", "before", "found"] ["chosen", "question", "asks"] (defScope s_l_refused) := ⟨rfl, rfl, rfl, by decide +kernel, rfl, by decide +kernel, by decide +kernel⟩
abbrev s_l_six : Stmt := topS 46
theorem sc_l_six : FnScope ["bag", "table", "pool", "number", "at", "question"] ["bag", "table"] (defScope s_l_six) := ⟨rfl, rfl, rfl, by decide +kernel, rfl, by decide +kernel, by decide +kernel⟩
abbrev s_l_others_refused : Stmt := topS 47
theorem sc_l_others_refused : FnScope ["chosen", "table", "asked", "letter", "others", "question"] ["chosen", "table", "asked"] (defScope s_l_others_refused) := ⟨rfl, rfl, rfl, by decide +kernel, rfl, by decide +kernel, by decide +kernel⟩
abbrev s_l_often_right : Stmt := topS 48
theorem sc_l_often_right : FnScope ["chosen", "turn"] [] (defScope s_l_often_right) := ⟨rfl, rfl, rfl, by decide +kernel, rfl, by decide +kernel, by decide +kernel⟩
abbrev s_l_last_right : Stmt := topS 49
theorem sc_l_last_right : FnScope ["chosen", "work", "most", "least"] ["chosen", "work", "most"] (defScope s_l_last_right) := ⟨rfl, rfl, rfl, by decide +kernel, rfl, by decide +kernel, by decide +kernel⟩
abbrev s_law : Stmt := topS 50
theorem sc_law : FnScope ["script", "bag", "way", "table", "changes", "most", "chosen", "pool", "asked", "often", "question", "more", "gone", "turn", "left", "one"] ["script"] (defScope s_law) := ⟨rfl, rfl, rfl, by decide +kernel, rfl, by decide +kernel, by decide +kernel⟩
structure Ad where
  f_lists_of : Addr
  d_lists_of : FuncData
  f_picked : Addr
  d_picked : FuncData
  c_picked : Addr
  P_picked : Addr
  f_letters_of : Addr
  d_letters_of : FuncData
  f_spans : Addr
  d_spans : FuncData
  f_used : Addr
  d_used : FuncData
  f_stretch : Addr
  d_stretch : FuncData
  c_stretch : Addr
  P_stretch : Addr
  f_price_by : Addr
  d_price_by : FuncData
  f_price_of : Addr
  d_price_of : FuncData
  f_upkeep : Addr
  d_upkeep : FuncData
  c_upkeep : Addr
  P_upkeep : Addr
  f_price : Addr
  d_price : FuncData
  c_price : Addr
  P_price : Addr
  f_room : Addr
  d_room : FuncData
  c_room : Addr
  P_room : Addr
  f_prices_by : Addr
  d_prices_by : FuncData
  f_Sheet___init__ : Addr
  d_Sheet___init__ : FuncData
  f_Sheet_asked : Addr
  d_Sheet_asked : FuncData
  f_Sheet_cost : Addr
  d_Sheet_cost : FuncData
  f_Sheet_outdoes : Addr
  d_Sheet_outdoes : FuncData
  c_Sheet_outdoes : Addr
  P_Sheet_outdoes : Addr
  f_Sheet_most_saving : Addr
  d_Sheet_most_saving : FuncData
  c_Sheet_most_saving : Addr
  P_Sheet_most_saving : Addr
  f_Sheet_strong_lists : Addr
  d_Sheet_strong_lists : FuncData
  c_Sheet_strong_lists : Addr
  P_Sheet_strong_lists : Addr
  f_Sheet_strength : Addr
  d_Sheet_strength : FuncData
  c_Sheet_strength : Addr
  P_Sheet_strength : Addr
  f_left_of : Addr
  d_left_of : FuncData
  c_left_of : Addr
  P_left_of : Addr
  f_fitting : Addr
  d_fitting : FuncData
  f_floor : Addr
  d_floor : FuncData
  f_grown : Addr
  d_grown : FuncData
  f_cheapest : Addr
  d_cheapest : FuncData
  f_Wanted___init__ : Addr
  d_Wanted___init__ : FuncData
  f_Wanted_more : Addr
  d_Wanted_more : FuncData
  f_Wanted_leave : Addr
  d_Wanted_leave : FuncData
  f_Wanted_as_asks : Addr
  d_Wanted_as_asks : FuncData
  f_Chosen___init__ : Addr
  d_Chosen___init__ : FuncData
  f_Chosen_ask : Addr
  d_Chosen_ask : FuncData
  f_Chosen_leave : Addr
  d_Chosen_leave : FuncData
  f_Chosen_choose : Addr
  d_Chosen_choose : FuncData
  f_Chosen_asks : Addr
  d_Chosen_asks : FuncData
  f_Chosen_choice : Addr
  d_Chosen_choice : FuncData
  f_Chosen_price : Addr
  d_Chosen_price : FuncData
  f_Chosen_made : Addr
  d_Chosen_made : FuncData
  f_l_bag : Addr
  d_l_bag : FuncData
  f_l_lot : Addr
  d_l_lot : FuncData
  f_l_columns : Addr
  d_l_columns : FuncData
  f_l_table : Addr
  d_l_table : FuncData
  f_l_near : Addr
  d_l_near : FuncData
  f_l_question : Addr
  d_l_question : FuncData
  f_l_pool : Addr
  d_l_pool : FuncData
  f_l_kind : Addr
  d_l_kind : FuncData
  f_l_state : Addr
  d_l_state : FuncData
  f_l_refused : Addr
  d_l_refused : FuncData
  c_l_refused : Addr
  P_l_refused : Addr
  f_l_six : Addr
  d_l_six : FuncData
  f_l_others_refused : Addr
  d_l_others_refused : FuncData
  f_l_often_right : Addr
  d_l_often_right : FuncData
  f_l_last_right : Addr
  d_l_last_right : FuncData
  f_law : Addr
  d_law : FuncData
  C_Sheet : Addr
  C_Wanted : Addr
  C_Chosen : Addr
  k_MOST_ASKS : Tok
  xa : Str → Addr
abbrev Ad.Ps (Z : Ad) : List Addr := [Z.P_Sheet_strong_lists, Z.P_room, Z.P_picked, Z.P_stretch, Z.P_upkeep, Z.P_price, Z.P_left_of, Z.P_Sheet_outdoes, Z.P_Sheet_strength]
abbrev Ad.Ls (Z : Ad) : List (Addr × Str) := [(Z.P_Sheet_most_saving, lamQ "Sheet.most_saving"), (Z.P_l_refused, lamQ "_law_refused")]
abbrev Ad.Pl (Z : Ad) : List Addr := [Z.P_Sheet_strong_lists, Z.P_room, Z.P_picked, Z.P_stretch, Z.P_upkeep, Z.P_price, Z.P_left_of, Z.P_Sheet_outdoes, Z.P_Sheet_strength, Z.P_Sheet_most_saving, Z.P_l_refused]
structure Tb (base : Heap) (mg : Str → Option Value) (Z : Ad) : Prop where
  t_Sheet_strong_lists : LamX.TabB base mg Z.c_Sheet_strong_lists Z.P_Sheet_strong_lists
  t_room : LamX.TabB base mg Z.c_room Z.P_room
  t_picked : LamX.TabB base mg Z.c_picked Z.P_picked
  t_stretch : LamX.TabB base mg Z.c_stretch Z.P_stretch
  t_upkeep : LamX.TabB base mg Z.c_upkeep Z.P_upkeep
  t_price : LamX.TabB base mg Z.c_price Z.P_price
  t_left_of : LamX.TabB base mg Z.c_left_of Z.P_left_of
  t_Sheet_outdoes : LamX.TabB base mg Z.c_Sheet_outdoes Z.P_Sheet_outdoes
  t_Sheet_strength : LamX.TabB base mg Z.c_Sheet_strength Z.P_Sheet_strength
  t_Sheet_most_saving : LamX.TabB base mg Z.c_Sheet_most_saving Z.P_Sheet_most_saving
  t_l_refused : LamX.TabB base mg Z.c_l_refused Z.P_l_refused
structure Tx (K : PySem.W.Frag) (mg : Str → Option Value) (Z : Ad) : Prop where
  F_lists_of : Fun K "lists_of" "lists_of" s_lists_of Z.f_lists_of Z.d_lists_of
  b_lists_of : Binds K Z.d_lists_of ["columns"] []
  g_lists_of : mg "lists_of" = some (.ref Z.f_lists_of)
  F_picked : Fun K "picked" "picked" s_picked Z.f_picked Z.d_picked
  C_picked : FunC K "picked" "picked" s_picked Z.f_picked Z.d_picked Z.c_picked
  b_picked : Binds K Z.d_picked ["columns", "row", "letters"] []
  g_picked : mg "picked" = some (.ref Z.f_picked)
  F_letters_of : Fun K "letters_of" "letters_of" s_letters_of Z.f_letters_of Z.d_letters_of
  b_letters_of : Binds K Z.d_letters_of ["equals"] []
  g_letters_of : mg "letters_of" = some (.ref Z.f_letters_of)
  F_spans : Fun K "spans" "spans" s_spans Z.f_spans Z.d_spans
  b_spans : Binds K Z.d_spans ["question"] []
  g_spans : mg "spans" = some (.ref Z.f_spans)
  F_used : Fun K "used" "used" s_used Z.f_used Z.d_used
  b_used : Binds K Z.d_used ["one", "question"] []
  g_used : mg "used" = some (.ref Z.f_used)
  F_stretch : Fun K "stretch" "stretch" s_stretch Z.f_stretch Z.d_stretch
  C_stretch : FunC K "stretch" "stretch" s_stretch Z.f_stretch Z.d_stretch Z.c_stretch
  b_stretch : Binds K Z.d_stretch ["table", "one", "question"] []
  g_stretch : mg "stretch" = some (.ref Z.f_stretch)
  F_price_by : Fun K "price_by" "price_by" s_price_by Z.f_price_by Z.d_price_by
  b_price_by : Binds K Z.d_price_by ["table", "one", "question"] []
  g_price_by : mg "price_by" = some (.ref Z.f_price_by)
  F_price_of : Fun K "price_of" "price_of" s_price_of Z.f_price_of Z.d_price_of
  b_price_of : Binds K Z.d_price_of ["table", "choice", "question"] []
  g_price_of : mg "price_of" = some (.ref Z.f_price_of)
  F_upkeep : Fun K "upkeep" "upkeep" s_upkeep Z.f_upkeep Z.d_upkeep
  C_upkeep : FunC K "upkeep" "upkeep" s_upkeep Z.f_upkeep Z.d_upkeep Z.c_upkeep
  b_upkeep : Binds K Z.d_upkeep ["changes", "choice"] []
  g_upkeep : mg "upkeep" = some (.ref Z.f_upkeep)
  F_price : Fun K "price" "price" s_price Z.f_price Z.d_price
  C_price : FunC K "price" "price" s_price Z.f_price Z.d_price Z.c_price
  b_price : Binds K Z.d_price ["work", "choice"] []
  g_price : mg "price" = some (.ref Z.f_price)
  F_room : Fun K "room" "room" s_room Z.f_room Z.d_room
  C_room : FunC K "room" "room" s_room Z.f_room Z.d_room Z.c_room
  b_room : Binds K Z.d_room ["choice"] []
  g_room : mg "room" = some (.ref Z.f_room)
  F_prices_by : Fun K "prices_by" "prices_by" s_prices_by Z.f_prices_by Z.d_prices_by
  b_prices_by : Binds K Z.d_prices_by ["table", "question", "lists"] []
  g_prices_by : mg "prices_by" = some (.ref Z.f_prices_by)
  F_Sheet___init__ : Fun K "__init__" "Sheet.__init__" s_Sheet___init__ Z.f_Sheet___init__ Z.d_Sheet___init__
  b_Sheet___init__ : Binds K Z.d_Sheet___init__ ["self", "work"] []
  mk_Sheet : Mk K Z.C_Sheet Z.f_Sheet___init__
  F_Sheet_asked : Fun K "asked" "Sheet.asked" s_Sheet_asked Z.f_Sheet_asked Z.d_Sheet_asked
  b_Sheet_asked : Binds K Z.d_Sheet_asked ["self", "near"] []
  m_Sheet_asked : Meth K Z.C_Sheet "asked" Z.f_Sheet_asked
  F_Sheet_cost : Fun K "cost" "Sheet.cost" s_Sheet_cost Z.f_Sheet_cost Z.d_Sheet_cost
  b_Sheet_cost : Binds K Z.d_Sheet_cost ["self", "choice"] []
  m_Sheet_cost : Meth K Z.C_Sheet "cost" Z.f_Sheet_cost
  F_Sheet_outdoes : Fun K "outdoes" "Sheet.outdoes" s_Sheet_outdoes Z.f_Sheet_outdoes Z.d_Sheet_outdoes
  C_Sheet_outdoes : FunC K "outdoes" "Sheet.outdoes" s_Sheet_outdoes Z.f_Sheet_outdoes Z.d_Sheet_outdoes Z.c_Sheet_outdoes
  b_Sheet_outdoes : Binds K Z.d_Sheet_outdoes ["self", "one", "other"] []
  m_Sheet_outdoes : Meth K Z.C_Sheet "outdoes" Z.f_Sheet_outdoes
  F_Sheet_most_saving : Fun K "most_saving" "Sheet.most_saving" s_Sheet_most_saving Z.f_Sheet_most_saving Z.d_Sheet_most_saving
  C_Sheet_most_saving : FunC K "most_saving" "Sheet.most_saving" s_Sheet_most_saving Z.f_Sheet_most_saving Z.d_Sheet_most_saving Z.c_Sheet_most_saving
  b_Sheet_most_saving : Binds K Z.d_Sheet_most_saving ["self", "choice", "lists"] []
  m_Sheet_most_saving : Meth K Z.C_Sheet "most_saving" Z.f_Sheet_most_saving
  F_Sheet_strong_lists : Fun K "strong_lists" "Sheet.strong_lists" s_Sheet_strong_lists Z.f_Sheet_strong_lists Z.d_Sheet_strong_lists
  C_Sheet_strong_lists : FunC K "strong_lists" "Sheet.strong_lists" s_Sheet_strong_lists Z.f_Sheet_strong_lists Z.d_Sheet_strong_lists Z.c_Sheet_strong_lists
  b_Sheet_strong_lists : Binds K Z.d_Sheet_strong_lists ["self"] []
  m_Sheet_strong_lists : Meth K Z.C_Sheet "strong_lists" Z.f_Sheet_strong_lists
  F_Sheet_strength : Fun K "strength" "Sheet.strength" s_Sheet_strength Z.f_Sheet_strength Z.d_Sheet_strength
  C_Sheet_strength : FunC K "strength" "Sheet.strength" s_Sheet_strength Z.f_Sheet_strength Z.d_Sheet_strength Z.c_Sheet_strength
  b_Sheet_strength : Binds K Z.d_Sheet_strength ["self", "one"] []
  m_Sheet_strength : Meth K Z.C_Sheet "strength" Z.f_Sheet_strength
  F_left_of : Fun K "left_of" "left_of" s_left_of Z.f_left_of Z.d_left_of
  C_left_of : FunC K "left_of" "left_of" s_left_of Z.f_left_of Z.d_left_of Z.c_left_of
  b_left_of : Binds K Z.d_left_of ["room", "inside"] []
  g_left_of : mg "left_of" = some (.ref Z.f_left_of)
  F_fitting : Fun K "fitting" "fitting" s_fitting Z.f_fitting Z.d_fitting
  b_fitting : Binds K Z.d_fitting ["room", "inside", "free"] []
  g_fitting : mg "fitting" = some (.ref Z.f_fitting)
  F_floor : Fun K "floor" "floor" s_floor Z.f_floor Z.d_floor
  b_floor : Binds K Z.d_floor ["sheet", "room", "inside", "free"] []
  g_floor : mg "floor" = some (.ref Z.f_floor)
  F_grown : Fun K "grown" "grown" s_grown Z.f_grown Z.d_grown
  b_grown : Binds K Z.d_grown ["sheet", "room", "best", "inside", "free"] []
  g_grown : mg "grown" = some (.ref Z.f_grown)
  F_cheapest : Fun K "cheapest" "cheapest" s_cheapest Z.f_cheapest Z.d_cheapest
  b_cheapest : Binds K Z.d_cheapest ["work", "room"] []
  g_cheapest : mg "cheapest" = some (.ref Z.f_cheapest)
  F_Wanted___init__ : Fun K "__init__" "Wanted.__init__" s_Wanted___init__ Z.f_Wanted___init__ Z.d_Wanted___init__
  b_Wanted___init__ : Binds K Z.d_Wanted___init__ ["self"] []
  mk_Wanted : Mk K Z.C_Wanted Z.f_Wanted___init__
  F_Wanted_more : Fun K "more" "Wanted.more" s_Wanted_more Z.f_Wanted_more Z.d_Wanted_more
  b_Wanted_more : Binds K Z.d_Wanted_more ["self", "question", "often"] []
  m_Wanted_more : Meth K Z.C_Wanted "more" Z.f_Wanted_more
  F_Wanted_leave : Fun K "leave" "Wanted.leave" s_Wanted_leave Z.f_Wanted_leave Z.d_Wanted_leave
  b_Wanted_leave : Binds K Z.d_Wanted_leave ["self", "question"] []
  m_Wanted_leave : Meth K Z.C_Wanted "leave" Z.f_Wanted_leave
  F_Wanted_as_asks : Fun K "as_asks" "Wanted.as_asks" s_Wanted_as_asks Z.f_Wanted_as_asks Z.d_Wanted_as_asks
  b_Wanted_as_asks : Binds K Z.d_Wanted_as_asks ["self"] []
  m_Wanted_as_asks : Meth K Z.C_Wanted "as_asks" Z.f_Wanted_as_asks
  F_Chosen___init__ : Fun K "__init__" "Chosen.__init__" s_Chosen___init__ Z.f_Chosen___init__ Z.d_Chosen___init__
  b_Chosen___init__ : Binds K Z.d_Chosen___init__ ["self", "table", "changes", "room"] []
  mk_Chosen : Mk K Z.C_Chosen Z.f_Chosen___init__
  F_Chosen_ask : Fun K "ask" "Chosen.ask" s_Chosen_ask Z.f_Chosen_ask Z.d_Chosen_ask
  b_Chosen_ask : Binds K Z.d_Chosen_ask ["self", "question", "often"] []
  m_Chosen_ask : Meth K Z.C_Chosen "ask" Z.f_Chosen_ask
  F_Chosen_leave : Fun K "leave" "Chosen.leave" s_Chosen_leave Z.f_Chosen_leave Z.d_Chosen_leave
  b_Chosen_leave : Binds K Z.d_Chosen_leave ["self", "question"] []
  m_Chosen_leave : Meth K Z.C_Chosen "leave" Z.f_Chosen_leave
  F_Chosen_choose : Fun K "choose" "Chosen.choose" s_Chosen_choose Z.f_Chosen_choose Z.d_Chosen_choose
  b_Chosen_choose : Binds K Z.d_Chosen_choose ["self"] []
  m_Chosen_choose : Meth K Z.C_Chosen "choose" Z.f_Chosen_choose
  F_Chosen_asks : Fun K "asks" "Chosen.asks" s_Chosen_asks Z.f_Chosen_asks Z.d_Chosen_asks
  b_Chosen_asks : Binds K Z.d_Chosen_asks ["self"] []
  m_Chosen_asks : Meth K Z.C_Chosen "asks" Z.f_Chosen_asks
  F_Chosen_choice : Fun K "choice" "Chosen.choice" s_Chosen_choice Z.f_Chosen_choice Z.d_Chosen_choice
  b_Chosen_choice : Binds K Z.d_Chosen_choice ["self"] []
  m_Chosen_choice : Meth K Z.C_Chosen "choice" Z.f_Chosen_choice
  F_Chosen_price : Fun K "price" "Chosen.price" s_Chosen_price Z.f_Chosen_price Z.d_Chosen_price
  b_Chosen_price : Binds K Z.d_Chosen_price ["self"] []
  m_Chosen_price : Meth K Z.C_Chosen "price" Z.f_Chosen_price
  F_Chosen_made : Fun K "made" "Chosen.made" s_Chosen_made Z.f_Chosen_made Z.d_Chosen_made
  b_Chosen_made : Binds K Z.d_Chosen_made ["self"] []
  m_Chosen_made : Meth K Z.C_Chosen "made" Z.f_Chosen_made
  F_l_bag : Fun K "_law_bag" "_law_bag" s_l_bag Z.f_l_bag Z.d_l_bag
  b_l_bag : Binds K Z.d_l_bag ["script"] []
  g_l_bag : mg "_law_bag" = some (.ref Z.f_l_bag)
  F_l_lot : Fun K "_law_lot" "_law_lot" s_l_lot Z.f_l_lot Z.d_l_lot
  b_l_lot : Binds K Z.d_l_lot ["bag", "many"] []
  g_l_lot : mg "_law_lot" = some (.ref Z.f_l_lot)
  F_l_columns : Fun K "_law_columns" "_law_columns" s_l_columns Z.f_l_columns Z.d_l_columns
  b_l_columns : Binds K Z.d_l_columns ["bag", "most"] []
  g_l_columns : mg "_law_columns" = some (.ref Z.f_l_columns)
  F_l_table : Fun K "_law_table" "_law_table" s_l_table Z.f_l_table Z.d_l_table
  b_l_table : Binds K Z.d_l_table ["bag", "most", "rows"] []
  g_l_table : mg "_law_table" = some (.ref Z.f_l_table)
  F_l_near : Fun K "_law_near" "_law_near" s_l_near Z.f_l_near Z.d_l_near
  b_l_near : Binds K Z.d_l_near ["bag", "table", "at"] []
  g_l_near : mg "_law_near" = some (.ref Z.f_l_near)
  F_l_question : Fun K "_law_question" "_law_question" s_l_question Z.f_l_question Z.d_l_question
  b_l_question : Binds K Z.d_l_question ["bag", "table"] []
  g_l_question : mg "_law_question" = some (.ref Z.f_l_question)
  F_l_pool : Fun K "_law_pool" "_law_pool" s_l_pool Z.f_l_pool Z.d_l_pool
  b_l_pool : Binds K Z.d_l_pool ["bag", "table", "many"] []
  g_l_pool : mg "_law_pool" = some (.ref Z.f_l_pool)
  F_l_kind : Fun K "_law_kind" "_law_kind" s_l_kind Z.f_l_kind Z.d_l_kind
  b_l_kind : Binds K Z.d_l_kind ["ask"] []
  g_l_kind : mg "_law_kind" = some (.ref Z.f_l_kind)
  F_l_state : Fun K "_law_state" "_law_state" s_l_state Z.f_l_state Z.d_l_state
  b_l_state : Binds K Z.d_l_state ["chosen"] []
  g_l_state : mg "_law_state" = some (.ref Z.f_l_state)
  F_l_refused : Fun K "_law_refused" "_law_refused" s_l_refused Z.f_l_refused Z.d_l_refused
  C_l_refused : FunC K "_law_refused" "_law_refused" s_l_refused Z.f_l_refused Z.d_l_refused Z.c_l_refused
  b_l_refused : Binds K Z.d_l_refused ["chosen", "question", "asks"] []
  g_l_refused : mg "_law_refused" = some (.ref Z.f_l_refused)
  F_l_six : Fun K "_law_six" "_law_six" s_l_six Z.f_l_six Z.d_l_six
  b_l_six : Binds K Z.d_l_six ["bag", "table"] []
  g_l_six : mg "_law_six" = some (.ref Z.f_l_six)
  F_l_others_refused : Fun K "_law_others_refused" "_law_others_refused" s_l_others_refused Z.f_l_others_refused Z.d_l_others_refused
  b_l_others_refused : Binds K Z.d_l_others_refused ["chosen", "table", "asked"] []
  g_l_others_refused : mg "_law_others_refused" = some (.ref Z.f_l_others_refused)
  F_l_often_right : Fun K "_law_often_right" "_law_often_right" s_l_often_right Z.f_l_often_right Z.d_l_often_right
  b_l_often_right : Binds K Z.d_l_often_right [] []
  g_l_often_right : mg "_law_often_right" = some (.ref Z.f_l_often_right)
  F_l_last_right : Fun K "_law_last_right" "_law_last_right" s_l_last_right Z.f_l_last_right Z.d_l_last_right
  b_l_last_right : Binds K Z.d_l_last_right ["chosen", "work", "most"] []
  g_l_last_right : mg "_law_last_right" = some (.ref Z.f_l_last_right)
  F_law : Fun K "law" "law" s_law Z.f_law Z.d_law
  b_law : Binds K Z.d_law ["script"] []
  g_law : mg "law" = some (.ref Z.f_law)
  l_Sheet_most_saving : Z.P_Sheet_most_saving ∉ Z.Ps
  l_l_refused : Z.P_l_refused ∉ Z.Ps
  ll_Sheet_most_saving_l_refused : Z.P_Sheet_most_saving ≠ Z.P_l_refused
  bm_Sheet_strength : BMeth K Z.C_Sheet "strength" Z.f_Sheet_strength
  cl_Sheet : Cls K Z.C_Sheet
  g_Sheet : mg "Sheet" = some (.ref Z.C_Sheet)
  n_Sheet_changes : NoAttr K Z.C_Sheet "changes"
  n_Sheet_lists : NoAttr K Z.C_Sheet "lists"
  n_Sheet_often : NoAttr K Z.C_Sheet "often"
  n_Sheet_bare : NoAttr K Z.C_Sheet "bare"
  n_Sheet_prices : NoAttr K Z.C_Sheet "prices"
  cl_Wanted : Cls K Z.C_Wanted
  g_Wanted : mg "Wanted" = some (.ref Z.C_Wanted)
  n_Wanted_times : NoAttr K Z.C_Wanted "times"
  cl_Chosen : Cls K Z.C_Chosen
  g_Chosen : mg "Chosen" = some (.ref Z.C_Chosen)
  n_Chosen_table : NoAttr K Z.C_Chosen "table"
  n_Chosen_changes : NoAttr K Z.C_Chosen "changes"
  n_Chosen_room : NoAttr K Z.C_Chosen "room"
  n_Chosen_wanted : NoAttr K Z.C_Chosen "wanted"
  n_Chosen_chosen : NoAttr K Z.C_Chosen "chosen"
  n_Chosen_least : NoAttr K Z.C_Chosen "least"
  n_Chosen_new_lists : NoAttr K Z.C_Chosen "new_lists"
  m_len : mg "len" = none
  m_range : mg "range" = none
  m_list : mg "list" = none
  m_sorted : mg "sorted" = none
  m_tuple : mg "tuple" = none
  m_min : mg "min" = none
  m_max : mg "max" = none
  m_enumerate : mg "enumerate" = none
  m_dict : mg "dict" = none
  m_isinstance : mg "isinstance" = none
  m_zip : mg "zip" = none
  m_int : mg "int" = none
  m_bool : mg "bool" = none
  m_sum : mg "sum" = none
  m_all : mg "all" = none
  m_any : mg "any" = none
  m_str : mg "str" = none
  m_set : mg "set" = none
  m_ValueError : mg "ValueError" = none
  c_MOST_ASKS : mg "MOST_ASKS" = some (.int 5 Z.k_MOST_ASKS)
  xf : XFam K Z.xa ["TooMany", "NoQuestion"] ["NoRow", "TooMany", "NoNumber", "NoQuestion", "NoText"]
  gx_ListError : mg "ListError" = some (.ref (Z.xa "ListError"))
  gx_TooMany : mg "TooMany" = some (.ref (Z.xa "TooMany"))
  gx_NoQuestion : mg "NoQuestion" = some (.ref (Z.xa "NoQuestion"))
  gx_NoRow : mg "NoRow" = some (.ref (Z.xa "NoRow"))
  gx_NoNumber : mg "NoNumber" = some (.ref (Z.xa "NoNumber"))
  gx_NoText : mg "NoText" = some (.ref (Z.xa "NoText"))
section
variable {P : Program} {w : World} {K : PySem.W.Frag} {mg : Str → Option Value} {base : Heap} {Z : Ad}
/-! ### a bag of numbers -/
def Bag (b bl : Addr) (H : Hp) : Prop := ∃ (ns : List Int) (k : Nat) (n : Int), b ≠ bl ∧ H b = some (.lst [.ref bl, .int k, .int n]) ∧ H bl = some (.lst (ns.map V.int))
theorem Bag.same {b bl : Addr} {H H' : Hp} (h : Bag b bl H) (s : Same H H') : Bag b bl H' := by
  obtain ⟨ns, k, n, e, h1, h2⟩ := h
  exact ⟨ns, k, n, e, s _ _ h1, s _ _ h2⟩
theorem Bag.upd {b bl p : Addr} {H : Hp} {o : HO} (h : Bag b bl H) (h1 : p ≠ b) (h2 : p ≠ bl) : Bag b bl (L2.upd H p o) := by
  obtain ⟨ns, k, n, e, g1, g2⟩ := h
  exact ⟨ns, k, n, e, keep_ne g1 (fun z => h1 z.symm), keep_ne g2 (fun z => h2 z.symm)⟩
theorem Bag.new {b bl p : Addr} {H : Hp} {o : HO} (h : Bag b bl H) (n : H p = none) : Bag b bl (L2.upd H p o) := h.same (Same.new (Same.refl H) n)
theorem Bag.ne {b bl p : Addr} {H : Hp} (h : Bag b bl H) (n : H p = none) : p ≠ b ∧ p ≠ bl := by
  obtain ⟨ns, k, m, e, g1, g2⟩ := h
  exact ⟨(ne_of_none g1 n).symm, (ne_of_none g2 n).symm⟩
theorem Kp.kTb {b bl : Addr} {H H' : Hp} (k : Kp b H H') (h : Bag b bl H) : KT H H' := by
  obtain ⟨ns, m, n, e, g1, g2⟩ := h
  exact k.kT g1
def spBag (K : PySem.W.Frag) : Sp := fun vs H Q _ => ∃ (a : Addr) (ns : List Int), vs = [.ref a] ∧ SqL K H a (ns.map V.int) ∧ ns.length ≤ 63 ∧ ∀ (b bl : Addr) (H' : Hp), Same H H' → H b = none → H bl = none → Bag b bl H' → Q (.ref b) H'
theorem ok_bag (T : Tx K mg Z) : FnOk P w K mg base CX0 1 Z.f_l_bag Z.d_l_bag ["script"] (spBag K) := by
  refine T.F_l_bag.ok sc_l_bag (fun vs H Q E h => ?_) (fun cdv A outer s H vs Q E hr h => ?_)
  · obtain ⟨a, ns, rfl, _⟩ := h
    rfl
  · obtain ⟨a, ns, rfl, hS, hl, q⟩ := h
    refine ⟨_, (pss_one (ps_ret (pe_lst (pa_cons (pe_callTy (cListSq K) (by rfl) T.m_list (by decide +kernel) (pa_cons (pe_slice (slLK K) (pv 0) po_none (po_some pe_int)) pa_nil)) (pa_cons pe_int (pa_cons pe_int pa_nil)))))), ?_⟩
    refine ⟨.ref a, rfl, _, rfl, a, _, rfl, hS, fun p np => ?_⟩
    have ecut : cutV (ns.map V.int) none (some (63 : Int)) = ns.map V.int := by
      unfold cutV
      rw [HT.sIx_none, show (63 : Int) = ((63 : Nat) : Int) from rfl, HT.sIx_nat, List.drop_zero, List.take_of_length_le (by rw [List.length_map]; omega)]
    rw [ecut]
    refine ⟨p, _, rfl, .inl (.inl (.inl upd_same)), fun l nl => ?_⟩
    refine ⟨(by show 3 ≤ sizeLine; decide), fun b nb => ?_⟩
    have s1 : Same H (upd H p (.lst (ns.map V.int))) := Same.new (Same.refl H) np
    have s2 : Same H (upd (upd H p (.lst (ns.map V.int))) l (.lst (ns.map V.int))) := Same.new s1 nl
    exact q b l _ (Same.new s2 nb) (Same.free s2 nb) (Same.free s1 nl) ⟨ns, (0 : Nat), (0 : Int), (fun e => by rw [e, upd_same] at nb; cases nb), upd_same, keep_new upd_same nb⟩
/-! ### _law_lot -/
def spLot (K : PySem.W.Frag) : Sp := fun vs H Q _ => ∃ (b bl : Addr) (m : Int), vs = [.ref b, .int m] ∧ Bag b bl H ∧ 0 < m ∧ m < 1073741824 ∧ ∀ (d : Int) (H' : Hp), Kp b H H' → Bag b bl H' → 0 ≤ d → d < m → Q (.int d) H'
set_option maxHeartbeats 4000000 in
theorem ok_lot (T : Tx K mg Z) : FnOk P w K mg base CX0 1 Z.f_l_lot Z.d_l_lot ["bag", "many"] (spLot K) := by
  refine T.F_l_lot.ok sc_l_lot (fun vs H Q E h => ?_) (fun cdv A outer s H vs Q E hr h => ?_)
  · obtain ⟨b, bl, m, rfl, _⟩ := h
    rfl
  · obtain ⟨b, bl, m, rfl, hB, h0, h1, q⟩ := h
    obtain ⟨ns, k, n, hne, hb, hbl⟩ := hB
    refine ⟨_, (pss_mid (ps_if (pt_cmpR op_eq (pe_ix (ixL K) (pv 0) pe_int (fun _ _ => rfl)) pe_int (nomark _)) (pss_cons (ps_set (i := 2) sc_l_lot.nd rfl (.inl rfl) (pe_ix (ixL K) (pv 0) pe_int (fun _ _ => rfl)))
      (pss_cons (ps_asg (pe_op op_add (pv 2) pe_int) (pg_sub (pv 0) pe_int set_list))
      (pss_cons (ps_set (i := 3) sc_l_lot.nd rfl (.inl rfl) pe_int)
      (pss_mid (ps_if (pt_cmpR op_lt (pv 2) (pe_callB (cLenSq K) (by rfl) T.m_len (by decide +kernel) (pa_cons (pe_ix (ixL K) (pv 0) pe_int (fun _ _ => rfl)) pa_nil)) (nomark _)) (pss_one (ps_set (i := 3) sc_l_lot.nd rfl (.inl rfl) (pe_ix (ixL K) (pe_ix (ixL K) (pv 0) pe_int (fun _ _ => rfl)) (pv 2) (fun _ _ => rfl)))) (pss_one (ps_if (pt_cmpR op_gt (pe_callB (cLenSq K) (by rfl) T.m_len (by decide +kernel) (pa_cons (pe_ix (ixL K) (pv 0) pe_int (fun _ _ => rfl)) pa_nil)) pe_int (nomark _)) (pss_one (ps_set (i := 3) sc_l_lot.nd rfl (.inl rfl) (pe_op op_add (pe_op op_mod (pe_ix (ixL K) (pe_ix (ixL K) (pv 0) pe_int (fun _ _ => rfl)) (pe_op op_mod (pe_op op_mul (pv 2) pe_int) (pe_callB (cLenSq K) (by rfl) T.m_len (by decide +kernel) (pa_cons (pe_ix (ixL K) (pv 0) pe_int (fun _ _ => rfl)) pa_nil))) (fun _ _ => rfl)) pe_int) (pe_op op_mul pe_int (pv 2))))) pss_nil)))
      (pss_cons (ps_set (i := 4) sc_l_lot.nd rfl (.inl rfl) (pe_op op_mod (pe_op op_mul (pe_op op_add (pe_op op_add (pe_op op_mod (pv 3) pe_int) (pe_op op_mul pe_int (pv 2))) pe_int) pe_int) pe_int))
      (pss_cons (ps_set (i := 5) sc_l_lot.nd rfl (.inl rfl) (pe_op op_mod (pe_op op_add (pe_op op_add (pe_op op_mul (pv 4) (pv 4)) (pe_op op_mul pe_int (pv 2))) pe_int) pe_int))
      (pss_cons (ps_set (i := 6) sc_l_lot.nd rfl (.inl rfl) (pe_op op_mod (pe_op op_add (pe_op op_add (pe_op op_mul (pv 5) (pv 5)) (pe_op op_mul pe_int (pv 4))) pe_int) pe_int))
      (pss_cons (ps_asg (pe_op op_add (pe_op op_fdivW (pe_op op_add (pe_op op_mul (pv 5) pe_int) (pv 6)) pe_int) pe_int) (pg_sub (pv 0) pe_int set_list))
      (pss_one (ps_if (pt_cmpR op_ge (pv 3) (pe_op op_pow pe_int pe_int) (nomark _)) (pss_one (ps_asg (pe_op op_fdivW (pv 3) (pe_op op_pow pe_int pe_int)) (pg_sub (pv 0) pe_int set_list))) pss_nil)))))))))) pss_nil)
      (pss_cons (ps_set (i := 7) sc_l_lot.nd rfl (.inl rfl) (pe_op op_mod (pe_ix (ixL K) (pv 0) pe_int (fun _ _ => rfl)) (pv 1)))
      (pss_cons (ps_asg (pe_op op_fdivW (pe_ix (ixL K) (pv 0) pe_int (fun _ _ => rfl)) (pv 1)) (pg_sub (pv 0) pe_int set_list))
      (pss_one (ps_ret (pv 7)))))), ?_⟩
    refine ⟨fun σ H' => ∃ (y2 y3 y4 y5 y6 : Option V) (k2 : Nat) (n2 : Int), σ = [some (.ref b), some (.int m), y2, y3, y4, y5, y6, none] ∧ Kp b H H' ∧ H' b = some (.lst [.ref bl, .int k2, .int n2]) ∧ H' bl = some (.lst (ns.map V.int)), ?_, fun σ H1 hM => ?_⟩
    · refine ⟨.ref b, rfl, b, _, 2, .int n, rfl, rfl, .inl (.inl hb), rfl, rfl, _, rfl, ite2 (fun e => ?_) (fun e => ?_)⟩
      · refine ⟨.ref b, rfl, b, _, 1, .int k, rfl, rfl, .inl (.inl hb), rfl, ?_⟩
        refine ⟨.int k, rfl, _, 1, rfl, rfl, .ref b, rfl, b, _, 1, 1, rfl, rfl, hb, rfl, ?_⟩
        have hb2 : (upd H b (.lst ([V.ref bl, .int k, .int n].set 1 (.int ((k : Int) + 1))))) b = some (.lst [.ref bl, .int ((k + 1 : Nat) : Int), .int n]) := by
          rw [upd_same]
          rfl
        have hbl2 : (upd H b (.lst ([V.ref bl, .int k, .int n].set 1 (.int ((k : Int) + 1))))) bl = some (.lst (ns.map V.int)) := keep_ne hbl (fun z => hne z.symm)
        have kp2 : Kp b H (upd H b (.lst ([V.ref bl, .int k, .int n].set 1 (.int ((k : Int) + 1))))) := fun c o hc hh => keep_ne hh hc
        refine ⟨fun σ H' => ∃ c : Int, σ = [some (.ref b), some (.int m), some (.int k), some (.int c), none, none, none, none] ∧ Kp b H H' ∧ H' b = some (.lst [.ref bl, .int ((k + 1 : Nat) : Int), .int n]) ∧ H' bl = some (.lst (ns.map V.int)), ?_, fun σ H2 hM => ?_⟩
        · refine ⟨.int k, rfl, .ref b, rfl, b, _, 0, .ref bl, rfl, rfl, .inl (.inl hb2), rfl, bl, _, rfl, .inl (.inl (.inl hbl2)), _, _, rfl, rfl, _, rfl, ite2 (fun e2 => ?_) (fun e2 => ?_)⟩
          · have e3 : (k : Int) < ((ns.map V.int).length : Nat) := of_decide_eq_true e2
            have e4 : k < ns.length := by
              rw [List.length_map] at e3
              omega
            refine ⟨.ref b, rfl, b, _, 0, .ref bl, rfl, rfl, .inl (.inl hb2), rfl, .int k, rfl, bl, _, _, .int ns[k], rfl, rfl, .inl (.inl hbl2), atI_nat (by rw [List.getElem?_map, List.getElem?_eq_getElem e4]; rfl), ?_⟩
            exact ⟨_, rfl, kp2, hb2, hbl2⟩
          · refine ⟨.ref b, rfl, b, _, 0, .ref bl, rfl, rfl, .inl (.inl hb2), rfl, bl, _, rfl, .inl (.inl (.inl hbl2)), _, _, rfl, rfl, _, rfl, ite2 (fun e3 => ?_) (fun e3 => ?_)⟩
            · have e4 : (0 : Int) < ((ns.map V.int).length : Nat) := of_decide_eq_true e3
              have hl0 : 0 < ns.length := by
                rw [List.length_map] at e4
                omega
              refine ⟨.ref b, rfl, b, _, 0, .ref bl, rfl, rfl, .inl (.inl hb2), rfl, .int k, rfl, _, 5, rfl, rfl, .inr ⟨by decide, by decide⟩, .ref b, rfl, b, _, 0, .ref bl, rfl, rfl, .inl (.inl hb2), rfl, bl, _, rfl, .inl (.inl (.inl hbl2)), _, _, rfl, rfl, e4, ?_⟩
              rw [List.length_map]
              have g0 : 0 ≤ ((k : Int) * 5) % (ns.length : Int) := Int.emod_nonneg _ (by omega)
              have g1 : ((k : Int) * 5) % (ns.length : Int) < (ns.length : Int) := Int.emod_lt_of_pos _ (by omega)
              have hj : (((k : Int) * 5) % (ns.length : Int)).toNat < ns.length := by omega
              refine ⟨bl, _, _, .int ns[(((k : Int) * 5) % (ns.length : Int)).toNat], rfl, rfl, .inl (.inl hbl2), L2.at_of (j := (((k : Int) * 5) % (ns.length : Int)).toNat) (by omega) (by rw [List.getElem?_map, List.getElem?_eq_getElem hj]; rfl), _, 1000003, rfl, rfl, (by show (0 : Int) < 1000003; decide), .int k, rfl, 97, _, rfl, rfl, .inl ⟨by decide, by decide⟩, _, _, rfl, rfl, ?_⟩
              exact ⟨_, rfl, kp2, hb2, hbl2⟩
            · exact ⟨_, rfl, kp2, hb2, hbl2⟩
        · obtain ⟨c, rfl, kp3, hb3, hbl3⟩ := hM
          have em : ∀ (x : Int) (d : Int), 0 < d → 0 ≤ x % d ∧ x % d < d := fun x d hd => ⟨Int.emod_nonneg _ (by omega), Int.emod_lt_of_pos _ hd⟩
          have b64 : ∀ x : Int, 0 ≤ x → x < 2147483647 → -(2 ^ 64) < x ∧ x < 2 ^ 64 := fun x h0 h1 => ⟨by omega, by omega⟩
          refine ⟨.int c, rfl, c, 2147483629, rfl, rfl, (by show (0 : Int) < 2147483629; decide), .int k, rfl, 83, _, rfl, rfl, .inl ⟨by decide, by decide⟩, _, _, rfl, rfl, _, 5, rfl, rfl, _, 48271, rfl, rfl, .inr ⟨by decide, by decide⟩, _, 998244353, rfl, rfl, (by show (0 : Int) < 998244353; decide), ?_⟩
          refine ⟨_, rfl, _, rfl, _, _, rfl, rfl, .inl (b64 _ (em _ 998244353 (by decide)).1 (Int.lt_trans (em _ 998244353 (by decide)).2 (by decide))), .int k, rfl, 69621, _, rfl, rfl, .inl ⟨by decide, by decide⟩, _, _, rfl, rfl, _, 17, rfl, rfl, _, 2147483647, rfl, rfl, (by show (0 : Int) < 2147483647; decide), ?_⟩
          refine ⟨_, rfl, _, rfl, _, _, rfl, rfl, .inl (b64 _ (em _ 2147483647 (by decide)).1 (em _ 2147483647 (by decide)).2), _, rfl, 3, _, rfl, rfl, .inl ⟨by decide, by decide⟩, _, _, rfl, rfl, _, 1, rfl, rfl, _, 1000000007, rfl, rfl, (by show (0 : Int) < 1000000007; decide), ?_⟩
          refine ⟨_, rfl, _, 1000000007, rfl, rfl, .inr ⟨by decide, by decide⟩, _, rfl, _, _, rfl, rfl, _, 4, rfl, rfl, wide_div (b := 4) (by decide) (by decide) (by decide) (by decide), _, 1, rfl, rfl, .ref b, rfl, b, _, 2, 2, rfl, rfl, hb3, rfl, ?_⟩
          refine ⟨.int c, rfl, 10, 18, rfl, rfl, ⟨by decide, by decide, by decide⟩, _, _, rfl, rfl, _, rfl, ite2 (fun e6 => ?_) (fun e6 => ?_)⟩
          · refine ⟨.int c, rfl, 10, 18, rfl, rfl, ⟨by decide, by decide, by decide⟩, _, _, rfl, rfl, wide_div (b := 60) (by decide) (by decide) (by decide) (by decide), .ref b, rfl, b, _, 2, 2, rfl, rfl, upd_same, rfl, ?_⟩
            exact ⟨_, _, _, _, _, k + 1, _, rfl, fun c o hc hh => keep_ne (keep_ne (kp3 c o hc hh) hc) hc, upd_same, keep_ne (keep_ne hbl3 (fun z => hne z.symm)) (fun z => hne z.symm)⟩
          · exact ⟨_, _, _, _, _, k + 1, _, rfl, fun c o hc hh => keep_ne (kp3 c o hc hh) hc, upd_same, keep_ne hbl3 (fun z => hne z.symm)⟩
      · exact ⟨_, _, _, _, _, k, n, rfl, Kp.rfl', hb, hbl⟩
    · obtain ⟨y2, y3, y4, y5, y6, k2, n2, rfl, kp1, hb1, hbl1⟩ := hM
      refine ⟨.ref b, rfl, b, _, 2, .int n2, rfl, rfl, .inl (.inl hb1), rfl, .int m, rfl, n2, m, rfl, rfl, h0, ?_⟩
      refine ⟨.ref b, rfl, b, _, 2, .int n2, rfl, rfl, .inl (.inl hb1), rfl, .int m, rfl, n2, m, rfl, rfl, wide_div (b := 30) h0 (by omega) (by decide) (by decide), ?_⟩
      refine ⟨.ref b, rfl, b, _, 2, 2, rfl, rfl, hb1, rfl, _, rfl, ?_⟩
      refine q _ _ ?_ ⟨ns, k2, n2 / m, hne, upd_same, keep_ne hbl1 (fun z => hne z.symm)⟩ (Int.emod_nonneg _ (by omega)) (Int.emod_lt_of_pos _ h0)
      exact fun c o hc hh => keep_ne (kp1 c o hc hh) hc

/-! ### _law_columns -/
def alpha : List Nat := [97, 98, 99, 100, 101, 102, 103, 104, 105, 106, 107, 108, 109, 110, 111, 112, 113, 114, 115, 116, 117, 118, 119, 120, 121, 122]
def spColumns (K : PySem.W.Frag) : Sp := fun vs H Q _ => ∃ (b bl : Addr) (m : Nat), vs = [.ref b, .int m] ∧ Bag b bl H ∧ 1 ≤ m ∧ m ≤ 26 ∧ ∀ (l : List Nat) (H' : Hp), Kp b H H' → Bag b bl H' → Cols l → 1 ≤ l.length → l.length ≤ m → Q (tx l) H'
theorem ok_columns (T : Tx K mg Z) : FnOk P w K mg base CX0 2 Z.f_l_columns Z.d_l_columns ["bag", "most"] (spColumns K) := by
  have G_l_lot : FnOk P w K mg base CX0 1 Z.f_l_lot Z.d_l_lot ["bag", "many"] (spLot K) := ok_lot T
  refine T.F_l_columns.ok sc_l_columns (fun vs H Q E h => ?_) (fun cdv A outer s H vs Q E hr h => ?_)
  · obtain ⟨b, bl, m, rfl, _⟩ := h
    rfl
  · obtain ⟨b, bl, m, rfl, hB, hm1, hm, q⟩ := h
    refine ⟨_, (pss_cons (ps_set (i := 2) sc_l_columns.nd rfl (.inl rfl) (pe_callTy call_list_txt (by rfl) T.m_list (by decide +kernel) (pa_cons pe_str pa_nil)))
      (pss_cons (ps_set (i := 3) sc_l_columns.nd rfl (.inl rfl) (pe_lst pa_nil))
      (pss_cons (ps_for PassesOwn.never rfl (pi_range1 (by rfl) T.m_range (pa_cons (pe_op op_add pe_int (pe_call G_l_lot (hr.mono (by omega)) (by rfl) T.g_l_lot T.F_l_lot.kp T.b_l_lot .nil pass0 (pa_cons (pv 0) (pa_cons (pv 1) pa_nil)))) pa_nil)) (pg_name (i := 4) sc_l_columns.nd rfl (.inl rfl)) (pss_one (ps_expr (bmK K PySem.F.plainAttrs_list PySem.F.slot_list_append PySem.F.type_list_append mt_append (pv 3) (pa_cons (bmK K PySem.F.plainAttrs_list PySem.F.slot_list_pop PySem.F.type_list_pop mt_popAt (pv 2) (pa_cons (pe_call G_l_lot (hr.mono (by omega)) (by rfl) T.g_l_lot T.F_l_lot.kp T.b_l_lot .nil pass0 (pa_cons (pv 0) (pa_cons (pe_callB (cLenSq K) (by rfl) T.m_len (by decide +kernel) (pa_cons (pv 2) pa_nil)) pa_nil))) pa_nil)) pa_nil)))))
      (pss_one (ps_ret (pe_join pe_str (pe_callB cr_sortedS (by rfl) T.m_sorted (by decide +kernel) (pa_cons (pv 3) pa_nil)))))))), ?_⟩
    have ea : (Str.ofString "abcdefghijklmnopqrstuvwxyz").cps.toList = alpha := by decide +kernel
    refine ⟨_, rfl, (by decide +kernel), fun L nL => ?_⟩
    rw [ea]
    refine ⟨Nat.zero_le _, fun F nF => ?_⟩
    have nFL : F ≠ L := fun e => by
      rw [e, upd_same] at nF
      cases nF
    have nF0 : H F = none := by
      rw [upd_ne nFL] at nF
      exact nF
    have nLb := hB.ne nL
    have nFb := hB.ne nF0
    have hB2 := (hB.new nL (o := .lst (alpha.map sg))).new nF (o := .lst [])
    have hL2 : (upd (upd H L (.lst (alpha.map sg))) F (.lst [])) L = some (.lst (alpha.map sg)) := keep_new upd_same nF
    have hF2 : (upd (upd H L (.lst (alpha.map sg))) F (.lst [])) F = some (.lst []) := upd_same
    have kp2 : Kp b H (upd (upd H L (.lst (alpha.map sg))) F (.lst [])) := (Kp.new Kp.rfl' nL).new nF
    generalize upd (upd H L (.lst (alpha.map sg))) F (.lst []) = H2 at hB2 hL2 hF2 kp2 ⊢
    refine ⟨.ref b, rfl, .int m, rfl, b, bl, m, rfl, hB2, by omega, by omega, fun g H3 kp3 hB3 g0 g1 => ?_⟩
    have hL3 := kp3 _ _ nLb.1 hL2
    have hF3 := kp3 _ _ nFb.1 hF2
    refine ⟨1, _, rfl, rfl, _, rfl, by omega, by omega, for_range (fun i σ H' => ∃ (ll ff : List Nat) (y : Option V), σ = [some (.ref b), some (.int m), some (.ref L), some (.ref F), y] ∧ Kp b H H' ∧ Bag b bl H' ∧ H' L = some (.lst (ll.map sg)) ∧ H' F = some (.lst (ff.map sg)) ∧ (ll ++ ff).Perm alpha ∧ ff.length = i)
      ⟨alpha, [], none, rfl, kp2.trans kp3, hB3, hL3, hF3, by rw [List.append_nil], rfl⟩ (fun i σ H' hi hP => ?_) (fun σ H' hP => ?_)⟩
    · obtain ⟨ll, ff, y, rfl, kp, hB1, hL, hF, hp, hl⟩ := hP
      have hlen : ll.length + ff.length = 26 := by
        have := hp.length_eq
        rw [List.length_append] at this
        exact this
      have hll : 0 < ll.length := by omega
      refine ⟨.ref F, rfl, .inl ⟨rfl, _, .inl (.inl hF)⟩, .ref L, rfl, .inl ⟨rfl, _, .inl (.inl hL)⟩, .ref b, rfl, .ref L, rfl, L, _, rfl, .inl (.inl (.inl hL)), b, bl, _, rfl, hB1, ?_, ?_, fun d H4 kp4 hB4 d0 d1 => ?_⟩
      · rw [List.length_map]
        omega
      · rw [List.length_map]
        omega
      · rw [List.length_map] at d1
        have hd : d.toNat < ll.length := by omega
        have hL4 : H4 L = some (.lst (ll.map sg)) := kp4 _ _ nLb.1 hL
        have hF4 : (upd H4 L (.lst ((ll.map sg).eraseIdx d.toNat))) F = some (.lst (ff.map sg)) := keep_ne (kp4 _ _ nFb.1 hF) nFL
        have hy : ll[d.toNat]? = some ll[d.toNat] := List.getElem?_eq_getElem hd
        refine ⟨L, _, d, d.toNat, sg ll[d.toNat], rfl, rfl, hL4, by omega, by omega, PySem.seqIndex_of d0 (by rw [List.length_map]; exact d1), ?_, F, _, _, rfl, rfl, hF4, ?_, ?_⟩
        · rw [List.getElem?_map, hy]
          rfl
        · rw [List.length_map]
          exact small1000 (by omega)
        · refine ⟨ll.eraseIdx d.toNat, ff ++ [ll[d.toNat]], _, rfl, ?_, ?_, ?_, ?_, (popped hy ff).trans hp, by rw [List.length_append, hl]; rfl⟩
          · exact ((kp.trans kp4).mut nL).mut nF0
          · exact (hB4.upd nLb.1 nLb.2).upd nFb.1 nFb.2
          · rw [upd_ne nFL.symm, upd_same, erase_map]
          · rw [upd_same, List.map_append]
            rfl
    · obtain ⟨ll, ff, y, rfl, kp, hB1, hL, hF, hp, hl⟩ := hP
      have hm2 : 1 ≤ ff.length ∧ ff.length ≤ m := by
        rw [hl]
        omega
      refine ⟨⟨_, rfl⟩, .ref F, rfl, F, ff.map sS, rfl, .inl (.inl (by rw [← map_sg]; exact hF)), by rw [List.length_map]; omega, fun ys p hys hso np => ?_⟩
      obtain ⟨l, rfl, pl⟩ := perm_signs hys
      have ndA : (ll ++ ff).Nodup := hp.nodup_iff.mpr (by decide)
      have ndf : ff.Nodup := (List.nodup_append.mp ndA).2.1
      have ndl : l.Nodup := pl.nodup_iff.mpr ndf
      refine ⟨_, p, _, rfl, rfl, .inl (.inl (.inl upd_same)), ?_, ?_⟩
      · rw [show (Str.ofString "").length = 0 by decide +kernel, Nat.mul_zero, Nat.add_zero, signs_len, pl.length_eq]
        exact Nat.le_of_lt (small1000 (by omega))
      · rw [join_signs]
        refine q l _ (kp.new np) (hB1.new np) ⟨strict_of (sorted_signs l hso) ndl, fun c hc => ?_⟩ (by rw [pl.length_eq]; exact hm2.1) (by rw [pl.length_eq]; exact hm2.2)
        have hc2 : c ∈ alpha := hp.mem_iff.mp (List.mem_append_right _ (pl.mem_iff.mp hc))
        have : ∀ c ∈ alpha, 97 ≤ c ∧ c ≤ 122 := by decide
        exact this c hc2

/-! ### _law_table -/
def spTable (K : PySem.W.Frag) : Sp := fun vs H Q _ => ∃ (b bl : Addr) (most rn : Nat), vs = [.ref b, .int most, .int rn] ∧ Bag b bl H ∧ 1 ≤ most ∧ most ≤ 26 ∧ rn ≤ 900 ∧
  ∀ (cols : List Nat) (rows : List (List Int)) (v : V) (H' : Hp), Kp b H H' → Bag b bl H' → Fz H' v (tabD cols rows) → Cols cols → 1 ≤ cols.length → cols.length ≤ most → RowsOk cols.length rows → rows.length ≤ rn → Q v H'
theorem ok_table (T : Tx K mg Z) : FnOk P w K mg base CX0 3 Z.f_l_table Z.d_l_table ["bag", "most", "rows"] (spTable K) := by
  have G_l_lot : FnOk P w K mg base CX0 1 Z.f_l_lot Z.d_l_lot ["bag", "many"] (spLot K) := ok_lot T
  have G_l_columns : FnOk P w K mg base CX0 2 Z.f_l_columns Z.d_l_columns ["bag", "most"] (spColumns K) := ok_columns T
  refine T.F_l_table.ok sc_l_table (fun vs H Q E h => ?_) (fun cdv A outer s H vs Q E hr h => ?_)
  · obtain ⟨b, bl, most, rn, rfl, _⟩ := h
    rfl
  · obtain ⟨b, bl, most, rn, rfl, hB, hm1, hm2, hrn, q⟩ := h
    refine ⟨_, (pss_cons (ps_set (i := 3) sc_l_table.nd rfl (.inl rfl) (pe_call G_l_columns (hr.mono (by omega)) (by rfl) T.g_l_columns T.F_l_columns.kp T.b_l_columns .nil pass0 (pa_cons (pv 0) (pa_cons (pv 1) pa_nil))))
      (pss_cons (ps_set (i := 4) sc_l_table.nd rfl (.inr rfl) (pe_ix (ixL K) (pe_lst (pa_cons pe_int (pa_cons pe_int (pa_cons pe_int (pa_cons pe_int pa_nil))))) (pe_call G_l_lot (hr.mono (by omega)) (by rfl) T.g_l_lot T.F_l_lot.kp T.b_l_lot .nil pass0 (pa_cons (pv 0) (pa_cons pe_int pa_nil))) (fun _ _ => rfl)))
      (pss_cons (ps_set (i := 5) sc_l_table.nd rfl (.inl rfl) (pe_lst pa_nil))
      (pss_cons (ps_for PassesOwn.never rfl (pi_range1 (by rfl) T.m_range (pa_cons (pe_call G_l_lot (hr.mono (by omega)) (by rfl) T.g_l_lot T.F_l_lot.kp T.b_l_lot .nil pass0 (pa_cons (pv 0) (pa_cons (pe_op op_add (pv 2) pe_int) pa_nil))) pa_nil)) (pg_name (i := 6) sc_l_table.nd rfl (.inl rfl)) (pss_one (ps_expr (bmK K PySem.F.plainAttrs_list PySem.F.slot_list_append PySem.F.type_list_append mt_append (pv 5) (pa_cons (pe_callTy (cTupSq K) (by rfl) T.m_tuple (by decide +kernel) (pa_cons (pe_lc (own := [("letter", 7)]) (tt := tYes) (by rfl) sc_l_table.nd (pi_str (pv 3)) (blkOk_by (own := [("letter", 7)]) (by kernel_rfl)) (fun _ _ _ _ _ => (pg_name (i := 7) sc_l_table.nd rfl (.inl rfl))) (fun _ _ _ _ _ => pts_nil) (fun _ _ _ _ _ => (pe_call G_l_lot (hr.mono (by omega)) (by rfl) T.g_l_lot T.F_l_lot.kp T.b_l_lot .nil pass0 (pa_cons (pv 0) (pa_cons (pv 4) pa_nil))))) pa_nil)) pa_nil)))))
      (pss_one (ps_ret (pe_tup (pa_cons (pv 3) (pa_cons (pe_callTy (cTupSq K) (by rfl) T.m_tuple (by decide +kernel) (pa_cons (pv 5) pa_nil)) pa_nil))))))))), ?_⟩
    refine ⟨.ref b, rfl, .int most, rfl, b, bl, most, rfl, hB, hm1, hm2, fun cols H1 kp1 hB1 hc hc1 hc2 => ?_⟩
    -- spread
    refine ⟨(by show 4 ≤ sizeLine; decide), fun L nL => ?_⟩
    have nLb := hB1.ne nL
    have hB2 := hB1.new nL (o := .lst [.int 2, .int 3, .int 6, .int 1000])
    have hL2 : (upd H1 L (.lst [.int 2, .int 3, .int 6, .int 1000])) L = some (.lst [.int 2, .int 3, .int 6, .int 1000]) := upd_same
    have kp2 : Kp b H (upd H1 L (.lst [.int 2, .int 3, .int 6, .int 1000])) := kp1.new nL
    generalize upd H1 L (.lst [.int 2, .int 3, .int 6, .int 1000]) = H2 at hB2 hL2 kp2 ⊢
    refine ⟨.ref b, rfl, b, bl, 4, rfl, hB2, by decide, by decide, fun e H3 kp3 hB3 e0 e1 => ?_⟩
    obtain ⟨t, ht, hat⟩ := at_ints (ns := [2, 3, 6, 1000]) e0 e1
    have htb : 0 < t ∧ t ≤ 1000 := by
      have : ∀ z ∈ ([2, 3, 6, 1000] : List Int), 0 < z ∧ z ≤ 1000 := by decide
      exact this t ht
    refine ⟨L, [2, 3, 6, 1000].map V.int, e, .int t, rfl, rfl, .inl (.inl (kp3 _ _ nLb.1 hL2)), hat, ?_⟩
    have kpA : Kp b H H3 := kp2.trans kp3
    -- found
    refine ⟨Nat.zero_le _, fun D nD => ?_⟩
    have nDb := hB3.ne nD
    have nDH : H D = none := Kp.none kpA nDb.1 nD
    have hB4 := hB3.new nD (o := .lst [])
    have hD4 : (upd H3 D (.lst [])) D = some (.lst []) := upd_same
    have kp4 : Kp b H (upd H3 D (.lst [])) := kpA.new nD
    generalize upd H3 D (.lst []) = H4 at hB4 hD4 kp4 ⊢
    refine ⟨.ref b, rfl, .int rn, rfl, rn, 1, rfl, rfl, b, bl, _, rfl, hB4, by omega, by omega, fun m H5 kp5 hB5 m0 m1 => ?_⟩
    have hD5 := kp5 _ _ nDb.1 hD4
    refine ⟨m, rfl, by omega, by omega, for_range (fun i σ H' => ∃ (rows : List (List Int)) (vs : List V) (y : Option V), σ = [some (.ref b), some (.int most), some (.int rn), some (tx cols), some (.int t), some (.ref D), y, none] ∧ Kp b H H' ∧ Bag b bl H' ∧ H' D = some (.lst vs) ∧ FzA H' vs (rows.map rowD) ∧ RowsOk cols.length rows ∧ rows.length = i)
      ⟨[], [], none, rfl, kp4.trans kp5, hB5, hD5, .nil, (fun _ h => nomatch h), rfl⟩ (fun i σ H6 hi hP => ?_) (fun σ H6 hP => ?_)⟩
    · obtain ⟨rows, vs, y, rfl, kp6, hB6, hD6, fvs, hok, hln⟩ := hP
      refine ⟨.ref D, rfl, .inl ⟨rfl, _, .inl (.inl hD6)⟩, tx cols, rfl, _, rfl, fun D3 nD3 => lc_it walk_str (fun j H' => ∃ row : List Int, Kp b H6 H' ∧ Bag b bl H' ∧ H' D3 = some (.lst (row.map V.int)) ∧ row.length = j ∧ ∀ x ∈ row, 0 ≤ x ∧ x < 1000)
        ⟨[], Kp.rfl'.new nD3, hB6.new nD3, upd_same, rfl, fun _ h => nomatch h⟩ (fun _ _ _ _ => trivial) (fun j x H7 H8 hj hP hY => ?_) (fun H7 hP => ?_)⟩
      · obtain ⟨row, kp7, hB7, hD7, hl7, hx7⟩ := hP
        obtain ⟨rfl, c, hcc, rfl⟩ := hY
        have n3b := hB6.ne nD3
        have hj2 : j < cols.length := by simpa using hj
        refine ⟨rfl, .ref b, rfl, .int t, rfl, b, bl, t, rfl, hB7, htb.1, by omega, fun g H9 kp9 hB9 g0 g1 => ?_⟩
        refine ⟨row.map V.int, kp9 _ _ n3b.1 hD7, by rw [List.length_map]; exact small1000 (by omega), row ++ [g], (kp7.trans kp9).mut nD3, hB9.upd n3b.1 n3b.2, by rw [upd_same, List.map_append]; rfl, by rw [List.length_append, hl7]; rfl, fun u hu => ?_⟩
        rcases List.mem_append.mp hu with z | z
        · exact hx7 u z
        · rw [List.mem_singleton.mp z]
          exact ⟨g0, by omega⟩
      · obtain ⟨row, kp7, hB7, hD7, hl7, hx7⟩ := hP
        have hl8 : row.length = cols.length := by simpa using hl7
        refine ⟨D3, row.map V.int, rfl, .inl ⟨.inl (.inl hD7), fun r nr => ?_⟩⟩
        have hD8 : H7 D = some (.lst vs) := kp7 _ _ nDb.1 hD6
        have hD9 : (upd H7 r (.tup (row.map V.int))) D = some (.lst vs) := keep_new hD8 nr
        have kt : Kt H6 H7 := (kp7.kTb hB6).1
        refine ⟨D, vs, .ref r, rfl, rfl, hD9, by rw [fvs.len, List.length_map]; exact small1000 (by omega), rows ++ [row], vs ++ [.ref r], _, rfl, ((kp6.trans kp7).new nr).mut nDH, (hB7.new nr).upd nDb.1 nDb.2, upd_same, ?_, fun x hx => ?_, by rw [List.length_append, hln]; rfl⟩
        · rw [List.map_append]
          exact (FzA.snoc ((fvs.kt kt).kt (.new nr)) (row_made nr)).kt (.lst hD9)
        · rcases List.mem_append.mp hx with z | z
          · exact hok x z
          · rw [List.mem_singleton.mp z]
            exact ⟨hl8, hx7⟩
    · obtain ⟨rows, vs, y, rfl, kp6, hB6, hD6, fvs, hok, hln⟩ := hP
      refine ⟨tx cols, rfl, .ref D, rfl, D, vs, rfl, .inl ⟨.inl (.inl hD6), fun R nR => ⟨(by show 2 ≤ sizeLine; decide), fun t2 nt2 => ?_⟩⟩⟩
      have f1 : Fz (upd H6 R (.tup vs)) (.ref R) (rowsD rows) := Fz.made nR fvs
      exact q cols rows (.ref t2) _ ((kp6.new nR).new nt2) ((hB6.new nR).new nt2) (Fz.made nt2 (.cons (.str _) (.cons f1 .nil))) hc hc1 hc2 hok (by omega)

/-! ### _law_near -/
def spNear (K : PySem.W.Frag) : Sp := fun vs H Q _ => ∃ (b bl : Addr) (tb : V) (cols : List Nat) (rows : List (List Int)) (at_ : Nat), vs = [.ref b, tb, .int at_] ∧ Bag b bl H ∧ Fz H tb (tabD cols rows) ∧ RowsOk cols.length rows ∧ at_ < cols.length ∧ rows.length ≤ 1000 ∧
  ∀ (x : Int) (H' : Hp), Kp b H H' → Bag b bl H' → 0 ≤ x → x < 1000 → Q (.int x) H'
theorem ok_near (T : Tx K mg Z) : FnOk P w K mg base CX0 2 Z.f_l_near Z.d_l_near ["bag", "table", "at"] (spNear K) := by
  have G_l_lot : FnOk P w K mg base CX0 1 Z.f_l_lot Z.d_l_lot ["bag", "many"] (spLot K) := ok_lot T
  refine T.F_l_near.ok sc_l_near (fun vs H Q E h => ?_) (fun cdv A outer s H vs Q E hr h => ?_)
  · obtain ⟨b, bl, tb, cols, rows, at_, rfl, _⟩ := h
    rfl
  · obtain ⟨b, bl, tb, cols, rows, at_, rfl, hB, fT, hrs, hat, hrl, q⟩ := h
    obtain ⟨t, R, vs, rfl, ht, hRR, fvs⟩ := tab_open fT
    refine ⟨_, (pss_cons (ps_set (i := 3) sc_l_near.nd rfl (.inl rfl) (pe_call G_l_lot (hr.mono (by omega)) (by rfl) T.g_l_lot T.F_l_lot.kp T.b_l_lot .nil pass0 (pa_cons (pv 0) (pa_cons pe_int pa_nil))))
      (pss_cons (ps_if (PW.pt (pw_or (pt_cmpR (eqDK K hr.units) (pe_ix (ixT K) (pv 1) pe_int (fun _ _ => rfl)) (pe_tup pa_nil) (nomark _)) (pw_or1 (pt_cmpR op_eq (pv 3) pe_int (nomark _))))) (pss_one (ps_ret (pe_call G_l_lot (hr.mono (by omega)) (by rfl) T.g_l_lot T.F_l_lot.kp T.b_l_lot .nil pass0 (pa_cons (pv 0) (pa_cons (pe_ix (ixL K) (pe_lst (pa_cons pe_int (pa_cons pe_int pa_nil))) (pe_call G_l_lot (hr.mono (by omega)) (by rfl) T.g_l_lot T.F_l_lot.kp T.b_l_lot .nil pass0 (pa_cons (pv 0) (pa_cons pe_int pa_nil))) (fun _ _ => rfl)) pa_nil))))) pss_nil)
      (pss_cons (ps_set (i := 4) sc_l_near.nd rfl (.inl rfl) (pe_ix (ixT K) (pe_ix (ixT K) (pe_ix (ixT K) (pv 1) pe_int (fun _ _ => rfl)) (pe_call G_l_lot (hr.mono (by omega)) (by rfl) T.g_l_lot T.F_l_lot.kp T.b_l_lot .nil pass0 (pa_cons (pv 0) (pa_cons (pe_callB (cLenSq K) (by rfl) T.m_len (by decide +kernel) (pa_cons (pe_ix (ixT K) (pv 1) pe_int (fun _ _ => rfl)) pa_nil)) pa_nil))) (fun _ _ => rfl)) (pv 2) (fun _ _ => rfl)))
      (pss_one (ps_ret (pe_callB (call_min2 rfl) (by rfl) T.m_min (by decide +kernel) (pa_cons pe_int (pa_cons (pe_callB (call_max2 rfl) (by rfl) T.m_max (by decide +kernel) (pa_cons pe_int (pa_cons (pe_op op_add (pv 4) (pe_ix (ixL K) (pe_lst (pa_cons pe_int (pa_cons pe_int (pa_cons pe_int (pa_cons pe_int (pa_cons (pe_un un_neg pe_int) pa_nil)))))) (pv 3) (fun _ _ => rfl))) pa_nil))) pa_nil)))))))), ?_⟩
    refine ⟨.ref b, rfl, b, bl, 6, rfl, hB, by decide, by decide, fun way H1 kp1 hB1 w0 w1 => ?_⟩
    have kt1 : Kt H H1 := (kp1.kTb hB).1
    -- one more is drawn
    have pick2 : ∀ (H2 : Hp), Kp b H H2 → Bag b bl H2 → tRet (tCall (spLot K) [] E0 (tCons (tVar 0) (tCons (tOp (rIxL K) (tLst (tCons (tC (V.int 4)) (tCons (tC (V.int 1000)) tNil))) (tCall (spLot K) [] E0 (tCons (tVar 0) (tCons (tC (V.int 2)) tNil)))) tNil))) { nx := fun x H' => Q V.non H', rt := Q } [some (.ref b), some (.ref t), some (.int at_), some (.int way), none] H2 := by
      intro H2 kp2 hB2
      refine ⟨.ref b, rfl, (by show 2 ≤ sizeLine; decide), fun L nL => ?_⟩
      have nLb := hB2.ne nL
      refine ⟨.ref b, rfl, b, bl, 2, rfl, hB2.new nL, by decide, by decide, fun d H3 kp3 hB3 d0 d1 => ?_⟩
      obtain ⟨z, hz, hza⟩ := at_ints (ns := [4, 1000]) d0 d1
      have hz2 : ∀ z ∈ ([4, 1000] : List Int), 0 < z ∧ z ≤ 1000 := by decide
      have hz3 := hz2 z hz
      refine ⟨L, [4, 1000].map V.int, d, .int z, rfl, rfl, .inl (.inl (kp3 _ _ nLb.1 upd_same)), hza, b, bl, z, rfl, hB3, hz3.1, by omega, fun x H4 kp4 hB4 x0 x1 => ?_⟩
      exact q x _ (((kp2.new nL).trans kp3).trans kp4) hB4 x0 (by omega)
    refine ⟨.ref t, rfl, t, _, 1, .ref R, rfl, rfl, .inl (.inl (kt1 _ _ ht)), rfl, (by show 0 ≤ sizeLine; decide), fun p np => ?_⟩
    have hp : Fz (upd H1 p (.tup [])) (.ref p) (.tuple []) := Fz.made np .nil
    have hRp : Fz (upd H1 p (.tup [])) (.ref R) (rowsD rows) := ((Fz.tup hRR fvs).kt kt1).kt (.new np)
    have kp2 : Kp b H (upd H1 p (.tup [])) := kp1.new np
    have hB2 := hB1.new np (o := .tup [])
    have kt2 : Kt H (upd H1 p (.tup [])) := kt1.trans (.new np)
    generalize upd H1 p (.tup []) = H2 at hp hRp kp2 hB2 kt2 ⊢
    refine ⟨_, _, hRp.to, hp.to, shaped_rows rows, shaped_rows [], _, rfl, ite2 (fun ee => ?_) (fun ee => ?_)⟩
    · exact pick2 H2 kp2 hB2
    · have ne : rows ≠ [] := fun z => by
        rw [z] at ee
        exact ee rfl
      have hpos : 0 < rows.length := List.length_pos_iff.mpr ne
      refine ⟨.int way, rfl, rfl, _, rfl, ite2 (fun e5 => ?_) (fun e5 => ?_)⟩
      · exact pick2 H2 kp2 hB2
      · have e52 : way ≠ 5 := fun z => e5 (decide_eq_true (by rw [z]))
        have ht2 := kt2 _ _ ht
        have hRR2 := kt2 _ _ hRR
        have fvs2 := fvs.kt kt2
        have hvl : vs.length = rows.length := by rw [fvs2.len, List.length_map]
        refine ⟨.ref t, rfl, t, _, 1, .ref R, rfl, rfl, .inl (.inl ht2), rfl, .ref b, rfl, .ref t, rfl, t, _, 1, .ref R, rfl, rfl, .inl (.inl ht2), rfl, R, vs, rfl, .inr (.inl (.inl hRR2)), b, bl, _, rfl, hB2, by omega, by omega, fun d H3 kp3 hB3 d0 d1 => ?_⟩
        have hd : d.toNat < rows.length := by omega
        have kt3 : Kt H2 H3 := (kp3.kTb hB2).1
        obtain ⟨v, hv, fv⟩ := (fvs2.kt kt3).get (i := d.toNat) (d := rowD rows[d.toNat]) (by rw [List.getElem?_map, List.getElem?_eq_getElem hd]; rfl)
        have rok := hrs rows[d.toNat] (List.getElem_mem hd)
        obtain ⟨rb, rfl, hrb⟩ := row_open fv
        have hal2 : at_ < rows[d.toNat].length := by
          rw [rok.1]
          exact hat
        refine ⟨R, vs, d, .ref rb, rfl, rfl, .inl (.inl (kt3 _ _ hRR2)), L2.at_of (j := d.toNat) (by omega) hv, .int at_, rfl, rb, _, _, .int rows[d.toNat][at_], rfl, rfl, .inl (.inl hrb), atI_nat (by rw [List.getElem?_map, List.getElem?_eq_getElem hal2]; rfl), ?_⟩
        refine ⟨_, rfl, 1, rfl, (by show 5 ≤ sizeLine; decide), fun L nL => ?_⟩
        obtain ⟨z, hz, hza⟩ := at_ints (ns := [0, 0, 0, 1, -1]) w0 (by show way < 5; omega)
        refine ⟨.int way, rfl, L, [0, 0, 0, 1, -1].map V.int, way, .int z, rfl, rfl, .inl (.inl upd_same), hza, _, z, rfl, rfl, 0, _, rfl, 999, _, rfl, ?_⟩
        refine q _ _ ((kp2.trans kp3).new nL) (hB3.new nL) ?_ ?_
        · have m0 : (0 : Int) ≤ (if rows[d.toNat][at_] + z > 0 then rows[d.toNat][at_] + z else 0) := by
            split <;> omega
          split <;> omega
        · split <;> omega

/-! ### _law_question -/
theorem ints_of (os : List Nat) : os.map (fun j : Nat => V.int (j : Int)) = (os.map fun j : Nat => (j : Int)).map V.int := by
  rw [List.map_map]
  rfl
def spQuestion (K : PySem.W.Frag) : Sp := fun vs H Q _ => ∃ (b bl : Addr) (tb : V) (cols : List Nat) (rows : List (List Int)), vs = [.ref b, tb] ∧ Bag b bl H ∧ Fz H tb (tabD cols rows) ∧ Cols cols ∧ cols.length ≤ 26 ∧ RowsOk cols.length rows ∧ rows.length ≤ 1000 ∧
  ∀ (es : List (Nat × Int)) (rc : Option (Nat × Int × Int)) (v : V) (H' : Hp), Kp b H H' → Bag b bl H' → QZ H' v es rc → QOk cols es rc → Q v H'
theorem ok_question (T : Tx K mg Z) : FnOk P w K mg base CX0 3 Z.f_l_question Z.d_l_question ["bag", "table"] (spQuestion K) := by
  have G_l_lot : FnOk P w K mg base CX0 1 Z.f_l_lot Z.d_l_lot ["bag", "many"] (spLot K) := ok_lot T
  have G_l_near : FnOk P w K mg base CX0 2 Z.f_l_near Z.d_l_near ["bag", "table", "at"] (spNear K) := ok_near T
  refine T.F_l_question.ok sc_l_question (fun vs H Q E h => ?_) (fun cdv A outer s H vs Q E hr h => ?_)
  · obtain ⟨b, bl, tb, cols, rows, rfl, _⟩ := h
    rfl
  · obtain ⟨b, bl, tb, cols, rows, rfl, hB, fT, hc, hc2, hrs, hrn, q⟩ := h
    have fT0 := fT
    obtain ⟨t, R, vs, rfl, ht, hRR, fvs⟩ := tab_open fT0
    refine ⟨_, (pss_cons (ps_set (i := 2) sc_l_question.nd rfl (.inl rfl) (pe_ix (ixT K) (pv 1) pe_int (fun _ _ => rfl)))
      (pss_cons (ps_set (i := 3) sc_l_question.nd rfl (.inl rfl) (pe_lst pa_nil))
      (pss_cons (ps_set (i := 4) sc_l_question.nd rfl (.inl rfl) (pe_lst pa_nil))
      (pss_cons (ps_for PassesOwn.never rfl (pi_enumS (by rfl) T.m_enumerate (pa_cons (pv 2) pa_nil)) (pgT K (n := 2) (pgs_cons (pg_name (i := 5) sc_l_question.nd rfl (.inl rfl)) (pgs_cons (pg_name (i := 6) sc_l_question.nd rfl (.inl rfl)) pgs_nil))) (pss_one (ps_if (pt_cmpR op_eq (pe_call G_l_lot (hr.mono (by omega)) (by rfl) T.g_l_lot T.F_l_lot.kp T.b_l_lot .nil pass0 (pa_cons (pv 0) (pa_cons pe_int pa_nil))) pe_int (nomark _)) (pss_one (ps_expr (bmK K PySem.F.plainAttrs_list PySem.F.slot_list_append PySem.F.type_list_append mt_append (pv 3) (pa_cons (pe_tup (pa_cons (pv 6) (pa_cons (pe_call G_l_near (hr.mono (by omega)) (by rfl) T.g_l_near T.F_l_near.kp T.b_l_near .nil pass0 (pa_cons (pv 0) (pa_cons (pv 1) (pa_cons (pv 5) pa_nil)))) pa_nil))) pa_nil)))) (pss_one (ps_expr (bmK K PySem.F.plainAttrs_list PySem.F.slot_list_append PySem.F.type_list_append mt_append (pv 4) (pa_cons (pv 5) pa_nil)))))))
      (pss_cons (ps_if (PW.pt (pw_or (pt_cmpR (eqDK K hr.units) (pv 4) (pe_lst pa_nil) (nomark _)) (pw_or1 (pt_cmpR op_eq (pe_call G_l_lot (hr.mono (by omega)) (by rfl) T.g_l_lot T.F_l_lot.kp T.b_l_lot .nil pass0 (pa_cons (pv 0) (pa_cons pe_int pa_nil))) pe_int (nomark _))))) (pss_one (ps_ret (pe_tup (pa_cons (pe_callTy (cTupF K) (by rfl) T.m_tuple (by decide +kernel) (pa_cons (pv 3) pa_nil)) (pa_cons pe_non pa_nil))))) pss_nil)
      (pss_cons (ps_set (i := 5) sc_l_question.nd rfl (.inl rfl) (pe_ix (ixL K) (pv 4) (pe_call G_l_lot (hr.mono (by omega)) (by rfl) T.g_l_lot T.F_l_lot.kp T.b_l_lot .nil pass0 (pa_cons (pv 0) (pa_cons (pe_callB (cLenSq K) (by rfl) T.m_len (by decide +kernel) (pa_cons (pv 4) pa_nil)) pa_nil))) (fun _ _ => rfl)))
      (pss_cons (ps_set (i := 7) sc_l_question.nd rfl (.inl rfl) (pe_callB cr_sortedI (by rfl) T.m_sorted (by decide +kernel) (pa_cons (pe_lst (pa_cons (pe_call G_l_near (hr.mono (by omega)) (by rfl) T.g_l_near T.F_l_near.kp T.b_l_near .nil pass0 (pa_cons (pv 0) (pa_cons (pv 1) (pa_cons (pv 5) pa_nil)))) (pa_cons (pe_call G_l_near (hr.mono (by omega)) (by rfl) T.g_l_near T.F_l_near.kp T.b_l_near .nil pass0 (pa_cons (pv 0) (pa_cons (pv 1) (pa_cons (pv 5) pa_nil)))) pa_nil))) pa_nil)))
      (pss_one (ps_ret (pe_tup (pa_cons (pe_callTy (cTupF K) (by rfl) T.m_tuple (by decide +kernel) (pa_cons (pv 3) pa_nil)) (pa_cons (pe_tup (pa_cons (pe_ix ix_str (pv 2) (pv 5) (fun _ _ => rfl)) (pa_cons (pe_ix (ixL K) (pv 7) pe_int (fun _ _ => rfl)) (pa_cons (pe_ix (ixL K) (pv 7) pe_int (fun _ _ => rfl)) pa_nil)))) pa_nil)))))))))))), ?_⟩
    refine ⟨.ref t, rfl, t, _, 0, tx cols, rfl, rfl, .inl (.inl ht), rfl, ?_⟩
    refine ⟨Nat.zero_le _, fun E nE => ?_⟩
    have nEb := hB.ne nE
    have kpE : Kp b H (upd H E (.lst [])) := Kp.rfl'.new nE
    have hBE := hB.new nE (o := .lst [])
    have hEE : (upd H E (.lst [])) E = some (.lst []) := upd_same
    generalize upd H E (.lst []) = HE at kpE hBE hEE ⊢
    refine ⟨Nat.zero_le _, fun O nO => ?_⟩
    have nOb := hBE.ne nO
    have nOH : H O = none := Kp.none kpE nOb.1 nO
    have nOE : O ≠ E := (ne_of_none hEE nO).symm
    have kp1 : Kp b H (upd HE O (.lst [])) := kpE.new nO
    have hB1 := hBE.new nO (o := .lst [])
    have hE1 : (upd HE O (.lst [])) E = some (.lst []) := keep_new hEE nO
    have hO1 : (upd HE O (.lst [])) O = some (.lst []) := upd_same
    generalize upd HE O (.lst []) = H1 at kp1 hB1 hE1 hO1 ⊢
    refine ⟨tx cols, rfl, _, rfl, for_it walk_es (fun i σ H' => ∃ (es : List (Nat × Int)) (ps : List V) (os : List Nat) (y5 y6 : Option V), σ = [some (.ref b), some (.ref t), some (tx cols), some (.ref E), some (.ref O), y5, y6, none] ∧ Kp b H H' ∧ Bag b bl H' ∧ H' E = some (.lst ps) ∧ FzA H' ps (es.map eqD) ∧ H' O = some (.lst (os.map fun j : Nat => V.int (j : Int))) ∧ (es.map (·.1)).Sublist (cols.take i) ∧ (∀ p ∈ es, 0 ≤ p.2 ∧ p.2 < 1000) ∧ os.length ≤ i ∧ ∀ j ∈ os, j < i ∧ ∀ h : j < cols.length, cols[j] ∉ es.map (·.1))
      ⟨[], [], [], none, none, rfl, kp1, hB1, hE1, .nil, hO1, List.nil_sublist _, (fun _ h => nomatch h), Nat.le_refl _, fun _ h => nomatch h⟩ (fun _ _ _ _ _ => trivial) (fun i x σ H3 H4 hi hP hY => ?_) (fun σ H3 hP => ?_)⟩
    · obtain ⟨es, ps, os, y5, y6, rfl, kp3, hB3, hE3, fps, hO3, hsub, hes, hol, hos⟩ := hP
      obtain ⟨T0, x1, x2, rfl, nT, rfl, ex1, ex2⟩ := hY
      have hi2 : i < cols.length := hi
      have e1 : x1 = .int (i : Nat) := (Option.some.inj ex1).symm
      have e2 : x2 = sg cols[i] := by
        have : (some (sg cols[i]) : Option V) = some x2 := by
          rw [← ex2]
          simp [hi2]
        exact (Option.some.inj this).symm
      subst e1 e2
      have kp4 : Kp b H (upd H3 T0 (.tup [.int (i : Nat), sg cols[i]])) := kp3.new nT
      have hB4 := hB3.new nT (o := .tup [.int (i : Nat), sg cols[i]])
      have hE4 : (upd H3 T0 (.tup [.int (i : Nat), sg cols[i]])) E = some (.lst ps) := keep_new hE3 nT
      have hO4 : (upd H3 T0 (.tup [.int (i : Nat), sg cols[i]])) O = some (.lst (os.map fun j : Nat => V.int (j : Int))) := keep_new hO3 nT
      have fps4 := fps.kt (Kt.new nT (o := .tup [.int (i : Nat), sg cols[i]]))
      refine ⟨T0, [.int (i : Nat), sg cols[i]], rfl, .inl (.inl upd_same), rfl, .int (i : Nat), [sg cols[i]], rfl, sg cols[i], [], rfl, rfl, ?_⟩
      generalize upd H3 T0 (.tup [.int (i : Nat), sg cols[i]]) = H4 at kp4 hB4 hE4 hO4 fps4 ⊢
      have hsub1 : (es.map (·.1)).Sublist (cols.take (i + 1)) := hsub.trans (List.take_sublist_take_left (Nat.le_succ i))
      have hpl : ps.length ≤ 26 := by
        rw [fps.len, List.length_map]
        have := hsub.length_le
        rw [List.length_map, List.length_take] at this
        omega
      refine ⟨.ref b, rfl, b, bl, 3, rfl, hB4, by decide, by decide, fun d H5 kp5 hB5 d0 d1 => ⟨rfl, _, rfl, ite2 (fun e => ?_) (fun e => ?_)⟩⟩
      · have hE5 := kp5 _ _ nEb.1 hE4
        have hO5 := kp5 _ _ nOb.1 hO4
        have kpB : Kp b H H5 := kp4.trans kp5
        refine ⟨.ref E, rfl, .inl ⟨rfl, _, .inl (.inl hE5)⟩, sg cols[i], rfl, .ref b, rfl, .ref t, rfl, .int (i : Nat), rfl, b, bl, .ref t, cols, rows, i, rfl, hB5, fT.kt (kpB.kTb hB).1, hrs, hi2, hrn, fun x H6 kp6 hB6 x0 x1 => ?_⟩
        refine ⟨(by show 2 ≤ sizeLine; decide), fun p np => ?_⟩
        have hE7 : (upd H6 p (.tup [sg cols[i], .int x])) E = some (.lst ps) := keep_new (kp6 _ _ nEb.1 hE5) np
        have hO7 : (upd H6 p (.tup [sg cols[i], .int x])) O = some (.lst (os.map fun j : Nat => V.int (j : Int))) := keep_new (kp6 _ _ nOb.1 hO5) np
        have fp : Fz (upd H6 p (.tup [sg cols[i], .int x])) (.ref p) (eqD (cols[i], x)) := Fz.made np (.cons (.str _) (.cons (.int _) .nil))
        have fps7 := ((fps4.kt (kp5.kTb hB4).1).kt (kp6.kTb hB5).1).kt (Kt.new np (o := .tup [sg cols[i], .int x]))
        refine ⟨E, ps, .ref p, rfl, rfl, hE7, small1000 (by omega), es ++ [(cols[i], x)], ps ++ [.ref p], os, _, _, rfl, ((kpB.trans kp6).new np).mut nE, (hB6.new np).upd nEb.1 nEb.2, upd_same, ?_, keep_ne hO7 nOE, ?_, fun u hu => ?_, by omega, fun j hj => ?_⟩
        · rw [List.map_append]
          exact (FzA.snoc fps7 fp).kt (.lst hE7)
        · rw [List.map_append, List.take_succ_eq_append_getElem hi2]
          exact hsub.append (List.Sublist.refl _)
        · rcases List.mem_append.mp hu with z | z
          · exact hes u z
          · rw [List.mem_singleton.mp z]
            exact ⟨x0, x1⟩
        · obtain ⟨j1, j2⟩ := hos j hj
          refine ⟨by omega, fun h => ?_⟩
          rw [List.map_append]
          intro z
          rcases List.mem_append.mp z with z | z
          · exact j2 h z
          · have z2 : cols[j] = cols[i] := List.mem_singleton.mp z
            have := (List.getElem_inj hc.nd).mp z2
            omega
      · have hO5 := kp5 _ _ nOb.1 hO4
        refine ⟨.ref O, rfl, .inl ⟨rfl, _, .inl (.inl hO5)⟩, .int (i : Nat), rfl, O, _, .int (i : Nat), rfl, rfl, hO5, by rw [List.length_map]; exact small1000 (by omega), es, ps, os ++ [i], _, _, rfl, (kp4.trans kp5).mut nOH, hB5.upd nOb.1 nOb.2, keep_ne (kp5 _ _ nEb.1 hE4) nOE.symm, (fps4.kt (kp5.kTb hB4).1).kt (.lst hO5), by rw [upd_same, List.map_append]; rfl, hsub1, hes, by rw [List.length_append]; show os.length + 1 ≤ i + 1; omega, fun j hj => ?_⟩
        rcases List.mem_append.mp hj with z | z
        · obtain ⟨j1, j2⟩ := hos j z
          exact ⟨by omega, j2⟩
        · rw [List.mem_singleton.mp z]
          refine ⟨Nat.lt_succ_self _, fun h z2 => ?_⟩
          have z3 := hsub.subset z2
          obtain ⟨k, hk, ek⟩ := List.getElem_of_mem z3
          rw [List.getElem_take] at ek
          have := (List.getElem_inj hc.nd).mp ek
          rw [List.length_take] at hk
          omega
    · obtain ⟨es, ps, os, y5, y6, rfl, kp3, hB3, hE3, fps, hO3, hsub, hes, hol, hos⟩ := hP
      have hn : (⟨cols.toArray⟩ : Str).cps.size = cols.length := by simp
      rw [hn] at hsub hol hos
      rw [List.take_of_length_le (Nat.le_refl _)] at hsub
      have hup : (es.map (·.1)).Pairwise (· < ·) := hc.up.sublist hsub
      have hok : ∀ p ∈ es, p.1 ∈ cols ∧ 0 ≤ p.2 ∧ p.2 < 1000 := fun p hp => ⟨hsub.subset (List.mem_map_of_mem hp), hes p hp⟩
      have hesl : es.length ≤ cols.length := by
        have := hsub.length_le
        rw [List.length_map] at this
        exact this
      have retN : ∀ (H' : Hp), Kp b H H' → Bag b bl H' → H' E = some (.lst ps) → FzA H' ps (es.map eqD) → tRet (tTup (tCons (tCB (rTupF K) (tCons (tVar 3) tNil)) (tCons (tC V.non) tNil))) { nx := fun x H' => Q V.non H', rt := Q } [some (.ref b), some (.ref t), some (tx cols), some (.ref E), some (.ref O), y5, y6, none] H' := by
        intro H' kp' hB' hE' f'
        refine ⟨.ref E, rfl, E, ps, rfl, .inl (.inl hE'), fun te ob nte hob => ⟨(by show 2 ≤ sizeLine; decide), fun v nv => ?_⟩⟩
        have f1 : EZ (upd H' te (.frz ob (.tup ps))) (.ref te) es := EZ.made nte hob f'
        exact q es none (.ref v) _ ((kp'.new nte).new nv) ((hB'.new nte).new nv) (QZ.made (rc := none) nv f1 .non) ⟨hup, hok, hesl, fun c lo hi z => nomatch z⟩
      refine ⟨.ref O, rfl, (by show 0 ≤ sizeLine; decide), fun p np => ?_⟩
      rw [ints_of] at hO3
      have hOp : (upd H3 p (.lst [])) O = some (.lst ((os.map fun j : Nat => (j : Int)).map V.int)) := keep_new hO3 np
      have kp4 : Kp b H (upd H3 p (.lst [])) := kp3.new np
      have hB4 := hB3.new np (o := .lst [])
      have hE4 : (upd H3 p (.lst [])) E = some (.lst ps) := keep_new hE3 np
      have fps4 := fps.kt (Kt.new np (o := .lst []))
      have hp4 : (upd H3 p (.lst [])) p = some (.lst []) := upd_same
      generalize upd H3 p (.lst []) = H4 at hOp kp4 hB4 hE4 fps4 hp4 ⊢
      refine ⟨_, _, .lst (.inl (.inl hOp)) (dp_ints _), .lst (.inl (.inl hp4)) .nil, shaped_ints _, shaped_ints [], _, rfl, ite2 (fun e => ?_) (fun e => ?_)⟩
      · exact retN H4 kp4 hB4 hE4 fps4
      · have one : os ≠ [] := fun z => by
          rw [z] at e
          exact e rfl
        have opos : 0 < os.length := List.length_pos_iff.mpr one
        refine ⟨.ref b, rfl, b, bl, 2, rfl, hB4, by decide, by decide, fun d H5 kp5 hB5 d0 d1 => ⟨rfl, _, rfl, ite2 (fun e6 => ?_) (fun e6 => ?_)⟩⟩
        · exact retN H5 (kp4.trans kp5) hB5 (kp5 _ _ nEb.1 hE4) (fps4.kt (kp5.kTb hB4).1)
        · have hO5 := kp5 _ _ nOb.1 hOp
          have hE5 := kp5 _ _ nEb.1 hE4
          have fps5 := fps4.kt (kp5.kTb hB4).1
          have kpB : Kp b H H5 := kp4.trans kp5
          refine ⟨.ref O, rfl, .ref b, rfl, .ref O, rfl, O, _, rfl, .inl (.inl (.inl hO5)), b, bl, _, rfl, hB5, by rw [List.length_map, List.length_map]; omega, by rw [List.length_map, List.length_map]; omega, fun f H6 kp6 hB6 f0 f1 => ?_⟩
          rw [List.length_map, List.length_map] at f1
          have hf : f.toNat < os.length := by omega
          obtain ⟨j1, j2⟩ := hos os[f.toNat] (List.getElem_mem hf)
          have hO6 := kp6 _ _ nOb.1 hO5
          have hE6 := kp6 _ _ nEb.1 hE5
          have fps6 := fps5.kt (kp6.kTb hB5).1
          have kpC : Kp b H H6 := kpB.trans kp6
          have hat : (List.map V.int (os.map fun j : Nat => (j : Int)))[f.toNat]? = some (.int (os[f.toNat] : Int)) := by
            rw [List.getElem?_map, List.getElem?_map, List.getElem?_eq_getElem hf]
            rfl
          generalize os[f.toNat] = aj at j1 j2 hat
          have j3 := j2 j1
          refine ⟨O, _, f, .int (aj : Int), rfl, rfl, .inl (.inl hO6), L2.at_of (j := f.toNat) (by omega) hat, ?_⟩
          -- some
          refine ⟨.ref b, rfl, .ref t, rfl, .int (aj : Int), rfl, b, bl, .ref t, cols, rows, aj, rfl, hB6, fT.kt (kpC.kTb hB).1, hrs, j1, hrn, fun x1 H7 kp7 hB7 x10 x11 => ?_⟩
          have kpD : Kp b H H7 := kpC.trans kp7
          refine ⟨.ref b, rfl, .ref t, rfl, .int (aj : Int), rfl, b, bl, .ref t, cols, rows, aj, rfl, hB7, fT.kt (kpD.kTb hB).1, hrs, j1, hrn, fun x2 H8 kp8 hB8 x20 x21 => ?_⟩
          have kpF : Kp b H H8 := kpD.trans kp8
          have hE8 := kp8 _ _ nEb.1 (kp7 _ _ nEb.1 hE6)
          have fps8 := (fps6.kt (kp7.kTb hB6).1).kt (kp8.kTb hB7).1
          refine ⟨(by show 2 ≤ sizeLine; decide), fun L nL => ?_⟩
          refine ⟨L, [x1, x2], rfl, .inl (.inl upd_same), fun ns p2 hper hpw np2 => ?_⟩
          have hnl : ns.length = 2 := hper.length_eq
          obtain ⟨lo, hi, rfl⟩ : ∃ lo hi, ns = [lo, hi] := by
            match ns, hnl with
            | [a, b], _ => exact ⟨a, b, rfl⟩
          have hlohi : lo ≤ hi := (List.pairwise_cons.mp hpw).1 hi (by simp)
          have hbd : ∀ z ∈ [lo, hi], 0 ≤ z ∧ z < 1000 := fun z hz => by
            have := hper.mem_iff.mp hz
            rcases List.mem_cons.mp this with h | h
            · rw [h]
              exact ⟨x10, x11⟩
            · rw [List.mem_singleton.mp h]
              exact ⟨x20, x21⟩
          have blo := hbd lo (by simp)
          have bhi := hbd hi (by simp)
          have kpG : Kp b H (upd (upd H8 L (.lst [.int x1, .int x2])) p2 (.lst (List.map V.int [lo, hi]))) := (kpF.new nL).new np2
          have hBG := (hB8.new nL (o := .lst [.int x1, .int x2])).new np2 (o := .lst (List.map V.int [lo, hi]))
          have hEG : (upd (upd H8 L (.lst [.int x1, .int x2])) p2 (.lst (List.map V.int [lo, hi]))) E = some (.lst ps) := keep_new (keep_new hE8 nL) np2
          have fpsG := (fps8.kt (Kt.new nL (o := .lst [.int x1, .int x2]))).kt (Kt.new np2 (o := .lst (List.map V.int [lo, hi])))
          have hpG : (upd (upd H8 L (.lst [.int x1, .int x2])) p2 (.lst (List.map V.int [lo, hi]))) p2 = some (.lst [.int lo, .int hi]) := upd_same
          generalize upd (upd H8 L (.lst [.int x1, .int x2])) p2 (.lst (List.map V.int [lo, hi])) = HG at kpG hBG hEG fpsG hpG ⊢
          refine ⟨.ref E, rfl, E, ps, rfl, .inl (.inl hEG), fun te ob nte hob => ?_⟩
          have f1z : EZ (upd HG te (.frz ob (.tup ps))) (.ref te) es := EZ.made nte hob fpsG
          have hp3 : (upd HG te (.frz ob (.tup ps))) p2 = some (.lst [.int lo, .int hi]) := keep_new hpG nte
          have hatc : atI (⟨cols.toArray⟩ : Str).cps.toList (aj : Int) = some cols[aj] := atI_nat (by simp [j1])
          refine ⟨tx cols, rfl, .int (aj : Int), rfl, _, _, _, rfl, rfl, Nat.le_of_lt (small1000 (show cols.length ≤ 1000 by omega)), hatc, ?_⟩
          refine ⟨.ref p2, rfl, p2, _, 0, .int lo, rfl, rfl, .inl (.inl hp3), rfl, .ref p2, rfl, p2, _, 1, .int hi, rfl, rfl, .inl (.inl hp3), rfl, (by show 3 ≤ sizeLine; decide), fun tr ntr => ⟨(by show 2 ≤ sizeLine; decide), fun v nv => ?_⟩⟩
          have fr := Fz.made ntr (.cons (.str (sS cols[aj])) (.cons (.int lo) (.cons (.int hi) .nil)))
          refine q es (some (cols[aj], lo, hi)) (.ref v) _ (((kpG.new nte).new ntr).new nv) (((hBG.new nte).new ntr).new nv) (QZ.made (rc := some _) nv (f1z.kT (.new ntr)) fr) ⟨hup, hok, hesl, fun c l2 h2 z => ?_⟩
          have z2 := Option.some.inj z
          have e1 : cols[aj] = c := congrArg (·.1) z2
          have e2 : lo = l2 := congrArg (·.2.1) z2
          have e3 : hi = h2 := congrArg (·.2.2) z2
          rw [← e1, ← e2, ← e3]
          exact ⟨List.getElem_mem _, j3, blo.1, hlohi, bhi.2⟩

/-! ### letters_of -/
def spLetters (K : PySem.W.Frag) : Sp := fun vs H Q _ => ∃ (ev : V) (es : List (Nat × Int)), vs = [ev] ∧ EZ H ev es ∧ es.length ≤ 1000 ∧ ∀ (p : Addr) (H' : Hp), Same H H' → H p = none → H' p = some (.lst ((es.map (·.1)).map sg)) → Q (.ref p) H'
theorem ok_letters (T : Tx K mg Z) : FnOk P w K mg base CX0 1 Z.f_letters_of Z.d_letters_of ["equals"] (spLetters K) := by
  refine T.F_letters_of.ok sc_letters_of (fun vs H Q E h => ?_) (fun cdv A outer s H vs Q E hr h => ?_)
  · obtain ⟨ev, es, rfl, _⟩ := h
    rfl
  · obtain ⟨ev, es, rfl, fe, hel, q⟩ := h
    obtain ⟨ea, ob, ps, rfl, hob, hea, fps⟩ := fe
    have hpl : ps.length = es.length := by rw [fps.len, List.length_map]
    refine ⟨_, (pss_one (ps_ret (pe_lc (own := [("letter", 1), ("number", 2)]) (tt := tYes) (by rfl) sc_letters_of.nd (piT K (pv 0)) (blkOk_by (own := [("letter", 1), ("number", 2)]) (by kernel_rfl)) (fun _ _ _ _ _ => (pgT K (n := 2) (pgs_cons (pg_name (i := 1) sc_letters_of.nd rfl (.inl rfl)) (pgs_cons (pg_name (i := 2) sc_letters_of.nd rfl (.inl rfl)) pgs_nil)))) (fun _ _ _ _ _ => pts_nil) (fun _ _ _ _ _ => (pv 1))))), ?_⟩
    refine ⟨.ref ea, rfl, ea, rfl, ⟨_, .inl (.inr ⟨_, hea⟩)⟩, fun D nD => lc_it (walk_tup (xs := ps)) (fun i H' => Same H H' ∧ H' D = some (.lst (((es.take i).map (·.1)).map sg)))
      ⟨Same.new (Same.refl H) nD, upd_same⟩ (fun i H' _ hP => .inl (.inr ⟨_, hP.1 _ _ hea⟩)) (fun i x H3 H4 hi hP hY => ?_) (fun H3 hP => ?_)⟩
    · obtain ⟨sm, hD⟩ := hP
      obtain ⟨rfl, hx⟩ := hY
      obtain ⟨dd, hdd, fd⟩ := fps.getV hx
      rw [List.getElem?_map] at hdd
      obtain ⟨pr, hpr, rfl⟩ := Option.map_eq_some_iff.mp hdd
      have hi2 : i < es.length := (List.getElem?_eq_some_iff.mp hpr).1
      have epr : es[i] = pr := (List.getElem?_eq_some_iff.mp hpr).2
      obtain ⟨pa, ys, rfl, hpa, fy2⟩ := fd.open
      obtain ⟨c, v, rfl, fc, fv⟩ := fy2.two
      rw [fc.isStr, fv.isInt] at hpa
      refine ⟨pa, [sg pr.1, .int pr.2], rfl, .inl (.inl (sm _ _ hpa)), rfl, sg pr.1, [.int pr.2], rfl, .int pr.2, [], rfl, rfl, rfl, sg pr.1, rfl, _, hD, ?_, Same.mut sm nD, ?_⟩
      · rw [List.length_map, List.length_map, List.length_take]
        exact small1000 (by omega)
      · rw [upd_same, List.take_succ_eq_append_getElem hi2, epr, List.map_append, List.map_append]
        rfl
    · obtain ⟨sm, hD⟩ := hP
      rw [hpl, List.take_of_length_le (Nat.le_refl _)] at hD
      exact q D H3 sm nD hD

/-! ### used -/
def spUsed (K : PySem.W.Frag) : Sp := fun vs H Q _ => ∃ (one : List Nat) (qv : V) (es : List (Nat × Int)) (rc : Option (Nat × Int × Int)), vs = [tx one, qv] ∧ one.length ≤ 1000 ∧ QZ H qv es rc ∧ es.length ≤ 1000 ∧ ∀ (H' : Hp), Same H H' → Q (tx (usedM one es rc)) H'
theorem ok_used (T : Tx K mg Z) : FnOk P w K mg base CX0 2 Z.f_used Z.d_used ["one", "question"] (spUsed K) := by
  have G_letters_of : FnOk P w K mg base CX0 1 Z.f_letters_of Z.d_letters_of ["equals"] (spLetters K) := ok_letters T
  refine T.F_used.ok sc_used (fun vs H Q E h => ?_) (fun cdv A outer s H vs Q E hr h => ?_)
  · obtain ⟨one, qv, es, rc, rfl, _⟩ := h
    rfl
  · obtain ⟨one, qv, es, rc, rfl, hol, fq, hel, q⟩ := h
    obtain ⟨qa, x, y, rfl, hqa, fx, fy⟩ := fq
    have fx2 := fx
    obtain ⟨ea, ob, ps, rfl, hob, hea, fps⟩ := fx2
    refine ⟨_, (pss_cons (ps_asg (pv 1) (pgT K (n := 2) (pgs_cons (pg_name (i := 2) sc_used.nd rfl (.inl rfl)) (pgs_cons (pg_name (i := 3) sc_used.nd rfl (.inl rfl)) pgs_nil))))
      (pss_cons (ps_set (i := 4) sc_used.nd rfl (.inl rfl) (pe_call G_letters_of (hr.mono (by omega)) (by rfl) T.g_letters_of T.F_letters_of.kp T.b_letters_of .nil pass0 (pa_cons (pv 2) pa_nil)))
      (pss_cons (ps_set (i := 5) sc_used.nd rfl (.inl rfl) pe_int)
      (pss_cons (ps_while PassesOwn.never (PW.pt (pw_and (pt_cmpR op_lt (pv 5) (pe_callB call_len_str (by rfl) T.m_len (by decide +kernel) (pa_cons (pv 0) pa_nil)) (nomark _)) (pw_and1 (pt_cmpR (inSq K) (pe_ix ix_str (pv 0) (pv 5) (fun _ _ => rfl)) (pv 4) (by rfl))))) (pss_one (ps_aug (i := 5) sc_used.nd rfl (.inl rfl) pe_int ip_add)))
      (pss_mid (ps_if (PW.pt (pw_and (pt_cmpR op_notN (pv 3) pe_non (nomark _)) (pw_and1 (pt_cmpR op_eq (pe_slice sl_str (pv 0) (po_some (pv 5)) (po_some (pe_op op_add (pv 5) pe_int))) (pe_ix (ixT K) (pv 3) pe_int (fun _ _ => rfl)) (nomark _))))) (pss_one (ps_aug (i := 5) sc_used.nd rfl (.inl rfl) pe_int ip_add)) pss_nil)
      (pss_one (ps_ret (pe_slice sl_str (pv 0) po_none (po_some (pv 5)))))))))), ?_⟩
    refine ⟨.ref qa, rfl, qa, [.ref ea, y], rfl, .inl (.inl hqa), rfl, .ref ea, [y], rfl, y, [], rfl, rfl, ?_⟩
    refine ⟨.ref ea, rfl, .ref ea, es, rfl, fx, hel, fun L H1 sm nL hL => ?_⟩
    -- while
    refine ⟨fun m σ H' => ∃ k : Nat, m = one.length - k ∧ k ≤ one.length ∧ σ = [some (tx one), some (.ref qa), some (.ref ea), some y, some (.ref L), some (.int k)] ∧ H' = H1 ∧ ∀ (i : Nat) (h : i < one.length), i < k → one[i] ∈ es.map (·.1), ⟨_, 0, rfl, Nat.zero_le _, rfl, rfl, fun i _ h => absurd h (Nat.not_lt_zero _)⟩, fun m σ H' hW => ?_⟩
    obtain ⟨k, rfl, hk, rfl, rfl, hin⟩ := hW
    refine ⟨.int k, rfl, tx one, rfl, _, rfl, Nat.le_of_lt (small1000 (show one.length ≤ 1000 from hol)), _, _, rfl, rfl, _, rfl, ite2 (fun e => ?_) (fun e => ?_)⟩
    · have hkl : k < one.length := by
        have : (k : Int) < ((one.length : Nat) : Int) := of_decide_eq_true e
        omega
      have hat : atI (⟨one.toArray⟩ : Str).cps.toList (k : Int) = some one[k] := atI_nat (by simp [hkl])
      refine ⟨tx one, rfl, .int k, rfl, _, _, _, rfl, rfl, Nat.le_of_lt (small1000 (show one.length ≤ 1000 from hol)), hat, .ref L, rfl, L, _, rfl, .inl (.inl (.inl hL)), rfl, flat_signs _, _, rfl, ?_⟩
      show (if inV (sg one[k]) ((es.map (·.1)).map sg) = true then _ else _)
      rw [inV_signs]
      refine ite2 (fun e2 => ?_) (fun e2 => ?_)
      · have hm : one[k] ∈ es.map (·.1) := of_decide_eq_true e2
        refine ⟨fun σ2 H2 => σ2 = [some (tx one), some (.ref qa), some (.ref ea), some y, some (.ref L), some (.int ((k : Int) + 1))] ∧ H2 = H', fun σ2 H2 hN => ?_, ?_⟩
        · obtain ⟨rfl, rfl⟩ := hN
          refine ⟨one.length - (k + 1), by omega, k + 1, rfl, hkl, rfl, rfl, fun i h hi => ?_⟩
          by_cases e3 : i = k
          · subst e3
            exact hm
          · exact hin i h (by omega)
        · exact ⟨_, rfl, _, _, rfl, rfl, rfl, rfl⟩
      · have hno : ∀ h : k < one.length, ¬ one[k] ∈ es.map (·.1) := fun _ z => e2 (decide_eq_true z)
        have hkk : (eqPart one es).length = k := take_while_at _ _ _ hk (fun i h hi => decide_eq_true (hin i h hi)) (fun h => decide_eq_false (hno h))
        have htk : one.take k = eqPart one es := by rw [← hkk]; exact (eqPart_take one es).symm
        refine ⟨fun σ H2 => ∃ k2 : Nat, σ = [some (tx one), some (.ref qa), some (.ref ea), some y, some (.ref L), some (.int k2)] ∧ H2 = H' ∧ one.take k2 = usedM one es rc, ?_, ?_⟩
        · cases rc with
          | none =>
            obtain rfl : y = .non := fy.isNon
            refine ⟨.non, rfl, rfl, _, rfl, ite2 (fun z => ?_) (fun _ => ?_)⟩
            · exact absurd z (by simp)
            · exact ⟨k, rfl, rfl, htk⟩
          | some t3 =>
            obtain ⟨c, lo, hi⟩ := t3
            obtain ⟨ra, zs, rfl, hra, fz⟩ := Fz.open (ds := [.str ⟨#[c]⟩, .int lo, .int hi]) fy
            obtain ⟨z1, z2, z3, rfl, g1, g2, g3⟩ := fz.three
            rw [g1.isStr, g2.isInt, g3.isInt] at hra
            refine ⟨.ref ra, rfl, rfl, _, rfl, ite2 (fun _ => ?_) (fun z => ?_)⟩
            · refine ⟨tx one, rfl, .int k, rfl, _, rfl, .int k, rfl, _, 1, rfl, rfl, _, rfl, _, rfl, Nat.le_of_lt (small1000 (show one.length ≤ 1000 from hol)), .ref ra, rfl, ra, _, 0, sg c, rfl, rfl, .inl (.inl (sm _ _ hra)), rfl, rfl, _, rfl, ?_⟩
              rw [cut_one one k hk]
              refine ite2 (fun z => ?_) (fun z => ?_)
              · have z2 : (one.drop k).take 1 = [c] := tx_inj (of_decide_eq_true z)
                refine ⟨_, rfl, _, _, rfl, rfl, k + 1, rfl, rfl, ?_⟩
                show one.take (k + 1) = (if (one.drop (eqPart one es).length).take 1 = [c] then one.take ((eqPart one es).length + 1) else eqPart one es)
                rw [hkk, if_pos z2]
              · have z2 : ¬ (one.drop k).take 1 = [c] := fun z3 => z (decide_eq_true (by rw [z3]))
                refine ⟨k, rfl, rfl, ?_⟩
                show one.take k = (if (one.drop (eqPart one es).length).take 1 = [c] then one.take ((eqPart one es).length + 1) else eqPart one es)
                rw [hkk, if_neg z2]
                exact htk
            · exact absurd (by simp) z
        · intro σ2 H2 hM
          obtain ⟨k2, rfl, rfl, hk2⟩ := hM
          refine ⟨tx one, rfl, .int k2, rfl, _, rfl, _, rfl, Nat.le_of_lt (small1000 (show one.length ≤ 1000 from hol)), ?_⟩
          rw [cut_take, hk2]
          exact q _ sm
    · have hge : ¬ k < one.length := fun z => e (decide_eq_true (show (k : Int) < ((one.length : Nat) : Int) by omega))
      have hkk : (eqPart one es).length = k := take_while_at _ _ _ hk (fun i h hi => decide_eq_true (hin i h hi)) (fun h => decide_eq_false ((absurd h hge : ¬ one[k] ∈ es.map (·.1))))
      have htk : one.take k = eqPart one es := by rw [← hkk]; exact (eqPart_take one es).symm
      refine ⟨fun σ H2 => ∃ k2 : Nat, σ = [some (tx one), some (.ref qa), some (.ref ea), some y, some (.ref L), some (.int k2)] ∧ H2 = H' ∧ one.take k2 = usedM one es rc, ?_, ?_⟩
      · cases rc with
        | none =>
          obtain rfl : y = .non := fy.isNon
          refine ⟨.non, rfl, rfl, _, rfl, ite2 (fun z => ?_) (fun _ => ?_)⟩
          · exact absurd z (by simp)
          · exact ⟨k, rfl, rfl, htk⟩
        | some t3 =>
          obtain ⟨c, lo, hi⟩ := t3
          obtain ⟨ra, zs, rfl, hra, fz⟩ := Fz.open (ds := [.str ⟨#[c]⟩, .int lo, .int hi]) fy
          obtain ⟨z1, z2, z3, rfl, g1, g2, g3⟩ := fz.three
          rw [g1.isStr, g2.isInt, g3.isInt] at hra
          refine ⟨.ref ra, rfl, rfl, _, rfl, ite2 (fun _ => ?_) (fun z => ?_)⟩
          · refine ⟨tx one, rfl, .int k, rfl, _, rfl, .int k, rfl, _, 1, rfl, rfl, _, rfl, _, rfl, Nat.le_of_lt (small1000 (show one.length ≤ 1000 from hol)), .ref ra, rfl, ra, _, 0, sg c, rfl, rfl, .inl (.inl (sm _ _ hra)), rfl, rfl, _, rfl, ?_⟩
            rw [cut_one one k hk]
            refine ite2 (fun z => ?_) (fun z => ?_)
            · have z2 : (one.drop k).take 1 = [c] := tx_inj (of_decide_eq_true z)
              refine ⟨_, rfl, _, _, rfl, rfl, k + 1, rfl, rfl, ?_⟩
              show one.take (k + 1) = (if (one.drop (eqPart one es).length).take 1 = [c] then one.take ((eqPart one es).length + 1) else eqPart one es)
              rw [hkk, if_pos z2]
            · have z2 : ¬ (one.drop k).take 1 = [c] := fun z3 => z (decide_eq_true (by rw [z3]))
              refine ⟨k, rfl, rfl, ?_⟩
              show one.take k = (if (one.drop (eqPart one es).length).take 1 = [c] then one.take ((eqPart one es).length + 1) else eqPart one es)
              rw [hkk, if_neg z2]
              exact htk
          · exact absurd (by simp) z
      · intro σ2 H2 hM
        obtain ⟨k2, rfl, rfl, hk2⟩ := hM
        refine ⟨tx one, rfl, .int k2, rfl, _, rfl, _, rfl, Nat.le_of_lt (small1000 (show one.length ≤ 1000 from hol)), ?_⟩
        rw [cut_take, hk2]
        exact q _ sm

/-! ### spans -/
def spSpans (K : PySem.W.Frag) : Sp := fun vs H Q _ => ∃ (qv : V) (cols : List Nat) (es : List (Nat × Int)) (rc : Option (Nat × Int × Int)), vs = [qv] ∧ QZ H qv es rc ∧ QOk cols es rc ∧ es.length ≤ 1000 ∧
  ∀ (d : Addr) (kvs : List (Key × V)) (H' : Hp), Same H H' → H d = none → H' d = some (.dK kvs) → SpA H' kvs (spanL es rc) → Q (.ref d) H'
theorem ok_spans (T : Tx K mg Z) : FnOk P w K mg base CX0 1 Z.f_spans Z.d_spans ["question"] (spSpans K) := by
  refine T.F_spans.ok sc_spans (fun vs H Q E h => ?_) (fun cdv A outer s H vs Q E hr h => ?_)
  · obtain ⟨qv, cols, es, rc, rfl, _⟩ := h
    rfl
  · obtain ⟨qv, cols, es, rc, rfl, fq, hok, hel, q⟩ := h
    obtain ⟨qa, x, y, rfl, hqa, fx, fy⟩ := fq
    obtain ⟨ea, ob, ps, rfl, hob, hea, fps⟩ := fx
    have hndE : (es.map (·.1)).Nodup := hok.up.imp fun {a b} q => by
      have : a < b := q
      omega
    refine ⟨_, (pss_cons (ps_asg (pv 0) (pgT K (n := 2) (pgs_cons (pg_name (i := 1) sc_spans.nd rfl (.inl rfl)) (pgs_cons (pg_name (i := 2) sc_spans.nd rfl (.inl rfl)) pgs_nil))))
      (pss_cons (ps_setDc (i := 4) (own := [("letter", 3), ("number", 7)]) (tt := tYes) (by rfl) sc_spans.nd rfl rfl (sw_dict rfl rfl rfl (by decide +kernel)) (piT K (pv 1)) (blkOk_by (own := [("letter", 3), ("number", 7)]) (by kernel_rfl)) (fun _ _ _ _ _ => (pgT K (n := 2) (pgs_cons (pg_name (i := 3) sc_spans.nd rfl (.inl rfl)) (pgs_cons (pg_name (i := 7) sc_spans.nd rfl (.inl rfl)) pgs_nil)))) (fun _ _ _ _ _ => pts_nil) (fun _ _ _ _ _ => (pv 3)) (fun _ _ _ _ _ => (pe_tup (pa_cons (pv 7) (pa_cons (pv 7) pa_nil)))))
      (pss_mid (ps_if (pt_cmpR op_notN (pv 2) pe_non (nomark _)) (pss_cons (ps_asg (pv 2) (pgT K (n := 3) (pgs_cons (pg_name (i := 3) sc_spans.nd rfl (.inl rfl)) (pgs_cons (pg_name (i := 5) sc_spans.nd rfl (.inl rfl)) (pgs_cons (pg_name (i := 6) sc_spans.nd rfl (.inl rfl)) pgs_nil)))))
      (pss_one (ps_dput (hu_of hr) (pv 4) (pv 3) (pe_tup (pa_cons (pv 5) (pa_cons (pv 6) pa_nil))) rfl))) pss_nil)
      (pss_one (ps_ret (pv 4)))))), ?_⟩
    refine ⟨.ref qa, rfl, qa, [.ref ea, y], rfl, .inl (.inl hqa), rfl, .ref ea, [y], rfl, y, [], rfl, rfl, ?_⟩
    refine ⟨.ref ea, rfl, ea, rfl, ⟨_, .inl (.inr ⟨_, hea⟩)⟩, fun D nD => dc_tup (xs := ps) (fun i H' => ∃ kvs, Same H H' ∧ H' D = some (.dK kvs) ∧ SpA H' kvs ((es.take i).map fun p => (p.1, p.2, p.2)))
      ⟨[], Same.new (Same.refl H) nD, upd_same, .nil⟩ (fun i H' _ hP => ?_) (fun i x H3 hx hP => ?_) (fun H3 hP => ?_)⟩
    · obtain ⟨kvs, sm, _⟩ := hP
      exact .inl (.inr ⟨_, sm _ _ hea⟩)
    · obtain ⟨kvs, sm, hD3, fk⟩ := hP
      obtain ⟨dd, hdd, fd⟩ := fps.getV hx
      rw [List.getElem?_map] at hdd
      obtain ⟨pr, hpr, rfl⟩ := Option.map_eq_some_iff.mp hdd
      obtain ⟨pa, ys, rfl, hpa, fy2⟩ := fd.open
      obtain ⟨c, v, rfl, fc, fv⟩ := fy2.two
      rw [fc.isStr, fv.isInt] at hpa
      have hi : i < es.length := (List.getElem?_eq_some_iff.mp hpr).1
      have epr : es[i] = pr := (List.getElem?_eq_some_iff.mp hpr).2
      refine ⟨pa, [sg pr.1, .int pr.2], rfl, .inl (.inl (sm _ _ hpa)), rfl, sg pr.1, [.int pr.2], rfl, .int pr.2, [], rfl, rfl, rfl, sg pr.1, rfl, .int pr.2, rfl, .int pr.2, rfl, (by show 2 ≤ sizeLine; decide), fun tp ntp => ?_⟩
      have hD4 : (upd H3 tp (.tup [.int pr.2, .int pr.2])) D = some (.dK kvs) := keep_new hD3 ntp
      have fk4 := fk.kt (Kt.new ntp (o := .tup [.int pr.2, .int pr.2]))
      have tk : (es.take (i + 1)).map (fun p => (p.1, p.2, p.2)) = (es.take i).map (fun p => (p.1, p.2, p.2)) ++ [(pr.1, pr.2, pr.2)] := by
        rw [List.take_succ_eq_append_getElem hi, epr, List.map_append]
        rfl
      have nk : valV kvs (Sum.inr (sS pr.1)) = none := by
        refine fk.none fun hm => ?_
        rw [spanL_keys] at hm
        have hnd2 : ((es.take (i + 1)).map (·.1)).Nodup := hndE.sublist ((List.take_sublist _ _).map _)
        rw [List.take_succ_eq_append_getElem hi, epr, List.map_append] at hnd2
        exact (List.nodup_append.mp hnd2).2.2 _ hm _ (by simp) rfl
      refine ⟨kvs, Sum.inr (sS pr.1), rfl, hD4, ?_, putK kvs (Sum.inr (sS pr.1)) (.ref tp), ?_, upd_same, ?_⟩
      · rw [fk.len, List.length_map, List.length_take]
        exact small1000 (by omega)
      · exact Same.mut (Same.new sm ntp) nD
      · rw [putK_new _ nk, tk]
        exact (SpA.snoc fk4 upd_same).kt (.dct hD4)
    · obtain ⟨kvs, sm, hD3, fk⟩ := hP
      have hpl : ps.length = es.length := by
        rw [fps.len, List.length_map]
      rw [hpl, List.take_of_length_le (Nat.le_refl _)] at fk
      refine ⟨fun σ H' => ∃ (kvs' : List (Key × V)) (y3 y5 y6 : Option V), σ = [some (.ref qa), some (.ref ea), some y, y3, some (.ref D), y5, y6, none] ∧ Same H H' ∧ H' D = some (.dK kvs') ∧ SpA H' kvs' (spanL es rc), ?_, ?_⟩
      · cases rc with
        | none =>
          have ey : y = .non := fy.isNon
          subst ey
          refine ⟨.non, rfl, rfl, _, rfl, iteNS rfl ?_⟩
          refine ⟨kvs, _, _, _, rfl, sm, hD3, ?_⟩
          unfold spanL
          rw [Option.toList_none, List.append_nil]
          exact fk
        | some t3 =>
          obtain ⟨c, lo, hi⟩ := t3
          obtain ⟨ra, zs, rfl, hra, fz⟩ := Fz.open (ds := [.str ⟨#[c]⟩, .int lo, .int hi]) fy
          obtain ⟨z1, z2, z3, rfl, g1, g2, g3⟩ := fz.three
          rw [g1.isStr, g2.isInt, g3.isInt] at hra
          refine ⟨.ref ra, rfl, rfl, _, rfl, ite2 (fun _ => ?_) (fun e => ?_)⟩
          · refine ⟨.ref ra, rfl, ra, [sg c, .int lo, .int hi], rfl, .inl (.inl (sm _ _ hra)), rfl, sg c, [.int lo, .int hi], rfl, .int lo, [.int hi], rfl, .int hi, [], rfl, rfl, ?_⟩
            refine ⟨.int lo, rfl, .int hi, rfl, (by show 2 ≤ sizeLine; decide), fun tp ntp => ?_⟩
            have hD4 : (upd H3 tp (.tup [.int lo, .int hi])) D = some (.dK kvs) := keep_new hD3 ntp
            have nk : valV kvs (Sum.inr (sS c)) = none := fk.none (by
              rw [spanL_keys]
              exact (hok.rc c lo hi rfl).2.1)
            refine ⟨.ref D, rfl, sg c, rfl, D, _, rfl, DPut.k (k := Sum.inr (sS c)) hD4 (by rw [fk.len, List.length_map]; exact small1000 hel), ?_⟩
            refine ⟨_, _, _, _, rfl, Same.mut (Same.new sm ntp) nD, upd_same, ?_⟩
            rw [putK_new _ nk]
            exact (SpA.snoc (fk.kt (Kt.new ntp)) upd_same).kt (.dct hD4)
          · exact absurd (by simp) e
      · intro σ1 H1 hM
        obtain ⟨kvs', y3, y5, y6, rfl, sm1, hD1, fk1⟩ := hM
        exact ⟨.ref D, rfl, q D kvs' H1 sm1 nD hD1 fk1⟩

/-! ### picked -/
def spPicked (K : PySem.W.Frag) (Z : Ad) : Sp := fun vs H Q _ => ∃ (cols : List Nat) (rv : V) (row : List Int) (ls : List Nat), vs = [tx cols, rv, tx ls] ∧ TG Z.Ps H ∧ Fz H rv (rowD row) ∧ row.length = cols.length ∧ (∀ c ∈ ls, c ∈ cols) ∧ ls.length ≤ 1000 ∧
  ∀ (p : Addr) (H' : Hp), Sx Z.Ps H H' → TG Z.Ps H' → H p = none → H' p = some (.tup ((keyM cols row ls).map V.int)) → Q (.ref p) H'
theorem ok_picked (T : Tx K mg Z) (TB : Tb base mg Z) : FnOk P w K mg base CX0 1 Z.f_picked Z.d_picked ["columns", "row", "letters"] (spPicked K Z) := by
  refine T.C_picked.ok sc_picked (fun vs H Q E h => ?_) (fun A outer s H vs Q E hr h => ?_)
  · obtain ⟨cols, rv, row, ls, rfl, _⟩ := h
    rfl
  · obtain ⟨cols, rv, row, ls, rfl, tg, fr, hrl, hls, hll, q⟩ := h
    obtain ⟨ra, rfl, hra⟩ := row_open fr
    refine ⟨_, (pss_one (ps_ret (pe_tupG (D := (DRow Z.P_picked 0 1)) hr (by rfl) T.m_tuple (TB.t_picked) rfl (genS_by (sc := defScope s_picked) (by kernel_rfl) rfl) (pv 2) (hd_row rfl rfl rfl rfl rfl rfl rfl rfl (by decide +kernel) (by decide +kernel) rfl)))), ?_⟩
    have hP : Z.P_picked ∈ Z.Ps := by simp
    have lsl : (⟨ls.toArray⟩ : Str).cps.toList = ls := by simp
    refine ⟨tx ls, rfl, (keyM cols row ls).map V.int, ⟨tg _ hP, _, cols, ra, row, rfl, Nat.le_of_lt (small1000 (show ls.length ≤ 1000 from hll)), rfl, rfl, hra, hrl, by rw [lsl]; exact hls, ?_⟩, tg _ hP, fun G2 hT p np => ?_⟩
    · rw [lsl]
      unfold keyM
      rw [List.map_map]
      rfl
    · refine q p _ ((Tabbed.sx hP hT).new np) ((Tabbed.tg tg hT).new np) ?_ upd_same
      exact Sx.free (Tabbed.tg tg hT) (Tabbed.sx hP hT) np

/-! ### stretch -/
def spStretch (K : PySem.W.Frag) (Z : Ad) : Sp := fun vs H Q _ => ∃ (tv : V) (cols : List Nat) (rows : List (List Int)) (one : List Nat) (qv : V) (es : List (Nat × Int)) (rc : Option (Nat × Int × Int)), vs = [tv, tx one, qv] ∧ TG Z.Ps H ∧ Fz H tv (tabD cols rows) ∧ RowsOk cols.length rows ∧ rows.length ≤ 1000 ∧ one.length ≤ 1000 ∧ (∀ c ∈ one, c ∈ cols) ∧ QZ H qv es rc ∧ QOk cols es rc ∧ es.length ≤ 1000 ∧
  ∀ (p : Addr) (H' : Hp), Sx Z.Ps H H' → TG Z.Ps H' → H p = none → H' p = some (.tup [.int (aheadM cols rows one es rc : Nat), .int (behindM cols rows one es rc : Nat)]) → Q (.ref p) H'
theorem ok_stretch (T : Tx K mg Z) (TB : Tb base mg Z) : FnOk P w K mg base CX0 3 Z.f_stretch Z.d_stretch ["table", "one", "question"] (spStretch K Z) := by
  have G_used : FnOk P w K mg base CX0 2 Z.f_used Z.d_used ["one", "question"] (spUsed K) := ok_used T
  have G_spans : FnOk P w K mg base CX0 1 Z.f_spans Z.d_spans ["question"] (spSpans K) := ok_spans T
  have G_picked : FnOk P w K mg base CX0 1 Z.f_picked Z.d_picked ["columns", "row", "letters"] (spPicked K Z) := ok_picked T TB
  refine T.C_stretch.ok sc_stretch (fun vs H Q E h => ?_) (fun A outer s H vs Q E hr h => ?_)
  · obtain ⟨tv, cols, rows, one, qv, es, rc, rfl, _⟩ := h
    rfl
  · obtain ⟨tv, cols, rows, one, qv, es, rc, rfl, tg, fT, hrs, hrn, hol, hoc, fq, hok, hel, q⟩ := h
    obtain ⟨t, R, vs, rfl, ht, hRR, fvs⟩ := tab_open fT
    have hvl : vs.length = rows.length := by rw [fvs.len, List.length_map]
    refine ⟨_, (pss_cons (ps_asg (pv 0) (pgT K (n := 2) (pgs_cons (pg_name (i := 3) sc_stretch.nd rfl (.inr rfl)) (pgs_cons (pg_name (i := 4) sc_stretch.nd rfl (.inl rfl)) pgs_nil))))
      (pss_cons (ps_set (i := 5) sc_stretch.nd rfl (.inr rfl) (pe_call G_used (hr.mono (by omega)) (by rfl) T.g_used T.F_used.kp T.b_used .nil pass0 (pa_cons (pv 1) (pa_cons (pv 2) pa_nil))))
      (pss_cons (ps_set (i := 11) sc_stretch.nd rfl (.inr rfl) (pe_call G_spans (hr.mono (by omega)) (by rfl) T.g_spans T.F_spans.kp T.b_spans .nil pass0 (pa_cons (pv 2) pa_nil)))
      (pss_cons (ps_set (i := 6) sc_stretch.nd rfl (.inr rfl) (pe_tupG (D := (DWant Z.P_stretch 11 0)) hr (by rfl) T.m_tuple (TB.t_stretch) rfl (genS_by (sc := defScope s_stretch) (by kernel_rfl) rfl) (pv 5) (hd_want (.inl rfl) rfl rfl rfl rfl rfl (by decide +kernel))))
      (pss_cons (ps_set (i := 7) sc_stretch.nd rfl (.inr rfl) (pe_tupG (D := (DWant Z.P_stretch 11 1)) hr (by rfl) T.m_tuple (TB.t_stretch) rfl (genS_by (sc := defScope s_stretch) (by kernel_rfl) rfl) (pv 5) (hd_want (.inr rfl) rfl rfl rfl rfl rfl (by decide +kernel))))
      (pss_cons (ps_setLc (i := 8) (own := [("row", 12)]) (tt := tYes) (by rfl) sc_stretch.nd rfl rfl (sw_true rfl rfl rfl (by decide +kernel)) (piT K (pv 4)) (blkOk_by (own := [("row", 12)]) (by kernel_rfl)) (fun _ _ _ _ _ => (pg_name (i := 12) sc_stretch.nd rfl (.inl rfl))) (fun _ _ _ _ _ => pts_nil) (fun _ _ _ _ _ => (pe_call G_picked (hr.mono (by omega)) (by rfl) T.g_picked T.F_picked.kp T.b_picked .nil pass0 (pa_cons (pv 3) (pa_cons (pv 12) (pa_cons (pv 5) pa_nil))))))
      (pss_cons (ps_set (i := 9) sc_stretch.nd rfl (.inl rfl) (pe_callB (cLenSq K) (by rfl) T.m_len (by decide +kernel) (pa_cons (pe_lc (own := [("key", 13)]) (tt := _) (by rfl) sc_stretch.nd (piL K (pv 8)) (blkOk_by (own := [("key", 13)]) (by kernel_rfl)) (fun _ _ _ _ _ => (pg_name (i := 13) sc_stretch.nd rfl (.inl rfl))) (fun _ _ _ _ _ => (pts_one (pt_cmpR (ltTK K hr.units0) (pv 13) (pv 6) (nomark _)))) (fun _ _ _ _ _ => (pv 13))) pa_nil)))
      (pss_cons (ps_set (i := 10) sc_stretch.nd rfl (.inl rfl) (pe_callB (cLenSq K) (by rfl) T.m_len (by decide +kernel) (pa_cons (pe_lc (own := [("key", 13)]) (tt := _) (by rfl) sc_stretch.nd (piL K (pv 8)) (blkOk_by (own := [("key", 13)]) (by kernel_rfl)) (fun _ _ _ _ _ => (pg_name (i := 13) sc_stretch.nd rfl (.inl rfl))) (fun _ _ _ _ _ => (pts_one (pt_cmpR (leTK K hr.units0) (pv 13) (pv 7) (nomark _)))) (fun _ _ _ _ _ => (pv 13))) pa_nil)))
      (pss_one (ps_ret (pe_tup (pa_cons (pv 9) (pa_cons (pv 10) pa_nil))))))))))))), ?_⟩
    refine ⟨.ref t, rfl, t, [tx cols, .ref R], rfl, .inl (.inl ht), rfl, tx cols, [.ref R], rfl, .ref R, [], rfl, rfl, ?_⟩
    refine ⟨tx one, rfl, qv, rfl, one, qv, es, rc, rfl, hol, fq, hel, fun H1 sm1 => ?_⟩
    refine ⟨qv, rfl, qv, cols, es, rc, rfl, fq.kT (Same.kT sm1), hok, hel, fun d kvs H2 sm2 nd hd fk => ?_⟩
    have sm02 : Same H H2 := Same.trans sm1 sm2
    have tg2 : TG Z.Ps H2 := tg.same sm02
    have hP : Z.P_stretch ∈ Z.Ps := by simp
    have lsl : (⟨(usedM one es rc).toArray⟩ : Str).cps.toList = usedM one es rc := by simp
    have hul : (usedM one es rc).length ≤ 1000 := Nat.le_trans (used_len _ _ _) hol
    have hus : (⟨(usedM one es rc).toArray⟩ : Str).length ≤ sizeLine := Nat.le_of_lt (small1000 (show (usedM one es rc).length ≤ 1000 from hul))
    have want : ∀ (n : Int) (G : Hp) (σ : L2.St), TG Z.Ps G → G d = some (.dK kvs) → SpA G kvs (spanL es rc) → σ[11]? = some (some (.ref d)) → DWant Z.P_stretch 11 n (tx (usedM one es rc)) σ G (((usedM one es rc).map fun c => if n = 0 then (spanOf es rc c).1 else (spanOf es rc c).2).map V.int) := fun n G σ tG hG fG hσ => by
      refine ⟨tG _ hP, _, d, kvs, fun c => if n = 0 then (spanOf es rc c).1 else (spanOf es rc c).2, rfl, hus, hσ, hG, fun c hc => ?_, ?_⟩
      · rw [lsl] at hc
        obtain ⟨lo, hi, hm⟩ := used_span hc
        obtain ⟨p, h1, h2⟩ := fG.look (spanL_nd hok) hm
        refine ⟨p, lo, hi, h1, h2, ?_⟩
        show (if n = 0 then (spanOf es rc c).1 else (spanOf es rc c).2) = _
        rw [spanOf_mem (spanL_nd hok) hm]
      · rw [lsl, List.map_map]
        rfl
    -- first
    refine ⟨tx (usedM one es rc), rfl, (loM es rc (usedM one es rc)).map V.int, want 0 H2 _ tg2 hd fk rfl, tg2 _ hP, fun G3 t3 p3 n3 => ?_⟩
    have sx3 : Sx Z.Ps H2 (upd G3 p3 (.tup ((loM es rc (usedM one es rc)).map V.int))) := (Tabbed.sx hP t3).new n3
    have tg3 : TG Z.Ps (upd G3 p3 (.tup ((loM es rc (usedM one es rc)).map V.int))) := (Tabbed.tg tg2 t3).new n3
    have h33 : (upd G3 p3 (.tup ((loM es rc (usedM one es rc)).map V.int))) p3 = some (.tup ((loM es rc (usedM one es rc)).map V.int)) := upd_same
    generalize upd G3 p3 (.tup ((loM es rc (usedM one es rc)).map V.int)) = H3 at sx3 tg3 h33
    -- last
    refine ⟨tx (usedM one es rc), rfl, (hiM es rc (usedM one es rc)).map V.int, want 1 H3 _ tg3 (sx3.dct tg2 hd) (fk.kt (sx3.kt tg2)) rfl, tg3 _ hP, fun G4 t4 p4 n4 => ?_⟩
    have sx4 : Sx Z.Ps H3 (upd G4 p4 (.tup ((hiM es rc (usedM one es rc)).map V.int))) := (Tabbed.sx hP t4).new n4
    have tg4 : TG Z.Ps (upd G4 p4 (.tup ((hiM es rc (usedM one es rc)).map V.int))) := (Tabbed.tg tg3 t4).new n4
    have h44 : (upd G4 p4 (.tup ((hiM es rc (usedM one es rc)).map V.int))) p4 = some (.tup ((hiM es rc (usedM one es rc)).map V.int)) := upd_same
    generalize upd G4 p4 (.tup ((hiM es rc (usedM one es rc)).map V.int)) = H4 at sx4 tg4 h44
    have sx04 : Sx Z.Ps H H4 := ((Same.sx sm02).trans sx3).trans sx4
    have h43 : H4 p3 = some (.tup ((loM es rc (usedM one es rc)).map V.int)) := sx4.kt tg3 _ _ h33
    have kt04 : Kt H H4 := sx04.kt tg
    have hR4 := kt04 _ _ hRR
    -- keys
    refine ⟨.ref R, rfl, R, rfl, ⟨_, .inl (.inl hR4)⟩, fun D nD => lc_it (walk_tup (xs := vs)) (fun i H' => ∃ ks : List V, Sx Z.Ps H4 H' ∧ TG Z.Ps H' ∧ H' D = some (.lst ks) ∧ FzA H' ks (((rows.take i).map fun row => keyM cols row (usedM one es rc)).map rowD))
      ⟨[], Sx.rfl'.new nD, tg4.new nD, upd_same, .nil⟩ (fun i H' _ hI => ?_) (fun i x H5 H6 hi hI hY => ?_) (fun H5 hI => ?_)⟩
    · obtain ⟨ks, sx, _, _⟩ := hI
      exact .inl (.inl (sx.kt tg4 _ _ hR4))
    · obtain ⟨ks, sx5, tg5, hD5, fks⟩ := hI
      obtain ⟨rfl, ex⟩ := hY
      obtain ⟨dd, hdd, fd⟩ := fvs.getV ex
      rw [List.getElem?_map] at hdd
      obtain ⟨row, hrow, rfl⟩ := Option.map_eq_some_iff.mp hdd
      have hi2 : i < rows.length := (List.getElem?_eq_some_iff.mp hrow).1
      have erow : rows[i] = row := (List.getElem?_eq_some_iff.mp hrow).2
      have rok := hrs row (List.mem_of_getElem? hrow)
      have kt05 := kt04.trans (sx5.kt tg4)
      refine ⟨rfl, tx cols, rfl, x, rfl, tx (usedM one es rc), rfl, cols, x, row, usedM one es rc, rfl, tg5, fd.kt kt05, rok.1, fun c hc => hoc c (used_in hc), hul, fun p H7 sx7 tg7 np hp => ?_⟩
      have hD7 := sx7.lst tg5 hD5
      have fks7 := fks.kt (sx7.kt tg5)
      refine ⟨ks, hD7, ?_, ks ++ [.ref p], (sx5.trans sx7).mut nD, tg7.mut hD7, upd_same, ?_⟩
      · rw [fks.len, List.length_map, List.length_map, List.length_take]
        exact small1000 (by omega)
      · rw [List.take_succ_eq_append_getElem hi2, erow, List.map_append, List.map_append]
        exact (FzA.snoc fks7 (row_at_fz hp)).kt (Kt.lst hD7)
    · obtain ⟨ks, sx5, tg5, hD5, fks⟩ := hI
      rw [hvl, List.take_of_length_le (Nat.le_refl _)] at fks
      have hkl : ks.length = rows.length := by rw [fks.len, List.length_map, List.length_map]
      have h53 := (sx5.kt tg4) _ _ h43
      have h54 := (sx5.kt tg4) _ _ h44
      -- ahead
      refine ⟨.ref D, rfl, D, rfl, ⟨_, .inl (.inl hD5)⟩, fun D6 nD6 => lc_it (walk_list (xs := ks)) (fun i H' => ∃ cs : List V, Same H5 H' ∧ H' D6 = some (.lst cs) ∧ cs.length = ((rows.take i).filter fun row => HT.lexLt (keyM cols row (usedM one es rc)) (loM es rc (usedM one es rc))).length)
        ⟨[], Same.new (Same.refl H5) nD6, upd_same, rfl⟩ (fun i H' _ hI => ?_) (fun i x H6 H7 hi hI hY => ?_) (fun H6 hI => ?_)⟩
      · obtain ⟨cs, sm, _⟩ := hI
        exact .inl (.inl (sm _ _ hD5))
      · obtain ⟨cs, sm6, hD6, hcl⟩ := hI
        obtain ⟨rfl, ex⟩ := hY
        obtain ⟨dd, hdd, fd⟩ := fks.getV ex
        rw [List.getElem?_map] at hdd
        obtain ⟨key, hkey, rfl⟩ := Option.map_eq_some_iff.mp hdd
        rw [List.getElem?_map] at hkey
        obtain ⟨row, hrow, rfl⟩ := Option.map_eq_some_iff.mp hkey
        have hi2 : i < rows.length := (List.getElem?_eq_some_iff.mp hrow).1
        have erow : rows[i] = row := (List.getElem?_eq_some_iff.mp hrow).2
        obtain ⟨ka, rfl, hka⟩ := row_open fd
        refine ⟨rfl, .ref ka, rfl, .ref p3, rfl, ka, p3, _, _, rfl, rfl, .inl (.inl (sm6 _ _ hka)), .inl (.inl (sm6 _ _ h53)), _, rfl, ite2 (fun e => ?_) (fun e => ?_)⟩
        · refine ⟨.ref ka, rfl, cs, hD6, ?_, cs ++ [.ref ka], Same.mut sm6 nD6, upd_same, ?_⟩
          · rw [hcl]
            have := List.length_filter_le (fun row => HT.lexLt (keyM cols row (usedM one es rc)) (loM es rc (usedM one es rc))) (rows.take i)
            rw [List.length_take] at this
            exact small1000 (by omega)
          · rw [List.take_succ_eq_append_getElem hi2, erow, List.filter_append, List.filter_cons, if_pos e, List.length_append, List.length_append, hcl]
            rfl
        · refine ⟨cs, sm6, hD6, ?_⟩
          rw [List.take_succ_eq_append_getElem hi2, erow, List.filter_append, List.filter_cons, if_neg e, List.filter_nil, List.append_nil, hcl]
      · obtain ⟨cs, sm6, hD6, hcl⟩ := hI
        rw [hkl, List.take_of_length_le (Nat.le_refl _)] at hcl
        refine ⟨D6, cs, rfl, .inl (.inl (.inl hD6)), ?_⟩
        rw [hcl]
        -- behind
        refine ⟨.ref D, rfl, D, rfl, ⟨_, .inl (.inl (sm6 _ _ hD5))⟩, fun D8 nD8 => lc_it (walk_list (xs := ks)) (fun i H' => ∃ cs : List V, Same H6 H' ∧ H' D8 = some (.lst cs) ∧ cs.length = ((rows.take i).filter fun row => leK (keyM cols row (usedM one es rc)) (hiM es rc (usedM one es rc))).length)
          ⟨[], Same.new (Same.refl H6) nD8, upd_same, rfl⟩ (fun i H' _ hI => ?_) (fun i x H8 H9 hi hI hY => ?_) (fun H8 hI => ?_)⟩
        · obtain ⟨cs, sm, _⟩ := hI
          exact .inl (.inl (sm _ _ (sm6 _ _ hD5)))
        · obtain ⟨cs2, sm8, hD8, hcl2⟩ := hI
          obtain ⟨rfl, ex⟩ := hY
          obtain ⟨dd, hdd, fd⟩ := fks.getV ex
          rw [List.getElem?_map] at hdd
          obtain ⟨key, hkey, rfl⟩ := Option.map_eq_some_iff.mp hdd
          rw [List.getElem?_map] at hkey
          obtain ⟨row, hrow, rfl⟩ := Option.map_eq_some_iff.mp hkey
          have hi2 : i < rows.length := (List.getElem?_eq_some_iff.mp hrow).1
          have erow : rows[i] = row := (List.getElem?_eq_some_iff.mp hrow).2
          obtain ⟨ka, rfl, hka⟩ := row_open fd
          refine ⟨rfl, .ref ka, rfl, .ref p4, rfl, ka, p4, _, _, rfl, rfl, .inl (.inl (sm8 _ _ (sm6 _ _ hka))), .inl (.inl (sm8 _ _ (sm6 _ _ h54))), _, rfl, ite2 (fun e => ?_) (fun e => ?_)⟩
          · have e' : leK (keyM cols row (usedM one es rc)) (hiM es rc (usedM one es rc)) = true := e
            refine ⟨.ref ka, rfl, cs2, hD8, ?_, cs2 ++ [.ref ka], Same.mut sm8 nD8, upd_same, ?_⟩
            · rw [hcl2]
              have := List.length_filter_le (fun row => leK (keyM cols row (usedM one es rc)) (hiM es rc (usedM one es rc))) (rows.take i)
              rw [List.length_take] at this
              exact small1000 (by omega)
            · rw [List.take_succ_eq_append_getElem hi2, erow, List.filter_append, List.filter_cons, if_pos e', List.length_append, List.length_append, hcl2]
              rfl
          · have e' : ¬ leK (keyM cols row (usedM one es rc)) (hiM es rc (usedM one es rc)) = true := e
            refine ⟨cs2, sm8, hD8, ?_⟩
            rw [List.take_succ_eq_append_getElem hi2, erow, List.filter_append, List.filter_cons, if_neg e', List.filter_nil, List.append_nil, hcl2]
        · obtain ⟨cs2, sm8, hD8, hcl2⟩ := hI
          rw [hkl, List.take_of_length_le (Nat.le_refl _)] at hcl2
          refine ⟨D8, cs2, rfl, .inl (.inl (.inl hD8)), ?_⟩
          rw [hcl2]
          refine ⟨_, rfl, _, rfl, (by show 2 ≤ sizeLine; decide), fun pr npr => ?_⟩
          have sm58 : Same H5 H8 := Same.trans sm6 sm8
          refine q pr _ (((sx04.trans sx5).trans (Same.sx sm58)).new npr) ((tg5.same sm58).new npr) ?_ upd_same
          exact Sx.free (tg5.same sm58) ((sx04.trans sx5).trans (Same.sx sm58)) npr

/-! ### price_by -/
def spPriceBy (K : PySem.W.Frag) (Z : Ad) : Sp := fun vs H Q _ => ∃ (tv : V) (cols : List Nat) (rows : List (List Int)) (ov : Option (List Nat)) (qv : V) (es : List (Nat × Int)) (rc : Option (Nat × Int × Int)), vs = [tv, oV ov, qv] ∧ TG Z.Ps H ∧ Fz H tv (tabD cols rows) ∧ RowsOk cols.length rows ∧ rows.length ≤ 1000 ∧ (∀ o, ov = some o → o.length ≤ 1000 ∧ ∀ c ∈ o, c ∈ cols) ∧ QZ H qv es rc ∧ QOk cols es rc ∧ es.length ≤ 1000 ∧
  ∀ (H' : Hp), Sx Z.Ps H H' → TG Z.Ps H' → Q (.int (priceByM cols rows ov es rc)) H'
theorem ok_priceby (T : Tx K mg Z) (TB : Tb base mg Z) : FnOk P w K mg base CX0 4 Z.f_price_by Z.d_price_by ["table", "one", "question"] (spPriceBy K Z) := by
  have G_stretch : FnOk P w K mg base CX0 3 Z.f_stretch Z.d_stretch ["table", "one", "question"] (spStretch K Z) := ok_stretch T TB
  refine T.F_price_by.ok sc_price_by (fun vs H Q E h => ?_) (fun cdv A outer s H vs Q E hr h => ?_)
  · obtain ⟨tv, cols, rows, ov, qv, es, rc, rfl, _⟩ := h
    rfl
  · obtain ⟨tv, cols, rows, ov, qv, es, rc, rfl, tg, fT, hrs, hrn, hov, fq, hok, hel, q⟩ := h
    obtain ⟨t, R, vs, rfl, ht, hRR, fvs⟩ := tab_open fT
    have hvl : vs.length = rows.length := by rw [fvs.len, List.length_map]
    refine ⟨_, (pss_cons (ps_if (pt_cmpR op_isN (pv 1) pe_non (nomark _)) (pss_cons (ps_asg (pv 0) (pgT K (n := 2) (pgs_cons (pg_name (i := 3) sc_price_by.nd rfl (.inl rfl)) (pgs_cons (pg_name (i := 4) sc_price_by.nd rfl (.inl rfl)) pgs_nil))))
      (pss_one (ps_ret (pe_callB (cLenSq K) (by rfl) T.m_len (by decide +kernel) (pa_cons (pv 4) pa_nil))))) pss_nil)
      (pss_cons (ps_asg (pe_call G_stretch (hr.mono (by omega)) (by rfl) T.g_stretch T.F_stretch.kp T.b_stretch .nil pass0 (pa_cons (pv 0) (pa_cons (pv 1) (pa_cons (pv 2) pa_nil)))) (pgT K (n := 2) (pgs_cons (pg_name (i := 5) sc_price_by.nd rfl (.inl rfl)) (pgs_cons (pg_name (i := 6) sc_price_by.nd rfl (.inl rfl)) pgs_nil))))
      (pss_one (ps_ret (pe_op op_add (pe_op op_sub (pv 6) (pv 5)) pe_int))))), ?_⟩
    cases ov with
    | none =>
      refine ⟨.non, rfl, rfl, _, rfl, ite2 (fun _ => ?_) (fun z => ?_)⟩
      · refine ⟨.ref t, rfl, t, [tx cols, .ref R], rfl, .inl (.inl ht), rfl, tx cols, [.ref R], rfl, .ref R, [], rfl, rfl, ?_⟩
        refine ⟨.ref R, rfl, R, vs, rfl, .inr (.inl (.inl hRR)), ?_⟩
        rw [hvl]
        exact q H Sx.rfl' tg
      · exact absurd rfl z
    | some o =>
      refine ⟨tx o, rfl, rfl, _, rfl, ite2 (fun z => ?_) (fun _ => ?_)⟩
      · exact absurd z (by simp)
      · obtain ⟨hol, hoc⟩ := hov o rfl
        refine ⟨.ref t, rfl, tx o, rfl, qv, rfl, .ref t, cols, rows, o, qv, es, rc, rfl, tg, fT, hrs, hrn, hol, hoc, fq, hok, hel, fun sp H1 sx1 tg1 nsp hsp => ?_⟩
        refine ⟨sp, [.int (aheadM cols rows o es rc : Nat), .int (behindM cols rows o es rc : Nat)], rfl, .inl (.inl hsp), rfl, .int (aheadM cols rows o es rc : Nat), [.int (behindM cols rows o es rc : Nat)], rfl, .int (behindM cols rows o es rc : Nat), [], rfl, rfl, ?_⟩
        refine ⟨_, rfl, _, rfl, _, _, rfl, rfl, _, _, rfl, rfl, ?_⟩
        exact q H1 sx1 tg1

/-! ### price_of -/
def spPriceOf (K : PySem.W.Frag) (Z : Ad) : Sp := fun vs H Q _ => ∃ (tv : V) (cols : List Nat) (rows : List (List Int)) (ca : Addr) (ch : List (List Nat)) (qv : V) (es : List (Nat × Int)) (rc : Option (Nat × Int × Int)), vs = [tv, .ref ca, qv] ∧ TG Z.Ps H ∧ Fz H tv (tabD cols rows) ∧ RowsOk cols.length rows ∧ rows.length ≤ 1000 ∧ H ca = some (.tup (ch.map tx)) ∧ (∀ o ∈ ch, o.length ≤ 1000 ∧ ∀ c ∈ o, c ∈ cols) ∧ ch.length ≤ 100 ∧ QZ H qv es rc ∧ QOk cols es rc ∧ es.length ≤ 1000 ∧
  ∀ (H' : Hp), Sx Z.Ps H H' → TG Z.Ps H' → Q (.int (priceOfM cols rows ch es rc)) H'
theorem ok_priceof (T : Tx K mg Z) (TB : Tb base mg Z) : FnOk P w K mg base CX0 5 Z.f_price_of Z.d_price_of ["table", "choice", "question"] (spPriceOf K Z) := by
  have G_price_by : FnOk P w K mg base CX0 4 Z.f_price_by Z.d_price_by ["table", "one", "question"] (spPriceBy K Z) := ok_priceby T TB
  refine T.F_price_of.ok sc_price_of (fun vs H Q E h => ?_) (fun cdv A outer s H vs Q E hr h => ?_)
  · obtain ⟨tv, cols, rows, ca, ch, qv, es, rc, rfl, _⟩ := h
    rfl
  · obtain ⟨tv, cols, rows, ca, ch, qv, es, rc, rfl, tg, fT, hrs, hrn, hca, hch, hcl, fq, hok, hel, q⟩ := h
    refine ⟨_, (pss_one (ps_ret (pe_callB (minK K) (by rfl) T.m_min (by decide +kernel) (pa_cons (pe_lc (own := [("one", 3)]) (tt := tYes) (by rfl) sc_price_of.nd (piT K (pe_tup (pa_cons pe_non (paStarK K (pv 1) pa_nil)))) (blkOk_by (own := [("one", 3)]) (by kernel_rfl)) (fun _ _ _ _ _ => (pg_name (i := 3) sc_price_of.nd rfl (.inl rfl))) (fun _ _ _ _ _ => pts_nil) (fun _ _ _ _ _ => (pe_call G_price_by (hr.mono (by omega)) (by rfl) T.g_price_by T.F_price_by.kp T.b_price_by .nil pass0 (pa_cons (pv 0) (pa_cons (pv 3) (pa_cons (pv 2) pa_nil)))))) pa_nil)))), ?_⟩
    refine ⟨.ref ca, rfl, ca, ch.map tx, rfl, .inl (.inl (.inl hca)), ?_, fun tp ntp => ?_⟩
    · rw [List.append_nil, List.length_cons, List.length_map]
      exact Nat.le_of_lt (small1000 (by omega))
    rw [List.append_nil]
    have e0 : (V.non :: ch.map tx) = (none :: ch.map some).map oV := by
      rw [List.map_cons, List.map_map]
      rfl
    rw [e0]
    have sm1 : Same H (upd H tp (.tup ((none :: ch.map some).map oV))) := Same.new (Same.refl H) ntp
    have htp : (upd H tp (.tup ((none :: ch.map some).map oV))) tp = some (.tup ((none :: ch.map some).map oV)) := upd_same
    generalize upd H tp (.tup ((none :: ch.map some).map oV)) = H1 at sm1 htp ⊢
    have tg1 : TG Z.Ps H1 := tg.same sm1
    have kt1 : KT H H1 := Same.kT sm1
    refine ⟨tp, rfl, ⟨_, .inl (.inl htp)⟩, fun D nD => lc_it (walk_tup (xs := (none :: ch.map some).map oV)) (fun i H' => Sx Z.Ps H1 H' ∧ TG Z.Ps H' ∧ H' D = some (.lst ((((none :: ch.map some).take i).map fun ov => priceByM cols rows ov es rc).map V.int)))
      ⟨Sx.rfl'.new nD, tg1.new nD, upd_same⟩ (fun i H' _ hP => .inl (.inl ((hP.1.kt tg1) _ _ htp))) (fun i x H2 H3 hi hP hY => ?_) (fun H2 hP => ?_)⟩
    · obtain ⟨sx2, tg2, hD2⟩ := hP
      obtain ⟨rfl, hx⟩ := hY
      rw [List.getElem?_map] at hx
      obtain ⟨ov, hov, rfl⟩ := Option.map_eq_some_iff.mp hx
      have hi2 : i < (none :: ch.map some).length := (List.getElem?_eq_some_iff.mp hov).1
      have eov : (none :: ch.map some)[i] = ov := (List.getElem?_eq_some_iff.mp hov).2
      have kt2 : KT H H3 := kt1.trans (sx2.kT tg1)
      refine ⟨rfl, tv, rfl, oV ov, rfl, qv, rfl, tv, cols, rows, ov, qv, es, rc, rfl, tg2, fT.kt kt2.1, hrs, hrn, fun o e => ?_, fq.kT kt2, hok, hel, fun H4 sx4 tg4 => ?_⟩
      · have hm := List.mem_of_getElem? hov
        rw [e] at hm
        rcases List.mem_cons.mp hm with z | z
        · cases z
        · obtain ⟨o2, ho2, z2⟩ := List.mem_map.mp z
          cases z2
          exact hch o ho2
      · have hD4 := sx4.lst tg2 hD2
        refine ⟨_, hD4, ?_, (sx2.trans sx4).mut nD, tg4.mut hD4, ?_⟩
        · rw [List.length_map, List.length_map, List.length_take, List.length_cons, List.length_map]
          exact small1000 (by omega)
        · rw [upd_same, List.take_succ_eq_append_getElem hi2, eov, List.map_append, List.map_append]
          rfl
    · obtain ⟨sx2, tg2, hD2⟩ := hP
      rw [List.length_map, List.take_of_length_le (Nat.le_refl _), List.map_cons, List.map_map] at hD2
      refine ⟨D, (rows.length : Int), ch.map fun o => priceM cols rows o es rc, rfl, .inl (.inl hD2), ?_⟩
      exact q H2 ((Same.sx sm1).trans sx2) tg2

/-! ### upkeep -/
def spUpkeep (K : PySem.W.Frag) (Z : Ad) : Sp := fun vs H Q _ => ∃ (chg : Int) (ca : Addr) (ch : List (List Nat)), vs = [.int chg, .ref ca] ∧ 0 ≤ chg ∧ chg ≤ 1000000 ∧ TG Z.Ps H ∧ H ca = some (.tup (ch.map tx)) ∧ ch.length ≤ 100 ∧ (∀ o ∈ ch, o.length ≤ 1000) ∧
  ∀ (H' : Hp), Sx Z.Ps H H' → TG Z.Ps H' → Q (.int (keepM chg ch)) H'
theorem ok_upkeep (T : Tx K mg Z) (TB : Tb base mg Z) : FnOk P w K mg base CX0 4 Z.f_upkeep Z.d_upkeep ["changes", "choice"] (spUpkeep K Z) := by
  refine T.C_upkeep.ok sc_upkeep (fun vs H Q E h => ?_) (fun A outer s H vs Q E hr h => ?_)
  · obtain ⟨chg, ca, ch, rfl, _⟩ := h
    rfl
  · obtain ⟨chg, ca, ch, rfl, hg0, hg1, tg, hca, hcl, hol, q⟩ := h
    refine ⟨_, (pss_one (ps_ret (pe_op op_mul (pv 0) (pe_sumC (own := [("one", 2)]) (k := 0) hr (by rfl) T.m_sum (TB.t_upkeep) rfl (gxS_by (blkOk_by (own := [("one", 2)]) (by kernel_rfl)) (by kernel_rfl)) sc_upkeep.nd (by rfl) (piT K (pv 1)) (fun _ _ _ _ _ _ _ _ => (pg_name (i := 2) sc_upkeep.nd rfl (.inl rfl))) (fun _ _ _ _ _ _ _ _ hr => (pe_op op_add (pe_callB call_len_str (by rfl) T.m_len (by decide +kernel) (pa_cons (pv 2) pa_nil)) pe_int)))))), ?_⟩
    have hP : Z.P_upkeep ∈ Z.Ps := by simp
    have hl : (ch.map fun o => (o.length : Int) + 1).length = (ch.map tx).length := by rw [List.length_map, List.length_map]
    refine ⟨.int chg, rfl, .ref ca, rfl, ca, rfl, ⟨_, .inl (.inl hca)⟩, tg _ hP, fun H2 hT => ?_⟩
    have tg2 := Tabbed.tg tg hT
    have sx2 := Tabbed.sx hP hT
    have hca2 := (sx2.kt tg) _ _ hca
    have hfit : ∀ j, j < (ch.map fun o => (o.length : Int) + 1).length → InLong (atL (ch.map fun o => (o.length : Int) + 1) j) ∧ InLong (preSum (atL (ch.map fun o => (o.length : Int) + 1)) (j + 1)) := fit_of (by rw [List.length_map]; omega) fun x hx => by
      obtain ⟨o, ho, rfl⟩ := List.mem_map.mp hx
      have := hol o ho
      omega
    rw [hl] at hfit
    refine ⟨(ch.map tx).length, atL (ch.map fun o => (o.length : Int) + 1), fun i H' => i ≤ (ch.map tx).length ∧ (H' = H2), hfit, ⟨Nat.zero_le _, rfl⟩, sum_step (walk_tup (xs := ch.map tx)) (fun i H' _ e => ?_) (fun i x H3 H4 hi e hY => ?_), fun H3 e0 => ?_⟩
    · rw [e]
      exact .inl (.inl hca2)
    · obtain ⟨rfl, hx⟩ := hY
      rw [List.getElem?_map] at hx
      obtain ⟨o, ho, rfl⟩ := Option.map_eq_some_iff.mp hx
      refine ⟨rfl, tx o, rfl, _, rfl, Nat.le_of_lt (small1000 (show o.length ≤ 1000 from hol o (List.mem_of_getElem? ho))), _, 1, rfl, rfl, ?_, hi, e⟩
      rw [at_map ho]
      rfl
    · obtain ⟨_, e⟩ := e0
      refine ⟨chg, _, rfl, rfl, .inl ⟨by omega, by omega⟩, ?_⟩
      rw [← hl, pre_take _ _ (Nat.le_refl _), List.take_length, e]
      exact q H2 sx2 tg2

/-! ### price -/
def spPrice (K : PySem.W.Frag) (Z : Ad) : Sp := fun vs H Q _ => ∃ (wv : V) (cols : List Nat) (rows : List (List Int)) (as : List Ask) (chg : Int) (ca : Addr) (ch : List (List Nat)), vs = [wv, .ref ca] ∧ TG Z.Ps H ∧ WorkZ H wv cols rows as chg ∧ RowsOk cols.length rows ∧ rows.length ≤ 100 ∧ cols.length ≤ 1000 ∧ AsksOk cols as ∧ 0 ≤ chg ∧ chg ≤ 1000000 ∧ H ca = some (.tup (ch.map tx)) ∧ (∀ o ∈ ch, o.length ≤ 1000 ∧ ∀ c ∈ o, c ∈ cols) ∧ ch.length ≤ 100 ∧
  ∀ (H' : Hp), Sx Z.Ps H H' → TG Z.Ps H' → Q (.int (workM cols rows ch as chg)) H'
theorem ok_price (T : Tx K mg Z) (TB : Tb base mg Z) : FnOk P w K mg base CX0 9 Z.f_price Z.d_price ["work", "choice"] (spPrice K Z) := by
  have G_price_of : FnOk P w K mg base CX0 5 Z.f_price_of Z.d_price_of ["table", "choice", "question"] (spPriceOf K Z) := ok_priceof T TB
  have G_upkeep : FnOk P w K mg base CX0 4 Z.f_upkeep Z.d_upkeep ["changes", "choice"] (spUpkeep K Z) := ok_upkeep T TB
  refine T.C_price.ok sc_price (fun vs H Q E h => ?_) (fun A outer s H vs Q E hr h => ?_)
  · obtain ⟨wv, cols, rows, as, chg, ca, ch, rfl, _⟩ := h
    rfl
  · obtain ⟨wv, cols, rows, as, chg, ca, ch, rfl, tg, fw, hrs, hrn, hcn, has, hg0, hg1, hca, hch, hcl, q⟩ := h
    obtain ⟨wa, tv, aa, us, rfl, hwa, fT, haa, fas⟩ := fw
    refine ⟨_, (pss_cons (ps_asg (pv 0) (pgT K (n := 3) (pgs_cons (pg_name (i := 5) sc_price.nd rfl (.inr rfl)) (pgs_cons (pg_name (i := 2) sc_price.nd rfl (.inl rfl)) (pgs_cons (pg_name (i := 3) sc_price.nd rfl (.inl rfl)) pgs_nil)))))
      (pss_cons (ps_set (i := 4) sc_price.nd rfl (.inl rfl) (pe_sumC (own := [("question", 6), ("often", 7)]) (k := 5) hr (by rfl) T.m_sum (TB.t_price) rfl (gxS_by (blkOk_by (own := [("question", 6), ("often", 7)]) (by kernel_rfl)) (by kernel_rfl)) sc_price.nd (by rfl) (piT K (pv 2)) (fun _ _ _ _ _ _ _ _ => (pgT K (n := 2) (pgs_cons (pg_name (i := 6) sc_price.nd rfl (.inl rfl)) (pgs_cons (pg_name (i := 7) sc_price.nd rfl (.inl rfl)) pgs_nil)))) (fun _ _ _ _ _ _ _ _ hr => (pe_op op_mul (pv 7) (pe_call G_price_of (hr.mono (by omega)) (by rfl) T.g_price_of T.F_price_of.kp T.b_price_of .nil pass0 (pa_cons (pv 5) (pa_cons (pv 1) (pa_cons (pv 6) pa_nil))))))))
      (pss_one (ps_ret (pe_op op_add (pv 4) (pe_call G_upkeep (hr.mono (by omega)) (by rfl) T.g_upkeep T.F_upkeep.kp T.b_upkeep .nil pass0 (pa_cons (pv 3) (pa_cons (pv 1) pa_nil)))))))), ?_⟩
    have hP : Z.P_price ∈ Z.Ps := by simp
    have hul := fas.len
    have hl : (as.map fun a => a.often * priceOfM cols rows ch a.es a.rc).length = us.length := by rw [List.length_map, hul]
    refine ⟨.ref wa, rfl, wa, [tv, .ref aa, .int chg], rfl, .inl (.inl hwa), rfl, tv, [.ref aa, .int chg], rfl, .ref aa, [.int chg], rfl, .int chg, [], rfl, rfl, ?_⟩
    refine ⟨.ref aa, rfl, aa, rfl, ⟨_, .inl (.inl haa)⟩, tg _ hP, fun H2 hT => ?_⟩
    have tg2 := Tabbed.tg tg hT
    have sx2 := Tabbed.sx hP hT
    have hfit : ∀ j, j < (as.map fun a => a.often * priceOfM cols rows ch a.es a.rc).length → InLong (atL (as.map fun a => a.often * priceOfM cols rows ch a.es a.rc) j) ∧ InLong (preSum (atL (as.map fun a => a.often * priceOfM cols rows ch a.es a.rc)) (j + 1)) := fit_of (by rw [List.length_map]; have := has.len; omega) fun x hx => by
      obtain ⟨a, ha, rfl⟩ := List.mem_map.mp hx
      obtain ⟨_, o1, o2⟩ := has.ok a ha
      obtain ⟨p1, p2⟩ := price_bound (cols := cols) (ch := ch) (es := a.es) (rc := a.rc) hrn
      have m1 : a.often * priceOfM cols rows ch a.es a.rc ≤ a.often * 100 := Int.mul_le_mul_of_nonneg_left p2 (by omega)
      have m2 : a.often * (-100) ≤ a.often * priceOfM cols rows ch a.es a.rc := Int.mul_le_mul_of_nonneg_left p1 (by omega)
      omega
    rw [hl] at hfit
    refine ⟨(us).length, atL (as.map fun a => a.often * priceOfM cols rows ch a.es a.rc), fun i H' => i ≤ (us).length ∧ (Sx Z.Ps H H' ∧ TG Z.Ps H'), hfit, ⟨Nat.zero_le _, ⟨sx2, tg2⟩⟩, sum_step (walk_tup (xs := us)) (fun i H' _ e => .inl (.inl ((e.1.kt tg) _ _ haa))) (fun i x H3 H4 hi e hY => ?_), fun H3 e0 => ?_⟩
    · obtain ⟨sx3, tg3⟩ := e
      obtain ⟨rfl, hx⟩ := hY
      have kt3 : KT H H4 := sx3.kT tg
      obtain ⟨a, ha, fa⟩ := (fas.kT kt3).get hx
      obtain ⟨p, qv, rfl, hp, fq⟩ := fa
      have haok := has.ok a (List.mem_of_getElem? ha)
      have ho1 := haok.2.1
      have ho2 := haok.2.2
      have hel : a.es.length ≤ 1000 := by
        have := haok.1.len
        omega
      refine ⟨p, [qv, .int a.often], rfl, .inl (.inl hp), rfl, qv, [.int a.often], rfl, .int a.often, [], rfl, rfl, rfl, ?_⟩
      refine ⟨.int a.often, rfl, tv, rfl, .ref ca, rfl, qv, rfl, tv, cols, rows, ca, ch, qv, a.es, a.rc, rfl, tg3, fT.kt kt3.1, hrs, by omega, kt3.1 _ _ hca, hch, hcl, fq, haok.1, hel, fun H5 sx5 tg5 => ?_⟩
      refine ⟨a.often, _, rfl, rfl, .inl ⟨by omega, by omega⟩, ?_, hi, sx3.trans sx5, tg5⟩
      rw [at_map ha]
    · obtain ⟨_, sx3, tg3⟩ := e0
      refine ⟨_, rfl, .int chg, rfl, .ref ca, rfl, chg, ca, ch, rfl, hg0, hg1, tg3, (sx3.kt tg) _ _ hca, hcl, fun o ho => (hch o ho).1, fun H5 sx5 tg5 => ?_⟩
      refine ⟨_, _, rfl, rfl, ?_⟩
      rw [← hl, pre_take _ _ (Nat.le_refl _), List.take_length]
      exact q H5 (sx3.trans sx5) tg5

/-! ### lists_of -/
def spListsOf (K : PySem.W.Frag) : Sp := fun vs H Q _ => ∃ (cols : List Nat), vs = [tx cols] ∧ cols.length ≤ 6 ∧ ∀ (l : Addr) (H' : Hp), Same H H' → H l = none → H' l = some (.lst ((listsM cols cols.length).map tx)) → Q (.ref l) H'
theorem ok_listsof (T : Tx K mg Z) : FnOk P w K mg base CX0 1 Z.f_lists_of Z.d_lists_of ["columns"] (spListsOf K) := by
  refine T.F_lists_of.ok sc_lists_of (fun vs H Q E h => ?_) (fun cdv A outer s H vs Q E hr h => ?_)
  · obtain ⟨cols, rfl, _⟩ := h
    rfl
  · obtain ⟨cols, rfl, hc, q⟩ := h
    refine ⟨_, (pss_cons (ps_set (i := 1) sc_lists_of.nd rfl (.inl rfl) (pe_lst pa_nil))
      (pss_cons (ps_set (i := 2) sc_lists_of.nd rfl (.inl rfl) (pe_lst (pa_cons pe_str pa_nil)))
      (pss_cons (ps_for PassesOwn.never rfl (pi_range1 (by rfl) T.m_range (pa_cons (pe_callB call_len_str (by rfl) T.m_len (by decide +kernel) (pa_cons (pv 0) pa_nil)) pa_nil)) (pg_name (i := 3) sc_lists_of.nd rfl (.inl rfl)) (pss_cons (ps_setLc2 (i := 2) (own := [("one", 4), ("letter", 5)]) (vs1 := [5]) (tt := tYes) (tt1 := _) (by rfl) sc_lists_of.nd rfl rfl (sw_true rfl rfl rfl (by decide +kernel)) (piL K (pv 2)) (blkOk_by (own := [("one", 4), ("letter", 5)]) (by kernel_rfl)) (by decide) (fun _ _ _ _ _ => (pg_name (i := 4) sc_lists_of.nd rfl (.inl rfl))) (fun _ _ _ _ _ => pts_nil) (fun _ _ _ _ _ => (pi_str (pv 0))) (fun _ _ _ _ _ => (pg_name (i := 5) sc_lists_of.nd rfl (.inl rfl))) (fun _ _ _ _ _ => (pts_one (pt_cmpR op_notIn_sign (pv 5) (pv 4) (by rfl)))) (fun _ _ _ _ _ => (pe_op op_add_str (pv 4) (pv 5))))
      (pss_one (ps_expr (bmK K PySem.F.plainAttrs_list PySem.F.slot_list_extend PySem.F.type_list_extend mt_extend (pv 1) (pa_cons (pv 2) pa_nil))))))
      (pss_one (ps_ret (pv 1)))))), ?_⟩
    have line : (100 : Nat) * 46656 < sizeLine := by rw [sizeLine_eq]; decide
    refine ⟨Nat.zero_le _, fun F nF => ?_⟩
    refine ⟨(by show 1 ≤ sizeLine; decide), fun G0 nG0 => ?_⟩
    have nFG0 : F ≠ G0 := fun e => by
      rw [← e, upd_same] at nG0
      cases nG0
    have sm0 : Same H (upd (upd H F (.lst [])) G0 (.lst [V.str (Str.ofString "")])) := Same.new (Same.new (Same.refl H) nF) nG0
    refine ⟨tx cols, rfl, _, rfl, Nat.le_of_lt (small1000 (show cols.length ≤ 1000 by omega)), (cols.length : Int), rfl, by omega, by omega, for_range (n := cols.length) (fun i σ H' => ∃ (y3 : Option V) (G : Addr), σ = [some (tx cols), some (.ref F), some (.ref G), y3, none, none] ∧ Same H H' ∧ F ≠ G ∧ H' F = some (.lst ((listsM cols i).map tx)) ∧ H' G = some (.lst ((longM cols i).map tx)))
      ⟨none, G0, rfl, sm0, nFG0, keep_new upd_same nG0, upd_same⟩ (fun i σ H3 hi hP => ?_) (fun σ H3 hP => ?_)⟩
    · obtain ⟨y3, G, rfl, sm, ne, hF, hG⟩ := hP
      have hll := long_small (k := i) hc (by omega)
      have hl1 := long_small (k := i + 1) hc (by omega)
      have hls := lists_small hc (n := i) (by omega)
      have hls1 := lists_small hc (n := i + 1) (by omega)
      -- every list of i letters, and behind it each letter that it lacks
      refine ⟨.ref G, rfl, G, rfl, ⟨_, .inl (.inl hG)⟩, fun D nD => turns (walk_list (xs := (longM cols i).map tx)) (fun j H' => Same H3 H' ∧ H' D = some (.lst ((((longM cols i).take j).flatMap fun o => (cols.filter fun c => decide (c ∉ o)).map fun c => o ++ [c]).map tx)))
        ⟨Same.new (Same.refl H3) nD, upd_same⟩ (fun j H' _ hP => .inl (.inl (hP.1 _ _ hG))) (fun j x H4 H5 hj hP hY => ?_) (fun H4 hP => ?_)⟩
      · obtain ⟨sm4, hD4⟩ := hP
        obtain ⟨rfl, hx⟩ := hY
        rw [List.getElem?_map] at hx
        obtain ⟨o, ho, rfl⟩ := Option.map_eq_some_iff.mp hx
        have hol : o.length = i := (long_mem.mp (List.mem_of_getElem? ho)).1
        have upto : ∀ k, (((longM cols i).take j).flatMap fun o => (cols.filter fun c => decide (c ∉ o)).map fun c => o ++ [c]).length + (((cols.take k).filter fun c => decide (c ∉ o)).map fun c => o ++ [c]).length ≤ (longM cols (i + 1)).length := fun k => by
          have e1 : (longM cols (i + 1)) = (longM cols i).flatMap fun o => (cols.filter fun c => decide (c ∉ o)).map fun c => o ++ [c] := rfl
          have e2 := flat_snoc (fun o : List Nat => (cols.filter fun c => decide (c ∉ o)).map fun c => o ++ [c]) (longM cols i) j o ho
          have e3 := congrArg List.length e2
          rw [List.length_append] at e3
          have e4 : (((cols.take k).filter fun c => decide (c ∉ o)).map fun c => o ++ [c]).length ≤ ((cols.filter fun c => decide (c ∉ o)).map fun c => o ++ [c]).length := by
            rw [List.length_map, List.length_map]
            exact ((List.take_sublist k cols).filter _).length_le
          have e5 : (((longM cols i).take (j + 1)).flatMap fun o => (cols.filter fun c => decide (c ∉ o)).map fun c => o ++ [c]).length ≤ (longM cols (i + 1)).length := by
            rw [e1]
            exact flat_take _ _ _
          omega
        refine ⟨rfl, tx cols, rfl, _, rfl, turns walk_str (fun k H' => Same H3 H' ∧ H' D = some (.lst (((((longM cols i).take j).flatMap fun o => (cols.filter fun c => decide (c ∉ o)).map fun c => o ++ [c]) ++ (((cols.take k).filter fun c => decide (c ∉ o)).map fun c => o ++ [c])).map tx)))
          ⟨sm4, by rw [List.take_zero, List.filter_nil, List.map_nil, List.append_nil]; exact hD4⟩ (fun _ _ _ _ => trivial) (fun k x H5 H6 hk hP hY => ?_) (fun H5 hP => ?_)⟩
        · obtain ⟨sm5, hD5⟩ := hP
          obtain ⟨rfl, c, hcc, rfl⟩ := hY
          have hcl : cols[k]? = some c := by simpa using hcc
          have fs := filter_snoc (fun c => decide (c ∉ o)) cols k c hcl
          have up := upto k
          refine ⟨rfl, sg c, rfl, tx o, rfl, c, _, rfl, rfl, _, rfl, ite2 (fun e => ?_) (fun e => ?_)⟩
          · have out : c ∉ o := by simpa using e
            refine ⟨tx o, rfl, sg c, rfl, _, _, rfl, rfl, Nat.le_of_lt (small1000 ?_), _, hD5, ?_, Same.mut sm5 nD, ?_⟩
            · show o.length + 1 ≤ 1000
              omega
            · rw [List.length_map, List.length_append]
              omega
            · rw [upd_same, fs, if_pos (decide_eq_true out), List.map_append, List.map_append, List.map_append, List.append_assoc, List.map_append]
              show some (HO.lst (_ ++ (_ ++ [_]))) = some (HO.lst (_ ++ (_ ++ [tx (o ++ [c])])))
              rw [cat_tx o [c]]
          · have inn : c ∈ o := by simpa using e
            refine ⟨sm5, ?_⟩
            rw [fs, if_neg (by simpa using inn), List.append_nil]
            exact hD5
        · obtain ⟨sm5, hD5⟩ := hP
          refine ⟨sm5, ?_⟩
          rw [flat_snoc _ _ j o ho]
          rw [show (⟨cols.toArray⟩ : Str).cps.size = cols.length by simp, List.take_of_length_le (Nat.le_refl _)] at hD5
          exact hD5
      · obtain ⟨sm4, hD4⟩ := hP
        rw [List.length_map, List.take_of_length_le (Nat.le_refl _)] at hD4
        have nDF : D ≠ F := (ne_of_none hF nD).symm
        have hF4 := sm4 _ _ hF
        refine ⟨.ref F, rfl, .inl ⟨rfl, _, .inl (.inl hF4)⟩, .ref D, rfl, F, D, _, _, rfl, rfl, hF4, hD4, ?_, ?_⟩
        · rw [List.length_map, List.length_map]
          have e1 : (longM cols (i + 1)) = (longM cols i).flatMap fun o => (cols.filter fun c => decide (c ∉ o)).map fun c => o ++ [c] := rfl
          rw [← e1]
          omega
        · refine ⟨_, D, rfl, Same.mut (Same.trans sm sm4) nF, nDF.symm, ?_, keep_ne hD4 nDF⟩
          rw [upd_same, lists_succ, List.map_append]
          rfl
    · obtain ⟨y3, G, rfl, sm, ne, hF, hG⟩ := hP
      exact ⟨_, rfl, q F H3 sm nF hF⟩

/-! ### prices_by -/
/-- a dict with the price of a question by each of some lists -/
def PrD (cols : List Nat) (rows : List (List Int)) (ls : List (List Nat)) (es : List (Nat × Int)) (rc : Option (Nat × Int × Int)) (kvs : List (Key × V)) : Prop := ∀ o ∈ ls, valV kvs (Sum.inr (txS o)) = some (.int (priceM cols rows o es rc))
def spPricesBy (K : PySem.W.Frag) (Z : Ad) : Sp := fun vs H Q _ => ∃ (tv : V) (cols : List Nat) (rows : List (List Int)) (qv : V) (es : List (Nat × Int)) (rc : Option (Nat × Int × Int)) (la : Addr) (ls : List (List Nat)), vs = [tv, qv, .ref la] ∧ TG Z.Ps H ∧ Fz H tv (tabD cols rows) ∧ RowsOk cols.length rows ∧ rows.length ≤ 1000 ∧ QZ H qv es rc ∧ QOk cols es rc ∧ es.length ≤ 1000 ∧ H la = some (.lst (ls.map tx)) ∧ (∀ o ∈ ls, o.length ≤ 1000 ∧ ∀ c ∈ o, c ∈ cols) ∧ ls.length ≤ 300000 ∧
  ∀ (d : Addr) (kvs : List (Key × V)) (H' : Hp), Sx Z.Ps H H' → TG Z.Ps H' → H d = none → d ∉ Z.Ps → H' d = some (.dK kvs) → PrD cols rows ls es rc kvs → Q (.ref d) H'
theorem ok_pricesby (T : Tx K mg Z) (TB : Tb base mg Z) : FnOk P w K mg base CX0 5 Z.f_prices_by Z.d_prices_by ["table", "question", "lists"] (spPricesBy K Z) := by
  have G_used : FnOk P w K mg base CX0 2 Z.f_used Z.d_used ["one", "question"] (spUsed K) := ok_used T
  have G_price_by : FnOk P w K mg base CX0 4 Z.f_price_by Z.d_price_by ["table", "one", "question"] (spPriceBy K Z) := ok_priceby T TB
  refine T.F_prices_by.ok sc_prices_by (fun vs H Q E h => ?_) (fun cdv A outer s H vs Q E hr h => ?_)
  · obtain ⟨tv, cols, rows, qv, es, rc, la, ls, rfl, _⟩ := h
    rfl
  · obtain ⟨tv, cols, rows, qv, es, rc, la, ls, rfl, tg, fT, hrs, hrn, fq, hok, hel, hla, hls, hln, q⟩ := h
    refine ⟨_, (pss_cons (ps_set (i := 3) sc_prices_by.nd rfl (.inl rfl) pe_dnewK)
      (pss_cons (ps_set (i := 4) sc_prices_by.nd rfl (.inl rfl) pe_dnewK)
      (pss_cons (ps_for PassesOwn.never rfl (piL K (pv 2)) (pg_name (i := 5) sc_prices_by.nd rfl (.inl rfl)) (pss_cons (ps_set (i := 6) sc_prices_by.nd rfl (.inl rfl) (pe_call G_used (hr.mono (by omega)) (by rfl) T.g_used T.F_used.kp T.b_used .nil pass0 (pa_cons (pv 5) (pa_cons (pv 1) pa_nil))))
      (pss_mid (ps_if (pt_cmp (pc_dnotin (hu_of hr) (pv 6) (pv 3))) (pss_one (ps_dput (hu_of hr) (pv 3) (pv 6) (pe_call G_price_by (hr.mono (by omega)) (by rfl) T.g_price_by T.F_price_by.kp T.b_price_by .nil pass0 (pa_cons (pv 0) (pa_cons (pv 5) (pa_cons (pv 1) pa_nil)))) rfl)) pss_nil)
      (pss_one (ps_dput (hu_of hr) (pv 4) (pv 5) (pe_dget (hu_of hr) (pv 3) (pv 6) (fun _ _ => rfl)) rfl)))))
      (pss_one (ps_ret (pv 4)))))), ?_⟩
    have line : (300000 : Nat) < sizeLine := by rw [sizeLine_eq]; decide
    refine fun kd nkd fd nfd => ?_
    have nkf : kd ≠ fd := fun e => by
      rw [← e, upd_same] at nfd
      cases nfd
    have nfH : H fd = none := by
      rw [upd_ne nkf.symm] at nfd
      exact nfd
    have notP : ∀ {p : Addr}, H p = none → p ∉ Z.Ps := fun e hp => by
      obtain ⟨ps, h2, _⟩ := tg _ hp
      rw [e] at h2
      cases h2
    have sx0 : Sx Z.Ps H (upd (upd H kd (.dK [])) fd (.dK [])) := Sx.new (Sx.new Sx.rfl' nkd) nfd
    have tg0 : TG Z.Ps (upd (upd H kd (.dK [])) fd (.dK [])) := (tg.new nkd).new nfd
    refine ⟨.ref la, rfl, la, rfl, ⟨_, .inl (.inl (sx0.lst tg hla))⟩, for_it (walk_list (xs := ls.map tx)) (fun i σ H' => ∃ (y5 y6 : Option V) (kk fk : List (Key × V)), σ = [some tv, some qv, some (.ref la), some (.ref kd), some (.ref fd), y5, y6] ∧ Sx Z.Ps H H' ∧ TG Z.Ps H' ∧ H' kd = some (.dK kk) ∧ H' fd = some (.dK fk) ∧ kk.length ≤ i ∧ fk.length ≤ i ∧
        (∀ o v, valV kk (Sum.inr (txS (usedM o es rc))) = some v → v = .int (priceM cols rows o es rc)) ∧ PrD cols rows (ls.take i) es rc fk)
      ⟨none, none, [], [], rfl, sx0, tg0, keep_new upd_same nfd, upd_same, Nat.le_refl _, Nat.le_refl _, (fun o v e => nomatch e), (fun o h => nomatch h)⟩ (fun i σ H' _ hP => ?_) (fun i x σ H3 H4 hi hP hY => ?_) (fun σ H3 hP => ?_)⟩
    · obtain ⟨_, _, _, _, _, sx, tg', _⟩ := hP
      exact .inl (.inl (sx.lst tg hla))
    · obtain ⟨y5, y6, kk, fk, rfl, sx3, tg3, hk3, hf3, lk, lf, kok, fok⟩ := hP
      obtain ⟨rfl, hx⟩ := hY
      rw [List.getElem?_map] at hx
      obtain ⟨o, ho, rfl⟩ := Option.map_eq_some_iff.mp hx
      rw [List.length_map] at hi
      obtain ⟨hol, hoc⟩ := hls o (List.mem_of_getElem? ho)
      have kt3 : KT H H4 := sx3.kT tg
      refine ⟨tx o, rfl, qv, rfl, o, qv, es, rc, rfl, hol, fq.kT kt3, hel, fun H5 sm5 => ?_⟩
      have hk5 := sm5 _ _ hk3
      have hf5 := sm5 _ _ hf3
      have sx5 : Sx Z.Ps H H5 := sx3.trans (Same.sx sm5)
      have tg5 : TG Z.Ps H5 := tg3.same sm5
      -- behind the test the price is known
      refine ⟨fun σ' H6 => ∃ kk' : List (Key × V), σ' = [some tv, some qv, some (.ref la), some (.ref kd), some (.ref fd), some (tx o), some (tx (usedM o es rc))] ∧ Sx Z.Ps H H6 ∧ TG Z.Ps H6 ∧ H6 kd = some (.dK kk') ∧ H6 fd = some (.dK fk) ∧ kk'.length ≤ i + 1 ∧
        (∀ o v, valV kk' (Sum.inr (txS (usedM o es rc))) = some v → v = .int (priceM cols rows o es rc)) ∧ valV kk' (Sum.inr (txS (usedM o es rc))) = some (.int (priceM cols rows o es rc)), ?_, fun σ' H6 hM => ?_⟩
      · refine ⟨tx (usedM o es rc), rfl, .ref kd, rfl, kd, _, rfl, DGet.k (k := Sum.inr (txS (usedM o es rc))) hk5, _, rfl, ?_⟩
        cases e : valV kk (Sum.inr (txS (usedM o es rc)) : Key) with
        | none =>
          refine iteT ?_
          refine ⟨tv, rfl, tx o, rfl, qv, rfl, tv, cols, rows, some o, qv, es, rc, rfl, tg5, fT.kt (kt3.trans (Same.kT sm5)).1, hrs, hrn, fun o' e' => ?_, fq.kT (kt3.trans (Same.kT sm5)), hok, hel, fun H6 sx6 tg6 => ?_⟩
          · cases e'
            exact ⟨hol, hoc⟩
          · have hk6 := sx6.dct tg5 hk5
            have hf6 := sx6.dct tg5 hf5
            refine ⟨.ref kd, rfl, tx (usedM o es rc), rfl, kd, _, rfl, DPut.k (k := Sum.inr (txS (usedM o es rc))) hk6 (by omega), _, rfl, Sx.mut (sx5.trans sx6) nkd, fun p hp => ?_, upd_same, keep_ne hf6 nkf.symm, Nat.le_trans (length_putK _ _ _) (Nat.succ_le_succ lk), fun o' v hv => ?_, ?_⟩
            · obtain ⟨ps, a1, a2⟩ := tg6 p hp
              exact ⟨ps, keep_ne a1 (fun z => notP nkd (z ▸ hp)), a2⟩
            · rw [valV_put] at hv
              by_cases c : usedM o' es rc = usedM o es rc
              · rw [if_pos (by rw [c])] at hv
                rw [price_alike c]
                exact (Option.some.inj hv).symm
              · rw [if_neg (fun z => c (txS_inj (Sum.inr.inj z)))] at hv
                exact kok o' v hv
            · rw [valV_put, if_pos rfl]
              rfl
        | some v =>
          refine iteF ?_
          refine ⟨kk, rfl, sx5, tg5, hk5, hf5, by omega, kok, ?_⟩
          rw [← kok o v e]
          exact e
      · obtain ⟨kk', rfl, sx6, tg6, hk6, hf6, lk6, kok6, here⟩ := hM
        refine ⟨.ref kd, rfl, tx (usedM o es rc), rfl, kd, _, rfl, by rw [← here]; exact DGet.k (k := Sum.inr (txS (usedM o es rc))) hk6, ?_⟩
        refine ⟨.ref fd, rfl, tx o, rfl, fd, _, rfl, DPut.k (k := Sum.inr (txS o)) hf6 (by omega), ?_⟩
        refine ⟨_, _, kk', _, rfl, Sx.mut sx6 nfH, fun p hp => ?_, keep_ne hk6 nkf, upd_same, lk6, Nat.le_trans (length_putK _ _ _) (Nat.succ_le_succ lf), kok6, fun o' ho' => ?_⟩
        · obtain ⟨ps, a1, a2⟩ := tg6 p hp
          exact ⟨ps, keep_ne a1 (fun z => notP nfH (z ▸ hp)), a2⟩
        · rw [valV_put]
          by_cases e : o' = o
          · rw [e, if_pos rfl]
          · rw [if_neg (fun z => e (txS_inj (Sum.inr.inj z)))]
            refine fok o' ?_
            obtain ⟨lt, eo⟩ := List.getElem?_eq_some_iff.mp ho
            rw [List.take_succ_eq_append_getElem lt, eo] at ho'
            rcases List.mem_append.mp ho' with z | z
            · exact z
            · exact absurd (List.mem_singleton.mp z) e
    · obtain ⟨y5, y6, kk, fk, rfl, sx3, tg3, hk3, hf3, lk, lf, kok, fok⟩ := hP
      rw [List.length_map, List.take_of_length_le (Nat.le_refl _)] at fok
      exact ⟨_, rfl, q fd fk H3 sx3 tg3 nfH (notP nfH) hf3 fok⟩

/-! ### Sheet -/
/-- the attributes of a sheet, in the order in which they are stored -/
abbrev shF1 (chg : Int) : List (Str × V) := [("changes", .int chg)]
abbrev shF2 (chg : Int) (l : Addr) : List (Str × V) := [("changes", .int chg), ("lists", .ref l)]
abbrev shF3 (chg : Int) (l : Addr) (o : Addr) : List (Str × V) := [("changes", .int chg), ("lists", .ref l), ("often", .ref o)]
abbrev shF4 (chg : Int) (l : Addr) (o : Addr) (b : Addr) : List (Str × V) := [("changes", .int chg), ("lists", .ref l), ("often", .ref o), ("bare", .ref b)]
abbrev shF5 (chg : Int) (l : Addr) (o : Addr) (b : Addr) (q : Addr) : List (Str × V) := [("changes", .int chg), ("lists", .ref l), ("often", .ref o), ("bare", .ref b), ("prices", .ref q)]
theorem shF1_put (chg : Int) : putF "changes" (.int chg) ([] : List (Str × V)) = shF1 chg := by kernel_rfl
theorem shF1_changes (chg : Int) : (shF1 chg).lookup ("changes" : Str) = some (.int chg) := by kernel_rfl
theorem shF2_put (chg : Int) (l : Addr) : putF "lists" (.ref l) (shF1 chg) = shF2 chg l := by kernel_rfl
theorem shF2_changes (chg : Int) (l : Addr) : (shF2 chg l).lookup ("changes" : Str) = some (.int chg) := by kernel_rfl
theorem shF2_lists (chg : Int) (l : Addr) : (shF2 chg l).lookup ("lists" : Str) = some (.ref l) := by kernel_rfl
theorem shF3_put (chg : Int) (l : Addr) (o : Addr) : putF "often" (.ref o) (shF2 chg l) = shF3 chg l o := by kernel_rfl
theorem shF3_changes (chg : Int) (l : Addr) (o : Addr) : (shF3 chg l o).lookup ("changes" : Str) = some (.int chg) := by kernel_rfl
theorem shF3_lists (chg : Int) (l : Addr) (o : Addr) : (shF3 chg l o).lookup ("lists" : Str) = some (.ref l) := by kernel_rfl
theorem shF3_often (chg : Int) (l : Addr) (o : Addr) : (shF3 chg l o).lookup ("often" : Str) = some (.ref o) := by kernel_rfl
theorem shF4_put (chg : Int) (l : Addr) (o : Addr) (b : Addr) : putF "bare" (.ref b) (shF3 chg l o) = shF4 chg l o b := by kernel_rfl
theorem shF4_changes (chg : Int) (l : Addr) (o : Addr) (b : Addr) : (shF4 chg l o b).lookup ("changes" : Str) = some (.int chg) := by kernel_rfl
theorem shF4_lists (chg : Int) (l : Addr) (o : Addr) (b : Addr) : (shF4 chg l o b).lookup ("lists" : Str) = some (.ref l) := by kernel_rfl
theorem shF4_often (chg : Int) (l : Addr) (o : Addr) (b : Addr) : (shF4 chg l o b).lookup ("often" : Str) = some (.ref o) := by kernel_rfl
theorem shF4_bare (chg : Int) (l : Addr) (o : Addr) (b : Addr) : (shF4 chg l o b).lookup ("bare" : Str) = some (.ref b) := by kernel_rfl
theorem shF5_put (chg : Int) (l : Addr) (o : Addr) (b : Addr) (q : Addr) : putF "prices" (.ref q) (shF4 chg l o b) = shF5 chg l o b q := by kernel_rfl
theorem shF5_changes (chg : Int) (l : Addr) (o : Addr) (b : Addr) (q : Addr) : (shF5 chg l o b q).lookup ("changes" : Str) = some (.int chg) := by kernel_rfl
theorem shF5_lists (chg : Int) (l : Addr) (o : Addr) (b : Addr) (q : Addr) : (shF5 chg l o b q).lookup ("lists" : Str) = some (.ref l) := by kernel_rfl
theorem shF5_often (chg : Int) (l : Addr) (o : Addr) (b : Addr) (q : Addr) : (shF5 chg l o b q).lookup ("often" : Str) = some (.ref o) := by kernel_rfl
theorem shF5_bare (chg : Int) (l : Addr) (o : Addr) (b : Addr) (q : Addr) : (shF5 chg l o b q).lookup ("bare" : Str) = some (.ref b) := by kernel_rfl
theorem shF5_prices (chg : Int) (l : Addr) (o : Addr) (b : Addr) (q : Addr) : (shF5 chg l o b q).lookup ("prices" : Str) = some (.ref q) := by kernel_rfl
theorem shF_put_changes (chg : Int) (l : Addr) (o : Addr) (b : Addr) (q : Addr) (chg' : Int) : putF "changes" (.int chg') (shF5 chg l o b q) = shF5 chg' l o b q := by kernel_rfl
theorem shF_put_lists (chg : Int) (l : Addr) (o : Addr) (b : Addr) (q : Addr) (l' : Addr) : putF "lists" (.ref l') (shF5 chg l o b q) = shF5 chg l' o b q := by kernel_rfl
theorem shF_put_often (chg : Int) (l : Addr) (o : Addr) (b : Addr) (q : Addr) (o' : Addr) : putF "often" (.ref o') (shF5 chg l o b q) = shF5 chg l o' b q := by kernel_rfl
theorem shF_put_bare (chg : Int) (l : Addr) (o : Addr) (b : Addr) (q : Addr) (b' : Addr) : putF "bare" (.ref b') (shF5 chg l o b q) = shF5 chg l o b' q := by kernel_rfl
theorem shF_put_prices (chg : Int) (l : Addr) (o : Addr) (b : Addr) (q : Addr) (q' : Addr) : putF "prices" (.ref q') (shF5 chg l o b q) = shF5 chg l o b q' := by kernel_rfl
/-- the dicts of a sheet's prices, ask by ask -/
def PrDs (H : Hp) (cols : List Nat) (rows : List (List Int)) (as : List Ask) (ds : List Addr) : Prop := ds.length = as.length ∧ ∀ (i : Nat) (d : Addr) (a : Ask), ds[i]? = some d → as[i]? = some a → ∃ kvs, H d = some (.dK kvs) ∧ PrD cols rows (listsM cols cols.length) a.es a.rc kvs
theorem PrDs.ext {H H' : Hp} {cols : List Nat} {rows : List (List Int)} {as : List Ask} {ds : List Addr} (h : PrDs H cols rows as ds) (e : LamX.ExtN H H') : PrDs H' cols rows as ds := ⟨h.1, fun i d a hd ha => by
  obtain ⟨kvs, h1, h2⟩ := h.2 i d a hd ha
  exact ⟨kvs, e _ _ h1 (fun ps z => nomatch z), h2⟩⟩
/-- a sheet stands at p -/
def SheetAt (C : Addr) (cols : List Nat) (rows : List (List Int)) (as : List Ask) (chg : Int) (H : Hp) (p : Addr) : Prop := ∃ (dx l o b q : Addr) (ds : List Addr), H p = some (.ins C dx (shF5 chg l o b q)) ∧ H l = some (.lst ((listsM cols cols.length).map tx)) ∧ H o = some (.lst ((as.map fun a => a.often).map V.int)) ∧
  H b = some (.lst ((as.map fun _ => (rows.length : Int)).map V.int)) ∧ H q = some (.lst (ds.map V.ref)) ∧ PrDs H cols rows as ds
theorem SheetAt.ext {C : Addr} {cols : List Nat} {rows : List (List Int)} {as : List Ask} {chg : Int} {H H' : Hp} {p : Addr} (h : SheetAt C cols rows as chg H p) (e : LamX.ExtN H H') : SheetAt C cols rows as chg H' p := by
  obtain ⟨dx, l, o, b, q, ds, h1, h2, h3, h4, h5, h6⟩ := h
  exact ⟨dx, l, o, b, q, ds, e _ _ h1 (fun _ z => nomatch z), e _ _ h2 (fun _ z => nomatch z), e _ _ h3 (fun _ z => nomatch z), e _ _ h4 (fun _ z => nomatch z), e _ _ h5 (fun _ z => nomatch z), h6.ext e⟩
def spSheetInit (K : PySem.W.Frag) (Z : Ad) : Sp := fun vs H Q _ => ∃ (p dx : Addr) (wv : V) (cols : List Nat) (rows : List (List Int)) (as : List Ask) (chg : Int), vs = [.ref p, wv] ∧ H p = some (.ins Z.C_Sheet dx []) ∧ TG Z.Ps H ∧ WorkZ H wv cols rows as chg ∧ RowsOk cols.length rows ∧ rows.length ≤ 100 ∧ cols.length ≤ 6 ∧ AsksOk cols as ∧
  ∀ H' : Hp, Sx (p :: Z.Ps) H H' → TG Z.Ps H' → SheetAt Z.C_Sheet cols rows as chg H' p → Q .non H'
set_option maxHeartbeats 4000000 in
theorem ok_sheetinit (T : Tx K mg Z) (TB : Tb base mg Z) : FnOk P w K mg base CX0 6 Z.f_Sheet___init__ Z.d_Sheet___init__ ["self", "work"] (spSheetInit K Z) := by
  have G_lists_of : FnOk P w K mg base CX0 1 Z.f_lists_of Z.d_lists_of ["columns"] (spListsOf K) := ok_listsof T
  have G_price_by : FnOk P w K mg base CX0 4 Z.f_price_by Z.d_price_by ["table", "one", "question"] (spPriceBy K Z) := ok_priceby T TB
  have G_prices_by : FnOk P w K mg base CX0 5 Z.f_prices_by Z.d_prices_by ["table", "question", "lists"] (spPricesBy K Z) := ok_pricesby T TB
  refine T.F_Sheet___init__.ok sc_Sheet___init__ (fun vs H Q E h => ?_) (fun cdv A outer s H vs Q E hr h => ?_)
  · obtain ⟨p, dx, wv, cols, rows, as, chg, rfl, _⟩ := h
    rfl
  · obtain ⟨p, dx, wv, cols, rows, as, chg, rfl, hp, tg, fw, hrs, hrn, hcn, has, q⟩ := h
    obtain ⟨wa, tv, aa, us, rfl, hwa, fT, haa, fas⟩ := fw
    refine ⟨_, (pss_cons (ps_asg (pv 1) (pgT K (n := 3) (pgs_cons (pg_name (i := 2) sc_Sheet___init__.nd rfl (.inr rfl)) (pgs_cons (pg_name (i := 3) sc_Sheet___init__.nd rfl (.inl rfl)) (pgs_cons (pg_name (i := 4) sc_Sheet___init__.nd rfl (.inl rfl)) pgs_nil)))))
      (pss_cons (ps_fld (pv 0) (pv 4) rfl)
      (pss_cons (ps_fld (pv 0) (pe_call G_lists_of (hr.mono (by omega)) (by rfl) T.g_lists_of T.F_lists_of.kp T.b_lists_of .nil pass0 (pa_cons (pe_ix (ixT K) (pv 2) pe_int (fun _ _ => rfl)) pa_nil)) rfl)
      (pss_cons (ps_fld (pv 0) (pe_lc (own := [("question", 5), ("often", 6)]) (tt := tYes) (by rfl) sc_Sheet___init__.nd (piT K (pv 3)) (blkOk_by (own := [("question", 5), ("often", 6)]) (by kernel_rfl)) (fun _ _ _ _ _ => (pgT K (n := 2) (pgs_cons (pg_name (i := 5) sc_Sheet___init__.nd rfl (.inl rfl)) (pgs_cons (pg_name (i := 6) sc_Sheet___init__.nd rfl (.inl rfl)) pgs_nil)))) (fun _ _ _ _ _ => pts_nil) (fun _ _ _ _ _ => (pv 6))) rfl)
      (pss_cons (ps_fld (pv 0) (pe_lc (own := [("question", 5), ("often", 6)]) (tt := tYes) (by rfl) sc_Sheet___init__.nd (piT K (pv 3)) (blkOk_by (own := [("question", 5), ("often", 6)]) (by kernel_rfl)) (fun _ _ _ _ _ => (pgT K (n := 2) (pgs_cons (pg_name (i := 5) sc_Sheet___init__.nd rfl (.inl rfl)) (pgs_cons (pg_name (i := 6) sc_Sheet___init__.nd rfl (.inl rfl)) pgs_nil)))) (fun _ _ _ _ _ => pts_nil) (fun _ _ _ _ _ => (pe_call G_price_by (hr.mono (by omega)) (by rfl) T.g_price_by T.F_price_by.kp T.b_price_by .nil pass0 (pa_cons (pv 2) (pa_cons pe_non (pa_cons (pv 5) pa_nil)))))) rfl)
      (pss_one (ps_fld (pv 0) (pe_lc (own := [("question", 5), ("often", 6)]) (tt := tYes) (by rfl) sc_Sheet___init__.nd (piT K (pv 3)) (blkOk_by (own := [("question", 5), ("often", 6)]) (by kernel_rfl)) (fun _ _ _ _ _ => (pgT K (n := 2) (pgs_cons (pg_name (i := 5) sc_Sheet___init__.nd rfl (.inl rfl)) (pgs_cons (pg_name (i := 6) sc_Sheet___init__.nd rfl (.inl rfl)) pgs_nil)))) (fun _ _ _ _ _ => pts_nil) (fun _ _ _ _ _ => (pe_call G_prices_by (hr.mono (by omega)) (by rfl) T.g_prices_by T.F_prices_by.kp T.b_prices_by .nil pass0 (pa_cons (pv 2) (pa_cons (pv 5) (pa_cons (fldK K (pv 0) rfl) pa_nil)))))) rfl))))))), ?_⟩
    refine ⟨.ref wa, rfl, wa, [tv, .ref aa, .int chg], rfl, .inl (.inl hwa), rfl, tv, [.ref aa, .int chg], rfl, .ref aa, [.int chg], rfl, .int chg, [], rfl, rfl, ?_⟩
    obtain ⟨t, R, vs, rfl, ht, hRR, fvs⟩ := tab_open fT
    have line : (300000 : Nat) < sizeLine := by rw [sizeLine_eq]; decide
    have hul := fas.len
    have pP : p ∉ Z.Ps := tg.not hp fun q z => nomatch z
    have nep : ∀ {b : Addr} {xs : List V}, H b = some (.tup xs) → b ≠ p := fun e z => by
      rw [z, hp] at e
      cases e
    -- a store at p: what the rest may still lean on
    have put : ∀ {G : Hp} {f : List (Str × V)}, Sx (p :: Z.Ps) H G → TG Z.Ps G → Sx (p :: Z.Ps) H (upd G p (.ins Z.C_Sheet dx f)) ∧ TG Z.Ps (upd G p (.ins Z.C_Sheet dx f)) := fun s g =>
      ⟨fun b o n e => keep_ne (s b o n e) (fun z => n (by rw [z]; exact List.mem_cons_self)), TG.put g pP⟩
    have old : ∀ {G : Hp} {b : Addr} {o : HO}, Sx (p :: Z.Ps) H G → H b = some o → (∀ ps, o ≠ .tbl ps) → b ≠ p → G b = some o := fun s e n ne => s _ _ (fun z => (List.mem_cons.mp z).elim ne (tg.not e n)) e
    have ktp : ∀ {G : Hp}, Sx (p :: Z.Ps) H G → KT H G := fun s => ⟨fun b xs e => old s e (fun _ z => nomatch z) (nep e), fun b o xs e => old s e (fun _ z => nomatch z) fun z => by rw [z, hp] at e; cases e⟩
    have into : ∀ {G G' : Hp}, Sx (p :: Z.Ps) H G → Sx Z.Ps G G' → Sx (p :: Z.Ps) H G' := fun s s' b o n e => s' b o (fun z => n (List.mem_cons_of_mem _ z)) (s b o n e)
    have lsok : ∀ o ∈ listsM cols cols.length, o.length ≤ 1000 ∧ ∀ c ∈ o, c ∈ cols := fun o ho => by
      obtain ⟨_, h1, _, h2⟩ := lists_mem.mp ho
      exact ⟨by omega, h2⟩
    have lsn := lists_small hcn (n := cols.length) hcn
    -- self.changes
    refine ⟨.int chg, rfl, .ref p, rfl, p, Z.C_Sheet, dx, [], rfl, hp, T.cl_Sheet, T.n_Sheet_changes, (by show 0 < 1000; decide), ?_⟩
    rw [shF1_put]
    obtain ⟨sx1, tg1⟩ := put (f := shF1 chg) (fun b o _ e => e) tg
    have hp1 : (upd H p (.ins Z.C_Sheet dx (shF1 chg))) p = some (.ins Z.C_Sheet dx (shF1 chg)) := upd_same
    generalize upd H p (.ins Z.C_Sheet dx (shF1 chg)) = H1 at sx1 tg1 hp1 ⊢
    -- self.lists
    refine ⟨.ref t, rfl, t, [tx cols, .ref R], 0, tx cols, rfl, rfl, .inl (.inl ((ktp sx1).1 _ _ ht)), rfl, cols, rfl, hcn, fun l H2 sm2 nl hl2 => ?_⟩
    have lp : l ≠ p := fun z => by
      rw [z, hp1] at nl
      cases nl
    refine ⟨.ref p, rfl, p, Z.C_Sheet, dx, _, rfl, sm2 _ _ hp1, T.cl_Sheet, T.n_Sheet_lists, (by show 1 < 1000; decide), ?_⟩
    rw [shF2_put]
    obtain ⟨sx3, tg3⟩ := put (f := shF2 chg l) (into sx1 (Same.sx sm2)) (tg1.same sm2)
    have hp3 : (upd H2 p (.ins Z.C_Sheet dx (shF2 chg l))) p = some (.ins Z.C_Sheet dx (shF2 chg l)) := upd_same
    have hl3 : (upd H2 p (.ins Z.C_Sheet dx (shF2 chg l))) l = some (.lst ((listsM cols cols.length).map tx)) := keep_ne hl2 lp
    generalize upd H2 p (.ins Z.C_Sheet dx (shF2 chg l)) = H3 at sx3 tg3 hp3 hl3 ⊢
    -- self.often
    refine ⟨.ref aa, rfl, aa, rfl, ⟨_, .inl (.inl ((ktp sx3).1 _ _ haa))⟩, fun O nO => lc_it (walk_tup (xs := us)) (fun i H' => Same H3 H' ∧ H' O = some (.lst (((as.take i).map fun a => a.often).map V.int)))
      ⟨Same.new (Same.refl H3) nO, upd_same⟩ (fun i H' _ hP => .inl (.inl (hP.1 _ _ ((ktp sx3).1 _ _ haa)))) (fun i x H4 H5 hi hP hY => ?_) (fun H4 hP => ?_)⟩
    · obtain ⟨sm4, hO4⟩ := hP
      obtain ⟨rfl, hx⟩ := hY
      obtain ⟨a, ha, fa⟩ := (fas.kT ((ktp sx3).trans (Same.kT sm4))).get hx
      obtain ⟨w1, qv, rfl, hw1, fq⟩ := fa
      obtain ⟨hia, hae⟩ := List.getElem?_eq_some_iff.mp ha
      have := has.len
      refine ⟨w1, [qv, .int a.often], rfl, .inl (.inl hw1), rfl, qv, [.int a.often], rfl, .int a.often, [], rfl, rfl, rfl, .int a.often, rfl, _, hO4, small1000 (by rw [List.length_map, List.length_map, List.length_take]; omega), Same.mut sm4 nO, ?_⟩
      rw [upd_same, List.take_succ_eq_append_getElem hia, hae, List.map_append, List.map_append]
      rfl
    obtain ⟨sm4, hO4⟩ := hP
    rw [hul, List.take_of_length_le (Nat.le_refl _)] at hO4
    have Op : O ≠ p := fun z => by
      rw [z, hp3] at nO
      cases nO
    have Ol : O ≠ l := fun z => by
      rw [z, hl3] at nO
      cases nO
    refine ⟨.ref p, rfl, p, Z.C_Sheet, dx, _, rfl, sm4 _ _ hp3, T.cl_Sheet, T.n_Sheet_often, (by show 2 < 1000; decide), ?_⟩
    rw [shF3_put]
    obtain ⟨sx5, tg5⟩ := put (f := shF3 chg l O) (into sx3 (Same.sx sm4)) (tg3.same sm4)
    have hp5 : (upd H4 p (.ins Z.C_Sheet dx (shF3 chg l O))) p = some (.ins Z.C_Sheet dx (shF3 chg l O)) := upd_same
    have hl5 : (upd H4 p (.ins Z.C_Sheet dx (shF3 chg l O))) l = some (.lst ((listsM cols cols.length).map tx)) := keep_ne (sm4 _ _ hl3) lp
    have hO5 : (upd H4 p (.ins Z.C_Sheet dx (shF3 chg l O))) O = some (.lst ((as.map fun a => a.often).map V.int)) := keep_ne hO4 Op
    generalize upd H4 p (.ins Z.C_Sheet dx (shF3 chg l O)) = H5 at sx5 tg5 hp5 hl5 hO5 ⊢
    -- self.bare
    refine ⟨.ref aa, rfl, aa, rfl, ⟨_, .inl (.inl ((ktp sx5).1 _ _ haa))⟩, fun B nB => lc_it (walk_tup (xs := us)) (fun i H' => Sx Z.Ps H5 H' ∧ TG Z.Ps H' ∧ H' B = some (.lst (((as.take i).map fun _ => (rows.length : Int)).map V.int)))
      ⟨Sx.new Sx.rfl' nB, tg5.new nB, upd_same⟩ (fun i H' _ hP => .inl (.inl ((hP.1.kt tg5) _ _ ((ktp sx5).1 _ _ haa)))) (fun i x H6 H7 hi hP hY => ?_) (fun H6 hP => ?_)⟩
    · obtain ⟨sx6, tg6, hB6⟩ := hP
      obtain ⟨rfl, hx⟩ := hY
      have kt6 : KT H H7 := (ktp sx5).trans (sx6.kT tg5)
      obtain ⟨a, ha, fa⟩ := (fas.kT kt6).get hx
      obtain ⟨w1, qv, rfl, hw1, fq⟩ := fa
      obtain ⟨hia, hae⟩ := List.getElem?_eq_some_iff.mp ha
      have haok := has.ok a (List.mem_of_getElem? ha)
      have hel : a.es.length ≤ 1000 := by
        have := haok.1.len
        omega
      have := has.len
      refine ⟨w1, [qv, .int a.often], rfl, .inl (.inl hw1), rfl, qv, [.int a.often], rfl, .int a.often, [], rfl, rfl, rfl, ?_⟩
      refine ⟨.ref t, rfl, qv, rfl, .ref t, cols, rows, none, qv, a.es, a.rc, rfl, tg6, fT.kt kt6.1, hrs, by omega, (fun o e => nomatch e), fq, haok.1, hel, fun H8 sx8 tg8 => ?_⟩
      have hB8 := sx8.lst tg6 hB6
      refine ⟨_, hB8, small1000 (by rw [List.length_map, List.length_map, List.length_take]; omega), Sx.mut (sx6.trans sx8) nB, TG.put tg8 (tg5.free nB), ?_⟩
      rw [upd_same, List.take_succ_eq_append_getElem hia, List.map_append, List.map_append]
      rfl
    obtain ⟨sx6, tg6, hB6⟩ := hP
    rw [hul, List.take_of_length_le (Nat.le_refl _)] at hB6
    have Bp : B ≠ p := fun z => by
      rw [z, hp5] at nB
      cases nB
    have hp6 := sx6 _ _ (tg5.not hp5 fun q z => nomatch z) hp5
    refine ⟨.ref p, rfl, p, Z.C_Sheet, dx, _, rfl, hp6, T.cl_Sheet, T.n_Sheet_bare, (by show 3 < 1000; decide), ?_⟩
    rw [shF4_put]
    obtain ⟨sx7, tg7⟩ := put (f := shF4 chg l O B) (into sx5 sx6) tg6
    have hp7 : (upd H6 p (.ins Z.C_Sheet dx (shF4 chg l O B))) p = some (.ins Z.C_Sheet dx (shF4 chg l O B)) := upd_same
    have hl7 : (upd H6 p (.ins Z.C_Sheet dx (shF4 chg l O B))) l = some (.lst ((listsM cols cols.length).map tx)) := keep_ne (sx6.lst tg5 hl5) lp
    have hO7 : (upd H6 p (.ins Z.C_Sheet dx (shF4 chg l O B))) O = some (.lst ((as.map fun a => a.often).map V.int)) := keep_ne (sx6.lst tg5 hO5) Op
    have hB7 : (upd H6 p (.ins Z.C_Sheet dx (shF4 chg l O B))) B = some (.lst ((as.map fun _ => (rows.length : Int)).map V.int)) := keep_ne hB6 Bp
    generalize upd H6 p (.ins Z.C_Sheet dx (shF4 chg l O B)) = H7 at sx7 tg7 hp7 hl7 hO7 hB7 ⊢
    -- self.prices
    refine ⟨.ref aa, rfl, aa, rfl, ⟨_, .inl (.inl ((ktp sx7).1 _ _ haa))⟩, fun D nD => lc_it (walk_tup (xs := us)) (fun i H' => Sx Z.Ps H7 H' ∧ TG Z.Ps H' ∧ ∃ ds : List Addr, H' D = some (.lst (ds.map V.ref)) ∧ PrDs H' cols rows (as.take i) ds)
      ⟨Sx.new Sx.rfl' nD, tg7.new nD, [], upd_same, rfl, (fun i d a e => by rw [List.getElem?_nil] at e; cases e)⟩ (fun i H' _ hP => .inl (.inl ((hP.1.kt tg7) _ _ ((ktp sx7).1 _ _ haa)))) (fun i x H8 H9 hi hP hY => ?_) (fun H8 hP => ?_)⟩
    · obtain ⟨sx8, tg8, ds, hD8, prs⟩ := hP
      obtain ⟨rfl, hx⟩ := hY
      have kt8 : KT H H9 := (ktp sx7).trans (sx8.kT tg7)
      obtain ⟨a, ha, fa⟩ := (fas.kT kt8).get hx
      obtain ⟨w1, qv, rfl, hw1, fq⟩ := fa
      obtain ⟨hia, hae⟩ := List.getElem?_eq_some_iff.mp ha
      have haok := has.ok a (List.mem_of_getElem? ha)
      have hel : a.es.length ≤ 1000 := by
        have := haok.1.len
        omega
      have := has.len
      refine ⟨w1, [qv, .int a.often], rfl, .inl (.inl hw1), rfl, qv, [.int a.often], rfl, .int a.often, [], rfl, rfl, rfl, ?_⟩
      refine ⟨.ref t, rfl, qv, rfl, .ref p, rfl, p, Z.C_Sheet, dx, _, _, rfl, sx8 _ _ (tg7.not hp7 fun q z => nomatch z) hp7, T.cl_Sheet, T.n_Sheet_lists, shF4_lists _ _ _ _, ?_⟩
      refine ⟨.ref t, cols, rows, qv, a.es, a.rc, l, listsM cols cols.length, rfl, tg8, fT.kt kt8.1, hrs, by omega, fq, haok.1, hel, sx8.lst tg7 hl7, lsok, by omega, fun d kvs H10 sx10 tg10 nd ndP hd prd => ?_⟩
      have hD10 := sx10.lst tg8 hD8
      have dD : d ≠ D := fun z => by
        rw [z, hD8] at nd
        cases nd
      have dl : ds.length = i := by
        rw [prs.1, List.length_take]
        omega
      refine ⟨_, hD10, small1000 (by rw [List.length_map]; omega), Sx.mut (sx8.trans sx10) nD, TG.put tg10 (tg7.free nD), ds ++ [d], ?_, ?_, fun j d' a' hd' ha' => ?_⟩
      · rw [upd_same, List.map_append]
        rfl
      · rw [List.length_append, dl, List.length_take, List.length_singleton]
        omega
      · by_cases hj : j < i
        · rw [List.getElem?_append_left (by omega)] at hd'
          rw [List.getElem?_take, if_pos (by omega)] at ha'
          obtain ⟨kvs', h1, h2⟩ := prs.2 j d' a' hd' (by rw [List.getElem?_take, if_pos hj]; exact ha')
          refine ⟨kvs', keep_ne (sx10 _ _ (tg8.not h1 fun q z => nomatch z) h1) (fun z => ?_), h2⟩
          rw [z, hD8] at h1
          cases h1
        · have hj2 : j < i + 1 := by
            have := (List.getElem?_eq_some_iff.mp ha').1
            rw [List.length_take] at this
            omega
          have ej : j = i := by omega
          subst ej
          rw [List.getElem?_append_right (by omega), dl, Nat.sub_self] at hd'
          cases hd'
          rw [List.getElem?_take, if_pos (by omega), ha] at ha'
          cases ha'
          exact ⟨kvs, keep_ne hd dD, prd⟩
    obtain ⟨sx8, tg8, ds, hD8, prs⟩ := hP
    rw [hul, List.take_of_length_le (Nat.le_refl _)] at prs
    have Dp : D ≠ p := fun z => by
      rw [z, hp7] at nD
      cases nD
    refine ⟨.ref p, rfl, p, Z.C_Sheet, dx, _, rfl, sx8 _ _ (tg7.not hp7 fun q z => nomatch z) hp7, T.cl_Sheet, T.n_Sheet_prices, (by show 4 < 1000; decide), ?_⟩
    rw [shF5_put]
    obtain ⟨sx9, tg9⟩ := put (f := shF5 chg l O B D) (into sx7 sx8) tg8
    refine q _ sx9 tg9 ⟨dx, l, O, B, D, ds, upd_same, keep_ne (sx8.lst tg7 hl7) lp, keep_ne (sx8.lst tg7 hO7) Op, keep_ne (sx8.lst tg7 hB7) Bp, keep_ne hD8 Dp, prs.1, fun i d a hd ha => ?_⟩
    obtain ⟨kvs, h1, h2⟩ := prs.2 i d a hd ha
    refine ⟨kvs, keep_ne h1 (fun z => ?_), h2⟩
    have hp8 := sx8 _ _ (tg7.not hp7 fun q z => nomatch z) hp7
    rw [z, hp8] at h1
    cases h1

/-! ### Sheet.asked -/
def spAsked (K : PySem.W.Frag) (Z : Ad) : Sp := fun vs H Q _ => ∃ (p na : Addr) (cols : List Nat) (rows : List (List Int)) (as : List Ask) (chg : Int) (ch : List (List Nat)), vs = [.ref p, .ref na] ∧ SheetAt Z.C_Sheet cols rows as chg H p ∧ SqA K H na (ch.map tx) ∧ (∀ o ∈ ch, o ∈ listsM cols cols.length) ∧ ch.length ≤ 300000 ∧ AsksOk cols as ∧ rows.length ≤ 100 ∧
  ∀ H' : Hp, Same H H' → Q (.int (askedM cols rows ch as)) H'
theorem ok_asked (T : Tx K mg Z) : FnOk P w K mg base CX0 1 Z.f_Sheet_asked Z.d_Sheet_asked ["self", "near"] (spAsked K Z) := by
  refine T.F_Sheet_asked.ok sc_Sheet_asked (fun vs H Q E h => ?_) (fun cdv A outer s H vs Q E hr h => ?_)
  · obtain ⟨p, na, cols, rows, as, chg, ch, rfl, _⟩ := h
    rfl
  · obtain ⟨p, na, cols, rows, as, chg, ch, rfl, hS, hna, hch, hcn, has, hrn, q⟩ := h
    have line : (300001 : Nat) < sizeLine := by rw [sizeLine_eq]; decide
    obtain ⟨dx, l, o, b, qd, ds, hp, hl, ho, hb, hqd, prs⟩ := hS
    have hal := has.len
    refine ⟨_, (pss_cons (ps_set (i := 2) sc_Sheet_asked.nd rfl (.inl rfl) pe_int)
      (pss_cons (ps_for PassesOwn.never rfl (pi_zip3 K (by rfl) T.m_zip (pa_cons (fldK K (pv 0) rfl) (pa_cons (fldK K (pv 0) rfl) (pa_cons (fldK K (pv 0) rfl) pa_nil)))) (pgT K (n := 3) (pgs_cons (pg_name (i := 3) sc_Sheet_asked.nd rfl (.inl rfl)) (pgs_cons (pg_name (i := 4) sc_Sheet_asked.nd rfl (.inl rfl)) (pgs_cons (pg_name (i := 5) sc_Sheet_asked.nd rfl (.inr rfl)) pgs_nil)))) (pss_one (ps_aug (i := 2) sc_Sheet_asked.nd rfl (.inl rfl) (pe_op op_mul (pv 3) (pe_callB (minK K) (by rfl) T.m_min (by decide +kernel) (pa_cons (pe_op op_cat (pe_lst (pa_cons (pv 4) pa_nil)) (pe_lc (own := [("one", 6)]) (tt := tYes) (by rfl) sc_Sheet_asked.nd (pi_seq K (pv 1)) (blkOk_by (own := [("one", 6)]) (by kernel_rfl)) (fun _ _ _ _ _ => (pg_name (i := 6) sc_Sheet_asked.nd rfl (.inl rfl))) (fun _ _ _ _ _ => pts_nil) (fun _ _ _ _ _ => (pe_dget (hu_of hr) (pv 5) (pv 6) (fun _ _ => rfl))))) pa_nil))) ip_add)))
      (pss_one (ps_ret (pv 2))))), ?_⟩
    refine ⟨.ref p, rfl, p, Z.C_Sheet, dx, _, _, rfl, hp, T.cl_Sheet, T.n_Sheet_often, shF5_often _ _ _ _ _, .ref p, rfl, p, Z.C_Sheet, dx, _, _, rfl, hp, T.cl_Sheet, T.n_Sheet_bare, shF5_bare _ _ _ _ _, .ref p, rfl, p, Z.C_Sheet, dx, _, _, rfl, hp, T.cl_Sheet, T.n_Sheet_prices, shF5_prices _ _ _ _ _, ?_⟩
    refine ⟨o, b, qd, _, _, _, rfl, .inl (.inl ho), .inl (.inl hb), .inl (.inl hqd), for_it (walk_zip3 (xs := (as.map fun a => a.often).map V.int) (ys := (as.map fun _ => (rows.length : Int)).map V.int) (zs := ds.map V.ref) (by rw [List.length_map, List.length_map, List.length_map, List.length_map]) (by rw [List.length_map, List.length_map, List.length_map, prs.1])) (fun i σ H' => ∃ y3 y4 y5 : Option V, σ = [some (.ref p), some (.ref na), some (.int ((as.take i).map fun a => a.often * priceOfM cols rows ch a.es a.rc).sum), y3, y4, y5, none] ∧ Same H H')
      ⟨none, none, none, rfl, Same.refl H⟩ (fun i σ H' _ hP => ?_) (fun i x σ H3 H4 hi hP hY => ?_) (fun σ H3 hP => ?_)⟩
    · obtain ⟨_, _, _, _, sm⟩ := hP
      exact ⟨.inl (.inl (sm _ _ ho)), .inl (.inl (sm _ _ hb)), .inl (.inl (sm _ _ hqd))⟩
    · obtain ⟨y3, y4, y5, rfl, sm3⟩ := hP
      obtain ⟨T3, x, y, z, rfl, nT, rfl, hx, hy, hz⟩ := hY
      rw [List.getElem?_map, List.getElem?_map] at hx
      obtain ⟨_, hx1, rfl⟩ := Option.map_eq_some_iff.mp hx
      obtain ⟨a, ha, rfl⟩ := Option.map_eq_some_iff.mp hx1
      rw [List.getElem?_map, List.getElem?_map, ha] at hy
      obtain rfl : V.int (rows.length : Int) = y := Option.some.inj hy
      rw [List.getElem?_map] at hz
      obtain ⟨d, hd, rfl⟩ := Option.map_eq_some_iff.mp hz
      obtain ⟨kvs, hkd, hpr⟩ := prs.2 i d a hd ha
      obtain ⟨hia, hae⟩ := List.getElem?_eq_some_iff.mp ha
      have haok := has.ok a (List.mem_of_getElem? ha)
      have ho1 := haok.2.1
      have ho2 := haok.2.2
      have sm4 : Same H (upd H3 T3 (.tup [.int a.often, .int rows.length, .ref d])) := Same.new sm3 nT
      have hT4 : (upd H3 T3 (.tup [V.int a.often, .int rows.length, .ref d])) T3 = some (.tup [.int a.often, .int rows.length, .ref d]) := upd_same
      generalize upd H3 T3 (.tup [V.int a.often, .int rows.length, .ref d]) = H4 at sm4 hT4 ⊢
      refine ⟨T3, [.int a.often, .int rows.length, .ref d], rfl, .inl (.inl hT4), rfl, .int a.often, [.int rows.length, .ref d], rfl, .int rows.length, [.ref d], rfl, .ref d, [], rfl, rfl, ?_⟩
      refine ⟨_, rfl, .int a.often, rfl, .int rows.length, rfl, (by show 1 ≤ sizeLine; decide), fun L nL => ?_⟩
      have sm5 : Same H (upd H4 L (.lst [V.int rows.length])) := Same.new sm4 nL
      have hL5 : (upd H4 L (.lst [V.int rows.length])) L = some (.lst [V.int rows.length]) := upd_same
      generalize upd H4 L (.lst [V.int rows.length]) = H5 at sm5 hL5 ⊢
      refine ⟨.ref na, rfl, na, ch.map tx, rfl, hna.same sm5, fun J G w hG D nD => lc_it w (fun j H' => Same H5 H' ∧ H' D = some (.lst (((ch.take j).map fun o => priceM cols rows o a.es a.rc).map V.int)))
        ⟨Same.new (Same.refl H5) nD, upd_same⟩ (fun j H' _ hP => hG H' hP.1) (fun j x H6 H7 hj hP hY => ?_) (fun H6 hP => ?_)⟩
      · obtain ⟨sm6, hD6⟩ := hP
        obtain ⟨rfl, hx⟩ := hY
        rw [List.getElem?_map] at hx
        obtain ⟨one, hone, rfl⟩ := Option.map_eq_some_iff.mp hx
        obtain ⟨hjo, hoe⟩ := List.getElem?_eq_some_iff.mp hone
        refine ⟨rfl, .ref d, rfl, tx one, rfl, d, _, rfl, by rw [← hpr one (hch one (List.mem_of_getElem? hone))]; exact DGet.k (k := Sum.inr (txS one)) (sm6 _ _ (sm5 _ _ hkd)), _, hD6, ?_, Same.mut sm6 nD, ?_⟩
        · rw [List.length_map, List.length_map, List.length_take]
          omega
        · rw [upd_same, List.take_succ_eq_append_getElem hjo, hoe, List.map_append, List.map_append]
          rfl
      · obtain ⟨sm6, hD6⟩ := hP
        rw [List.length_map, List.take_of_length_le (Nat.le_refl _)] at hD6
        have hL6 := sm6 _ _ hL5
        refine ⟨L, D, _, _, rfl, rfl, hL6, hD6, ?_, fun M nM => ?_⟩
        · rw [List.length_map, List.length_map, List.length_singleton]
          omega
        · refine ⟨M, (rows.length : Int), ch.map fun o => priceM cols rows o a.es a.rc, rfl, .inl (.inl upd_same), ?_⟩
          obtain ⟨p1, p2⟩ := price_bound (cols := cols) (ch := ch) (es := a.es) (rc := a.rc) hrn
          refine ⟨a.often, _, rfl, rfl, .inl ⟨by omega, by omega⟩, _, _, rfl, rfl, some (.int a.often), some (.int rows.length), some (.ref d), ?_, Same.new (Same.trans sm5 sm6) nM⟩
          rw [sum_snoc _ _ i hia, hae]
          rfl
    · obtain ⟨y3, y4, y5, rfl, sm3⟩ := hP
      rw [List.length_map, List.length_map, List.take_of_length_le (Nat.le_refl _)]
      exact ⟨_, rfl, q H3 sm3⟩

/-! ### Sheet.most_saving -/
theorem shF5_no_asked (chg : Int) (l o b q : Addr) : (shF5 chg l o b q).lookup ("asked" : Str) = none := by kernel_rfl
/-- the list one saves most beside the choice, with fewest letters -/
def SavesM (cols : List Nat) (rows : List (List Int)) (as : List Ask) (ch : List (List Nat)) (o o' : List Nat) : Prop := askedM cols rows (ch ++ [o]) as < askedM cols rows (ch ++ [o']) as ∨ (askedM cols rows (ch ++ [o]) as = askedM cols rows (ch ++ [o']) as ∧ o.length ≤ o'.length)
theorem SavesM.refl {cols : List Nat} {rows : List (List Int)} {as : List Ask} {ch : List (List Nat)} {o : List Nat} : SavesM cols rows as ch o o := .inr ⟨rfl, Nat.le_refl _⟩
def spMost (K : PySem.W.Frag) (Z : Ad) : Sp := fun vs H Q _ => ∃ (p ca la : Addr) (cols : List Nat) (rows : List (List Int)) (as : List Ask) (chg : Int) (ch ls : List (List Nat)), vs = [.ref p, .ref ca, .ref la] ∧ SheetAt Z.C_Sheet cols rows as chg H p ∧ H ca = some (.tup (ch.map tx)) ∧ SqL K H la (ls.map tx) ∧ ls ≠ [] ∧ (∀ o ∈ ch, o ∈ listsM cols cols.length) ∧ (∀ o ∈ ls, o ∈ listsM cols cols.length) ∧ ch.length ≤ 1000 ∧ AsksOk cols as ∧ rows.length ≤ 100 ∧ cols.length ≤ 6 ∧ LamX.TabS H Z.P_Sheet_most_saving (lamQ "Sheet.most_saving") ∧
  ∀ (o : List Nat) (H' : Hp), o ∈ ls → (∀ o' ∈ ls, SavesM cols rows as ch o o') → Sx [Z.P_Sheet_most_saving] H H' → LamX.TabS H' Z.P_Sheet_most_saving (lamQ "Sheet.most_saving") → Q (tx o) H'
theorem ok_most (T : Tx K mg Z) (TB : Tb base mg Z) : FnOk P w K mg base CX0 5 Z.f_Sheet_most_saving Z.d_Sheet_most_saving ["self", "choice", "lists"] (spMost K Z) := by
  have G_Sheet_asked : FnOk P w K mg base CX0 1 Z.f_Sheet_asked Z.d_Sheet_asked ["self", "near"] (spAsked K Z) := ok_asked T
  refine T.C_Sheet_most_saving.ok sc_Sheet_most_saving (fun vs H Q E h => ?_) (fun A outer s H vs Q E hr h => ?_)
  · obtain ⟨p, ca, la, cols, rows, as, chg, ch, ls, rfl, _⟩ := h
    rfl
  · obtain ⟨p, ca, la, cols, rows, as, chg, ch, ls, rfl, hS, hca, hla, hne, hch, hls, hcl, has, hrn, hcn, tab, q⟩ := h
    refine ⟨_, (pss_one (ps_ret (pe_minLam (N := ["one", "choice", "self"]) (fr := ["choice", "self"]) (js := [1, 0]) (k := 1) K (by rfl) (hr.mono (by omega)) (by rfl) T.m_min (TB.t_Sheet_most_saving) rfl (lamT_by (by kernel_rfl) (by kernel_rfl) (by kernel_rfl) (by rfl) (fun _ _ _ _ => rfl)) rfl (ltTK K hr.in1.units0) (pa_cons (pv 2) pa_nil) (fun _ _ _ _ _ hr => (pe_tup (pa_cons (pe_meth (pv 2) T.cl_Sheet T.m_Sheet_asked G_Sheet_asked (hr.mono (by omega)) T.b_Sheet_asked .nil pass0 (pa_cons (pe_tup (paStarK K (pv 1) (pa_cons (pv 0) pa_nil))) pa_nil)) (pa_cons (pe_callB call_len_str (by rfl) T.m_len (by decide +kernel) (pa_cons (pv 0) pa_nil)) pa_nil))))))), ?_⟩
    have line : (100 : Nat) * 46656 < sizeLine := by rw [sizeLine_eq]; decide
    obtain ⟨o0, rest, els⟩ := List.exists_cons_of_ne_nil hne
    refine ⟨.ref la, rfl, tab, la, ls.map tx, tx o0, rfl, hla, by rw [els]; rfl, fun c' H2 sx2 tab2 hco => ?_⟩
    have sxl : Sx [Z.P_Sheet_most_saving] H H2 := fun b o n e => sx2 b o (fun z => n (List.mem_singleton.mpr z)) e
    have tgl : TG [Z.P_Sheet_most_saving] H := fun b hb => by
      obtain ⟨ps, h1, h2, _⟩ := tab
      rw [List.mem_singleton.mp hb]
      exact ⟨ps, h1, h2⟩
    have hS2 := hS.ext (sxl.ext tgl)
    have hca2 := (sxl.kt tgl) _ _ hca
    have hla2 := sxl.seqL tgl hla
    -- what the lambda gives for a list
    have key : ∀ (o : List Nat) (H3 : Hp) (R : VK), o ∈ ls → Same H2 H3 → (∀ t H4, Same H3 H4 → H4 t = some (.tup [.int (askedM cols rows (ch ++ [o]) as), .int o.length]) → R (.ref t) H4) →
        tTup (tCons (tMeth Z.C_Sheet "asked" (spAsked K Z) [] E0 (tVar 2) (tCons (tTup (StX.tStar K (tVar 1) (tCons (tVar 0) tNil))) tNil)) (tCons (tCB (fun xs H Q => ∃ z : Str, xs = [V.str z] ∧ z.length ≤ sizeLine ∧ Q (V.int (z.length : Nat)) H) (tCons (tVar 0) tNil)) tNil)) [some (tx o), some (.ref ca), some (.ref p)] H3 R := fun o H3 R ho sm k => by
      obtain ⟨dx, l, oo, b, qd, ds, hp, more⟩ := id (hS2.ext fun b o e _ => sm b o e)
      have hol : o.length ≤ 6 := Nat.le_trans (lists_mem.mp (hls o ho)).2.1 hcn
      refine ⟨.ref p, rfl, p, dx, _, rfl, hp, shF5_no_asked _ _ _ _ _, .ref ca, rfl, ca, ch.map tx, rfl, .inl (.inl (.inl (sm _ _ hca2))), tx o, rfl, ?_, fun u nu => ?_⟩
      · rw [List.length_append, List.length_map]
        show ch.length + 1 ≤ sizeLine
        omega
      refine ⟨p, u, cols, rows, as, chg, ch ++ [o], rfl, ⟨dx, l, oo, b, qd, ds, keep_new hp nu, ?_⟩, .inr (.inl (.inl ?_)), fun x hx => ?_, ?_, has, hrn, fun H4 sm4 => ?_⟩
      · obtain ⟨h1, h2, h3, h4, h5⟩ := more
        exact ⟨keep_new h1 nu, keep_new h2 nu, keep_new h3 nu, keep_new h4 nu, h5.ext fun b o e _ => keep_new e nu⟩
      · rw [upd_same, List.map_append]
        rfl
      · rcases List.mem_append.mp hx with z | z
        · exact hch x z
        · rw [List.mem_singleton.mp z]
          exact hls o ho
      · rw [List.length_append, List.length_singleton]
        omega
      · refine ⟨tx o, rfl, _, rfl, Nat.le_of_lt (small1000 (show o.length ≤ 1000 by omega)), (by show 2 ≤ sizeLine; decide), fun t nt => k t _ (Same.new (Same.trans (Same.new (Same.refl H3) nu) sm4) nt) upd_same⟩
    refine ⟨fun i b k H3 => ∃ (o : List Nat) (t : Addr), b = tx o ∧ k = .ref t ∧ o ∈ ls ∧ H3 t = some (.tup [.int (askedM cols rows (ch ++ [o]) as), .int o.length]) ∧ (∀ o' ∈ ls.take i, SavesM cols rows as ch o o') ∧ Same H2 H3, fun i b k H3 hW => ?_, hla2, ?_, fun i x b k H3 hx hW => ?_, fun b k H3 hW => ?_⟩
    · obtain ⟨_, _, _, _, _, _, _, sm⟩ := hW
      exact ⟨sm.seq hla2, sm _ _ hco⟩
    · refine key o0 H2 _ (by rw [els]; exact List.mem_cons_self) (Same.refl H2) fun t H4 sm4 ht => ⟨o0, t, rfl, rfl, by rw [els]; exact List.mem_cons_self, ht, fun o' ho' => ?_, sm4⟩
      rw [els] at ho'
      have e : o' = o0 := by simpa using ho'
      rw [e]
      exact .refl
    · obtain ⟨o, t, rfl, rfl, ho, ht, hb, sm⟩ := hW
      rw [List.getElem?_map] at hx
      obtain ⟨o1, ho1, rfl⟩ := Option.map_eq_some_iff.mp hx
      obtain ⟨hi, he⟩ := List.getElem?_eq_some_iff.mp ho1
      have min1 := List.mem_of_getElem? ho1
      refine key o1 H3 _ min1 sm fun t1 H4 sm4 ht1 => ⟨t1, t, [askedM cols rows (ch ++ [o1]) as, o1.length], [askedM cols rows (ch ++ [o]) as, o.length], rfl, rfl, .inl (.inl ht1), .inl (.inl (sm4 _ _ ht)), _, rfl, ?_⟩
      have sm5 := Same.trans sm sm4
      have upto : ∀ o', o' ∈ ls.take (i + 1) → o' ∈ ls.take i ∨ o' = o1 := fun o' h => by
        rw [List.take_succ_eq_append_getElem hi, he] at h
        exact (List.mem_append.mp h).imp id List.mem_singleton.mp
      rw [HT.lexLt_cons]
      by_cases e1 : askedM cols rows (ch ++ [o1]) as = askedM cols rows (ch ++ [o]) as
      · rw [if_pos e1, HT.lexLt_cons]
        by_cases e2 : (o1.length : Int) = o.length
        · rw [if_pos e2, HT.lexLt_nil_nil]
          refine ⟨o, t, rfl, rfl, ho, sm4 _ _ ht, fun o' h => ?_, sm5⟩
          rcases upto o' h with z | z
          · exact hb o' z
          · rw [z]
            exact .inr ⟨e1.symm, by omega⟩
        · rw [if_neg e2]
          by_cases e3 : (o1.length : Int) < o.length
          · rw [decide_eq_true e3]
            refine ⟨o1, t1, rfl, rfl, min1, ht1, fun o' h => ?_, sm5⟩
            rcases upto o' h with z | z
            · rcases hb o' z with q1 | ⟨q1, q2⟩
              · exact .inl (by omega)
              · exact .inr ⟨by omega, by omega⟩
            · rw [z]
              exact .refl
          · rw [decide_eq_false e3]
            refine ⟨o, t, rfl, rfl, ho, sm4 _ _ ht, fun o' h => ?_, sm5⟩
            rcases upto o' h with z | z
            · exact hb o' z
            · rw [z]
              exact .inr ⟨e1.symm, by omega⟩
      · rw [if_neg e1]
        by_cases e3 : askedM cols rows (ch ++ [o1]) as < askedM cols rows (ch ++ [o]) as
        · rw [decide_eq_true e3]
          refine ⟨o1, t1, rfl, rfl, min1, ht1, fun o' h => ?_, sm5⟩
          rcases upto o' h with z | z
          · rcases hb o' z with q1 | ⟨q1, q2⟩
            · exact .inl (by omega)
            · exact .inl (by omega)
          · rw [z]
            exact .refl
        · rw [decide_eq_false e3]
          refine ⟨o, t, rfl, rfl, ho, sm4 _ _ ht, fun o' h => ?_, sm5⟩
          rcases upto o' h with z | z
          · exact hb o' z
          · rw [z]
            exact .inl (by omega)
    · obtain ⟨o, t, rfl, rfl, ho, ht, hb, sm⟩ := hW
      rw [List.length_map, List.take_of_length_le (Nat.le_refl _)] at hb
      obtain ⟨ps, h1, h2, h3⟩ := tab2
      exact q o H3 ho hb (sxl.trans (Same.sx sm)) ⟨ps, sm _ _ h1, h2, fun pos cv e => let ⟨c, e1, e2⟩ := h3 pos cv e; ⟨c, e1, sm _ _ e2⟩⟩

/-! ### left_of -/
def spLeft (K : PySem.W.Frag) (Z : Ad) : Sp := fun vs H Q _ => ∃ (room : Int) (ia : Addr) (ins : List (List Nat)), vs = [.int room, .ref ia] ∧ TG Z.Ps H ∧ H ia = some (.tup (ins.map tx)) ∧ ins.length ≤ 1000 ∧ (∀ o ∈ ins, o.length ≤ 1000) ∧
  ∀ (H' : Hp), Sx Z.Ps H H' → TG Z.Ps H' → Q (.int (room - (lettersM ins : Int))) H'
theorem letters_int (ins : List (List Nat)) : (ins.map fun o => (o.length : Int)).sum = (lettersM ins : Int) := by
  induction ins with
  | nil => rfl
  | cons o ins ih =>
    have e : lettersM (o :: ins) = o.length + lettersM ins := rfl
    rw [List.map_cons, List.sum_cons, ih, e]
    omega
theorem ok_left (T : Tx K mg Z) (TB : Tb base mg Z) : FnOk P w K mg base CX0 4 Z.f_left_of Z.d_left_of ["room", "inside"] (spLeft K Z) := by
  refine T.C_left_of.ok sc_left_of (fun vs H Q E h => ?_) (fun A outer s H vs Q E hr h => ?_)
  · obtain ⟨room, ia, ins, rfl, _⟩ := h
    rfl
  · obtain ⟨room, ia, ins, rfl, tg, hia, hil, hol, q⟩ := h
    refine ⟨_, (pss_one (ps_ret (pe_op op_sub (pv 0) (pe_sumC (own := [("one", 2)]) (k := 0) hr (by rfl) T.m_sum (TB.t_left_of) rfl (gxS_by (blkOk_by (own := [("one", 2)]) (by kernel_rfl)) (by kernel_rfl)) sc_left_of.nd (by rfl) (piT K (pv 1)) (fun _ _ _ _ _ _ _ _ => (pg_name (i := 2) sc_left_of.nd rfl (.inl rfl))) (fun _ _ _ _ _ _ _ _ hr => (pe_callB call_len_str (by rfl) T.m_len (by decide +kernel) (pa_cons (pv 2) pa_nil))))))), ?_⟩
    have hP : Z.P_left_of ∈ Z.Ps := by simp
    have hl : (ins.map fun o => (o.length : Int)).length = (ins.map tx).length := by rw [List.length_map, List.length_map]
    refine ⟨.int room, rfl, .ref ia, rfl, ia, rfl, ⟨_, .inl (.inl hia)⟩, tg _ hP, fun H2 hT => ?_⟩
    have tg2 := Tabbed.tg tg hT
    have sx2 := Tabbed.sx hP hT
    have hia2 := (sx2.kt tg) _ _ hia
    have hfit : ∀ j, j < (ins.map fun o => (o.length : Int)).length → InLong (atL (ins.map fun o => (o.length : Int)) j) ∧ InLong (preSum (atL (ins.map fun o => (o.length : Int))) (j + 1)) := fit_of (by rw [List.length_map]; omega) fun x hx => by
      obtain ⟨o, ho, rfl⟩ := List.mem_map.mp hx
      have := hol o ho
      omega
    rw [hl] at hfit
    refine ⟨(ins.map tx).length, atL (ins.map fun o => (o.length : Int)), fun i H' => i ≤ (ins.map tx).length ∧ (H' = H2), hfit, ⟨Nat.zero_le _, rfl⟩, sum_step (walk_tup (xs := ins.map tx)) (fun i H' _ e => ?_) (fun i x H3 H4 hi e hY => ?_), fun H3 e0 => ?_⟩
    · rw [e]
      exact .inl (.inl hia2)
    · obtain ⟨rfl, hx⟩ := hY
      rw [List.getElem?_map] at hx
      obtain ⟨o, ho, rfl⟩ := Option.map_eq_some_iff.mp hx
      refine ⟨rfl, tx o, rfl, _, rfl, Nat.le_of_lt (small1000 (show o.length ≤ 1000 from hol o (List.mem_of_getElem? ho))), ?_, hi, e⟩
      rw [at_map ho]
      rfl
    · obtain ⟨_, e⟩ := e0
      refine ⟨room, _, rfl, rfl, ?_⟩
      rw [← hl, pre_take _ _ (Nat.le_refl _), List.take_length, e]
      show Q (.int (room - (ins.map fun o => (o.length : Int)).sum)) H2
      rw [letters_int]
      exact q H2 sx2 tg2

/-! ### Sheet.outdoes -/
def outB (cols : List Nat) (rows : List (List Int)) (as : List Ask) (one other : List Nat) : Bool := decide (one.length ≤ other.length) && as.all fun a => decide (priceM cols rows one a.es a.rc ≤ priceM cols rows other a.es a.rc)
theorem outB_iff {cols : List Nat} {rows : List (List Int)} {as : List Ask} {one other : List Nat} : outB cols rows as one other = true ↔ Outdoes cols rows as one other := by
  unfold outB Outdoes
  rw [Bool.and_eq_true, decide_eq_true_eq, List.all_eq_true]
  simp
def spOutdoes (K : PySem.W.Frag) (Z : Ad) : Sp := fun vs H Q _ => ∃ (p : Addr) (cols : List Nat) (rows : List (List Int)) (as : List Ask) (chg : Int) (one other : List Nat), vs = [.ref p, tx one, tx other] ∧ TG Z.Ps H ∧ SheetAt Z.C_Sheet cols rows as chg H p ∧ one ∈ listsM cols cols.length ∧ other ∈ listsM cols cols.length ∧ cols.length ≤ 6 ∧
  ∀ (H' : Hp), Sx Z.Ps H H' → TG Z.Ps H' → Q (.bl (outB cols rows as one other)) H'
theorem ok_outdoes (T : Tx K mg Z) (TB : Tb base mg Z) : FnOk P w K mg base CX0 4 Z.f_Sheet_outdoes Z.d_Sheet_outdoes ["self", "one", "other"] (spOutdoes K Z) := by
  refine T.C_Sheet_outdoes.ok sc_Sheet_outdoes (fun vs H Q E h => ?_) (fun A outer s H vs Q E hr h => ?_)
  · obtain ⟨p, cols, rows, as, chg, one, other, rfl, _⟩ := h
    rfl
  · obtain ⟨p, cols, rows, as, chg, one, other, rfl, tg, hS, h1, h2, hcn, q⟩ := h
    have l1 := (lists_mem.mp h1).2.1
    have l2 := (lists_mem.mp h2).2.1
    refine ⟨_, (pss_cons (ps_if (pt_cmpR op_gt (pe_callB call_len_str (by rfl) T.m_len (by decide +kernel) (pa_cons (pv 1) pa_nil)) (pe_callB call_len_str (by rfl) T.m_len (by decide +kernel) (pa_cons (pv 2) pa_nil)) (nomark _)) (pss_one (ps_ret pe_bl)) pss_nil)
      (pss_one (ps_ret (pe_allC (own := [("prices", 3)]) (k := 0) (hr.mono (by omega)) (by rfl) T.m_all (TB.t_Sheet_outdoes) rfl (gxS_by (blkOk_by (own := [("prices", 3)]) (by kernel_rfl)) (by kernel_rfl)) sc_Sheet_outdoes.nd (by rfl) (piL K (fldK K (pv 0) rfl)) (fun _ _ _ _ _ _ _ _ => (pg_name (i := 3) sc_Sheet_outdoes.nd rfl (.inl rfl))) (fun _ _ _ _ _ _ _ _ hr => (pe_cmpR op_le (pe_dget (hu_of hr) (pv 3) (pv 1) (fun _ _ => rfl)) (pe_dget (hu_of hr) (pv 3) (pv 2) (fun _ _ => rfl)) (nomark _))))))), ?_⟩
    have hP : Z.P_Sheet_outdoes ∈ Z.Ps := by simp
    refine ⟨tx one, rfl, _, rfl, Nat.le_of_lt (small1000 (show one.length ≤ 1000 by omega)), tx other, rfl, _, rfl, Nat.le_of_lt (small1000 (show other.length ≤ 1000 by omega)), _, _, rfl, rfl, _, rfl, ite2 (fun e => ?_) (fun e => ?_)⟩
    · have e1 : ((other.length : Nat) : Int) < (one.length : Nat) := of_decide_eq_true e
      have hq : outB cols rows as one other = false := by
        unfold outB
        rw [decide_eq_false (by omega : ¬ one.length ≤ other.length)]
        rfl
      rw [hq] at q
      exact q H Sx.rfl' tg
    · have e1 : ¬ ((other.length : Nat) : Int) < (one.length : Nat) := fun z => e (decide_eq_true z)
      have hq : outB cols rows as one other = as.all fun a => decide (priceM cols rows one a.es a.rc ≤ priceM cols rows other a.es a.rc) := by
        unfold outB
        rw [decide_eq_true (by omega : one.length ≤ other.length)]
        rfl
      rw [hq] at q
      obtain ⟨dx, l, o, b, qd, ds, hp, hl, ho, hb, hqd, prs⟩ := id hS
      refine ⟨.ref p, rfl, p, Z.C_Sheet, dx, _, _, rfl, hp, T.cl_Sheet, T.n_Sheet_prices, shF5_prices _ _ _ _ _, qd, rfl, ⟨_, .inl (.inl hqd)⟩, tg _ hP, fun H2 hT => ?_⟩
      have tg2 := Tabbed.tg tg hT
      have sx2 := Tabbed.sx hP hT
      have hqd2 := sx2.lst tg hqd
      have prs2 := prs.ext (sx2.ext tg)
      let f : Nat → Bool := fun i => match as[i]? with
        | some a => decide (priceM cols rows one a.es a.rc ≤ priceM cols rows other a.es a.rc)
        | none => true
      refine ⟨(ds.map V.ref).length, f, fun i H' => i ≤ (ds.map V.ref).length ∧ H' = H2, ⟨Nat.zero_le _, rfl⟩, gx_step (walk_list (xs := ds.map V.ref)) (fun i H' _ e => ?_) (fun i x H3 H4 hi e hY => ?_), fun H3 e hall => ?_, fun j H3 hj hs hal e => ?_⟩
      · rw [e]
        exact .inl (.inl hqd2)
      · obtain ⟨rfl, hx⟩ := hY
        rw [e] at *
        rw [List.getElem?_map] at hx
        obtain ⟨d, hd, rfl⟩ := Option.map_eq_some_iff.mp hx
        have hda : i < as.length := by
          have := (List.getElem?_eq_some_iff.mp hd).1
          have := prs.1
          omega
        obtain ⟨kvs, hkd, hpr⟩ := prs2.2 i d as[i] hd (List.getElem?_eq_getElem hda)
        refine ⟨rfl, .ref d, rfl, tx one, rfl, d, _, rfl, by rw [← hpr one h1]; exact DGet.k (k := Sum.inr (txS one)) hkd, .ref d, rfl, tx other, rfl, d, _, rfl, by rw [← hpr other h2]; exact DGet.k (k := Sum.inr (txS other)) hkd, _, _, rfl, rfl, ?_, hi, rfl⟩
        show V.bl _ = V.bl (f i)
        simp only [f, List.getElem?_eq_getElem hda]
      · have hq2 : (as.all fun a => decide (priceM cols rows one a.es a.rc ≤ priceM cols rows other a.es a.rc)) = true := List.all_eq_true.mpr fun a ha => by
          obtain ⟨i, hi, rfl⟩ := List.getElem_of_mem ha
          have := hall i (by rw [List.length_map, prs.1]; exact hi)
          simp only [f, List.getElem?_eq_getElem hi] at this
          exact this
        rw [hq2] at q
        rw [e.2]
        exact q H2 sx2 tg2
      · have hja : j < as.length := by
          rw [List.length_map, prs.1] at hj
          exact hj
        have hq2 : (as.all fun a => decide (priceM cols rows one a.es a.rc ≤ priceM cols rows other a.es a.rc)) = false := by
          refine eq_false_of_ne_true fun z => ?_
          have := List.all_eq_true.mp z as[j] (List.getElem_mem hja)
          simp only [f, List.getElem?_eq_getElem hja] at hs
          rw [this] at hs
          cases hs
        rw [hq2] at q
        rw [e.2]
        exact q H2 sx2 tg2
/-! ### Sheet.strength -/
def strengthM (cols : List Nat) (rows : List (List Int)) (as : List Ask) (one : List Nat) : Int := (as.map fun a => priceM cols rows one a.es a.rc).sum
def spStrength (K : PySem.W.Frag) (Z : Ad) : Sp := fun vs H Q _ => ∃ (p : Addr) (cols : List Nat) (rows : List (List Int)) (as : List Ask) (chg : Int) (one : List Nat), vs = [.ref p, tx one] ∧ TG Z.Ps H ∧ SheetAt Z.C_Sheet cols rows as chg H p ∧ one ∈ listsM cols cols.length ∧ cols.length ≤ 6 ∧ rows.length ≤ 100 ∧ as.length ≤ 5 ∧
  ∀ (H' : Hp) (t : Addr), Sx Z.Ps H H' → TG Z.Ps H' → H' t = none → Q (.ref t) (upd H' t (.tup [.int one.length, .int (strengthM cols rows as one)]))
theorem ok_strength (T : Tx K mg Z) (TB : Tb base mg Z) : FnOk P w K mg base CX0 4 Z.f_Sheet_strength Z.d_Sheet_strength ["self", "one"] (spStrength K Z) := by
  refine T.C_Sheet_strength.ok sc_Sheet_strength (fun vs H Q E h => ?_) (fun A outer s H vs Q E hr h => ?_)
  · obtain ⟨p, cols, rows, as, chg, one, rfl, _⟩ := h
    rfl
  · obtain ⟨p, cols, rows, as, chg, one, rfl, tg, hS, h1, hcn, hrn, hal, q⟩ := h
    have l1 := (lists_mem.mp h1).2.1
    refine ⟨_, (pss_one (ps_ret (pe_tup (pa_cons (pe_callB call_len_str (by rfl) T.m_len (by decide +kernel) (pa_cons (pv 1) pa_nil)) (pa_cons (pe_sumC (own := [("prices", 2)]) (k := 0) hr (by rfl) T.m_sum (TB.t_Sheet_strength) rfl (gxS_by (blkOk_by (own := [("prices", 2)]) (by kernel_rfl)) (by kernel_rfl)) sc_Sheet_strength.nd (by rfl) (piL K (fldK K (pv 0) rfl)) (fun _ _ _ _ _ _ _ _ => (pg_name (i := 2) sc_Sheet_strength.nd rfl (.inl rfl))) (fun _ _ _ _ _ _ _ _ hr => (pe_dget (hu_of hr) (pv 2) (pv 1) (fun _ _ => rfl)))) pa_nil))))), ?_⟩
    have hP : Z.P_Sheet_strength ∈ Z.Ps := by simp
    obtain ⟨dx, l, o, b, qd, ds, hp, hl, ho, hb, hqd, prs⟩ := id hS
    obtain ⟨ps, hps⟩ : ∃ ps : List Int, as.map (fun a => priceM cols rows one a.es a.rc) = ps := ⟨_, rfl⟩
    have hsum : strengthM cols rows as one = ps.sum := by
      rw [← hps]
      rfl
    have hpl : ps.length = as.length := by rw [← hps, List.length_map]
    have hll : ps.length = (ds.map V.ref).length := by rw [List.length_map, hpl, prs.1]
    have hpb : ∀ x ∈ ps, -1000000000 ≤ x ∧ x ≤ 1000000000 := fun x hx => by
      rw [← hps] at hx
      obtain ⟨a, ha, rfl⟩ := List.mem_map.mp hx
      have b1 : aheadM cols rows one a.es a.rc ≤ rows.length := List.length_filter_le _ _
      have b2 : behindM cols rows one a.es a.rc ≤ rows.length := List.length_filter_le _ _
      unfold priceM
      omega
    refine ⟨tx one, rfl, _, rfl, Nat.le_of_lt (small1000 (show one.length ≤ 1000 by omega)), ?_⟩
    refine ⟨.ref p, rfl, p, Z.C_Sheet, dx, _, _, rfl, hp, T.cl_Sheet, T.n_Sheet_prices, shF5_prices _ _ _ _ _, qd, rfl, ⟨_, .inl (.inl hqd)⟩, tg _ hP, fun H2 hT => ?_⟩
    have tg2 := Tabbed.tg tg hT
    have sx2 := Tabbed.sx hP hT
    have hqd2 := sx2.lst tg hqd
    have prs2 := prs.ext (sx2.ext tg)
    have hfit : ∀ j, j < ps.length → InLong (atL ps j) ∧ InLong (preSum (atL ps) (j + 1)) := fit_of (by omega) hpb
    rw [hll] at hfit
    refine ⟨(ds.map V.ref).length, atL ps, fun i H' => i ≤ (ds.map V.ref).length ∧ (H' = H2), hfit, ⟨Nat.zero_le _, rfl⟩, sum_step (walk_list (xs := ds.map V.ref)) (fun i H' _ e => ?_) (fun i x H3 H4 hi e hY => ?_), fun H3 e0 => ?_⟩
    · rw [e]
      exact .inl (.inl hqd2)
    · obtain ⟨rfl, hx⟩ := hY
      rw [e] at *
      rw [List.getElem?_map] at hx
      obtain ⟨d, hd, rfl⟩ := Option.map_eq_some_iff.mp hx
      have hda : i < as.length := by
        have := (List.getElem?_eq_some_iff.mp hd).1
        have := prs.1
        omega
      obtain ⟨kvs, hkd, hpr⟩ := prs2.2 i d as[i] hd (List.getElem?_eq_getElem hda)
      refine ⟨rfl, .ref d, rfl, tx one, rfl, d, _, rfl, by rw [← hpr one h1]; exact DGet.k (k := Sum.inr (txS one)) hkd, ?_, hi, rfl⟩
      rw [← hps, at_map (List.getElem?_eq_getElem hda)]
    · obtain ⟨_, e⟩ := e0
      refine ⟨(by show 2 ≤ sizeLine; decide), fun t nt => ?_⟩
      rw [← hll, pre_take _ _ (Nat.le_refl _), List.take_length, e, ← hsum]
      rw [e] at nt
      exact q H2 t sx2 tg2 nt

/-! ### Sheet.cost -/
theorem shF5_no_asked2 (chg : Int) (l o b q : Addr) : (shF5 chg l o b q).lookup ("asked" : Str) = none := by kernel_rfl
def spCost (K : PySem.W.Frag) (Z : Ad) : Sp := fun vs H Q _ => ∃ (p ca : Addr) (cols : List Nat) (rows : List (List Int)) (as : List Ask) (chg : Int) (ch : List (List Nat)), vs = [.ref p, .ref ca] ∧ TG Z.Ps H ∧ SheetAt Z.C_Sheet cols rows as chg H p ∧ H ca = some (.tup (ch.map tx)) ∧ (∀ o ∈ ch, o ∈ listsM cols cols.length) ∧ ch.length ≤ 100 ∧ cols.length ≤ 6 ∧ AsksOk cols as ∧ rows.length ≤ 100 ∧ 0 ≤ chg ∧ chg ≤ 1000000 ∧
  ∀ H' : Hp, Sx Z.Ps H H' → TG Z.Ps H' → Q (.int (workM cols rows ch as chg)) H'
theorem ok_cost (T : Tx K mg Z) (TB : Tb base mg Z) : FnOk P w K mg base CX0 5 Z.f_Sheet_cost Z.d_Sheet_cost ["self", "choice"] (spCost K Z) := by
  have G_Sheet_asked : FnOk P w K mg base CX0 1 Z.f_Sheet_asked Z.d_Sheet_asked ["self", "near"] (spAsked K Z) := ok_asked T
  have G_upkeep : FnOk P w K mg base CX0 4 Z.f_upkeep Z.d_upkeep ["changes", "choice"] (spUpkeep K Z) := ok_upkeep T TB
  refine T.F_Sheet_cost.ok sc_Sheet_cost (fun vs H Q E h => ?_) (fun cdv A outer s H vs Q E hr h => ?_)
  · obtain ⟨p, ca, cols, rows, as, chg, ch, rfl, _⟩ := h
    rfl
  · obtain ⟨p, ca, cols, rows, as, chg, ch, rfl, tg, hS, hca, hch, hcl, hcn, has, hrn, hg0, hg1, q⟩ := h
    refine ⟨_, (pss_one (ps_ret (pe_op op_add (pe_meth (pv 0) T.cl_Sheet T.m_Sheet_asked G_Sheet_asked (hr.mono (by omega)) T.b_Sheet_asked .nil pass0 (pa_cons (pv 1) pa_nil)) (pe_call G_upkeep (hr.mono (by omega)) (by rfl) T.g_upkeep T.F_upkeep.kp T.b_upkeep .nil pass0 (pa_cons (fldK K (pv 0) rfl) (pa_cons (pv 1) pa_nil)))))), ?_⟩
    obtain ⟨dx, l, o, b, qd, ds, hp, more⟩ := id hS
    refine ⟨.ref p, rfl, p, dx, _, rfl, hp, shF5_no_asked2 _ _ _ _ _, .ref ca, rfl, p, ca, cols, rows, as, chg, ch, rfl, hS, .inr (.inl (.inl hca)), hch, by omega, has, hrn, fun H1 sm1 => ?_⟩
    refine ⟨.ref p, rfl, p, Z.C_Sheet, dx, _, _, rfl, sm1 _ _ hp, T.cl_Sheet, T.n_Sheet_changes, shF5_changes _ _ _ _ _, .ref ca, rfl, chg, ca, ch, rfl, hg0, hg1, tg.same sm1, sm1 _ _ hca, hcl, fun o ho => ?_, fun H2 sx2 tg2 => ?_⟩
    · have := (lists_mem.mp (hch o ho)).2.1
      omega
    · exact ⟨_, _, rfl, rfl, q H2 ((Same.sx sm1).trans sx2) tg2⟩
/-! ### fitting -/
def fitM (room : Nat) (ins free : List (List Nat)) : List (List Nat) := free.filter fun o => decide (lettersM ins + o.length ≤ room)
def spFitting (K : PySem.W.Frag) (Z : Ad) : Sp := fun vs H Q _ => ∃ (room : Nat) (ia fa : Addr) (ins free : List (List Nat)), vs = [.int room, .ref ia, .ref fa] ∧ TG Z.Ps H ∧ H ia = some (.tup (ins.map tx)) ∧ ins.length ≤ 1000 ∧ (∀ o ∈ ins, o.length ≤ 1000) ∧ H fa = some (.lst (free.map tx)) ∧ free.length ≤ 300000 ∧ (∀ o ∈ free, o.length ≤ 1000) ∧
  ∀ (H' : Hp) (D : Addr), Sx Z.Ps H H' → TG Z.Ps H' → H D = none → H' D = some (.lst ((fitM room ins free).map tx)) → Q (.ref D) H'
theorem ok_fitting (T : Tx K mg Z) (TB : Tb base mg Z) : FnOk P w K mg base CX0 5 Z.f_fitting Z.d_fitting ["room", "inside", "free"] (spFitting K Z) := by
  have G_left_of : FnOk P w K mg base CX0 4 Z.f_left_of Z.d_left_of ["room", "inside"] (spLeft K Z) := ok_left T TB
  refine T.F_fitting.ok sc_fitting (fun vs H Q E h => ?_) (fun cdv A outer s H vs Q E hr h => ?_)
  · obtain ⟨room, ia, fa, ins, free, rfl, _⟩ := h
    rfl
  · obtain ⟨room, ia, fa, ins, free, rfl, tg, hia, hil, hio, hfa, hfl, hfo, q⟩ := h
    refine ⟨_, (pss_cons (ps_set (i := 3) sc_fitting.nd rfl (.inr rfl) (pe_call G_left_of (hr.mono (by omega)) (by rfl) T.g_left_of T.F_left_of.kp T.b_left_of .nil pass0 (pa_cons (pv 0) (pa_cons (pv 1) pa_nil))))
      (pss_one (ps_ret (pe_lc (own := [("one", 4)]) (tt := _) (by rfl) sc_fitting.nd (piL K (pv 2)) (blkOk_by (own := [("one", 4)]) (by kernel_rfl)) (fun _ _ _ _ _ => (pg_name (i := 4) sc_fitting.nd rfl (.inl rfl))) (fun _ _ _ _ _ => (pts_one (pt_cmpR op_le (pe_callB call_len_str (by rfl) T.m_len (by decide +kernel) (pa_cons (pv 4) pa_nil)) (pv 3) (nomark _)))) (fun _ _ _ _ _ => (pv 4)))))), ?_⟩
    have line : (300001 : Nat) < sizeLine := by rw [sizeLine_eq]; decide
    refine ⟨.int room, rfl, .ref ia, rfl, room, ia, ins, rfl, tg, hia, hil, hio, fun H1 sx1 tg1 => ?_⟩
    have hfa1 := sx1.lst tg hfa
    refine ⟨.ref fa, rfl, fa, rfl, ⟨_, .inl (.inl hfa1)⟩, fun D nD => lc_it (walk_list (xs := free.map tx)) (fun j H' => Same H1 H' ∧ H' D = some (.lst ((fitM room ins (free.take j)).map tx)))
      ⟨Same.new (Same.refl H1) nD, upd_same⟩ (fun j H' _ hP => .inl (.inl (hP.1 _ _ hfa1))) (fun j x H3 H2 hj hP hY => ?_) (fun H2 hP => ?_)⟩
    · obtain ⟨sm2, hD2⟩ := hP
      obtain ⟨rfl, hx⟩ := hY
      rw [List.getElem?_map] at hx
      obtain ⟨o, ho, rfl⟩ := Option.map_eq_some_iff.mp hx
      have hol := hfo o (List.mem_of_getElem? ho)
      have fs := filter_snoc (fun o : List Nat => decide (lettersM ins + o.length ≤ room)) free j o ho
      refine ⟨rfl, tx o, rfl, _, rfl, Nat.le_of_lt (small1000 (show o.length ≤ 1000 by omega)), _, rfl, _, _, rfl, rfl, _, rfl, ite2 (fun e => ?_) (fun e => ?_)⟩
      · have e1 : ((o.length : Nat) : Int) ≤ (room : Int) - (lettersM ins : Int) := of_decide_eq_true e
        refine ⟨tx o, rfl, _, hD2, ?_, Same.mut sm2 nD, ?_⟩
        · rw [List.length_map]
          have := List.length_filter_le (fun o : List Nat => decide (lettersM ins + o.length ≤ room)) (free.take j)
          rw [List.length_take] at this
          unfold fitM
          omega
        · rw [upd_same]
          unfold fitM
          rw [fs, if_pos (decide_eq_true (by omega)), List.map_append]
          rfl
      · have e1 : ¬ ((o.length : Nat) : Int) ≤ (room : Int) - (lettersM ins : Int) := fun z => e (decide_eq_true z)
        refine ⟨sm2, ?_⟩
        unfold fitM at hD2 ⊢
        rw [fs, if_neg (by rw [decide_eq_true_eq]; omega), List.append_nil]
        exact hD2
    · obtain ⟨sm2, hD2⟩ := hP
      rw [List.length_map, List.take_of_length_le (Nat.le_refl _)] at hD2
      exact q H2 D (sx1.trans (Same.sx sm2)) (tg1.same sm2) (Sx.free tg1 sx1 nD) hD2
/-! ### floor -/
def floorM (cols : List Nat) (rows : List (List Int)) (as : List Ask) (chg : Int) (room : Nat) (ins free : List (List Nat)) : Int := askedM cols rows (ins ++ fitM room ins free) as + keepM chg ins
def spFloor (K : PySem.W.Frag) (Z : Ad) : Sp := fun vs H Q _ => ∃ (p ia fa : Addr) (room : Nat) (cols : List Nat) (rows : List (List Int)) (as : List Ask) (chg : Int) (ins free : List (List Nat)), vs = [.ref p, .int room, .ref ia, .ref fa] ∧ TG Z.Ps H ∧ SheetAt Z.C_Sheet cols rows as chg H p ∧ H ia = some (.tup (ins.map tx)) ∧ (∀ o ∈ ins, o ∈ listsM cols cols.length) ∧ ins.length ≤ 100 ∧ H fa = some (.lst (free.map tx)) ∧ (∀ o ∈ free, o ∈ listsM cols cols.length) ∧ free.length ≤ 200000 ∧ cols.length ≤ 6 ∧ AsksOk cols as ∧ rows.length ≤ 100 ∧ 0 ≤ chg ∧ chg ≤ 1000000 ∧
  ∀ H' : Hp, Sx Z.Ps H H' → TG Z.Ps H' → Q (.int (floorM cols rows as chg room ins free)) H'
theorem ok_floor (T : Tx K mg Z) (TB : Tb base mg Z) : FnOk P w K mg base CX0 6 Z.f_floor Z.d_floor ["sheet", "room", "inside", "free"] (spFloor K Z) := by
  have G_Sheet_asked : FnOk P w K mg base CX0 1 Z.f_Sheet_asked Z.d_Sheet_asked ["self", "near"] (spAsked K Z) := ok_asked T
  have G_upkeep : FnOk P w K mg base CX0 4 Z.f_upkeep Z.d_upkeep ["changes", "choice"] (spUpkeep K Z) := ok_upkeep T TB
  have G_fitting : FnOk P w K mg base CX0 5 Z.f_fitting Z.d_fitting ["room", "inside", "free"] (spFitting K Z) := ok_fitting T TB
  refine T.F_floor.ok sc_floor (fun vs H Q E h => ?_) (fun cdv A outer s H vs Q E hr h => ?_)
  · obtain ⟨p, ia, fa, room, cols, rows, as, chg, ins, free, rfl, _⟩ := h
    rfl
  · obtain ⟨p, ia, fa, room, cols, rows, as, chg, ins, free, rfl, tg, hS, hia, hin, hil, hfa, hfr, hfl, hcn, has, hrn, hg0, hg1, q⟩ := h
    refine ⟨_, (pss_cons (ps_set (i := 4) sc_floor.nd rfl (.inl rfl) (pe_call G_fitting (hr.mono (by omega)) (by rfl) T.g_fitting T.F_fitting.kp T.b_fitting .nil pass0 (pa_cons (pv 1) (pa_cons (pv 2) (pa_cons (pv 3) pa_nil)))))
      (pss_one (ps_ret (pe_op op_add (pe_meth (pv 0) T.cl_Sheet T.m_Sheet_asked G_Sheet_asked (hr.mono (by omega)) T.b_Sheet_asked .nil pass0 (pa_cons (pe_lst (paStarK K (pv 2) (paStarK K (pv 4) pa_nil))) pa_nil)) (pe_call G_upkeep (hr.mono (by omega)) (by rfl) T.g_upkeep T.F_upkeep.kp T.b_upkeep .nil pass0 (pa_cons (fldK K (pv 0) rfl) (pa_cons (pv 2) pa_nil))))))), ?_⟩
    have line : (300100 : Nat) < sizeLine := by rw [sizeLine_eq]; decide
    have short : ∀ {o : List Nat}, o ∈ listsM cols cols.length → o.length ≤ 1000 := fun h => by
      have := (lists_mem.mp h).2.1
      omega
    refine ⟨.int room, rfl, .ref ia, rfl, .ref fa, rfl, room, ia, fa, ins, free, rfl, tg, hia, by omega, (fun o ho => short (hin o ho)), hfa, by omega, (fun o ho => short (hfr o ho)), fun H1 D sx1 tg1 nD hD => ?_⟩
    have hS1 := hS.ext (sx1.ext tg)
    have hia1 := (sx1.kt tg) _ _ hia
    have fitl : (fitM room ins free).length ≤ free.length := List.length_filter_le _ _
    obtain ⟨dx, l, o, b, qd, ds, hp1, more⟩ := id hS1
    refine ⟨.ref p, rfl, p, dx, _, rfl, hp1, shF5_no_asked2 _ _ _ _ _, .ref ia, rfl, ia, ins.map tx, rfl, .inl (.inl (.inl hia1)), .ref D, rfl, D, (fitM room ins free).map tx, rfl, .inr (.inl (.inl hD)), ?_, fun u nu => ?_⟩
    · simp only [List.length_append, List.length_map, List.length_nil]
      omega
    have eu : ins.map tx ++ ((fitM room ins free).map tx ++ []) = (ins ++ fitM room ins free).map tx := by
      rw [List.append_nil, List.map_append]
    rw [eu]
    have sm2 : Same H1 (upd H1 u (.lst ((ins ++ fitM room ins free).map tx))) := Same.new (Same.refl H1) nu
    have hu2 : (upd H1 u (.lst ((ins ++ fitM room ins free).map tx))) u = some (.lst ((ins ++ fitM room ins free).map tx)) := upd_same
    generalize upd H1 u (.lst ((ins ++ fitM room ins free).map tx)) = H2 at sm2 hu2 ⊢
    refine ⟨p, u, cols, rows, as, chg, ins ++ fitM room ins free, rfl, hS1.ext fun b o e _ => sm2 b o e, .inl (.inl (.inl hu2)), fun x hx => ?_, ?_, has, hrn, fun H3 sm3 => ?_⟩
    · rcases List.mem_append.mp hx with z | z
      · exact hin x z
      · exact hfr x (List.mem_filter.mp z).1
    · rw [List.length_append]
      omega
    have sm13 := Same.trans sm2 sm3
    refine ⟨.ref p, rfl, p, Z.C_Sheet, dx, _, _, rfl, sm13 _ _ hp1, T.cl_Sheet, T.n_Sheet_changes, shF5_changes _ _ _ _ _, .ref ia, rfl, chg, ia, ins, rfl, hg0, hg1, tg1.same sm13, sm13 _ _ hia1, hil, (fun o ho => short (hin o ho)), fun H4 sx4 tg4 => ?_⟩
    exact ⟨_, _, rfl, rfl, q H4 ((sx1.trans (Same.sx sm13)).trans sx4) tg4⟩

/-! ### Sheet.strong_lists -/
theorem nodup_app_one {ins : List (List Nat)} {o : List Nat} (h : ins.Nodup) (n : o ∉ ins) : (ins ++ [o]).Nodup := List.nodup_append.mpr ⟨h, by simp, fun a ha b hb e => n (by rw [List.mem_singleton.mp hb] at e; rw [← e]; exact ha)⟩
theorem perm_of_map {α β : Type} {f : α → β} {ys zs : List β} (p : ys.Perm zs) : ∀ {ls : List α}, zs = ls.map f → ∃ os : List α, os.Perm ls ∧ ys = os.map f := by
  induction p with
  | nil =>
    intro ls e
    obtain rfl : ls = [] := List.map_eq_nil_iff.mp e.symm
    exact ⟨[], .refl _, rfl⟩
  | cons x _ ih =>
    intro ls e
    obtain ⟨a, l, rfl, ea, el⟩ := List.map_eq_cons_iff.mp e.symm
    obtain ⟨os, p, e2⟩ := ih el.symm
    exact ⟨a :: os, p.cons _, by rw [List.map_cons, ea, ← e2]⟩
  | swap x y l =>
    intro ls e
    obtain ⟨a, l1, rfl, ea, el⟩ := List.map_eq_cons_iff.mp e.symm
    obtain ⟨b, l2, rfl, eb, el2⟩ := List.map_eq_cons_iff.mp el
    exact ⟨b :: a :: l2, .swap _ _ _, by rw [List.map_cons, List.map_cons, ea, eb, el2]⟩
  | trans _ _ a b =>
    intro ls e
    obtain ⟨os, p, e2⟩ := b e
    obtain ⟨os2, p2, e3⟩ := a e2
    exact ⟨os2, p2.trans p, e3⟩
/-- lists by which each list is outdone -/
structure Strong (cols : List Nat) (rows : List (List Int)) (as : List Ask) (st : List (List Nat)) : Prop where
  nd : st.Nodup
  sub : ∀ o ∈ st, o ∈ listsM cols cols.length
  out : ∀ o ∈ listsM cols cols.length, ∃ s ∈ st, Outdoes cols rows as s o
  apart : ∀ s ∈ st, ∀ o ∈ st, s ≠ o → ¬ Outdoes cols rows as s o
def strD2 (cols : List Nat) (rows : List (List Int)) (as : List Ask) (o : List Nat) : PyData := .tuple [.int o.length, .int (strengthM cols rows as o)]
/-- what they are sorted by -/
def keyS (cols : List Nat) (rows : List (List Int)) (as : List Ask) (o : List Nat) : List Int := [(o.length : Int), strengthM cols rows as o]
theorem keySort_lists (cols : List Nat) (rows : List (List Int)) (as : List Ask) (ls : List (List Nat)) : keySort (ls.map tx) (ls.map (strD2 cols rows as)) = (ls.mergeSort fun a b => decide (keyS cols rows as a ≤ keyS cols rows as b)).map tx := by
  have le : (W.dataLe false fun b : V × PyData => b.2) = fun b c : V × PyData => !W.dataLt c.2 b.2 := rfl
  have zp : (ls.map tx).zip (ls.map (strD2 cols rows as)) = ls.map fun o => (tx o, strD2 cols rows as o) := List.zip_map'
  unfold keySort
  rw [zp, le]
  rw [← List.map_mergeSort (r := fun a b => decide (keyS cols rows as a ≤ keyS cols rows as b)) (s := fun b c : V × PyData => !W.dataLt c.2 b.2) (f := fun o : List Nat => (tx o, strD2 cols rows as o)) (l := ls) (fun a _ b _ => by
    have e : W.dataLt (strD2 cols rows as b) (strD2 cols rows as a) = decide (keyS cols rows as b < keyS cols rows as a) := by
      show W.dataLt (.tuple _) (.tuple _) = _
      rw [W.dataLt_tuple]
      exact W.dataLt_ints (keyS cols rows as b) (keyS cols rows as a)
    show decide (keyS cols rows as a ≤ keyS cols rows as b) = !W.dataLt (strD2 cols rows as b) (strD2 cols rows as a)
    rw [e]
    by_cases c : keyS cols rows as b < keyS cols rows as a
    · rw [decide_eq_true c, decide_eq_false (fun z : keyS cols rows as a ≤ keyS cols rows as b => z c)]
      rfl
    · rw [decide_eq_false c, decide_eq_true (show keyS cols rows as a ≤ keyS cols rows as b from c)]
      rfl), List.map_map]
  rfl
theorem keyS_pw (cols : List Nat) (rows : List (List Int)) (as : List Ask) (ls : List (List Nat)) : (ls.mergeSort fun a b => decide (keyS cols rows as a ≤ keyS cols rows as b)).Pairwise fun a b => keyS cols rows as a ≤ keyS cols rows as b := by
  have h := List.pairwise_mergeSort (le := fun a b => decide (keyS cols rows as a ≤ keyS cols rows as b)) (fun a b c h1 h2 => decide_eq_true (List.le_trans (of_decide_eq_true h1) (of_decide_eq_true h2))) (fun a b => by
    rcases List.le_total (keyS cols rows as a) (keyS cols rows as b) with h | h
    · exact Bool.or_eq_true _ _ ▸ .inl (decide_eq_true h)
    · exact Bool.or_eq_true _ _ ▸ .inr (decide_eq_true h)) ls
  exact h.imp fun h => of_decide_eq_true h
theorem sum_tie {α : Type} {f g : α → Int} : ∀ {l : List α}, (∀ a ∈ l, f a ≤ g a) → (l.map g).sum ≤ (l.map f).sum → ∀ a ∈ l, g a ≤ f a
  | [], _, _ => fun a h => nomatch h
  | x :: l, h, h2 => fun a ha => by
    simp only [List.map_cons, List.sum_cons] at h2
    have hx := h x List.mem_cons_self
    have hl : (l.map f).sum ≤ (l.map g).sum := sum_le l fun a ha => h a (List.mem_cons_of_mem _ ha)
    rcases List.mem_cons.mp ha with z | z
    · rw [z]
      omega
    · exact sum_tie (fun a ha => h a (List.mem_cons_of_mem _ ha)) (by omega) a z
/-- of what is sorted so, what outdoes one ahead is outdone by it -/
theorem outdoes_back {cols : List Nat} {rows : List (List Int)} {as : List Ask} {s t : List Nat} (k : keyS cols rows as s ≤ keyS cols rows as t) (h : Outdoes cols rows as t s) : Outdoes cols rows as s t := by
  have sl : strengthM cols rows as t ≤ strengthM cols rows as s := sum_le as fun a ha => h.2 a ha
  have k' : ¬ keyS cols rows as t < keyS cols rows as s := k
  have l1 : ¬ (t.length : Int) < (s.length : Int) := fun z => k' (List.Lex.rel z)
  have e1 : (t.length : Int) = (s.length : Int) := by
    have := h.1
    omega
  have l2 : ¬ strengthM cols rows as t < strengthM cols rows as s := fun z => k' (by
    show [(t.length : Int), strengthM cols rows as t] < [(s.length : Int), strengthM cols rows as s]
    rw [e1]
    exact List.Lex.cons (List.Lex.rel z))
  refine ⟨by omega, fun a ha => ?_⟩
  refine sum_tie (f := fun a : Ask => priceM cols rows t a.es a.rc) (g := fun a : Ask => priceM cols rows s a.es a.rc) (fun a ha => h.2 a ha) ?_ a ha
  show strengthM cols rows as s ≤ strengthM cols rows as t
  omega
/-- keys of lists, each a new tuple -/
def KeysAt (cols : List Nat) (rows : List (List Int)) (as : List Ask) (H : Hp) (ks : List V) (os : List (List Nat)) : Prop := Paired (fun v o => ∃ t, v = V.ref t ∧ H t = some (.tup [.int o.length, .int (strengthM cols rows as o)])) ks os
theorem keys_dp {K : PySem.W.Frag} {cols : List Nat} {rows : List (List Int)} {as : List Ask} {H : Hp} : ∀ {ks : List V} {os : List (List Nat)}, KeysAt cols rows as H ks os → DpAll K H ks (os.map (strD2 cols rows as))
  | _, _, .nil => .nil
  | _, _, .cons ⟨t, e, h⟩ r => .cons (by rw [e]; exact .tup (.inl (.inl h)) (.cons (.int _) (.cons (.int _) .nil))) (keys_dp r)
theorem keys_snoc {cols : List Nat} {rows : List (List Int)} {as : List Ask} {H H' : Hp} {t : Addr} {o : List Nat} (k : Kt H H') (e : H' t = some (.tup [.int o.length, .int (strengthM cols rows as o)])) : ∀ {ks : List V} {os : List (List Nat)}, KeysAt cols rows as H ks os → KeysAt cols rows as H' (ks ++ [.ref t]) (os ++ [o])
  | _, _, .nil => .cons ⟨t, rfl, e⟩ .nil
  | _, _, .cons ⟨t', e', h⟩ r => .cons ⟨t', e', k _ _ h⟩ (keys_snoc k e r)
theorem shF5_no_strength (chg : Int) (l o b q : Addr) : (shF5 chg l o b q).lookup ("strength" : Str) = none := by kernel_rfl
theorem shF5_no_outdoes (chg : Int) (l o b q : Addr) : (shF5 chg l o b q).lookup ("outdoes" : Str) = none := by kernel_rfl
def spStrong (K : PySem.W.Frag) (Z : Ad) : Sp := fun vs H Q _ => ∃ (p : Addr) (cols : List Nat) (rows : List (List Int)) (as : List Ask) (chg : Int), vs = [.ref p] ∧ TG Z.Ps H ∧ SheetAt Z.C_Sheet cols rows as chg H p ∧ cols.Nodup ∧ cols.length ≤ 4 ∧ rows.length ≤ 100 ∧ AsksOk cols as ∧
  ∀ (H' : Hp) (D : Addr) (st : List (List Nat)), Sx Z.Ps H H' → TG Z.Ps H' → H D = none → H' D = some (.lst (st.map tx)) → Strong cols rows as st → Q (.ref D) H'
theorem ok_strong (T : Tx K mg Z) (TB : Tb base mg Z) : FnOk P w K mg base CX0 9 Z.f_Sheet_strong_lists Z.d_Sheet_strong_lists ["self"] (spStrong K Z) := by
  have G_Sheet_strength : FnOk P w K mg base CX0 4 Z.f_Sheet_strength Z.d_Sheet_strength ["self", "one"] (spStrength K Z) := ok_strength T TB
  have G_Sheet_outdoes : FnOk P w K mg base CX0 4 Z.f_Sheet_outdoes Z.d_Sheet_outdoes ["self", "one", "other"] (spOutdoes K Z) := ok_outdoes T TB
  refine T.C_Sheet_strong_lists.ok sc_Sheet_strong_lists (fun vs H Q E h => ?_) (fun A outer s H vs Q E hr h => ?_)
  · obtain ⟨p, cols, rows, as, chg, rfl, _⟩ := h
    rfl
  · obtain ⟨p, cols, rows, as, chg, rfl, tg, hS, hcd, hc4, hrn, has, q⟩ := h
    refine ⟨_, (pss_cons (ps_set (i := 1) sc_Sheet_strong_lists.nd rfl (.inl rfl) (pe_lst pa_nil))
      (pss_cons (ps_for PassesOwn.never rfl (piL K (pe_sortM K (hr.mono (by omega)) (by rfl) T.m_sorted T.cl_Sheet T.bm_Sheet_strength G_Sheet_strength T.b_Sheet_strength (pa_cons (fldK K (pv 0) rfl) pa_nil) (pv 0))) (pg_name (i := 2) sc_Sheet_strong_lists.nd rfl (.inr rfl)) (pss_one (ps_if (pt_not (pt_val (pe_anyC (own := [("other", 3)]) (k := 4) (hr.mono (by omega)) (by rfl) T.m_any (TB.t_Sheet_strong_lists) rfl (gxS_by (blkOk_by (own := [("other", 3)]) (by kernel_rfl)) (by kernel_rfl)) sc_Sheet_strong_lists.nd (by rfl) (piL K (pv 1)) (fun _ _ _ _ _ _ _ _ => (pg_name (i := 3) sc_Sheet_strong_lists.nd rfl (.inl rfl))) (fun _ _ _ _ _ _ _ _ hr => (pe_meth (pv 0) T.cl_Sheet T.m_Sheet_outdoes G_Sheet_outdoes (hr.mono (by omega)) T.b_Sheet_outdoes .nil pass0 (pa_cons (pv 3) (pa_cons (pv 2) pa_nil))))))) (pss_one (ps_expr (bmK K PySem.F.plainAttrs_list PySem.F.slot_list_append PySem.F.type_list_append mt_append (pv 1) (pa_cons (pv 2) pa_nil)))) pss_nil)))
      (pss_one (ps_ret (pv 1))))), ?_⟩
    have hP0 : Z.P_Sheet_strong_lists ∈ Z.Ps := by simp
    have hcn : cols.length ≤ 6 := by omega
    have hln := lists_four hcd hc4
    refine ⟨Nat.zero_le _, fun S nS => ?_⟩
    have tg1 : TG Z.Ps (upd H S (.lst [])) := tg.new nS
    have sx1 : Sx Z.Ps H (upd H S (.lst [])) := Sx.new Sx.rfl' nS
    have hS1 : (upd H S (.lst [])) S = some (.lst []) := upd_same
    generalize upd H S (.lst []) = H1 at tg1 sx1 hS1 ⊢
    have hSh1 := hS.ext (sx1.ext tg)
    obtain ⟨dx, l, oo, bb, qd, ds, hp, hl, more⟩ := id hSh1
    -- sorted(self.lists, key=self.strength)
    refine ⟨.ref p, rfl, p, Z.C_Sheet, dx, _, _, rfl, hp, T.cl_Sheet, T.n_Sheet_lists, shF5_lists _ _ _ _ _, .ref p, rfl, l, p, dx, _, (listsM cols cols.length).map tx, rfl, rfl, hp, shF5_no_strength _ _ _ _ _, fun m0 nm0 => ?_⟩
    have sm2 : Same H1 (upd H1 m0 (.met Z.f_Sheet_strength p)) := Same.new (Same.refl H1) nm0
    have hm2 : (upd H1 m0 (.met Z.f_Sheet_strength p)) m0 = some (.met Z.f_Sheet_strength p) := upd_same
    generalize upd H1 m0 (.met Z.f_Sheet_strength p) = H2 at sm2 hm2 ⊢
    have tg2 := tg1.same sm2
    have hSh2 := hSh1.ext fun b o e _ => sm2 b o e
    refine ⟨fun i ks G => Sx Z.Ps H2 G ∧ TG Z.Ps G ∧ KeysAt cols rows as G ks ((listsM cols cols.length).take i), .inl (.inl (sm2 _ _ hl)), ⟨Sx.rfl', tg2, by rw [List.take_zero]; exact .nil⟩, fun i y ks G hy hG => ?_, fun ks G hG => ?_⟩
    · obtain ⟨sxG, tgG, kG⟩ := hG
      rw [List.getElem?_map] at hy
      obtain ⟨o, ho, rfl⟩ := Option.map_eq_some_iff.mp hy
      obtain ⟨hio, hoe⟩ := List.getElem?_eq_some_iff.mp ho
      refine ⟨sxG _ _ (tg2.not hm2 fun q z => nomatch z) hm2, p, cols, rows, as, chg, o, rfl, tgG, hSh2.ext (sxG.ext tg2), List.mem_of_getElem? ho, hcn, hrn, has.len, fun G1 t sx tgG1 nt => ⟨(sxG.trans sx).new nt, tgG1.new nt, ?_⟩⟩
      rw [List.take_succ_eq_append_getElem hio, hoe]
      exact keys_snoc (((Sx.new sx nt).kt tgG)) upd_same kG
    · obtain ⟨sxG, tgG, kG⟩ := hG
      rw [List.length_map, List.take_of_length_le (Nat.le_refl _)] at kG
      refine ⟨_, keys_dp kG, fun d hd d' hd' => ?_, .inl fun d hd => ?_, fun d hd => ?_, fun D _ nD => ?_⟩
      · obtain ⟨o, _, rfl⟩ := List.mem_map.mp hd
        obtain ⟨o', _, rfl⟩ := List.mem_map.mp hd'
        rfl
      · obtain ⟨o, _, rfl⟩ := List.mem_map.mp hd
        exact ⟨_, _, rfl⟩
      · obtain ⟨o, _, rfl⟩ := List.mem_map.mp hd
        simp [strD2, PyData.depth, PyData.depthAll]
      · rw [keySort_lists]
        have opw := keyS_pw cols rows as (listsM cols cols.length)
        have pos := List.mergeSort_perm (listsM cols cols.length) fun a b => decide (keyS cols rows as a ≤ keyS cols rows as b)
        generalize (listsM cols cols.length).mergeSort (fun a b => decide (keyS cols rows as a ≤ keyS cols rows as b)) = os at opw pos ⊢
        have opm : ∀ {o : List Nat}, o ∈ os ↔ o ∈ listsM cols cols.length := fun {o} => pos.mem_iff
        have ond : os.Nodup := pos.nodup_iff.mpr (lists_nodup hcd _)
        have oln : os.length ≤ 64 := by rw [pos.length_eq]; exact hln
        have hS5 : (upd G D (.lst (os.map tx))) S = some (.lst []) := keep_new (sxG.lst tg2 (sm2 _ _ hS1)) nD
        have sx5 : Sx Z.Ps H (upd G D (.lst (os.map tx))) := ((sx1.trans (Same.sx sm2)).trans sxG).new nD
        have tg5 : TG Z.Ps (upd G D (.lst (os.map tx))) := tgG.new nD
        have hD5 : (upd G D (.lst (os.map tx))) D = some (.lst (os.map tx)) := upd_same
        have DS : D ≠ S := (ne_of_none (sxG.lst tg2 (sm2 _ _ hS1)) nD).symm
        generalize upd G D (.lst (os.map tx)) = H5 at hS5 sx5 tg5 hD5 ⊢
        refine ⟨D, rfl, ⟨_, .inl (.inl hD5)⟩, for_it (walk_list (xs := os.map tx)) (fun i σ H' => ∃ (y2 : Option V) (st : List (List Nat)), σ = [some (.ref p), some (.ref S), y2, none] ∧ Sx Z.Ps H H' ∧ TG Z.Ps H' ∧ H' D = some (.lst (os.map tx)) ∧ H' S = some (.lst (st.map tx)) ∧ st.length ≤ i ∧ st.Nodup ∧ (∀ o ∈ st, o ∈ os.take i) ∧ (∀ o ∈ os.take i, ∃ s ∈ st, Outdoes cols rows as s o) ∧ ∀ s ∈ st, ∀ o ∈ st, s ≠ o → ¬ Outdoes cols rows as s o)
          ⟨none, [], rfl, sx5, tg5, hD5, hS5, Nat.le_refl _, List.nodup_nil, (fun o h => nomatch h), (by rw [List.take_zero]; exact fun o h => nomatch h), fun s h => nomatch h⟩ (fun i σ H' _ hP => ?_) (fun i x σ HX H6 hi hP hY => ?_) (fun σ H6 hP => ?_)⟩
        · obtain ⟨_, _, _, _, _, hD, _⟩ := hP
          exact .inl (.inl hD)
        · obtain ⟨y2, st, rfl, sx6, tg6, hD6, hS6, stl0, snd, ssub, sout, sap⟩ := hP
          obtain ⟨rfl, hx⟩ := hY
          rw [List.getElem?_map] at hx
          obtain ⟨one, hone, rfl⟩ := Option.map_eq_some_iff.mp hx
          obtain ⟨hio, hoe⟩ := List.getElem?_eq_some_iff.mp hone
          have onem := opm.mp (List.mem_of_getElem? hone)
          have stm : ∀ {o : List Nat}, o ∈ st → o ∈ listsM cols cols.length := fun h => opm.mp (List.mem_of_mem_take (ssub _ h))
          have ont : one ∉ os.take i := fun z => by
            obtain ⟨j, hj, e⟩ := List.getElem_of_mem z
            rw [List.length_take] at hj
            rw [List.getElem_take] at e
            exact List.pairwise_iff_getElem.mp ond j i (by omega) hio (by omega) (e.trans hoe.symm)
          have tk : os.take (i + 1) = os.take i ++ [one] := by rw [List.take_succ_eq_append_getElem hio, hoe]
          have stl : st.length ≤ 64 := by omega
          refine ⟨.ref S, rfl, S, rfl, ⟨_, .inl (.inl hS6)⟩, tg6 _ hP0, fun H7 hT => ?_⟩
          have tg7 := Tabbed.tg tg6 hT
          have sx7 := Tabbed.sx hP0 hT
          have hS7 := sx7.lst tg6 hS6
          let f : Nat → Bool := fun j => match st[j]? with
            | some s => outB cols rows as s one
            | none => false
          refine ⟨(st.map tx).length, f, fun j H' => j ≤ (st.map tx).length ∧ (Sx Z.Ps H7 H' ∧ TG Z.Ps H'), ⟨Nat.zero_le _, Sx.rfl', tg7⟩, gx_step (walk_list (xs := st.map tx)) (fun j H' _ e => .inl (.inl (e.1.lst tg7 hS7))) (fun j x H9 H8 hj e hY => ?_), fun H8 e hall => ?_, fun j H8 hj hs hal e => ?_⟩
          · obtain ⟨sx8, tg8⟩ := e
            obtain ⟨rfl, hx2⟩ := hY
            rw [List.getElem?_map] at hx2
            obtain ⟨s2, hs2, rfl⟩ := Option.map_eq_some_iff.mp hx2
            have sx08 := (sx6.trans sx7).trans sx8
            have hSh8 := hS.ext (sx08.ext tg)
            obtain ⟨dx8, l8, oo8, bb8, qd8, ds8, hp8, more8⟩ := id hSh8
            refine ⟨rfl, .ref p, rfl, p, dx8, _, rfl, hp8, shF5_no_outdoes _ _ _ _ _, tx s2, rfl, tx one, rfl, p, cols, rows, as, chg, s2, one, rfl, tg8, hSh8, stm (List.mem_of_getElem? hs2), onem, hcn, fun HA sxA tgA => ⟨?_, hj, sx8.trans sxA, tgA⟩⟩
            show V.bl _ = V.bl (f j)
            simp only [f, hs2]
          · obtain ⟨_, sx8, tg8⟩ := e
            have sx08 := (sx6.trans sx7).trans sx8
            have hS8 := sx8.lst tg7 hS7
            have hD8 := sx8.lst tg7 (sx7.lst tg6 hD6)
            refine ⟨false, rfl, iteT ?_⟩
            refine ⟨.ref S, rfl, .inl ⟨rfl, _, .inl (.inl hS8)⟩, tx one, rfl, S, _, tx one, rfl, rfl, hS8, ?_, ?_⟩
            · rw [List.length_map]
              exact small1000 (by omega)
            · refine ⟨_, st ++ [one], rfl, sx08.mut nS, tg8.mut hS8, keep_ne hD8 DS, by rw [upd_same, List.map_append]; rfl, by rw [List.length_append]; exact Nat.succ_le_succ stl0, nodup_app_one snd (fun z => ont (ssub one z)), fun o ho => ?_, fun o ho => ?_, fun s hs o ho ne so => ?_⟩
              · rw [tk]
                rcases List.mem_append.mp ho with z | z
                · exact List.mem_append_left _ (ssub o z)
                · exact List.mem_append_right _ z
              · rw [tk] at ho
                rcases List.mem_append.mp ho with z | z
                · obtain ⟨s, hs, so⟩ := sout o z
                  exact ⟨s, List.mem_append_left _ hs, so⟩
                · refine ⟨one, List.mem_append_right _ (List.mem_singleton.mpr rfl), ?_⟩
                  rw [List.mem_singleton.mp z]
                  exact ⟨Nat.le_refl _, fun _ _ => Int.le_refl _⟩
              · have none : ∀ x ∈ st, ¬ Outdoes cols rows as x one := fun x hx z => by
                  obtain ⟨jx, hjx, ex⟩ := List.getElem_of_mem hx
                  have := hall jx (by rw [List.length_map]; exact hjx)
                  simp only [f, List.getElem?_eq_getElem hjx, ex] at this
                  rw [outB_iff.mpr z] at this
                  cases this
                have ahead : ∀ x ∈ st, keyS cols rows as x ≤ keyS cols rows as one := fun x hx => by
                  obtain ⟨jx, hjx, ex⟩ := List.getElem_of_mem (ssub x hx)
                  rw [List.length_take] at hjx
                  rw [List.getElem_take] at ex
                  have := List.pairwise_iff_getElem.mp opw jx i (by omega) hio (by omega)
                  rw [ex, hoe] at this
                  exact this
                rcases List.mem_append.mp hs with z | z
                · rcases List.mem_append.mp ho with y | y
                  · exact sap s z o y ne so
                  · rw [List.mem_singleton.mp y] at so
                    exact none s z so
                · rw [List.mem_singleton.mp z] at so ne
                  rcases List.mem_append.mp ho with y | y
                  · exact none o y (outdoes_back (ahead o y) so)
                  · exact ne (List.mem_singleton.mp y).symm
          · obtain ⟨_, sx8, tg8⟩ := e
            have sx08 := (sx6.trans sx7).trans sx8
            have hS8 := sx8.lst tg7 hS7
            have hD8 := sx8.lst tg7 (sx7.lst tg6 hD6)
            have hjs : j < st.length := by
              rw [List.length_map] at hj
              exact hj
            have so : Outdoes cols rows as st[j] one := by
              simp only [f, List.getElem?_eq_getElem hjs] at hs
              exact outB_iff.mp hs
            refine ⟨true, rfl, iteF ?_⟩
            refine ⟨_, st, rfl, sx08, tg8, hD8, hS8, by omega, snd, (fun o ho => by rw [tk]; exact List.mem_append_left _ (ssub o ho)), (fun o ho => ?_), sap⟩
            rw [tk] at ho
            rcases List.mem_append.mp ho with z | z
            · exact sout o z
            · rw [List.mem_singleton.mp z]
              exact ⟨st[j], List.getElem_mem hjs, so⟩
        · obtain ⟨y2, st, rfl, sx6, tg6, hD6, hS6, stl0, snd, ssub, sout, sap⟩ := hP
          rw [List.length_map, List.take_of_length_le (Nat.le_refl _)] at ssub sout
          exact ⟨_, rfl, q H6 S st sx6 tg6 nS hS6 ⟨snd, fun o ho => opm.mp (ssub o ho), (fun o ho => sout o (opm.mpr ho)), sap⟩⟩

/-! ### trees: what they show -/
abbrev wOver : PyData := .tuple [.str ("over" : Str)]
abbrev wDear : PyData := .tuple [.str ("dear" : Str)]
/-- whether the data shows the number, with these lists in and these free -/
def goD (cols : List Nat) (rows : List (List Int)) (as : List Ask) (chg : Int) (room : Nat) (num : Int) : PyData → List (List Nat) → List (List Nat) → Bool
  | .tuple [.str w], ins, free => if w = ("over" : Str) then decide (room < lettersM ins) else if w = ("dear" : Str) then decide (num ≤ floorM cols rows as chg room ins free) else false
  | .tuple [.str w, .str o, a, b], ins, free => decide (w = ("list" : Str)) && (decide (o.cps.toList ∈ free) && (goD cols rows as chg room num a (ins ++ [o.cps.toList]) (free.filter fun x => decide (x ≠ o.cps.toList)) && goD cols rows as chg room num b ins ((free.filter fun x => decide (x ≠ o.cps.toList)).filter fun x => !outB cols rows as o.cps.toList x)))
  | _, _, _ => false
termination_by d => sizeOf d
theorem goD_over {cols : List Nat} {rows : List (List Int)} {as : List Ask} {chg : Int} {room : Nat} {num : Int} {ins free : List (List Nat)} : goD cols rows as chg room num wOver ins free = decide (room < lettersM ins) := by
  rw [goD.eq_def]
  exact if_pos rfl
theorem goD_dear {cols : List Nat} {rows : List (List Int)} {as : List Ask} {chg : Int} {room : Nat} {num : Int} {ins free : List (List Nat)} : goD cols rows as chg room num wDear ins free = decide (num ≤ floorM cols rows as chg room ins free) := by
  rw [goD.eq_def]
  have ne : ¬ ("dear" : Str) = ("over" : Str) := by decide +kernel
  show (if ("dear" : Str) = ("over" : Str) then _ else _) = _
  rw [if_neg ne]
  exact if_pos rfl
theorem goD_fork {cols : List Nat} {rows : List (List Int)} {as : List Ask} {chg : Int} {room : Nat} {num : Int} {ins free : List (List Nat)} {o : Str} {a b : PyData} : goD cols rows as chg room num (.tuple [.str ("list" : Str), .str o, a, b]) ins free = (decide (o.cps.toList ∈ free) && (goD cols rows as chg room num a (ins ++ [o.cps.toList]) (free.filter fun x => decide (x ≠ o.cps.toList)) && goD cols rows as chg room num b ins ((free.filter fun x => decide (x ≠ o.cps.toList)).filter fun x => !outB cols rows as o.cps.toList x))) := by
  rw [goD.eq_def]
  show (decide (("list" : Str) = ("list" : Str)) && _) = _
  rw [decide_eq_true rfl, Bool.true_and]
theorem goD_else {cols : List Nat} {rows : List (List Int)} {as : List Ask} {chg : Int} {room : Nat} {num : Int} {ins free : List (List Nat)} {d : PyData} (h1 : d ≠ wOver) (h2 : d ≠ wDear) (h3 : forkD free d = false) : goD cols rows as chg room num d ins free = false := by
  rw [goD.eq_def]
  split
  · rename_i w
    rw [if_neg fun z => h1 (by rw [z]), if_neg fun z => h2 (by rw [z])]
  · rename_i w o a b
    by_cases e : w = ("list" : Str)
    · have : decide (o.cps.toList ∈ free) = false := by
        rw [e] at h3
        have h4 : (PyData.eqv (.str ("list" : Str)) (.str ("list" : Str)) && decide (o.cps.toList ∈ free)) = false := h3
        have h5 : PyData.eqv (.str ("list" : Str)) (.str ("list" : Str)) = true := by decide +kernel
        rw [h5, Bool.true_and] at h4
        exact h4
      rw [this]
      simp
    · rw [decide_eq_false e, Bool.false_and]
  · rfl
section
variable {cols : List Nat} {rows : List (List Int)} {as : List Ask} {chg : Int} {room : Nat} {num : Int}
/-- what outdoes does as well in its place -/
theorem swap_work (hok : AsksOk cols as) (hg : 0 ≤ chg) {ins T : List (List Nat)} {one o : List Nat} (ho : o ∈ T) (so : Outdoes cols rows as one o) : workM cols rows ((ins ++ [one]) ++ T.erase o) as chg ≤ workM cols rows (ins ++ T) as chg ∧ lettersM ((ins ++ [one]) ++ T.erase o) ≤ lettersM (ins ++ T) := by
  have p : T.Perm (o :: T.erase o) := List.perm_cons_erase ho
  have p2 : (ins ++ T).Perm (ins ++ ([o] ++ T.erase o)) := p.append_left ins
  have e1 := work_perm (cols := cols) (rows := rows) (as := as) (chg := chg) p2
  have e2 := letters_perm p2
  have e3 : (ins ++ [one]) ++ T.erase o = ins ++ ([one] ++ T.erase o) := List.append_assoc _ _ _
  rw [e1, e2, e3]
  refine ⟨?_, ?_⟩
  · have h1 : askedM cols rows (ins ++ ([one] ++ T.erase o)) as ≤ askedM cols rows (ins ++ ([o] ++ T.erase o)) as := asked_le hok fun a ha x hx => by
      rcases List.mem_append.mp hx with z | z
      · exact ⟨x, List.mem_append_left _ z, Int.le_refl _⟩
      · rcases List.mem_append.mp z with y | y
        · rw [List.mem_singleton.mp y]
          exact ⟨one, List.mem_append_right _ (List.mem_append_left _ (List.mem_singleton.mpr rfl)), so.2 a ha⟩
        · exact ⟨x, List.mem_append_right _ (List.mem_append_right _ y), Int.le_refl _⟩
    have h2 : keepM chg [one] ≤ keepM chg [o] := by
      unfold keepM
      refine Int.mul_le_mul_of_nonneg_left ?_ hg
      have := so.1
      simp only [List.map_cons, List.map_nil, List.sum_cons, List.sum_nil]
      omega
    unfold workM
    rw [keep_app, keep_app, keep_app, keep_app]
    omega
  · have := so.1
    rw [letters_app, letters_app, letters_app, letters_app]
    have e4 : lettersM [one] = one.length + 0 := rfl
    have e5 : lettersM [o] = o.length + 0 := rfl
    omega
/-- a number that is shown is not above what any choice costs that goes on so -/
theorem goD_sound_n (hok : AsksOk cols as) (hg : 0 ≤ chg) (n : Nat) : ∀ (d : PyData), sizeOf d ≤ n → ∀ (ins free T : List (List Nat)), goD cols rows as chg room num d ins free = true → T.Nodup → (∀ o ∈ T, o ∈ free) → lettersM (ins ++ T) ≤ room → num ≤ workM cols rows (ins ++ T) as chg := by
  induction n with
  | zero =>
    intro d hd
    cases d <;> simp at hd
  | succ n ih =>
    intro d hd ins free T h nd sub l
    rw [goD.eq_def] at h
    split at h
    · rename_i w
      have h' : (if w = ("over" : Str) then decide (room < lettersM ins) else if w = ("dear" : Str) then decide (num ≤ floorM cols rows as chg room ins free) else false) = true := h
      by_cases e : w = ("over" : Str)
      · rw [if_pos e] at h'
        have := of_decide_eq_true h'
        rw [letters_app] at l
        omega
      · rw [if_neg e] at h'
        by_cases f : w = ("dear" : Str)
        · rw [if_pos f] at h'
          refine Int.le_trans (of_decide_eq_true h') ?_
          unfold floorM
          refine floor_le hok hg fun o ho => List.mem_filter.mpr ⟨sub o ho, decide_eq_true ?_⟩
          have := letters_mem ho
          rw [letters_app] at l
          omega
        · rw [if_neg f] at h'
          cases h'
    · rename_i w o a b
      have h' : (decide (w = ("list" : Str)) && (decide (o.cps.toList ∈ free) && (goD cols rows as chg room num a (ins ++ [o.cps.toList]) (free.filter fun x => decide (x ≠ o.cps.toList)) && goD cols rows as chg room num b ins ((free.filter fun x => decide (x ≠ o.cps.toList)).filter fun x => !outB cols rows as o.cps.toList x)))) = true := h
      have la : sizeOf a ≤ n := by
        simp at hd
        omega
      have lb : sizeOf b ≤ n := by
        simp at hd
        omega
      simp only [Bool.and_eq_true, decide_eq_true_eq] at h'
      obtain ⟨_, hf, ha, hb⟩ := h'
      generalize o.cps.toList = one at hf ha hb
      by_cases c : one ∈ T
      · have p : T.Perm (one :: T.erase one) := List.perm_cons_erase c
        have p2 : (ins ++ T).Perm ((ins ++ [one]) ++ T.erase one) := by
          rw [List.append_assoc]
          exact p.append_left ins
        rw [work_perm p2]
        rw [letters_perm p2] at l
        exact ih a la (ins ++ [one]) _ (T.erase one) ha (nd.erase _) (fun x hx => by
          obtain ⟨ne, hx2⟩ := (List.Nodup.mem_erase_iff nd).mp hx
          exact List.mem_filter.mpr ⟨sub x hx2, decide_eq_true ne⟩) l
      · by_cases e : ∃ x ∈ T, outB cols rows as one x = true
        · obtain ⟨x, hx, so⟩ := e
          obtain ⟨w1, w2⟩ := swap_work (rows := rows) (chg := chg) (ins := ins) hok hg hx (outB_iff.mp so)
          refine Int.le_trans (ih a la (ins ++ [one]) _ (T.erase x) ha (nd.erase _) (fun y hy => ?_) (Nat.le_trans w2 l)) w1
          have hy2 := List.mem_of_mem_erase hy
          exact List.mem_filter.mpr ⟨sub y hy2, decide_eq_true fun z => c (z ▸ hy2)⟩
        · refine ih b lb ins _ T hb nd (fun x hx => List.mem_filter.mpr ⟨List.mem_filter.mpr ⟨sub x hx, decide_eq_true fun z => c (z ▸ hx)⟩, ?_⟩) l
          rw [Bool.not_eq_true', Bool.eq_false_iff]
          exact fun z => e ⟨x, hx, z⟩
    · cases h
theorem goD_sound (hok : AsksOk cols as) (hg : 0 ≤ chg) (d : PyData) (ins free T : List (List Nat)) (h : goD cols rows as chg room num d ins free = true) (nd : T.Nodup) (sub : ∀ o ∈ T, o ∈ free) (l : lettersM (ins ++ T) ≤ room) : num ≤ workM cols rows (ins ++ T) as chg := goD_sound_n hok hg (sizeOf d) d (Nat.le_refl _) ins free T h nd sub l
/-- a tree over some free lists: it shows the number over more, too, where each of those is outdone by one of these or of those in -/
def TreeOk (cols : List Nat) (rows : List (List Int)) (as : List Ask) (chg : Int) (room : Nat) (ins free : List (List Nat)) (r : Int) (d : PyData) : Prop := ∀ (num : Int) (sf : List (List Nat)), num ≤ r → (∀ o ∈ free, o ∈ sf) → (∀ o ∈ sf, ∃ s, (s ∈ free ∨ s ∈ ins) ∧ Outdoes cols rows as s o) → (∀ s ∈ free, ∀ o ∈ free, s ≠ o → ¬ Outdoes cols rows as s o) → goD cols rows as chg room num d ins sf = true
theorem TreeOk.dear (hok : AsksOk cols as) {ins free : List (List Nat)} {r : Int} (h : r ≤ floorM cols rows as chg room ins free) : TreeOk cols rows as chg room ins free r wDear := fun num sf hn _ out _ => by
  rw [goD_dear]
  refine decide_eq_true (Int.le_trans hn (Int.le_trans h ?_))
  unfold floorM
  have h1 : askedM cols rows (ins ++ fitM room ins free) as ≤ askedM cols rows (ins ++ fitM room ins sf) as := asked_le hok fun a ha o ho => by
    rcases List.mem_append.mp ho with z | z
    · exact ⟨o, List.mem_append_left _ z, Int.le_refl _⟩
    · obtain ⟨z1, z2⟩ := List.mem_filter.mp z
      obtain ⟨s, hs, so⟩ := out o z1
      rcases hs with y | y
      · refine ⟨s, List.mem_append_right _ (List.mem_filter.mpr ⟨y, decide_eq_true ?_⟩), so.2 a ha⟩
        have := of_decide_eq_true z2
        have := so.1
        omega
      · exact ⟨s, List.mem_append_left _ y, so.2 a ha⟩
  omega
theorem TreeOk.fork {ins free : List (List Nat)} {one : List Nat} {r1 r2 : Int} {d1 d2 : PyData} (ho : one ∈ free) (h1 : TreeOk cols rows as chg room (ins ++ [one]) (free.filter fun o => decide (o ≠ one)) r1 d1) (h2 : TreeOk cols rows as chg room ins (free.filter fun o => decide (o ≠ one)) r2 d2) (hr : r2 ≤ r1) : TreeOk cols rows as chg room ins free r2 (.tuple [.str ("list" : Str), .str (txS one), d1, d2]) := fun num sf hn sub out ap => by
  have e : (txS one).cps.toList = one := by simp
  rw [goD_fork, e, decide_eq_true (sub one ho), Bool.true_and, Bool.and_eq_true]
  have mem : ∀ {o : List Nat} {l : List (List Nat)}, o ∈ l.filter (fun o => decide (o ≠ one)) ↔ o ∈ l ∧ o ≠ one := fun {o l} => by rw [List.mem_filter, decide_eq_true_eq]
  refine ⟨h1 num _ (by omega) (fun o h => mem.mpr ⟨sub o (mem.mp h).1, (mem.mp h).2⟩) (fun o h => ?_) (fun s hs o h ne => ap s (mem.mp hs).1 o (mem.mp h).1 ne), h2 num _ hn (fun o h => ?_) (fun o h => ?_) (fun s hs o h ne => ap s (mem.mp hs).1 o (mem.mp h).1 ne)⟩
  · obtain ⟨s, hs, so⟩ := out o (mem.mp h).1
    by_cases c : s = one
    · exact ⟨s, .inr (List.mem_append_right _ (List.mem_singleton.mpr c)), so⟩
    · exact ⟨s, hs.imp (fun y => mem.mpr ⟨y, c⟩) fun y => List.mem_append_left _ y, so⟩
  · obtain ⟨a1, a2⟩ := mem.mp h
    refine List.mem_filter.mpr ⟨mem.mpr ⟨sub o a1, a2⟩, ?_⟩
    rw [Bool.not_eq_true', Bool.eq_false_iff]
    exact fun z => ap one ho o a1 (fun y => a2 y.symm) (outB_iff.mp z)
  · obtain ⟨a1, a2⟩ := List.mem_filter.mp h
    obtain ⟨s, hs, so⟩ := out o (mem.mp a1).1
    by_cases c : s = one
    · rw [c] at so
      rw [outB_iff.mpr so] at a2
      cases a2
    · exact ⟨s, hs.imp (fun y => mem.mpr ⟨y, c⟩) id, so⟩
end

/-! ### grown -/
theorem shF5_no_cost (chg : Int) (l o b q : Addr) : (shF5 chg l o b q).lookup ("cost" : Str) = none := by kernel_rfl
theorem shF5_no_most2 (chg : Int) (l o b q : Addr) : (shF5 chg l o b q).lookup ("most_saving" : Str) = none := by kernel_rfl
/-- a choice that may be made -/
structure Ch (cols : List Nat) (room : Nat) (ch : List (List Nat)) : Prop where
  nd : ch.Nodup
  sub : ∀ o ∈ ch, o ∈ listsM cols cols.length
  fits : lettersM ch ≤ room
/-- a price and a choice of it -/
def BestAt (cols : List Nat) (rows : List (List Int)) (as : List Ask) (chg : Int) (room : Nat) (H : Hp) (ba : Addr) (p : Int) : Prop := ∃ (ca : Addr) (ch : List (List Nat)), H ba = some (.tup [.int p, .ref ca]) ∧ H ca = some (.tup (ch.map tx)) ∧ Ch cols room ch ∧ p = workM cols rows ch as chg
theorem BestAt.kt {cols : List Nat} {rows : List (List Int)} {as : List Ask} {chg : Int} {room : Nat} {H H' : Hp} {ba : Addr} {p : Int} (h : BestAt cols rows as chg room H ba p) (k : Kt H H') : BestAt cols rows as chg room H' ba p := by
  obtain ⟨ca, ch, h1, h2, r⟩ := h
  exact ⟨ca, ch, k _ _ h1, k _ _ h2, r⟩
theorem letters_len {cols : List Nat} : ∀ {ch : List (List Nat)}, (∀ o ∈ ch, o ∈ listsM cols cols.length) → ch.length ≤ lettersM ch
  | [], _ => Nat.le_refl _
  | o :: ch, h => by
    have h1 := letters_len (ch := ch) fun x hx => h x (List.mem_cons_of_mem _ hx)
    have ne := (lists_mem.mp (h o List.mem_cons_self)).1
    have : 0 < o.length := List.length_pos_iff.mpr ne
    have e : lettersM (o :: ch) = o.length + lettersM ch := rfl
    rw [List.length_cons, e]
    omega
def spGrown (K : PySem.W.Frag) (Z : Ad) (d : Nat) : Sp := fun vs H Q _ => ∃ (p ba ia fa : Addr) (room : Nat) (b : Int) (cols : List Nat) (rows : List (List Int)) (as : List Ask) (chg : Int) (ins free : List (List Nat)), vs = [.ref p, .int room, .ref ba, .ref ia, .ref fa] ∧ TG Z.Ps H ∧ LamX.TabS H Z.P_Sheet_most_saving (lamQ "Sheet.most_saving") ∧ SheetAt Z.C_Sheet cols rows as chg H p ∧ BestAt cols rows as chg room H ba b ∧ H ia = some (.tup (ins.map tx)) ∧ Ch cols room ins ∧ H fa = some (.lst (free.map tx)) ∧ free.Nodup ∧ (∀ o ∈ free, o ∈ listsM cols cols.length ∧ o ∉ ins) ∧ free.length ≤ d ∧ free.length ≤ 1000 ∧ room ≤ 90 ∧ cols.length ≤ 6 ∧ AsksOk cols as ∧ rows.length ≤ 100 ∧ 0 ≤ chg ∧ chg ≤ 1000000 ∧
  ∀ (H' : Hp) (t ba' : Addr) (tree : V) (b' : Int), Sx (Z.P_Sheet_most_saving :: Z.Ps) H H' → TG Z.Ps H' → LamX.TabS H' Z.P_Sheet_most_saving (lamQ "Sheet.most_saving") → H' t = some (.tup [.ref ba', tree]) → BestAt cols rows as chg room H' ba' b' → Good cols rows as chg room b ins free b' → ∀ d : PyData, Fz H' tree d → d.depth ≤ free.length + 1 → ((∀ c ∈ cols, c < 1114112) → d.canLay0 = true) → TreeOk cols rows as chg room ins free b' d → Q (.ref t) H'
def spGrownP (K : PySem.W.Frag) (Z : Ad) : Nat → Sp
  | 0 => fun _ _ _ _ => False
  | d + 1 => spGrown K Z d
theorem ok_grown1 (T : Tx K mg Z) (TB : Tb base mg Z) (d : Nat) (G_grown : FnOk P w K mg base CX0 (d + 7) Z.f_grown Z.d_grown ["sheet", "room", "best", "inside", "free"] (spGrownP K Z d)) : FnOk P w K mg base CX0 (d + 8) Z.f_grown Z.d_grown ["sheet", "room", "best", "inside", "free"] (spGrown K Z d) := by
  have G_Sheet_cost : FnOk P w K mg base CX0 5 Z.f_Sheet_cost Z.d_Sheet_cost ["self", "choice"] (spCost K Z) := ok_cost T TB
  have G_Sheet_most_saving : FnOk P w K mg base CX0 5 Z.f_Sheet_most_saving Z.d_Sheet_most_saving ["self", "choice", "lists"] (spMost K Z) := ok_most T TB
  have G_fitting : FnOk P w K mg base CX0 5 Z.f_fitting Z.d_fitting ["room", "inside", "free"] (spFitting K Z) := ok_fitting T TB
  have G_floor : FnOk P w K mg base CX0 6 Z.f_floor Z.d_floor ["sheet", "room", "inside", "free"] (spFloor K Z) := ok_floor T TB
  refine T.F_grown.ok sc_grown (fun vs H Q E h => ?_) (fun cdv A outer s H vs Q E hr h => ?_)
  · obtain ⟨p, ba, ia, fa, room, b, cols, rows, as, chg, ins, free, rfl, _⟩ := h
    rfl
  · obtain ⟨p, ba, ia, fa, room, b, cols, rows, as, chg, ins, free, rfl, tg, tab, hS, hB, hia, cI, hfa, fnd, hfr, hfd, hf1, hrm, hcn, has, hrn, hg0, hg1, q⟩ := h
    refine ⟨_, (pss_cons (ps_set (i := 2) sc_grown.nd rfl (.inl rfl) (pe_callB (min2DK K hr) (by rfl) T.m_min (by decide +kernel) (pa_cons (pv 2) (pa_cons (pe_tup (pa_cons (pe_meth (pv 0) T.cl_Sheet T.m_Sheet_cost G_Sheet_cost (hr.mono (by omega)) T.b_Sheet_cost .nil pass0 (pa_cons (pv 3) pa_nil)) (pa_cons (pv 3) pa_nil))) pa_nil))))
      (pss_cons (ps_if (pt_cmpR op_ge (pe_call G_floor (hr.mono (by omega)) (by rfl) T.g_floor T.F_floor.kp T.b_floor .nil pass0 (pa_cons (pv 0) (pa_cons (pv 1) (pa_cons (pv 3) (pa_cons (pv 4) pa_nil))))) (pe_ix (ixT K) (pv 2) pe_int (fun _ _ => rfl)) (nomark _)) (pss_one (ps_ret (pe_tup (pa_cons (pv 2) (pa_cons (pe_tup (pa_cons pe_str pa_nil)) pa_nil))))) pss_nil)
      (pss_cons (ps_set (i := 5) sc_grown.nd rfl (.inr rfl) (pe_meth (pv 0) T.cl_Sheet T.m_Sheet_most_saving G_Sheet_most_saving (hr.mono (by omega)) T.b_Sheet_most_saving .nil pass0 (pa_cons (pv 3) (pa_cons (pe_call G_fitting (hr.mono (by omega)) (by rfl) T.g_fitting T.F_fitting.kp T.b_fitting .nil pass0 (pa_cons (pv 1) (pa_cons (pv 3) (pa_cons (pv 4) pa_nil)))) pa_nil))))
      (pss_cons (ps_setLc (i := 6) (own := [("other", 9)]) (tt := _) (by rfl) sc_grown.nd rfl rfl (sw_true rfl rfl rfl (by decide +kernel)) (piL K (pv 4)) (blkOk_by (own := [("other", 9)]) (by kernel_rfl)) (fun _ _ _ _ _ => (pg_name (i := 9) sc_grown.nd rfl (.inl rfl))) (fun _ _ _ _ _ => (pts_one (pt_cmpR op_ne (pv 9) (pv 5) (nomark _)))) (fun _ _ _ _ _ => (pv 9)))
      (pss_cons (ps_asg (pe_call G_grown (hr.mono (by omega)) (by rfl) T.g_grown T.F_grown.kp T.b_grown .nil pass0 (pa_cons (pv 0) (pa_cons (pv 1) (pa_cons (pv 2) (pa_cons (pe_tup (paStarK K (pv 3) (pa_cons (pv 5) pa_nil))) (pa_cons (pv 6) pa_nil)))))) (pgT K (n := 2) (pgs_cons (pg_name (i := 2) sc_grown.nd rfl (.inl rfl)) (pgs_cons (pg_name (i := 7) sc_grown.nd rfl (.inl rfl)) pgs_nil))))
      (pss_cons (ps_asg (pe_call G_grown (hr.mono (by omega)) (by rfl) T.g_grown T.F_grown.kp T.b_grown .nil pass0 (pa_cons (pv 0) (pa_cons (pv 1) (pa_cons (pv 2) (pa_cons (pv 3) (pa_cons (pv 6) pa_nil)))))) (pgT K (n := 2) (pgs_cons (pg_name (i := 2) sc_grown.nd rfl (.inl rfl)) (pgs_cons (pg_name (i := 8) sc_grown.nd rfl (.inl rfl)) pgs_nil))))
      (pss_one (ps_ret (pe_tup (pa_cons (pv 2) (pa_cons (pe_tup (pa_cons pe_str (pa_cons (pv 5) (pa_cons (pv 7) (pa_cons (pv 8) pa_nil))))) pa_nil))))))))))), ?_⟩
    have tgL := tab_tg tab tg
    have toL : ∀ {G G' : Hp}, Sx Z.Ps G G' → Sx (Z.P_Sheet_most_saving :: Z.Ps) G G' := fun s => Sx.more s fun b hb => List.mem_cons_of_mem _ hb
    have short : ∀ {o : List Nat}, o ∈ listsM cols cols.length → o.length ≤ 1000 := fun h => by
      have := (lists_mem.mp h).2.1
      omega
    have il : ins.length ≤ 90 := by
      have := letters_len cI.sub
      have := cI.fits
      omega
    obtain ⟨dx, l, oo, bb0, qd, ds, hp, more⟩ := id hS
    obtain ⟨cb0, ch0, hba, hcb0, cC0, eb⟩ := id hB
    -- the best so far, or what is inside
    refine ⟨.ref ba, rfl, .ref p, rfl, p, dx, _, rfl, hp, shF5_no_cost _ _ _ _ _, .ref ia, rfl, p, ia, cols, rows, as, chg, ins, rfl, tg, hS, hia, cI.sub, by omega, hcn, has, hrn, hg0, hg1, fun H1 sx1 tg1 => ?_⟩
    refine ⟨.ref ia, rfl, (by show 2 ≤ sizeLine; decide), fun n1 nn1 => ?_⟩
    have sx2 : Sx Z.Ps H (upd H1 n1 (.tup [.int (workM cols rows ins as chg), .ref ia])) := sx1.new nn1
    have tg2 : TG Z.Ps (upd H1 n1 (.tup [.int (workM cols rows ins as chg), .ref ia])) := tg1.new nn1
    have hn1 : (upd H1 n1 (.tup [.int (workM cols rows ins as chg), .ref ia])) n1 = some (.tup [.int (workM cols rows ins as chg), .ref ia]) := upd_same
    generalize upd H1 n1 (.tup [.int (workM cols rows ins as chg), .ref ia]) = H2 at sx2 tg2 hn1 ⊢
    have hia2 := (sx2.kt tg) _ _ hia
    refine ⟨.ref ba, .ref n1, bD b ch0, bD (workM cols rows ins as chg) ins, rfl, .tup (.inl (.inl ((sx2.kt tg) _ _ hba))) (.cons (.int _) (.cons (.tup (.inl (.inl ((sx2.kt tg) _ _ hcb0))) (dp_texts _)) .nil)), .tup (.inl (.inl hn1)) (.cons (.int _) (.cons (.tup (.inl (.inl hia2)) (dp_texts _)) .nil)), bD_alike _ _ _ _, bD_depth _ _ _ _, ?_⟩
    obtain ⟨bb, b1, ebb, hB2, eb1⟩ : ∃ (bb : Addr) (b1 : Int), (if W.dataLt (bD (workM cols rows ins as chg) ins) (bD b ch0) = true then V.ref n1 else V.ref ba) = .ref bb ∧ BestAt cols rows as chg room H2 bb b1 ∧ b1 = min b (workM cols rows ins as chg) := by
      obtain ⟨l1, l2⟩ := bD_lt (p := workM cols rows ins as chg) (q := b) (a := ins) (b := ch0)
      by_cases c : W.dataLt (bD (workM cols rows ins as chg) ins) (bD b ch0) = true
      · have := l1 c
        exact ⟨n1, workM cols rows ins as chg, if_pos c, ⟨ia, ins, hn1, hia2, cI, rfl⟩, by omega⟩
      · have := l2 c
        exact ⟨ba, b, if_neg c, hB.kt (sx2.kt tg), by omega⟩
    rw [ebb]
    -- the floor
    refine ⟨.ref p, rfl, .int room, rfl, .ref ia, rfl, .ref fa, rfl, p, ia, fa, room, cols, rows, as, chg, ins, free, rfl, tg2, hS.ext (sx2.ext tg), hia2, cI.sub, by omega, sx2.lst tg hfa, (fun o ho => (hfr o ho).1), by omega, hcn, has, hrn, hg0, hg1, fun H3 sx3 tg3 => ?_⟩
    have sx03 : Sx Z.Ps H H3 := sx2.trans sx3
    have hB3 := hB2.kt (sx3.kt tg2)
    have tab3 : LamX.TabS H3 Z.P_Sheet_most_saving (lamQ "Sheet.most_saving") := tab_sx tab tg sx03 T.l_Sheet_most_saving
    obtain ⟨cb, chb, hbb3, _⟩ := id hB3
    refine ⟨.ref bb, rfl, bb, [.int b1, .ref cb], 0, .int b1, rfl, rfl, .inl (.inl hbb3), rfl, _, _, rfl, rfl, _, rfl, ite2 (fun e => ?_) (fun e => ?_)⟩
    · have fl : b1 ≤ floorM cols rows as chg room ins free := of_decide_eq_true e
      refine ⟨.ref bb, rfl, (by show 1 ≤ sizeLine; decide), fun n2 nn2 => ?_⟩
      have sm4 := Same.new (o := .tup [.str "dear"]) (Same.refl H3) nn2
      refine ⟨(by show 2 ≤ sizeLine; decide), fun n3 nn3 => ?_⟩
      have sm5 := Same.new (o := .tup [.ref bb, .ref n2]) sm4 nn3
      exact q _ n3 bb (.ref n2) b1 ((toL sx03).trans (Same.sx sm5)) (tg3.same sm5) (tab_same tab3 sm5) upd_same (hB3.kt fun c xs h => sm5 _ _ h) (Good.start (Good.cut has hg0 fl) eb1 cI.fits) wDear (.tup (keep_new upd_same nn3) (.cons (.str _) .nil)) (Nat.succ_le_succ (Nat.zero_le _)) (fun _ => by decide +kernel) (TreeOk.dear has fl)
    have fl : ¬ b1 ≤ floorM cols rows as chg room ins free := fun z => e (decide_eq_true z)
    have fne : fitM room ins free ≠ [] := fun z => fl (by
      unfold floorM
      rw [z, List.append_nil]
      unfold workM at eb1
      omega)
    have hia3 := (sx03.kt tg) _ _ hia
    have hfa3 := sx03.lst tg hfa
    have hS3 := hS.ext (sx03.ext tg)
    obtain ⟨dx3, l3, oo3, bb3, qd3, ds3, hp3, more3⟩ := id hS3
    -- the list that saves most
    refine ⟨.ref p, rfl, p, dx3, _, rfl, hp3, shF5_no_most2 _ _ _ _ _, .ref ia, rfl, .int room, rfl, .ref ia, rfl, .ref fa, rfl, room, ia, fa, ins, free, rfl, tg3, hia3, by omega, (fun o ho => short (cI.sub o ho)), hfa3, by omega, (fun o ho => short (hfr o ho).1), fun H4 D sx4 tg4 nD hD => ?_⟩
    have sx04 : Sx Z.Ps H H4 := sx03.trans sx4
    have tab4 : LamX.TabS H4 Z.P_Sheet_most_saving (lamQ "Sheet.most_saving") := tab_sx tab tg sx04 T.l_Sheet_most_saving
    refine ⟨p, ia, D, cols, rows, as, chg, ins, fitM room ins free, rfl, hS.ext (sx04.ext tg), (sx04.kt tg) _ _ hia, .inl (.inl hD), fne, cI.sub, (fun o ho => (hfr o (List.mem_filter.mp ho).1).1), by omega, has, hrn, hcn, tab4, fun one H5 hone _ sx5 tab5 => ?_⟩
    obtain ⟨onef, onel⟩ := List.mem_filter.mp hone
    have onel : lettersM ins + one.length ≤ room := of_decide_eq_true onel
    have tg5 : TG Z.Ps H5 := tg_past tg4 sx5 tab5
    have sx05 : Sx (Z.P_Sheet_most_saving :: Z.Ps) H H5 := (toL sx04).trans (Sx.more sx5 fun b hb => by rw [List.mem_singleton.mp hb]; exact List.mem_cons_self)
    have sx35 : Sx (Z.P_Sheet_most_saving :: Z.Ps) H3 H5 := (toL sx4).trans (Sx.more sx5 fun b hb => by rw [List.mem_singleton.mp hb]; exact List.mem_cons_self)
    have hB5 := hB3.kt (sx35.kt (tab_tg tab3 tg3))
    have hfa5 := sx05.lst tgL hfa
    -- the rest
    refine ⟨.ref fa, rfl, fa, rfl, ⟨_, .inl (.inl hfa5)⟩, fun R nR => lc_it (walk_list (xs := free.map tx)) (fun j H' => Same H5 H' ∧ H' R = some (.lst (((free.take j).filter fun o => decide (o ≠ one)).map tx)))
      ⟨Same.new (Same.refl H5) nR, upd_same⟩ (fun j H' _ hP => .inl (.inl (hP.1 _ _ hfa5))) (fun j x H7 H6 hj hP hY => ?_) (fun H6 hP => ?_)⟩
    · obtain ⟨sm6, hR6⟩ := hP
      obtain ⟨rfl, hx⟩ := hY
      rw [List.getElem?_map] at hx
      obtain ⟨o, ho, rfl⟩ := Option.map_eq_some_iff.mp hx
      have fs := filter_snoc (fun o : List Nat => decide (o ≠ one)) free j o ho
      refine ⟨rfl, tx o, rfl, tx one, rfl, rfl, _, rfl, ite2 (fun e => ?_) (fun e => ?_)⟩
      · have ne : o ≠ one := fun z => by
          rw [z] at e
          simp at e
        refine ⟨tx o, rfl, _, hR6, ?_, Same.mut sm6 nR, ?_⟩
        · rw [List.length_map]
          have := List.length_filter_le (fun o : List Nat => decide (o ≠ one)) (free.take j)
          rw [List.length_take] at this
          exact small1000 (by omega)
        · rw [upd_same, fs, if_pos (decide_eq_true ne), List.map_append]
          rfl
      · have eq : o = one := by
          have e' : ¬ (!decide (tx o = tx one)) = true := e
          by_cases z : o = one
          · exact z
          · exfalso
            refine e' ?_
            rw [decide_eq_false fun y => z (tx_inj y)]
            rfl
        refine ⟨sm6, ?_⟩
        rw [fs, if_neg (by rw [decide_eq_true_eq]; exact fun y => y eq), List.append_nil]
        exact hR6
    obtain ⟨sm6, hR6⟩ := hP
    rw [List.length_map, List.take_of_length_le (Nat.le_refl _)] at hR6
    have rmem : ∀ {o : List Nat}, o ∈ free.filter (fun o => decide (o ≠ one)) ↔ o ∈ free ∧ o ≠ one := fun {o} => by rw [List.mem_filter, decide_eq_true_eq]
    have rlen : (free.filter fun o => decide (o ≠ one)).length < free.length := List.length_filter_lt_length_iff_exists.mpr ⟨one, onef, by simp⟩
    have rnd : (free.filter fun o => decide (o ≠ one)).Nodup := fnd.filter _
    generalize hrest : (free.filter fun o => decide (o ≠ one)) = rest at hR6 rmem rlen rnd
    have sx06 : Sx (Z.P_Sheet_most_saving :: Z.Ps) H H6 := sx05.trans (Same.sx sm6)
    have tg6 := tg5.same sm6
    have tab6 := tab_same tab5 sm6
    have hB6 := hB5.kt fun c xs h => sm6 _ _ h
    have hia6 := (sx06.kt tgL) _ _ hia
    -- with it
    refine ⟨.ref p, rfl, .int room, rfl, .ref bb, rfl, .ref ia, rfl, ia, ins.map tx, rfl, .inl (.inl (.inl hia6)), tx one, rfl, ?_, fun u nu => ?_⟩
    · rw [List.length_append, List.length_map]
      exact Nat.le_of_lt (small1000 (show ins.length + 1 ≤ 1000 by omega))
    have sm7 := Same.new (o := .tup (ins.map tx ++ [tx one])) (Same.refl H6) nu
    have hu7 : (upd H6 u (.tup (ins.map tx ++ [tx one]))) u = some (.tup ((ins ++ [one]).map tx)) := by rw [upd_same, List.map_append]; rfl
    generalize upd H6 u (.tup (ins.map tx ++ [tx one])) = H7 at sm7 hu7 ⊢
    have sx07 : Sx (Z.P_Sheet_most_saving :: Z.Ps) H H7 := sx06.trans (Same.sx sm7)
    refine ⟨.ref R, rfl, ?_⟩
    match d, hfd, G_grown with
    | 0, hfd, _ => exact absurd rlen (by omega)
    | d' + 1, hfd, G_grown =>
      have cO : Ch cols room (ins ++ [one]) := ⟨nodup_app_one cI.nd (hfr one onef).2, fun o ho => (List.mem_append.mp ho).elim (fun z => cI.sub o z) fun z => by rw [List.mem_singleton.mp z]; exact (hfr one onef).1, by
        rw [letters_app]
        show lettersM ins + (one.length + 0) ≤ room
        omega⟩
      refine ⟨p, bb, u, R, room, b1, cols, rows, as, chg, ins ++ [one], rest, rfl, tg6.same sm7, tab_same tab6 sm7, hS.ext (sx07.ext tgL), hB6.kt (fun c xs h => sm7 _ _ h), hu7, cO, sm7 _ _ hR6, rnd, (fun o ho => ⟨(hfr o (rmem.mp ho).1).1, fun z => (List.mem_append.mp z).elim (fun y => (hfr o (rmem.mp ho).1).2 y) fun y => (rmem.mp ho).2 (List.mem_singleton.mp y)⟩), by omega, by omega, hrm, hcn, has, hrn, hg0, hg1, fun H8 t1 ba1 tree1 r1 sx8 tg8 tab8 ht1 hB8 g1 d1 fz1 dd1 cl1 tk1 => ?_⟩
      refine ⟨t1, [.ref ba1, tree1], rfl, .inl (.inl ht1), rfl, .ref ba1, [tree1], rfl, tree1, [], rfl, rfl, ?_⟩
      have sx08 : Sx (Z.P_Sheet_most_saving :: Z.Ps) H H8 := sx07.trans sx8
      have hR8 := sx8.lst (tab_tg (tab_same tab6 sm7) (tg6.same sm7)) (sm7 _ _ hR6)
      -- without it
      refine ⟨.ref p, rfl, .int room, rfl, .ref ba1, rfl, .ref ia, rfl, .ref R, rfl, p, ba1, ia, R, room, r1, cols, rows, as, chg, ins, rest, rfl, tg8, tab8, hS.ext (sx08.ext tgL), hB8, (sx08.kt tgL) _ _ hia, cI, hR8, rnd, (fun o ho => hfr o (rmem.mp ho).1), by omega, by omega, hrm, hcn, has, hrn, hg0, hg1, fun H9 t2 ba2 tree2 r2 sx9 tg9 tab9 ht2 hB9 g2 d2 fz2 dd2 cl2 tk2 => ?_⟩
      refine ⟨t2, [.ref ba2, tree2], rfl, .inl (.inl ht2), rfl, .ref ba2, [tree2], rfl, tree2, [], rfl, rfl, ?_⟩
      refine ⟨.ref ba2, rfl, tx one, rfl, tree1, rfl, tree2, rfl, (by show 4 ≤ sizeLine; decide), fun n4 nn4 => ?_⟩
      have smA := Same.new (o := .tup [.str "list", tx one, tree1, tree2]) (Same.refl H9) nn4
      refine ⟨(by show 2 ≤ sizeLine; decide), fun n5 nn5 => ?_⟩
      have smB := Same.new (o := .tup [.ref ba2, .ref n4]) smA nn5
      refine q _ n5 ba2 (.ref n4) r2 ((sx08.trans sx9).trans (Same.sx smB)) (tg9.same smB) (tab_same tab9 smB) upd_same (hB9.kt fun c xs h => smB _ _ h) (Good.start (Good.split (r1 := r1) onef ?_ ?_) eb1 cI.fits) (.tuple [.str ("list" : Str), .str (txS one), d1, d2]) (.tup (keep_new upd_same nn5) (.cons (.str _) (.cons (.str _) (.cons ((fz1.kt (sx9.kt (tab_tg tab8 tg8))).kt fun c xs h => smB _ _ h) (.cons (fz2.kt fun c xs h => smB _ _ h) .nil))))) ?_ (fun hc => ?_) (TreeOk.fork onef (by rw [hrest]; exact tk1) (by rw [hrest]; exact tk2) g2.le)
      · rw [hrest]
        exact g1
      · rw [hrest]
        exact g2
      · show max 0 (max 0 (max d1.depth (max d2.depth 0))) + 1 ≤ free.length + 1
        omega
      · have c1 := cl1 hc
        have c2 := cl2 hc
        have co : (PyData.str (txS one)).canLay0 = true := by
          show ((txS one).cps.all fun c => decide (c < 0x110000)) = true
          rw [Array.all_eq_true]
          intro i hi
          have : (txS one).cps[i] ∈ one := by simp
          exact decide_eq_true (hc _ ((lists_mem.mp (hfr one onef).1).2.2.2 _ this))
        have c0 : (PyData.str ("list" : Str)).canLay0 = true := by decide +kernel
        show ((PyData.str ("list" : Str)).canLay0 && ((PyData.str (txS one)).canLay0 && (d1.canLay0 && (d2.canLay0 && true)))) = true
        rw [c0, co, c1, c2]
        rfl
theorem ok_grown (T : Tx K mg Z) (TB : Tb base mg Z) : ∀ d : Nat, FnOk P w K mg base CX0 (d + 8) Z.f_grown Z.d_grown ["sheet", "room", "best", "inside", "free"] (spGrown K Z d)
  | 0 => ok_grown1 T TB 0 ⟨fun _ _ _ _ h => h.elim, fun _ _ _ _ _ _ _ _ _ _ _ _ _ h => h.elim⟩
  | d + 1 => ok_grown1 T TB (d + 1) (ok_grown T TB d)

/-! ### the least over strong lists, steps -/
/-- the steps stand in a list, each a tuple of its own -/
def StepsAt (H : Hp) (l : Addr) (ps : List (Int × Int)) : Prop := ∃ vs : List V, H l = some (.lst vs) ∧ Paired (fun v p => ∃ t, v = V.ref t ∧ H t = some (.tup [.int p.1, .int p.2])) vs ps
theorem paired_last {α β : Type} {F : α → β → Prop} {p : β} : ∀ {ps : List β} {vs : List α}, Paired F vs (ps ++ [p]) → ∃ us u, vs = us ++ [u] ∧ Paired F us ps ∧ F u p
  | [], _, .cons f .nil => ⟨[], _, rfl, .nil, f⟩
  | _ :: ps, _, .cons f r => by
    obtain ⟨us, u, e, r', f'⟩ := paired_last (ps := ps) r
    exact ⟨_ :: us, u, by rw [e]; rfl, .cons f r', f'⟩
theorem paired_snoc {α β : Type} {F G : α → β → Prop} (k : ∀ a b, F a b → G a b) {a : α} {b : β} (e : G a b) : ∀ {us : List α} {ps : List β}, Paired F us ps → Paired G (us ++ [a]) (ps ++ [b])
  | _, _, .nil => .cons e .nil
  | _, _, .cons f r => .cons (k _ _ f) (paired_snoc k e r)
theorem stairs_congr {f g : Nat → Int} : ∀ {n : Nat}, (∀ k, k ≤ n → f k = g k) → stairsM f n = stairsM g n
  | 0, h => by
    unfold stairsM
    rw [h 0 (Nat.le_refl _)]
  | n + 1, h => by
    have ih := stairs_congr (n := n) fun k hk => h k (by omega)
    unfold stairsM
    rw [ih, h (n + 1) (Nat.le_refl _)]
theorem steps_kt {H H' : Hp} {vs : List V} {ps : List (Int × Int)} (k : Kt H H') (h : Paired (fun v p => ∃ t, v = V.ref t ∧ H t = some (.tup [.int p.1, .int p.2])) vs ps) : Paired (fun v p => ∃ t, v = V.ref t ∧ H' t = some (.tup [.int p.1, .int p.2])) vs ps := L2.Paired.mapP h fun _ _ ⟨t, e, q⟩ => ⟨t, e, k _ _ q⟩
theorem opt_nought {cols : List Nat} {rows : List (List Int)} {as : List Ask} {chg : Int} : Opt cols rows as chg 0 (listsM cols cols.length) (workM cols rows [] as chg) := by
  refine ⟨fun ch _ sub l => ?_, [], List.nodup_nil, (fun o h => nomatch h), Nat.le_refl _, rfl⟩
  have := letters_len sub
  have e : ch = [] := List.length_eq_zero_iff.mp (by omega)
  rw [e]
  exact Int.le_refl _
theorem BestAt.more {cols : List Nat} {rows : List (List Int)} {as : List Ask} {chg : Int} {r r' : Nat} {H : Hp} {ba : Addr} {p : Int} (h : BestAt cols rows as chg r H ba p) (l : r ≤ r') : BestAt cols rows as chg r' H ba p := by
  obtain ⟨ca, ch, h1, h2, c, e⟩ := h
  exact ⟨ca, ch, h1, h2, ⟨c.nd, c.sub, Nat.le_trans c.fits l⟩, e⟩
theorem strong_cheap {cols : List Nat} {rows : List (List Int)} {as : List Ask} {chg : Int} {all strong : List (List Nat)} (hok : AsksOk cols as) (hg : 0 ≤ chg) (out : ∀ o ∈ all, ∃ s ∈ strong, Outdoes cols rows as s o) {ch : List (List Nat)} (hch : ∀ o ∈ ch, o ∈ all) : ∃ ch' : List (List Nat), ch'.Nodup ∧ (∀ o ∈ ch', o ∈ strong) ∧ lettersM ch' ≤ lettersM ch ∧ workM cols rows ch' as chg ≤ workM cols rows ch as chg := by
  have key : ∀ ch : List (List Nat), (∀ o ∈ ch, o ∈ all) → ∃ ch' : List (List Nat), ch'.Nodup ∧ (∀ o ∈ ch', o ∈ strong) ∧ (∀ o ∈ ch, ∃ s ∈ ch', Outdoes cols rows as s o) ∧ lettersM ch' ≤ lettersM ch ∧ keepM chg ch' ≤ keepM chg ch := fun ch => by
    induction ch with
    | nil => exact fun _ => ⟨[], List.nodup_nil, (fun o h => nomatch h), (fun o h => nomatch h), Nat.le_refl _, Int.le_refl _⟩
    | cons o ch ih =>
      intro hs
      obtain ⟨ch', nd, s1, s2, l1, l2⟩ := ih fun x hx => hs x (List.mem_cons_of_mem _ hx)
      obtain ⟨s, hss, so⟩ := out o (hs o List.mem_cons_self)
      have e1 : lettersM (o :: ch) = o.length + lettersM ch := rfl
      have e2 : keepM chg (o :: ch) = keepM chg [o] + keepM chg ch := keep_app [o] ch
      have p2 := keep_pos hg [o]
      by_cases y : s ∈ ch'
      · refine ⟨ch', nd, s1, fun x hx => ?_, by omega, by omega⟩
        rcases List.mem_cons.mp hx with z | z
        · exact ⟨s, y, z ▸ so⟩
        · exact s2 x z
      · have e3 : lettersM (s :: ch') = s.length + lettersM ch' := rfl
        have e4 : keepM chg (s :: ch') = keepM chg [s] + keepM chg ch' := keep_app [s] ch'
        have e5 : keepM chg [s] ≤ keepM chg [o] := by
          unfold keepM
          refine Int.mul_le_mul_of_nonneg_left ?_ hg
          have := so.1
          simp only [List.map_cons, List.map_nil, List.sum_cons, List.sum_nil]
          omega
        have := so.1
        refine ⟨s :: ch', List.nodup_cons.mpr ⟨y, nd⟩, fun x hx => ?_, fun x hx => ?_, by omega, by omega⟩
        · rcases List.mem_cons.mp hx with z | z
          · rw [z]
            exact hss
          · exact s1 x z
        · rcases List.mem_cons.mp hx with z | z
          · exact ⟨s, List.mem_cons_self, z ▸ so⟩
          · obtain ⟨t, ht, q⟩ := s2 x z
            exact ⟨t, List.mem_cons_of_mem _ ht, q⟩
  obtain ⟨ch', nd, s1, s2, l1, l2⟩ := key ch hch
  refine ⟨ch', nd, s1, l1, ?_⟩
  have h2 : askedM cols rows ch' as ≤ askedM cols rows ch as := asked_le hok fun a ha o ho => by
    obtain ⟨s, hss, so⟩ := s2 o ho
    exact ⟨s, hss, so.2 a ha⟩
  unfold workM
  omega
/-- strong lists are enough -/
theorem Strong.opt {cols : List Nat} {rows : List (List Int)} {as : List Ask} {chg : Int} {room m : Nat} {st : List (List Nat)} {b r : Int} (S : Strong cols rows as st) (has : AsksOk cols as) (hg : 0 ≤ chg) (g : Good cols rows as chg room b [] st r) (hm : m ≤ room) (hb : Opt cols rows as chg m (listsM cols cols.length) b) : Opt cols rows as chg room (listsM cols cols.length) r := by
  refine ⟨fun ch nd sub l => ?_, ?_⟩
  · obtain ⟨ch', n', s', l', w'⟩ := strong_cheap (rows := rows) (chg := chg) has hg S.out sub
    have := g.all ch' n' s' (by rw [List.nil_append]; omega)
    rw [List.nil_append] at this
    omega
  · rcases g.is with z | ⟨T, nd, sub, l, e⟩
    · obtain ⟨ch, a1, a2, a3, a4⟩ := hb.is
      exact ⟨ch, a1, a2, Nat.le_trans a3 hm, by rw [z, a4]⟩
    · exact ⟨T, nd, fun o h => S.sub o (sub o h), l, e⟩
theorem shF5_no_strong (chg : Int) (l o b q : Addr) : (shF5 chg l o b q).lookup ("strong_lists" : Str) = none := by kernel_rfl
theorem strong_len {cols : List Nat} {rows : List (List Int)} {as : List Ask} {st : List (List Nat)} (S : Strong cols rows as st) {n : Nat} (h : (listsM cols cols.length).length ≤ n) : st.length ≤ n := by
  have key : ∀ (a b : List (List Nat)), a.Nodup → (∀ o ∈ a, o ∈ b) → a.length ≤ b.length := fun a => by
    induction a with
    | nil => exact fun b _ _ => Nat.zero_le _
    | cons o a ih =>
      intro b nd sub
      obtain ⟨no, nd'⟩ := List.nodup_cons.mp nd
      have hb := sub o List.mem_cons_self
      have := ih (b.erase o) nd' fun x hx => (List.mem_erase_of_ne (fun z : x = o => no (z ▸ hx))).mpr (sub x (List.mem_cons_of_mem _ hx))
      rw [List.length_erase_of_mem hb] at this
      have p : 0 < b.length := List.length_pos_of_mem hb
      rw [List.length_cons]
      omega
  have := key st _ S.nd S.sub
  omega
theorem tab_mut {P L : Addr} {q : Str} {H : Hp} {xs : List V} {o : HO} (t : LamX.TabS H P q) (h : H L = some (.lst xs)) : LamX.TabS (upd H L o) P q := by
  obtain ⟨ps, h1, h2, h3⟩ := t
  refine ⟨ps, keep_ne h1 (fun z => by rw [z, h] at h1; cases h1), h2, fun pos cv e => ?_⟩
  obtain ⟨c, e1, e2⟩ := h3 pos cv e
  exact ⟨c, e1, keep_ne e2 fun z => by
    rw [z, h] at e2
    have e3 := Option.some.inj e2
    unfold LamX.CodeO at e3
    cases e3⟩

/-! ### cheapest -/
def spCheapest (K : PySem.W.Frag) (Z : Ad) : Sp := fun vs H Q _ => ∃ (wv : V) (room : Nat) (cols : List Nat) (rows : List (List Int)) (as : List Ask) (chg : Int), vs = [wv, .int room] ∧ room ≤ 89 ∧ TG Z.Ps H ∧ LamX.TabS H Z.P_Sheet_most_saving (lamQ "Sheet.most_saving") ∧ WorkZ H wv cols rows as chg ∧ RowsOk cols.length rows ∧ rows.length ≤ 100 ∧ cols.Nodup ∧ cols.length ≤ 4 ∧ AsksOk cols as ∧ 0 ≤ chg ∧ chg ≤ 1000000 ∧
  ∀ (t ct : Addr) (tree : V) (r : Int) (ch : List (List Nat)) (H' : Hp), Sx (Z.P_Sheet_most_saving :: Z.Ps) H H' → TG Z.Ps H' → LamX.TabS H' Z.P_Sheet_most_saving (lamQ "Sheet.most_saving") → Opt cols rows as chg room (listsM cols cols.length) r → Ch cols room ch → r = workM cols rows ch as chg → H' ct = some (.tup ((sortO ch).map tx)) → H' t = some (.tup [.int r, .ref ct, tree]) → ∀ d : PyData, Fz H' tree d → d.depth ≤ (listsM cols cols.length).length + 1 → ((∀ c ∈ cols, c < 1114112) → d.canLay0 = true) → (∀ num, num ≤ r → goD cols rows as chg room num d [] (listsM cols cols.length) = true) → Q (.ref t) H'
theorem ok_cheapest (T : Tx K mg Z) (TB : Tb base mg Z) : FnOk P w K mg base CX0 80 Z.f_cheapest Z.d_cheapest ["work", "room"] (spCheapest K Z) := by
  have G_Sheet___init__ : FnOk P w K mg base CX0 6 Z.f_Sheet___init__ Z.d_Sheet___init__ ["self", "work"] (spSheetInit K Z) := ok_sheetinit T TB
  have G_Sheet_cost : FnOk P w K mg base CX0 5 Z.f_Sheet_cost Z.d_Sheet_cost ["self", "choice"] (spCost K Z) := ok_cost T TB
  have G_Sheet_strong_lists : FnOk P w K mg base CX0 9 Z.f_Sheet_strong_lists Z.d_Sheet_strong_lists ["self"] (spStrong K Z) := ok_strong T TB
  have G_grown : FnOk P w K mg base CX0 72 Z.f_grown Z.d_grown ["sheet", "room", "best", "inside", "free"] (spGrown K Z 64) := ok_grown T TB 64
  refine T.F_cheapest.ok sc_cheapest (fun vs H Q E h => ?_) (fun cdv A outer s H vs Q E hr h => ?_)
  · obtain ⟨wv, room, cols, rows, as, chg, rfl, _⟩ := h
    rfl
  · obtain ⟨wv, room, cols, rows, as, chg, rfl, hrm, tg, tab, fw, hrs, hrn, hcd, hc4, has, hg0, hg1, q⟩ := h
    refine ⟨_, (pss_cons (ps_set (i := 2) sc_cheapest.nd rfl (.inl rfl) (pe_make T.mk_Sheet G_Sheet___init__ (hr.mono (by omega)) (by rfl) T.g_Sheet T.b_Sheet___init__ .nil pass0 (pa_cons (pv 0) pa_nil)))
      (pss_cons (ps_set (i := 3) sc_cheapest.nd rfl (.inl rfl) (pe_meth0 (pv 2) T.cl_Sheet T.m_Sheet_strong_lists G_Sheet_strong_lists (hr.mono (by omega)) T.b_Sheet_strong_lists .nil pass0))
      (pss_cons (ps_asg (pe_call G_grown (hr.mono (by omega)) (by rfl) T.g_grown T.F_grown.kp T.b_grown .nil pass0 (pa_cons (pv 2) (pa_cons (pv 1) (pa_cons (pe_tup (pa_cons (pe_meth (pv 2) T.cl_Sheet T.m_Sheet_cost G_Sheet_cost (hr.mono (by omega)) T.b_Sheet_cost .nil pass0 (pa_cons (pe_tup pa_nil) pa_nil)) (pa_cons (pe_tup pa_nil) pa_nil))) (pa_cons (pe_tup pa_nil) (pa_cons (pv 3) pa_nil)))))) (pgT K (n := 2) (pgs_cons (pg_name (i := 4) sc_cheapest.nd rfl (.inl rfl)) (pgs_cons (pg_name (i := 5) sc_cheapest.nd rfl (.inl rfl)) pgs_nil))))
      (pss_cons (ps_asg (pe_call G_grown (hr.mono (by omega)) (by rfl) T.g_grown T.F_grown.kp T.b_grown .nil pass0 (pa_cons (pv 2) (pa_cons (pv 1) (pa_cons (pv 4) (pa_cons (pe_tup pa_nil) (pa_cons (pv 3) pa_nil)))))) (pgT K (n := 2) (pgs_cons (pgT K (n := 2) (pgs_cons (pg_name (i := 6) sc_cheapest.nd rfl (.inl rfl)) (pgs_cons (pg_name (i := 7) sc_cheapest.nd rfl (.inl rfl)) pgs_nil))) (pgs_cons (pg_name (i := 5) sc_cheapest.nd rfl (.inl rfl)) pgs_nil))))
      (pss_one (ps_ret (pe_tup (pa_cons (pv 6) (pa_cons (pe_callTy (cTupSq K) (by rfl) T.m_tuple (by decide +kernel) (pa_cons (pe_callB (cSortTz K hr) (by rfl) T.m_sorted (by decide +kernel) (pa_cons (pv 7) pa_nil)) pa_nil)) (pa_cons (pv 5) pa_nil)))))))))), ?_⟩
    have hcn : cols.length ≤ 6 := by omega
    have toL : ∀ {G G' : Hp}, Sx Z.Ps G G' → Sx (Z.P_Sheet_most_saving :: Z.Ps) G G' := fun s => Sx.more s fun b hb => List.mem_cons_of_mem _ hb
    -- sheet = Sheet(work)
    refine ⟨wv, rfl, fun p dx0 np ndx nex => ?_⟩
    have sm1 : Same H (upd (upd H dx0 (.own p)) p (.ins Z.C_Sheet dx0 [])) := fun b o e => by
      rw [upd_ne (ne_of_none e np), upd_ne (ne_of_none e ndx)]
      exact e
    have hp1 : (upd (upd H dx0 (.own p)) p (.ins Z.C_Sheet dx0 [])) p = some (.ins Z.C_Sheet dx0 []) := upd_same
    generalize upd (upd H dx0 (.own p)) p (.ins Z.C_Sheet dx0 []) = H1 at sm1 hp1 ⊢
    refine ⟨p, dx0, wv, cols, rows, as, chg, rfl, hp1, tg.same sm1, fw.kT (Same.kT sm1), hrs, hrn, hcn, has, fun H2 sx2 tg2 hS2 => ⟨rfl, ?_⟩⟩
    have sxH2 : Sx Z.Ps H H2 := fun b o n e => sx2 b o (fun z => (List.mem_cons.mp z).elim (ne_of_none e np) n) (sm1 b o e)
    -- strong
    obtain ⟨dx, l, oo, bb, qd, ds, hp2, more2⟩ := id hS2
    refine ⟨.ref p, rfl, p, dx, _, rfl, hp2, shF5_no_strong _ _ _ _ _, p, cols, rows, as, chg, rfl, tg2, hS2, hcd, hc4, hrn, has, fun H3 D st sx3 tg3 nD hD3 S => ?_⟩
    have sxH3 : Sx Z.Ps H H3 := sxH2.trans sx3
    have hS3 := hS2.ext (sx3.ext tg2)
    have stl : st.length ≤ 64 := strong_len S (lists_four hcd hc4)
    have tab3 : LamX.TabS H3 Z.P_Sheet_most_saving (lamQ "Sheet.most_saving") := tab_sx tab tg sxH3 T.l_Sheet_most_saving
    have tgL3 := tab_tg tab3 tg3
    obtain ⟨dx3, l3, oo3, bb3, qd3, ds3, hp3, more3⟩ := id hS3
    -- the first search
    refine ⟨.ref p, rfl, .int room, rfl, .ref p, rfl, p, dx3, _, rfl, hp3, shF5_no_cost _ _ _ _ _, (by show 0 ≤ sizeLine; decide), fun e0 ne0 => ?_⟩
    have sx4 : Sx Z.Ps H3 (upd H3 e0 (.tup [])) := Sx.new Sx.rfl' ne0
    have tg4 : TG Z.Ps (upd H3 e0 (.tup [])) := tg3.new ne0
    refine ⟨p, e0, cols, rows, as, chg, [], rfl, tg4, hS3.ext (sx4.ext tg3), upd_same, (fun o h => nomatch h), by simp, hcn, has, hrn, hg0, hg1, fun H5 sx5 tg5 => ⟨(by show 0 ≤ sizeLine; decide), fun e1 ne1 => ⟨(by show 2 ≤ sizeLine; decide), fun b0 nb0 => ⟨(by show 0 ≤ sizeLine; decide), fun e2 ne2 => ?_⟩⟩⟩⟩
    have sx6 : Sx Z.Ps H3 (upd (upd (upd H5 e1 (.tup [])) b0 (.tup [.int (workM cols rows [] as chg), .ref e1])) e2 (.tup [])) := (((sx4.trans sx5).new ne1).new nb0).new ne2
    have tg6 : TG Z.Ps (upd (upd (upd H5 e1 (.tup [])) b0 (.tup [.int (workM cols rows [] as chg), .ref e1])) e2 (.tup [])) := ((tg5.new ne1).new nb0).new ne2
    have hb6 : (upd (upd (upd H5 e1 (.tup [])) b0 (.tup [.int (workM cols rows [] as chg), .ref e1])) e2 (.tup [])) b0 = some (.tup [.int (workM cols rows [] as chg), .ref e1]) := keep_new upd_same ne2
    have he6 : (upd (upd (upd H5 e1 (.tup [])) b0 (.tup [.int (workM cols rows [] as chg), .ref e1])) e2 (.tup [])) e1 = some (.tup []) := keep_new (keep_new upd_same nb0) ne2
    have he2 : (upd (upd (upd H5 e1 (.tup [])) b0 (.tup [.int (workM cols rows [] as chg), .ref e1])) e2 (.tup [])) e2 = some (.tup []) := upd_same
    generalize upd (upd (upd H5 e1 (.tup [])) b0 (.tup [.int (workM cols rows [] as chg), .ref e1])) e2 (.tup []) = H6 at sx6 tg6 hb6 he6 he2 ⊢
    have tab6 : LamX.TabS H6 Z.P_Sheet_most_saving (lamQ "Sheet.most_saving") := tab_sx tab3 tg3 sx6 T.l_Sheet_most_saving
    have c0 : Ch cols room [] := ⟨List.nodup_nil, (fun o h => nomatch h), Nat.zero_le _⟩
    refine ⟨.ref D, rfl, p, b0, e2, D, room, workM cols rows [] as chg, cols, rows, as, chg, [], st, rfl, tg6, tab6, hS3.ext (sx6.ext tg3), ⟨e1, [], hb6, he6, c0, rfl⟩, he2, c0, sx6.lst tg3 hD3, S.nd, (fun o ho => ⟨S.sub o ho, fun z => nomatch z⟩), stl, by omega, by omega, hcn, has, hrn, hg0, hg1, fun H7 t1 ba1 tree1 r1 sx7 tg7 tab7 ht1 hB1 good1 _ _ _ _ _ => ?_⟩
    refine ⟨t1, [.ref ba1, tree1], rfl, .inl (.inl ht1), rfl, .ref ba1, [tree1], rfl, tree1, [], rfl, rfl, ?_⟩
    have opt1 : Opt cols rows as chg room (listsM cols cols.length) r1 := S.opt has hg0 good1 (Nat.zero_le _) opt_nought
    have sx37 : Sx (Z.P_Sheet_most_saving :: Z.Ps) H3 H7 := (toL sx6).trans sx7
    -- the second search
    refine ⟨.ref p, rfl, .int room, rfl, .ref ba1, rfl, (by show 0 ≤ sizeLine; decide), fun e3 ne3 => ?_⟩
    have sm8 := Same.new (o := .tup []) (Same.refl H7) ne3
    refine ⟨.ref D, rfl, p, ba1, e3, D, room, r1, cols, rows, as, chg, [], st, rfl, tg7.same sm8, tab_same tab7 sm8, (hS3.ext (sx37.ext tgL3)).ext fun b o q _ => sm8 b o q, hB1.kt fun c xs q => sm8 _ _ q, upd_same, c0, sm8 _ _ (sx37.lst tgL3 hD3), S.nd, (fun o ho => ⟨S.sub o ho, fun z => nomatch z⟩), stl, by omega, by omega, hcn, has, hrn, hg0, hg1, fun H9 t2 ba2 tree2 r2 sx9 tg9 tab9 ht2 hB2 good2 dT fzT ddT clT tkT => ?_⟩
    have opt2 : Opt cols rows as chg room (listsM cols cols.length) r2 := S.opt has hg0 good2 (Nat.le_refl _) opt1
    obtain ⟨ca, ch, hba2, hca, cC, er⟩ := id hB2
    refine ⟨t2, [.ref ba2, tree2], rfl, .inl (.inl ht2), rfl, .ref ba2, [tree2], rfl, ba2, [.int r2, .ref ca], rfl, .inl (.inl hba2), rfl, .int r2, [.ref ca], rfl, .ref ca, [], rfl, rfl, tree2, [], rfl, rfl, ?_⟩
    have sx39 : Sx (Z.P_Sheet_most_saving :: Z.Ps) H3 H9 := (sx37.trans (Same.sx sm8)).trans sx9
    refine ⟨.int r2, rfl, .ref ca, rfl, ca, ch, rfl, .inl (.inl hca), fun k nk => ?_⟩
    have smA := Same.new (o := .lst ((sortO ch).map tx)) (Same.refl H9) nk
    refine ⟨k, _, rfl, .inl ⟨.inl (.inl upd_same), fun ct nct => ?_⟩⟩
    have smB := Same.new (o := .tup ((sortO ch).map tx)) smA nct
    have hct : (upd (upd H9 k (.lst ((sortO ch).map tx))) ct (.tup ((sortO ch).map tx))) ct = some (.tup ((sortO ch).map tx)) := upd_same
    generalize upd (upd H9 k (.lst ((sortO ch).map tx))) ct (.tup ((sortO ch).map tx)) = HB at smB hct ⊢
    refine ⟨tree2, rfl, (by show 3 ≤ sizeLine; decide), fun t nt => ?_⟩
    have smC := Same.new (o := .tup [.int r2, .ref ct, tree2]) smB nt
    exact q t ct tree2 r2 ch _ ((toL sxH3).trans (sx39.trans (Same.sx smC))) (tg9.same smC) (tab_same tab9 smC) opt2 cC er (keep_new hct nt) upd_same dT ((fzT.kt fun c xs h => smB _ _ h).kt (Kt.new nt)) (Nat.le_trans ddT (Nat.succ_le_succ (strong_len S (Nat.le_refl _)))) clT (fun num hn => tkT num _ hn S.sub (fun o ho => let ⟨s, hs, so⟩ := S.out o ho; ⟨s, .inl hs, so⟩) S.apart)

/-! ### room -/
def spRoom (K : PySem.W.Frag) (Z : Ad) : Sp := fun vs H Q _ => ∃ (ca : Addr) (ch : List (List Nat)), vs = [.ref ca] ∧ TG Z.Ps H ∧ H ca = some (.tup (ch.map tx)) ∧ ch.length ≤ 100 ∧ (∀ o ∈ ch, o.length ≤ 1000) ∧
  ∀ (H' : Hp), Sx Z.Ps H H' → TG Z.Ps H' → Q (.int (roomM ch)) H'
theorem ok_room (T : Tx K mg Z) (TB : Tb base mg Z) : FnOk P w K mg base CX0 4 Z.f_room Z.d_room ["choice"] (spRoom K Z) := by
  refine T.C_room.ok sc_room (fun vs H Q E h => ?_) (fun A outer s H vs Q E hr h => ?_)
  · obtain ⟨ca, ch, rfl, _⟩ := h
    rfl
  · obtain ⟨ca, ch, rfl, tg, hca, hcl, hol, q⟩ := h
    refine ⟨_, (pss_one (ps_ret (pe_sumC (own := [("one", 1)]) (k := 0) hr (by rfl) T.m_sum (TB.t_room) rfl (gxS_by (blkOk_by (own := [("one", 1)]) (by kernel_rfl)) (by kernel_rfl)) sc_room.nd (by rfl) (piT K (pv 0)) (fun _ _ _ _ _ _ _ _ => (pg_name (i := 1) sc_room.nd rfl (.inl rfl))) (fun _ _ _ _ _ _ _ _ hr => (pe_callB call_len_str (by rfl) T.m_len (by decide +kernel) (pa_cons (pv 1) pa_nil)))))), ?_⟩
    have hP : Z.P_room ∈ Z.Ps := by simp
    have hl : (ch.map fun o => (o.length : Int)).length = (ch.map tx).length := by rw [List.length_map, List.length_map]
    refine ⟨.ref ca, rfl, ca, rfl, ⟨_, .inl (.inl hca)⟩, tg _ hP, fun H2 hT => ?_⟩
    have tg2 := Tabbed.tg tg hT
    have sx2 := Tabbed.sx hP hT
    have hca2 := (sx2.kt tg) _ _ hca
    have hfit : ∀ j, j < (ch.map fun o => (o.length : Int)).length → InLong (atL (ch.map fun o => (o.length : Int)) j) ∧ InLong (preSum (atL (ch.map fun o => (o.length : Int))) (j + 1)) := fit_of (by rw [List.length_map]; omega) fun x hx => by
      obtain ⟨o, ho, rfl⟩ := List.mem_map.mp hx
      have := hol o ho
      omega
    rw [hl] at hfit
    refine ⟨(ch.map tx).length, atL (ch.map fun o => (o.length : Int)), fun i H' => i ≤ (ch.map tx).length ∧ (H' = H2), hfit, ⟨Nat.zero_le _, rfl⟩, sum_step (walk_tup (xs := ch.map tx)) (fun i H' _ e => ?_) (fun i x H3 H4 hi e hY => ?_), fun H3 e0 => ?_⟩
    · rw [e]
      exact .inl (.inl hca2)
    · obtain ⟨rfl, hx⟩ := hY
      rw [List.getElem?_map] at hx
      obtain ⟨o, ho, rfl⟩ := Option.map_eq_some_iff.mp hx
      refine ⟨rfl, tx o, rfl, _, rfl, Nat.le_of_lt (small1000 (show o.length ≤ 1000 from hol o (List.mem_of_getElem? ho))), ?_, hi, e⟩
      rw [at_map ho]
      rfl
    · obtain ⟨_, e⟩ := e0
      rw [← hl, pre_take _ _ (Nat.le_refl _), List.take_length, e]
      exact q H2 sx2 tg2

/-! ### Wanted -/
abbrev waF1 (d : Addr) : List (Str × V) := [("times", .ref d)]
theorem waF1_put (d : Addr) : putF "times" (.ref d) ([] : List (Str × V)) = waF1 d := by kernel_rfl
theorem waF1_times (d : Addr) : (waF1 d).lookup ("times" : Str) = some (.ref d) := by kernel_rfl
theorem waF1_no_more (d : Addr) : (waF1 d).lookup ("more" : Str) = none := by kernel_rfl
theorem waF1_no_leave (d : Addr) : (waF1 d).lookup ("leave" : Str) = none := by kernel_rfl
theorem waF1_no_asks (d : Addr) : (waF1 d).lookup ("as_asks" : Str) = none := by kernel_rfl
/-- the asks as stand at p, in the dict d -/
def WantedAt (w : World) (C : Addr) (H : Hp) (p d : Addr) (as : List Ask) : Prop := ∃ (dx : Addr) (ws : List (Addr × Ask)), ws.map (·.2) = as ∧ H p = some (.ins C dx (waF1 d)) ∧ H d = some (dicQ w d (kvsA ws)) ∧ ∀ x ∈ ws, QZ H (.ref x.1) x.2.es x.2.rc
theorem WantedAt.keep {w : World} {C : Addr} {H H' : Hp} {p d : Addr} {as : List Ask} (h : WantedAt w C H p d as) (k1 : ∀ o, H p = some o → H' p = some o) (k2 : ∀ o, H d = some o → H' d = some o) (k : KT H H') : WantedAt w C H' p d as := by
  obtain ⟨dx, ws, e, h1, h2, h3⟩ := h
  exact ⟨dx, ws, e, k1 _ h1, k2 _ h2, fun x hx => (h3 x hx).kT k⟩
theorem WantedAt.apart {w : World} {C : Addr} {H : Hp} {p d : Addr} {as : List Ask} (h : WantedAt w C H p d as) : p ≠ d := by
  obtain ⟨dx, ws, e, h1, h2, h3⟩ := h
  intro z
  rw [z, h2] at h1
  cases h1
theorem keys_kvs {H : Hp} {ws : List (Addr × Ask)} (h : ∀ x ∈ ws, QZ H (.ref x.1) x.2.es x.2.rc) : KeysQ H (kvsA ws) := fun p hp => by
  obtain ⟨x, hx, rfl⟩ := List.mem_map.mp hp
  exact ⟨(h x hx).ky, nkQ_depth _⟩
/-- a dict of numbers changed -/
theorem KT.dic {w : World} {H : Hp} {d : Addr} {kvs : KvQ} {o : HO} (h : H d = some (dicQ w d kvs)) : KT H (upd H d o) := by
  constructor
  · intro b xs e
    refine keep_ne e fun z => ?_
    rw [z, h] at e
    cases e
  · intro b u xs e
    refine keep_ne e fun z => ?_
    rw [z, h] at e
    cases e
def spWantedInit (w : World) (K : PySem.W.Frag) (Z : Ad) : Sp := fun vs H Q _ => ∃ (p dx : Addr), vs = [.ref p] ∧ H p = some (.ins Z.C_Wanted dx []) ∧ ∀ (d : Addr) (H' : Hp), Kp p H H' → H d = none → WantedAt w Z.C_Wanted H' p d [] → Q .non H'
theorem ok_wantedinit (T : Tx K mg Z) : FnOk P w K mg base CX0 1 Z.f_Wanted___init__ Z.d_Wanted___init__ ["self"] (spWantedInit w K Z) := by
  refine T.F_Wanted___init__.ok sc_Wanted___init__ (fun vs H Q E h => ?_) (fun cdv A outer s H vs Q E hr h => ?_)
  · obtain ⟨p, dx, rfl, _⟩ := h
    rfl
  · obtain ⟨p, dx, rfl, hp, q⟩ := h
    refine ⟨_, (pss_one (ps_fld (pv 0) (pe_dnewQ w) rfl)), ?_⟩
    refine fun d nd => ?_
    have hp1 := keep_new (o := dicQ w d []) hp nd
    refine ⟨.ref p, rfl, p, Z.C_Wanted, dx, [], rfl, hp1, T.cl_Wanted, T.n_Wanted_times, (by show 0 < 1000; decide), ?_⟩
    rw [waF1_put]
    have ndp : d ≠ p := (ne_of_none hp nd).symm
    exact q d _ (Kp.own (Kp.rfl'.new nd)) nd ⟨dx, [], rfl, upd_same, keep_ne upd_same ndp, fun x h => nomatch h⟩
def spMore (w : World) (K : PySem.W.Frag) (Z : Ad) : Sp := fun vs H Q E => ∃ (p d qa : Addr) (as : List Ask) (q : Qn) (n : Int), vs = [.ref p, .ref qa, .int n] ∧ WantedAt w Z.C_Wanted H p d as ∧ QZ H (.ref qa) q.1 q.2 ∧ as.length ≤ 5 ∧
  ((q ∈ qsOf as ∨ as.length < 5) → ∀ H' : Hp, Sx [d] H H' → KT H H' → WantedAt w Z.C_Wanted H' p d (moreA as q n) → Q .non H') ∧ (¬(q ∈ qsOf as ∨ as.length < 5) → E (.ref (Z.xa "TooMany")) none H)
theorem ok_more (T : Tx K mg Z) : FnOk P w K mg base (L2.CX P w) 1 Z.f_Wanted_more Z.d_Wanted_more ["self", "question", "often"] (spMore w K Z) := by
  refine T.F_Wanted_more.okX sc_Wanted_more (fun vs H Q E h => ?_) (fun cdv A outer s H vs Q E hr h => ?_)
  · obtain ⟨p, d, qa, as, q, n, rfl, _⟩ := h
    rfl
  · obtain ⟨p, d, qa, as, q, n, rfl, hW, fq, hl, qq0, qx⟩ := h
    have npd := hW.apart
    obtain ⟨dx, ws, ews, hp, hd, hz⟩ := hW
    refine ⟨_, (pss_cons (ps_if (PW.pt (pw_and (pt_cmpR (notInQ w hr.units) (pv 1) (fldK K (pv 0) rfl) (by rfl)) (pw_and1 (pt_cmpR op_ge (pe_callB (lenQ w) (by rfl) T.m_len (by decide +kernel) (pa_cons (fldK K (pv 0) rfl) pa_nil)) (pe_glob (v := .int 5) (by rfl) T.c_MOST_ASKS ⟨_, rfl⟩) (nomark _))))) (pss_one (ps_raise rfl (takes_of rfl rfl rfl rfl) (pmk_own PySem.F.excBase_ValueError (T.xf.cls "TooMany" (by decide)).q T.gx_TooMany (T.xf.cls "TooMany" (by decide)).kp (raises_own (T.xf.cls "TooMany" (by decide)).bE (T.xf.cls "TooMany" (by decide)).tE) (by rfl)))) pss_nil)
      (PSs.nox (pss_one (ps_asg (pe_op op_add (pe_dgetQ w hr.units (fldK K (pv 0) rfl) (pv 1) pe_int ⟨rfl, rfl, rfl, rfl⟩) (pv 2)) (pg_sub (fldK K (pv 0) rfl) (pv 1) (setQ w hr.units)))))), ?_⟩
    have ks := keys_kvs hz
    have lw : (kvsA ws).length = as.length := by
      rw [← ews]
      unfold kvsA
      rw [List.length_map, List.length_map]
    have has : (valQ (kvsA ws) (nkQ q)).isSome = decide (q ∈ qsOf as) := by
      rw [has_kvs, ews, any_isQ]
    refine ⟨.ref qa, rfl, .ref p, rfl, p, Z.C_Wanted, dx, _, _, rfl, hp, T.cl_Wanted, T.n_Wanted_times, waF1_times _, qa, d, kvsA ws, nkQ q, rfl, rfl, hd, ks, fq.ky, nkQ_depth q, _, rfl, ite2 (fun c1 => ?_) (fun c2 => ?_)⟩
    refine ⟨.ref p, rfl, p, Z.C_Wanted, dx, _, _, rfl, hp, T.cl_Wanted, T.n_Wanted_times, waF1_times _, d, kvsA ws, rfl, hd, ks, _, _, rfl, rfl, _, rfl, ite2 (fun z => ?_) fun z0 => ?_⟩
    · refine qx fun f => ?_
      have z2 := of_decide_eq_true z
      rcases f with f | f
      · rw [has, decide_eq_true f] at c1
        cases c1
      · omega
    have few1 : q ∈ qsOf as ∨ as.length < 5 := by
      right
      have : ¬ _ := fun y => z0 (decide_eq_true y)
      omega
    rotate_left 1
    have few1 : q ∈ qsOf as ∨ as.length < 5 := by
      left
      have c3 := c2
      rw [has] at c3
      simpa using c3
    all_goals
      have qq := qq0 few1
      refine ⟨.ref p, rfl, p, Z.C_Wanted, dx, _, _, rfl, hp, T.cl_Wanted, T.n_Wanted_times, waF1_times _, d, kvsA ws, rfl, hd, ks, .ref qa, rfl, qa, kvsA ws, nkQ q, 0, rfl, rfl, hd, ks, fq.ky, nkQ_depth q, .int n, rfl, _, _, rfl, rfl, .ref p, rfl, p, Z.C_Wanted, dx, _, _, rfl, hp, T.cl_Wanted, T.n_Wanted_times, waF1_times _, .ref qa, rfl, qa, d, kvsA ws, nkQ q, _, rfl, rfl, rfl, hd, ks, fq.ky, nkQ_depth q, by omega, ?_⟩
      rw [← moreW_kvs]
      have kt := KT.dic (o := dicQ w d (kvsA (moreW ws qa q n))) hd
      refine qq _ (fun b o nb e => keep_ne e fun z => nb (by rw [z]; exact List.mem_singleton.mpr rfl)) kt ⟨dx, moreW ws qa q n, ?_, keep_ne hp npd, upd_same, fun x hx => ?_⟩
      · rw [moreW_asks, ews]
      · unfold moreW at hx
        split at hx
        · obtain ⟨y, hy, rfl⟩ := List.mem_map.mp hx
          split
          · next e =>
            obtain ⟨e1, e2⟩ := of_decide_eq_true e
            have := (hz y hy).kT kt
            rw [e1, e2] at this
            exact this
          · exact (hz y hy).kT kt
        · rcases List.mem_append.mp hx with z | z
          · exact (hz x z).kT kt
          · rw [List.mem_singleton.mp z]
            exact fq.kT kt
def spLeave (w : World) (K : PySem.W.Frag) (Z : Ad) : Sp := fun vs H Q E => ∃ (p d qa : Addr) (as : List Ask) (q : Qn), vs = [.ref p, .ref qa] ∧ WantedAt w Z.C_Wanted H p d as ∧ QZ H (.ref qa) q.1 q.2 ∧ as.length ≤ 5 ∧
  (q ∈ qsOf as → ∀ H' : Hp, Sx [d] H H' → KT H H' → WantedAt w Z.C_Wanted H' p d (lessA as q) → Q .non H') ∧ (q ∉ qsOf as → E (.ref (Z.xa "NoQuestion")) none H)
theorem ok_leave (T : Tx K mg Z) : FnOk P w K mg base (L2.CX P w) 1 Z.f_Wanted_leave Z.d_Wanted_leave ["self", "question"] (spLeave w K Z) := by
  refine T.F_Wanted_leave.okX sc_Wanted_leave (fun vs H Q E h => ?_) (fun cdv A outer s H vs Q E hr h => ?_)
  · obtain ⟨p, d, qa, as, q, rfl, _⟩ := h
    rfl
  · obtain ⟨p, d, qa, as, q, rfl, hW, fq, hl, qq0, qx⟩ := h
    have npd := hW.apart
    obtain ⟨dx, ws, ews, hp, hd, hz⟩ := hW
    refine ⟨_, (pss_cons (ps_if (pt_cmpR (notInQ w hr.units) (pv 1) (fldK K (pv 0) rfl) (by rfl)) (pss_one (ps_raise rfl (takes_of rfl rfl rfl rfl) (pmk_own PySem.F.excBase_ValueError (T.xf.cls "NoQuestion" (by decide)).q T.gx_NoQuestion (T.xf.cls "NoQuestion" (by decide)).kp (raises_own (T.xf.cls "NoQuestion" (by decide)).bE (T.xf.cls "NoQuestion" (by decide)).tE) (by rfl)))) pss_nil)
      (PSs.nox (pss_one (ps_ddelQ w hr.units (fldK K (pv 0) rfl) (pv 1))))), ?_⟩
    have ks := keys_kvs hz
    have has : (valQ (kvsA ws) (nkQ q)).isSome = decide (q ∈ qsOf as) := by
      rw [has_kvs, ews, any_isQ]
    refine ⟨.ref qa, rfl, .ref p, rfl, p, Z.C_Wanted, dx, _, _, rfl, hp, T.cl_Wanted, T.n_Wanted_times, waF1_times _, qa, d, kvsA ws, nkQ q, rfl, rfl, hd, ks, fq.ky, nkQ_depth q, _, rfl, ite2 (fun c1 => ?_) (fun c2 => ?_)⟩
    · refine qx fun z => ?_
      rw [has, decide_eq_true z] at c1
      cases c1
    have hq : q ∈ qsOf as := by
      have c3 := c2
      rw [has] at c3
      simpa using c3
    have qq := qq0 hq
    have hasT : (valQ (kvsA ws) (nkQ q)).isSome = true := has.trans (decide_eq_true hq)
    refine ⟨.ref p, rfl, p, Z.C_Wanted, dx, _, _, rfl, hp, T.cl_Wanted, T.n_Wanted_times, waF1_times _, .ref qa, rfl, qa, d, kvsA ws, nkQ q, rfl, rfl, hd, ks, fq.ky, nkQ_depth q, hasT, ?_⟩
    rw [← lessW_kvs]
    have kt := KT.dic (o := dicQ w d (kvsA (lessW ws q))) hd
    refine qq _ (fun b o nb e => keep_ne e fun z => nb (by rw [z]; exact List.mem_singleton.mpr rfl)) kt ⟨dx, lessW ws q, ?_, keep_ne hp npd, upd_same, fun x hx => (hz x (List.mem_filter.mp hx).1).kT kt⟩
    rw [lessW_asks, ews]
def spAsAsks (w : World) (K : PySem.W.Frag) (Z : Ad) : Sp := fun vs H Q _ => ∃ (p d : Addr) (as : List Ask), vs = [.ref p] ∧ WantedAt w Z.C_Wanted H p d as ∧
  ∀ (t : Addr) (us : List V) (H' : Hp), Same H H' → H t = none → H' t = some (.tup us) → AsksZ H' us as → Q (.ref t) H'
theorem ok_asasks (T : Tx K mg Z) : FnOk P w K mg base CX0 1 Z.f_Wanted_as_asks Z.d_Wanted_as_asks ["self"] (spAsAsks w K Z) := by
  refine T.F_Wanted_as_asks.ok sc_Wanted_as_asks (fun vs H Q E h => ?_) (fun cdv A outer s H vs Q E hr h => ?_)
  · obtain ⟨p, d, as, rfl, _⟩ := h
    rfl
  · obtain ⟨p, d, as, rfl, hW, qq⟩ := h
    obtain ⟨dx, ws, ews, hp, hd, hz⟩ := hW
    refine ⟨_, (pss_one (ps_ret (pe_tupItemsQ w (by rfl) (fldK K (pv 0) rfl) (by rfl) T.m_tuple))), ?_⟩
    have ks := keys_kvs hz
    refine ⟨.ref p, rfl, p, Z.C_Wanted, dx, _, _, rfl, hp, T.cl_Wanted, T.n_Wanted_times, waF1_times _, d, kvsA ws, rfl, hd, ks, fun t ts H' sm nt nts hl ht hat => ?_⟩
    refine qq t _ H' sm nt ht ?_
    rw [← ews]
    have key : ∀ (us : List Addr) (zs : List (Addr × Ask)), us.length = zs.length → (∀ (j : Nat) (a : Addr) (x : Addr × Ask), us[j]? = some a → zs[j]? = some x → H' a = some (.tup [.ref x.1, .int x.2.often]) ∧ QZ H' (.ref x.1) x.2.es x.2.rc) → AsksZ H' (us.map V.ref) (zs.map (·.2)) := fun us => by
      induction us with
      | nil =>
        intro zs e _
        cases zs with
        | nil => exact .nil
        | cons _ _ => cases e
      | cons u us ih =>
        intro zs e g
        cases zs with
        | nil => cases e
        | cons z zs =>
          obtain ⟨g1, g2⟩ := g 0 u z rfl rfl
          exact .cons ⟨u, _, rfl, g1, g2⟩ (ih zs (by simpa using e) fun j a x h1 h2 => g (j + 1) a x h1 h2)
    refine key ts ws ?_ fun j a x h1 h2 => ⟨?_, (hz x (List.mem_of_getElem? h2)).kT (Same.kT sm)⟩
    · rw [hl]
      unfold kvsA
      rw [List.length_map]
    · exact hat j a (nkQ (x.2.es, x.2.rc), x.1, x.2.often) h1 (by unfold kvsA; rw [List.getElem?_map, h2]; rfl)

/-! ### _law_pool -/
def spPool (K : PySem.W.Frag) : Sp := fun vs H Q _ => ∃ (b bl : Addr) (tb : V) (cols : List Nat) (rows : List (List Int)) (m : Nat), vs = [.ref b, tb, .int m] ∧ m ≤ 10 ∧ Bag b bl H ∧ Fz H tb (tabD cols rows) ∧ Cols cols ∧ cols.length ≤ 26 ∧ RowsOk cols.length rows ∧ rows.length ≤ 1000 ∧
  ∀ (L : Addr) (vs : List V) (qs : List Qn) (H' : Hp), Kp b H H' → Bag b bl H' → H L = none → H' L = some (.lst vs) → QA H' vs qs → qs.length ≤ m → (0 < m → 0 < qs.length) → qs.Nodup → (∀ q ∈ qs, QOk cols q.1 q.2) → Q (.ref L) H'
theorem ok_pool (T : Tx K mg Z) : FnOk P w K mg base CX0 4 Z.f_l_pool Z.d_l_pool ["bag", "table", "many"] (spPool K) := by
  have G_l_question : FnOk P w K mg base CX0 3 Z.f_l_question Z.d_l_question ["bag", "table"] (spQuestion K) := ok_question T
  refine T.F_l_pool.ok sc_l_pool (fun vs H Q E h => ?_) (fun cdv A outer s H vs Q E hr h => ?_)
  · obtain ⟨b, bl, tb, cols, rows, m, rfl, _⟩ := h
    rfl
  · obtain ⟨b, bl, tb, cols, rows, m, rfl, hm, hB, ft, hc, hc2, hrows, hrl, q⟩ := h
    refine ⟨_, (pss_cons (ps_set (i := 3) sc_l_pool.nd rfl (.inl rfl) (pe_lst pa_nil))
      (pss_cons (ps_for PassesOwn.never rfl (pi_range1 (by rfl) T.m_range (pa_cons (pv 2) pa_nil)) (pg_name (i := 4) sc_l_pool.nd rfl (.inl rfl)) (pss_cons (ps_set (i := 5) sc_l_pool.nd rfl (.inl rfl) (pe_call G_l_question (hr.mono (by omega)) (by rfl) T.g_l_question T.F_l_question.kp T.b_l_question .nil pass0 (pa_cons (pv 0) (pa_cons (pv 1) pa_nil))))
      (pss_one (ps_if (pt_cmpR (notInDK K hr.units) (pv 5) (pv 3) (by rfl)) (pss_one (ps_expr (bmK K PySem.F.plainAttrs_list PySem.F.slot_list_append PySem.F.type_list_append mt_append (pv 3) (pa_cons (pv 5) pa_nil)))) pss_nil))))
      (pss_one (ps_ret (pv 3))))), ?_⟩
    refine ⟨Nat.zero_le _, fun L nL => ?_⟩
    have nLb := hB.ne nL
    have hz : ∀ c ∈ cols, c ≤ 122 := fun c h => (hc.az c h).2
    refine ⟨.int m, rfl, m, rfl, by omega, by omega, for_range (fun j σ H' => ∃ (vs : List V) (qs : List Qn) (y4 y5 : Option V), σ = [some (.ref b), some tb, some (.int m), some (.ref L), y4, y5] ∧ Kp b H H' ∧ Bag b bl H' ∧ H' L = some (.lst vs) ∧ QA H' vs qs ∧ qs.length ≤ j ∧ (0 < j → 0 < qs.length) ∧ qs.Nodup ∧ ∀ q ∈ qs, QOk cols q.1 q.2)
      ⟨[], [], _, _, rfl, Kp.new Kp.rfl' nL, hB.new nL, upd_same, .nil, Nat.le_refl _, (fun h => absurd h (Nat.lt_irrefl 0)), .nil, (fun q hq => nomatch hq)⟩ (fun j σ H1 hj hP => ?_) (fun σ H1 hP => ?_)⟩
    · obtain ⟨vs, qs, y4, y5, rfl, kp1, hB1, hL1, qa1, hql, hq0, hnd, hqo⟩ := hP
      refine ⟨.ref b, rfl, tb, rfl, b, bl, tb, cols, rows, rfl, hB1, ft.kt (Kp.kTb kp1 hB).1, hc, by omega, hrows, by omega, fun es rc v H2 kp2 hB2 fq2 hqok => ?_⟩
      have hL2 := kp2 _ _ nLb.1 hL1
      have qa2 := qa1.kT (Kp.kTb kp2 hB1)
      have hvl := qa2.len
      refine ⟨v, rfl, .ref L, rfl, qD es rc, qs.map (fun q => qD q.1 q.2), fq2.dp, .lst (.inl (.inl hL2)) qa2.dp, lay_qs hz hqo, lay_q hz hqok, dep_q es rc, _, rfl, ite2 (fun e => ?_) (fun e => ?_)⟩
      · refine ⟨.ref L, rfl, .inl ⟨rfl, _, .inl (.inl hL2)⟩, v, rfl, L, vs, v, rfl, rfl, hL2, small1000 (by omega), vs ++ [v], qs ++ [(es, rc)], _, _, rfl, (kp1.trans kp2).mut nL, hB2.upd nLb.1 nLb.2, upd_same, (qa2.snoc (q := (es, rc)) fq2).kT (KT.lst hL2), by rw [List.length_append]; exact Nat.succ_le_succ hql, (fun _ => by rw [List.length_append]; exact Nat.succ_pos _), ?_, fun z hz => ?_⟩
        · have nq : (es, rc) ∉ qs := fun z => by
            have a := any_qs (es, rc) qs
            rw [decide_eq_true z] at a
            have e2 : (!(qs.map fun x => qD x.1 x.2).any fun d => PyData.eqv d (qD es rc)) = true := e
            rw [a] at e2
            cases e2
          exact List.nodup_append.mpr ⟨hnd, List.nodup_cons.mpr ⟨List.not_mem_nil, .nil⟩, fun x hx y hy z => nq (by rw [List.mem_singleton.mp hy] at z; exact z ▸ hx)⟩
        rcases List.mem_append.mp hz with y | y
        · exact hqo z y
        · rw [List.mem_singleton.mp y]
          exact hqok
      · have nq : (es, rc) ∈ qs := by
          apply Classical.byContradiction
          intro z
          have a := any_qs (es, rc) qs
          rw [decide_eq_false z] at a
          refine e ?_
          show (!(qs.map fun x => qD x.1 x.2).any fun d => PyData.eqv d (qD es rc)) = true
          rw [a]
          rfl
        exact ⟨vs, qs, _, _, rfl, kp1.trans kp2, hB2, hL2, qa2, by omega, (fun _ => List.length_pos_of_mem nq), hnd, hqo⟩
    · obtain ⟨vs, qs, y4, y5, rfl, kp1, hB1, hL1, qa1, hql, hq0, hnd, hqo⟩ := hP
      exact ⟨.ref L, rfl, q L vs qs H1 kp1 hB1 nL hL1 qa1 (by omega) (fun h => hq0 (by omega)) hnd hqo⟩

/-! ### Chosen -/
abbrev chF1 (tv : V) : List (Str × V) := [("table", tv)]
abbrev chF2 (tv : V) (chg : Int) : List (Str × V) := [("table", tv), ("changes", .int chg)]
abbrev chF3 (tv : V) (chg : Int) (rm : Int) : List (Str × V) := [("table", tv), ("changes", .int chg), ("room", .int rm)]
abbrev chF4 (tv : V) (chg : Int) (rm : Int) (wp : Addr) : List (Str × V) := [("table", tv), ("changes", .int chg), ("room", .int rm), ("wanted", .ref wp)]
abbrev chF5 (tv : V) (chg : Int) (rm : Int) (wp : Addr) (cp : Addr) : List (Str × V) := [("table", tv), ("changes", .int chg), ("room", .int rm), ("wanted", .ref wp), ("chosen", .ref cp)]
abbrev chF6 (tv : V) (chg : Int) (rm : Int) (wp : Addr) (cp : Addr) (ls : Int) : List (Str × V) := [("table", tv), ("changes", .int chg), ("room", .int rm), ("wanted", .ref wp), ("chosen", .ref cp), ("least", .int ls)]
abbrev chF7 (tv : V) (chg : Int) (rm : Int) (wp : Addr) (cp : Addr) (ls : Int) (mk : Int) : List (Str × V) := [("table", tv), ("changes", .int chg), ("room", .int rm), ("wanted", .ref wp), ("chosen", .ref cp), ("least", .int ls), ("new_lists", .int mk)]
theorem chF1_put (tv : V) : putF "table" (tv) ([] : List (Str × V)) = chF1 tv := by kernel_rfl
theorem chF2_put (tv : V) (chg : Int) : putF "changes" (.int chg) (chF1 tv) = chF2 tv chg := by kernel_rfl
theorem chF3_put (tv : V) (chg : Int) (rm : Int) : putF "room" (.int rm) (chF2 tv chg) = chF3 tv chg rm := by kernel_rfl
theorem chF4_put (tv : V) (chg : Int) (rm : Int) (wp : Addr) : putF "wanted" (.ref wp) (chF3 tv chg rm) = chF4 tv chg rm wp := by kernel_rfl
theorem chF5_put (tv : V) (chg : Int) (rm : Int) (wp : Addr) (cp : Addr) : putF "chosen" (.ref cp) (chF4 tv chg rm wp) = chF5 tv chg rm wp cp := by kernel_rfl
theorem chF6_put (tv : V) (chg : Int) (rm : Int) (wp : Addr) (cp : Addr) (ls : Int) : putF "least" (.int ls) (chF5 tv chg rm wp cp) = chF6 tv chg rm wp cp ls := by kernel_rfl
theorem chF7_put (tv : V) (chg : Int) (rm : Int) (wp : Addr) (cp : Addr) (ls : Int) (mk : Int) : putF "new_lists" (.int mk) (chF6 tv chg rm wp cp ls) = chF7 tv chg rm wp cp ls mk := by kernel_rfl
theorem chF7_table (tv : V) (chg : Int) (rm : Int) (wp : Addr) (cp : Addr) (ls : Int) (mk : Int) : (chF7 tv chg rm wp cp ls mk).lookup ("table" : Str) = some (tv) := by kernel_rfl
theorem chF7_changes (tv : V) (chg : Int) (rm : Int) (wp : Addr) (cp : Addr) (ls : Int) (mk : Int) : (chF7 tv chg rm wp cp ls mk).lookup ("changes" : Str) = some (.int chg) := by kernel_rfl
theorem chF7_room (tv : V) (chg : Int) (rm : Int) (wp : Addr) (cp : Addr) (ls : Int) (mk : Int) : (chF7 tv chg rm wp cp ls mk).lookup ("room" : Str) = some (.int rm) := by kernel_rfl
theorem chF7_wanted (tv : V) (chg : Int) (rm : Int) (wp : Addr) (cp : Addr) (ls : Int) (mk : Int) : (chF7 tv chg rm wp cp ls mk).lookup ("wanted" : Str) = some (.ref wp) := by kernel_rfl
theorem chF7_chosen (tv : V) (chg : Int) (rm : Int) (wp : Addr) (cp : Addr) (ls : Int) (mk : Int) : (chF7 tv chg rm wp cp ls mk).lookup ("chosen" : Str) = some (.ref cp) := by kernel_rfl
theorem chF7_least (tv : V) (chg : Int) (rm : Int) (wp : Addr) (cp : Addr) (ls : Int) (mk : Int) : (chF7 tv chg rm wp cp ls mk).lookup ("least" : Str) = some (.int ls) := by kernel_rfl
theorem chF7_new_lists (tv : V) (chg : Int) (rm : Int) (wp : Addr) (cp : Addr) (ls : Int) (mk : Int) : (chF7 tv chg rm wp cp ls mk).lookup ("new_lists" : Str) = some (.int mk) := by kernel_rfl
theorem chF_put_chosen (tv : V) (chg : Int) (rm : Int) (wp : Addr) (cp : Addr) (ls : Int) (mk : Int) (cp' : Addr) : putF "chosen" (.ref cp') (chF7 tv chg rm wp cp ls mk) = chF7 tv chg rm wp cp' ls mk := by kernel_rfl
theorem chF_put_least (tv : V) (chg : Int) (rm : Int) (wp : Addr) (cp : Addr) (ls : Int) (mk : Int) (ls' : Int) : putF "least" (.int ls') (chF7 tv chg rm wp cp ls mk) = chF7 tv chg rm wp cp ls' mk := by kernel_rfl
theorem chF_put_new_lists (tv : V) (chg : Int) (rm : Int) (wp : Addr) (cp : Addr) (ls : Int) (mk : Int) (mk' : Int) : putF "new_lists" (.int mk') (chF7 tv chg rm wp cp ls mk) = chF7 tv chg rm wp cp ls mk' := by kernel_rfl
section
variable {tv : V} {chg rm : Int} {wp cp : Addr} {ls mk : Int}
theorem chF7_no_choose (tv : V) (chg rm : Int) (wp cp : Addr) (ls mk : Int) : (chF7 tv chg rm wp cp ls mk).lookup ("choose" : Str) = none := by kernel_rfl
theorem chF7_no_ask (tv : V) (chg rm : Int) (wp cp : Addr) (ls mk : Int) : (chF7 tv chg rm wp cp ls mk).lookup ("ask" : Str) = none := by kernel_rfl
theorem chF7_no_leave (tv : V) (chg rm : Int) (wp cp : Addr) (ls mk : Int) : (chF7 tv chg rm wp cp ls mk).lookup ("leave" : Str) = none := by kernel_rfl
theorem chF7_no_asks (tv : V) (chg rm : Int) (wp cp : Addr) (ls mk : Int) : (chF7 tv chg rm wp cp ls mk).lookup ("asks" : Str) = none := by kernel_rfl
theorem chF7_no_choice (tv : V) (chg rm : Int) (wp cp : Addr) (ls mk : Int) : (chF7 tv chg rm wp cp ls mk).lookup ("choice" : Str) = none := by kernel_rfl
theorem chF7_no_price (tv : V) (chg rm : Int) (wp cp : Addr) (ls mk : Int) : (chF7 tv chg rm wp cp ls mk).lookup ("price" : Str) = none := by kernel_rfl
theorem chF7_no_made (tv : V) (chg rm : Int) (wp cp : Addr) (ls mk : Int) : (chF7 tv chg rm wp cp ls mk).lookup ("made" : Str) = none := by kernel_rfl
end
/-- a keeper of a choice, at p; what is wanted at wp, in the dict d -/
structure ChosenAt (w : World) (C CW : Addr) (H : Hp) (p wp d : Addr) (tv : V) (cols : List Nat) (rows : List (List Int)) (chg : Int) (room : Nat) (as : List Ask) (ch : List (List Nat)) (ls mk : Int) : Prop where
  self : ∃ dx cp, H p = some (.ins C dx (chF7 tv chg room wp cp ls mk)) ∧ H cp = some (.tup (ch.map tx))
  want : WantedAt w CW H wp d as
  tab : Fz H tv (tabD cols rows)
  npw : p ≠ wp
  npd : p ≠ d
theorem ChosenAt.keep {w : World} {C CW : Addr} {H H' : Hp} {p wp d : Addr} {tv : V} {cols : List Nat} {rows : List (List Int)} {chg : Int} {room : Nat} {as : List Ask} {ch : List (List Nat)} {ls mk : Int} (h : ChosenAt w C CW H p wp d tv cols rows chg room as ch ls mk) (s : ∀ b ∈ [p, wp, d], ∀ o, H b = some o → H' b = some o) (k : KT H H') : ChosenAt w C CW H' p wp d tv cols rows chg room as ch ls mk := by
  obtain ⟨dx, cp, h1, h2⟩ := h.self
  exact ⟨⟨dx, cp, s _ (by simp) _ h1, k.1 _ _ h2⟩, h.want.keep (s _ (by simp)) (s _ (by simp)) k, h.tab.kt k.1, h.npw, h.npd⟩
theorem KT.ins {H : Hp} {p C dx : Addr} {fs : List (Str × V)} {o : HO} (h : H p = some (.ins C dx fs)) : KT H (upd H p o) := by
  constructor
  · intro b xs e
    refine keep_ne e fun z => ?_
    rw [z, h] at e
    cases e
  · intro b u xs e
    refine keep_ne e fun z => ?_
    rw [z, h] at e
    cases e
/-- what choosing anew makes of a choice -/
structure Chose (cols : List Nat) (rows : List (List Int)) (as : List Ask) (chg : Int) (room : Nat) (ch : List (List Nat)) (mk : Int) (ch' : List (List Nat)) (ls' mk' : Int) : Prop where
  opt : Opt cols rows as chg room (listsM cols cols.length) ls'
  is : ls' = workM cols rows ch' as chg
  ok : Ch cols room ch'
  stay : workM cols rows ch as chg = ls' → ch' = ch
  made : mk' = mk + ((ch'.filter fun o => decide (o ∉ ch)).length : Nat)
  up : sortO ch' = ch'
def spChosenInit (w : World) (K : PySem.W.Frag) (Z : Ad) : Sp := fun vs H Q _ => ∃ (p dx : Addr) (tv : V) (cols : List Nat) (rows : List (List Int)) (chg : Int) (room : Nat), vs = [.ref p, tv, .int chg, .int room] ∧ H p = some (.ins Z.C_Chosen dx []) ∧ Fz H tv (tabD cols rows) ∧
  ∀ (wp d : Addr) (H' : Hp), Kp p H H' → H wp = none → H d = none → ChosenAt w Z.C_Chosen Z.C_Wanted H' p wp d tv cols rows chg room [] [] 0 0 → Q .non H'
theorem ok_choseninit (T : Tx K mg Z) : FnOk P w K mg base CX0 3 Z.f_Chosen___init__ Z.d_Chosen___init__ ["self", "table", "changes", "room"] (spChosenInit w K Z) := by
  have G_Wanted___init__ : FnOk P w K mg base CX0 1 Z.f_Wanted___init__ Z.d_Wanted___init__ ["self"] (spWantedInit w K Z) := ok_wantedinit T
  refine T.F_Chosen___init__.ok sc_Chosen___init__ (fun vs H Q E h => ?_) (fun cdv A outer s H vs Q E hr h => ?_)
  · obtain ⟨p, dx, tv, cols, rows, chg, room, rfl, _⟩ := h
    rfl
  · obtain ⟨p, dx, tv, cols, rows, chg, room, rfl, hp, fT, q⟩ := h
    refine ⟨_, (pss_cons (ps_fld (pv 0) (pv 1) rfl)
      (pss_cons (ps_fld (pv 0) (pv 2) rfl)
      (pss_cons (ps_fld (pv 0) (pv 3) rfl)
      (pss_cons (ps_fld (pv 0) (pe_make0 T.mk_Wanted G_Wanted___init__ (hr.mono (by omega)) (by rfl) T.g_Wanted T.b_Wanted___init__ .nil pass0) rfl)
      (pss_cons (ps_fld (pv 0) (pe_tup pa_nil) rfl)
      (pss_cons (ps_fld (pv 0) pe_int rfl)
      (pss_one (ps_fld (pv 0) pe_int rfl)))))))), ?_⟩
    have put : ∀ {G : Hp} {f : List (Str × V)}, Kp p H G → Kp p H (upd G p (.ins Z.C_Chosen dx f)) ∧ (upd G p (.ins Z.C_Chosen dx f)) p = some (.ins Z.C_Chosen dx f) := fun k => ⟨Kp.own k, upd_same⟩
    -- self.table
    refine ⟨tv, rfl, .ref p, rfl, p, Z.C_Chosen, dx, [], rfl, hp, T.cl_Chosen, T.n_Chosen_table, (by show 0 < 1000; decide), ?_⟩
    rw [chF1_put]
    obtain ⟨k1, h1⟩ := put (f := chF1 tv) (G := H) Kp.rfl'
    generalize upd H p (.ins Z.C_Chosen dx (chF1 tv)) = H1 at k1 h1 ⊢
    -- self.changes
    refine ⟨.int chg, rfl, .ref p, rfl, p, Z.C_Chosen, dx, _, rfl, h1, T.cl_Chosen, T.n_Chosen_changes, (by show 1 < 1000; decide), ?_⟩
    rw [chF2_put]
    obtain ⟨k2, h2⟩ := put (f := chF2 tv chg) k1
    generalize upd H1 p (.ins Z.C_Chosen dx (chF2 tv chg)) = H2 at k2 h2 ⊢
    -- self.room
    refine ⟨.int room, rfl, .ref p, rfl, p, Z.C_Chosen, dx, _, rfl, h2, T.cl_Chosen, T.n_Chosen_room, (by show 2 < 1000; decide), ?_⟩
    rw [chF3_put]
    obtain ⟨k3, h3⟩ := put (f := chF3 tv chg room) k2
    generalize upd H2 p (.ins Z.C_Chosen dx (chF3 tv chg room)) = H3 at k3 h3 ⊢
    -- self.wanted
    refine fun wp dxw nwp ndxw nexw => ?_
    have npw : p ≠ wp := ne_of_none h3 nwp
    have sm4 : Same H3 (upd (upd H3 dxw (.own wp)) wp (.ins Z.C_Wanted dxw [])) := fun b o e => by
      rw [upd_ne (ne_of_none e nwp), upd_ne (ne_of_none e ndxw)]
      exact e
    have hw4 : (upd (upd H3 dxw (.own wp)) wp (.ins Z.C_Wanted dxw [])) wp = some (.ins Z.C_Wanted dxw []) := upd_same
    generalize upd (upd H3 dxw (.own wp)) wp (.ins Z.C_Wanted dxw []) = H4 at sm4 hw4 ⊢
    refine ⟨wp, dxw, rfl, hw4, fun d H5 kp5 nd hW5 => ⟨rfl, ?_⟩⟩
    have h5 := kp5 _ _ npw (sm4 _ _ h3)
    have npd : p ≠ d := fun z => by
      rw [← z, sm4 _ _ h3] at nd
      cases nd
    have k5 : Kp p H H5 := fun b o nb e => kp5 _ _ (fun z => by
      have := k3 b o nb e
      rw [z, nwp] at this
      cases this) (sm4 _ _ (k3 b o nb e))
    refine ⟨.ref p, rfl, p, Z.C_Chosen, dx, _, rfl, h5, T.cl_Chosen, T.n_Chosen_wanted, (by show 3 < 1000; decide), ?_⟩
    rw [chF4_put]
    obtain ⟨k6, h6⟩ := put (f := chF4 tv chg room wp) k5
    have kt6 : KT H5 (upd H5 p (.ins Z.C_Chosen dx (chF4 tv chg room wp))) := KT.ins h5
    have hW6 := hW5.keep (H' := upd H5 p (.ins Z.C_Chosen dx (chF4 tv chg room wp))) (fun o e => keep_ne e npw.symm) (fun o e => keep_ne e npd.symm) kt6
    have nwp0 : H wp = none := Kp.none k3 npw.symm nwp
    have nd0 : H d = none := by
      cases z : H d with
      | none => rfl
      | some o => rw [sm4 _ _ (k3 _ _ npd.symm z)] at nd; cases nd
    generalize upd H5 p (.ins Z.C_Chosen dx (chF4 tv chg room wp)) = H6 at k6 h6 hW6 ⊢
    -- self.chosen
    refine ⟨(by show 0 ≤ sizeLine; decide), fun c nc => ?_⟩
    have npc : c ≠ p := (ne_of_none h6 nc).symm
    have h7 := keep_new (o := .tup []) h6 nc
    refine ⟨.ref p, rfl, p, Z.C_Chosen, dx, _, rfl, h7, T.cl_Chosen, T.n_Chosen_chosen, (by show 4 < 1000; decide), ?_⟩
    rw [chF5_put]
    obtain ⟨k8, h8⟩ := put (f := chF5 tv chg room wp c) (k6.new (o := .tup []) nc)
    have hc8 : (upd (upd H6 c (.tup [])) p (.ins Z.C_Chosen dx (chF5 tv chg room wp c))) c = some (.tup []) := keep_ne upd_same npc
    have kt8 : KT H6 (upd (upd H6 c (.tup [])) p (.ins Z.C_Chosen dx (chF5 tv chg room wp c))) := (KT.new nc).trans (KT.ins h7)
    have hW8 := hW6.keep (H' := upd (upd H6 c (.tup [])) p (.ins Z.C_Chosen dx (chF5 tv chg room wp c))) (fun o e => keep_ne (keep_new e nc) npw.symm) (fun o e => keep_ne (keep_new e nc) npd.symm) kt8
    generalize upd (upd H6 c (.tup [])) p (.ins Z.C_Chosen dx (chF5 tv chg room wp c)) = H8 at k8 h8 hc8 hW8 ⊢
    -- self.least, self.new_lists
    refine ⟨.ref p, rfl, p, Z.C_Chosen, dx, _, rfl, h8, T.cl_Chosen, T.n_Chosen_least, (by show 5 < 1000; decide), ?_⟩
    rw [chF6_put]
    obtain ⟨k9, h9⟩ := put (f := chF6 tv chg room wp c 0) k8
    have kt9 : KT H8 (upd H8 p (.ins Z.C_Chosen dx (chF6 tv chg room wp c 0))) := KT.ins h8
    have hW9 := hW8.keep (H' := upd H8 p (.ins Z.C_Chosen dx (chF6 tv chg room wp c 0))) (fun o e => keep_ne e npw.symm) (fun o e => keep_ne e npd.symm) kt9
    have hc9 := kt9.1 _ _ hc8
    generalize upd H8 p (.ins Z.C_Chosen dx (chF6 tv chg room wp c 0)) = H9 at k9 h9 hc9 hW9 ⊢
    refine ⟨.ref p, rfl, p, Z.C_Chosen, dx, _, rfl, h9, T.cl_Chosen, T.n_Chosen_new_lists, (by show 6 < 1000; decide), ?_⟩
    rw [chF7_put]
    obtain ⟨k10, h10⟩ := put (f := chF7 tv chg room wp c 0 0) k9
    have kt10 : KT H9 (upd H9 p (.ins Z.C_Chosen dx (chF7 tv chg room wp c 0 0))) := KT.ins h9
    have ktH : Kt H (upd H9 p (.ins Z.C_Chosen dx (chF7 tv chg room wp c 0 0))) := fun b xs e => k10 _ _ (fun z => by rw [z, hp] at e; cases e) e
    exact q wp d _ k10 nwp0 nd0 ⟨⟨dx, c, upd_same, kt10.1 _ _ hc9⟩, hW9.keep (fun o e => keep_ne e npw.symm) (fun o e => keep_ne e npd.symm) kt10, fT.kt ktH, npw, npd⟩
theorem SheetAt.but {C : Addr} {cols : List Nat} {rows : List (List Int)} {as : List Ask} {chg : Int} {H H' : Hp} {p s0 C' dx' : Addr} {fs : List (Str × V)} (h : SheetAt C cols rows as chg H s0) (ne : s0 ≠ p) (hp : H p = some (.ins C' dx' fs)) (k : ∀ b o, b ≠ p → H b = some o → H' b = some o) : SheetAt C cols rows as chg H' s0 := by
  obtain ⟨dx, l, o, b, q, ds, h1, h2, h3, h4, h5, h6, h7⟩ := h
  have off : ∀ {b : Addr} {o : HO}, H b = some o → (∀ C dx fs, o ≠ .ins C dx fs) → H' b = some o := fun {b o} e n => k b o (fun z => by
    rw [z, hp] at e
    exact n _ _ _ (Option.some.inj e).symm) e
  exact ⟨dx, l, o, b, q, ds, k _ _ ne h1, off h2 (fun _ _ _ z => nomatch z), off h3 (fun _ _ _ z => nomatch z), off h4 (fun _ _ _ z => nomatch z), off h5 (fun _ _ _ z => nomatch z), h6, fun i d a hd ha => by
    obtain ⟨kvs, g1, g2⟩ := h7 i d a hd ha
    exact ⟨kvs, off g1 (fun _ _ _ z => nomatch z), g2⟩⟩
theorem tab_put {P p C dx : Addr} {q : Str} {H : Hp} {fs : List (Str × V)} {o : HO} (t : LamX.TabS H P q) (h : H p = some (.ins C dx fs)) : LamX.TabS (upd H p o) P q := by
  obtain ⟨ps, h1, h2, h3⟩ := t
  refine ⟨ps, keep_ne h1 (fun z => by rw [z, h] at h1; cases h1), h2, fun pos cv e => ?_⟩
  obtain ⟨c, e1, e2⟩ := h3 pos cv e
  exact ⟨c, e1, keep_ne e2 fun z => by
    rw [z, h] at e2
    have e3 := Option.some.inj e2
    unfold LamX.CodeO at e3
    cases e3⟩
theorem sortO_same (os : List (List Nat)) : sortO (sortO os) = sortO os := (sortO_eq (List.Perm.refl _) (sortO_pw os)).symm
theorem Strong.optB {cols : List Nat} {rows : List (List Int)} {as : List Ask} {chg : Int} {room : Nat} {st : List (List Nat)} {b r : Int} (S : Strong cols rows as st) (has : AsksOk cols as) (hg : 0 ≤ chg) (g : Good cols rows as chg room b [] st r) (hb : ∃ ch : List (List Nat), ch.Nodup ∧ (∀ o ∈ ch, o ∈ listsM cols cols.length) ∧ lettersM ch ≤ room ∧ b = workM cols rows ch as chg) : Opt cols rows as chg room (listsM cols cols.length) r := by
  refine ⟨fun ch nd sub l => ?_, ?_⟩
  · obtain ⟨ch', n', s', l', w'⟩ := strong_cheap (rows := rows) (chg := chg) has hg S.out sub
    have := g.all ch' n' s' (by rw [List.nil_append]; omega)
    rw [List.nil_append] at this
    omega
  · rcases g.is with z | ⟨T, nd, sub, l, e⟩
    · obtain ⟨ch, a1, a2, a3, a4⟩ := hb
      exact ⟨ch, a1, a2, a3, by rw [z, a4]⟩
    · exact ⟨T, nd, fun o h => S.sub o (sub o h), l, e⟩
def spChoose (w : World) (K : PySem.W.Frag) (Z : Ad) : Sp := fun vs H Q _ => ∃ (p wp d : Addr) (tv : V) (cols : List Nat) (rows : List (List Int)) (chg : Int) (room : Nat) (as : List Ask) (ch : List (List Nat)) (ls mk : Int), vs = [.ref p] ∧ ChosenAt w Z.C_Chosen Z.C_Wanted H p wp d tv cols rows chg room as ch ls mk ∧ Ch cols room ch ∧ sortO ch = ch ∧ TG Z.Ps H ∧ LamX.TabS H Z.P_Sheet_most_saving (lamQ "Sheet.most_saving") ∧ RowsOk cols.length rows ∧ rows.length ≤ 100 ∧ cols.Nodup ∧ cols.length ≤ 4 ∧ AsksOk cols as ∧ 0 ≤ chg ∧ chg ≤ 1000000 ∧ room ≤ 89 ∧
  ∀ (ch' : List (List Nat)) (ls' mk' : Int) (H' : Hp), Sx (p :: Z.P_Sheet_most_saving :: Z.Ps) H H' → TG Z.Ps H' → LamX.TabS H' Z.P_Sheet_most_saving (lamQ "Sheet.most_saving") → ChosenAt w Z.C_Chosen Z.C_Wanted H' p wp d tv cols rows chg room as ch' ls' mk' → Chose cols rows as chg room ch mk ch' ls' mk' → Q .non H'
set_option maxHeartbeats 8000000 in
theorem ok_choose (T : Tx K mg Z) (TB : Tb base mg Z) : FnOk P w K mg base CX0 80 Z.f_Chosen_choose Z.d_Chosen_choose ["self"] (spChoose w K Z) := by
  have G_Sheet___init__ : FnOk P w K mg base CX0 6 Z.f_Sheet___init__ Z.d_Sheet___init__ ["self", "work"] (spSheetInit K Z) := ok_sheetinit T TB
  have G_Sheet_cost : FnOk P w K mg base CX0 5 Z.f_Sheet_cost Z.d_Sheet_cost ["self", "choice"] (spCost K Z) := ok_cost T TB
  have G_Sheet_strong_lists : FnOk P w K mg base CX0 9 Z.f_Sheet_strong_lists Z.d_Sheet_strong_lists ["self"] (spStrong K Z) := ok_strong T TB
  have G_grown : FnOk P w K mg base CX0 72 Z.f_grown Z.d_grown ["sheet", "room", "best", "inside", "free"] (spGrown K Z 64) := ok_grown T TB 64
  have G_Wanted_as_asks : FnOk P w K mg base CX0 1 Z.f_Wanted_as_asks Z.d_Wanted_as_asks ["self"] (spAsAsks w K Z) := ok_asasks T
  refine T.F_Chosen_choose.ok sc_Chosen_choose (fun vs H Q E h => ?_) (fun cdv A outer s H vs Q E hr h => ?_)
  · obtain ⟨p, wp, d, tv, cols, rows, chg, room, as, ch, ls, mk, rfl, _⟩ := h
    rfl
  · obtain ⟨p, wp, d, tv, cols, rows, chg, room, as, ch, ls, mk, rfl, hC, cC, up, tg, tab, hrs, hrn, hcd, hc4, has, hg0, hg1, hrm, q⟩ := h
    refine ⟨_, (pss_cons (ps_set (i := 1) sc_Chosen_choose.nd rfl (.inl rfl) (pe_make T.mk_Sheet G_Sheet___init__ (hr.mono (by omega)) (by rfl) T.g_Sheet T.b_Sheet___init__ .nil pass0 (pa_cons (pe_tup (pa_cons (fldK K (pv 0) rfl) (pa_cons (pe_meth0 (fldK K (pv 0) rfl) T.cl_Wanted T.m_Wanted_as_asks G_Wanted_as_asks (hr.mono (by omega)) T.b_Wanted_as_asks .nil pass0) (pa_cons (fldK K (pv 0) rfl) pa_nil)))) pa_nil)))
      (pss_cons (ps_fld (pv 0) (pe_meth (pv 1) T.cl_Sheet T.m_Sheet_cost G_Sheet_cost (hr.mono (by omega)) T.b_Sheet_cost .nil pass0 (pa_cons (fldK K (pv 0) rfl) pa_nil)) rfl)
      (pss_cons (ps_asg (pe_call G_grown (hr.mono (by omega)) (by rfl) T.g_grown T.F_grown.kp T.b_grown .nil pass0 (pa_cons (pv 1) (pa_cons (fldK K (pv 0) rfl) (pa_cons (pe_tup (pa_cons (fldK K (pv 0) rfl) (pa_cons (fldK K (pv 0) rfl) pa_nil))) (pa_cons (pe_tup pa_nil) (pa_cons (pe_meth0 (pv 1) T.cl_Sheet T.m_Sheet_strong_lists G_Sheet_strong_lists (hr.mono (by omega)) T.b_Sheet_strong_lists .nil pass0) pa_nil)))))) (pgT K (n := 2) (pgs_cons (pgT K (n := 2) (pgs_cons (pg_name (i := 2) sc_Chosen_choose.nd rfl (.inl rfl)) (pgs_cons (pg_name (i := 3) sc_Chosen_choose.nd rfl (.inl rfl)) pgs_nil))) (pgs_cons (pg_name (i := 4) sc_Chosen_choose.nd rfl (.inl rfl)) pgs_nil))))
      (pss_one (ps_if (pt_cmpR op_lt (pv 2) (fldK K (pv 0) rfl) (nomark _)) (pss_cons (ps_fldaug (pv 0) (pe_callB (cLenSq K) (by rfl) T.m_len (by decide +kernel) (pa_cons (pe_lc (own := [("one", 5)]) (tt := _) (by rfl) sc_Chosen_choose.nd (piT K (pv 3)) (blkOk_by (own := [("one", 5)]) (by kernel_rfl)) (fun _ _ _ _ _ => (pg_name (i := 5) sc_Chosen_choose.nd rfl (.inl rfl))) (fun _ _ _ _ _ => (pts_one (pt_cmpR (notInSq K) (pv 5) (fldK K (pv 0) rfl) (by rfl)))) (fun _ _ _ _ _ => (pv 5))) pa_nil)) in_add)
      (pss_cons (ps_fld (pv 0) (pe_callTy (cTupSq K) (by rfl) T.m_tuple (by decide +kernel) (pa_cons (pe_callB (cSortTz K hr) (by rfl) T.m_sorted (by decide +kernel) (pa_cons (pv 3) pa_nil)) pa_nil)) rfl)
      (pss_one (ps_fld (pv 0) (pv 2) rfl)))) pss_nil))))), ?_⟩
    have hcn : cols.length ≤ 6 := by omega
    obtain ⟨dx, cp, hp, hcp⟩ := hC.self
    obtain ⟨dxw, ws, ews, hwp, hd, hz⟩ := id hC.want
    have pL : ∀ {b : Addr} {o : HO}, H b = some o → (∀ q, o ≠ .tbl q) → b ∉ Z.P_Sheet_most_saving :: Z.Ps := fun e n => (tab_tg tab tg).not e n
    have toL : ∀ {G G' : Hp}, Sx Z.Ps G G' → Sx (p :: Z.P_Sheet_most_saving :: Z.Ps) G G' := fun s => Sx.more s fun b hb => List.mem_cons_of_mem _ (List.mem_cons_of_mem _ hb)
    -- what stays
    have stay : ∀ {G : Hp}, Sx (p :: Z.P_Sheet_most_saving :: Z.Ps) H G → (∀ b ∈ [wp, d], ∀ o, H b = some o → G b = some o) ∧ KT H G := fun {G} s => ⟨fun b hb o e => s b o (fun z => (List.mem_cons.mp z).elim (fun y => by
        simp only [List.mem_cons, List.not_mem_nil, or_false] at hb
        rcases hb with x | x
        · exact hC.npw (y.symm.trans x)
        · exact hC.npd (y.symm.trans x)) (by
        simp only [List.mem_cons, List.not_mem_nil, or_false] at hb
        rcases hb with x | x
        · exact x ▸ pL hwp fun q z => nomatch z
        · exact x ▸ pL hd fun q z => nomatch z)) e, ⟨fun b xs e => s _ _ (fun z => (List.mem_cons.mp z).elim (fun y => by rw [y, hp] at e; cases e) (pL e fun q z => nomatch z)) e, fun b o xs e => s _ _ (fun z => (List.mem_cons.mp z).elim (fun y => by rw [y, hp] at e; cases e) (pL e fun q z => nomatch z)) e⟩⟩
    have keep : ∀ {G : Hp} {cp' : Addr} {ch' : List (List Nat)} {ls' mk' : Int}, Sx (p :: Z.P_Sheet_most_saving :: Z.Ps) H G → G p = some (.ins Z.C_Chosen dx (chF7 tv chg room wp cp' ls' mk')) → G cp' = some (.tup (ch'.map tx)) → ChosenAt w Z.C_Chosen Z.C_Wanted G p wp d tv cols rows chg room as ch' ls' mk' := fun s h1 h2 => ⟨⟨dx, _, h1, h2⟩, hC.want.keep ((stay s).1 _ (by simp)) ((stay s).1 _ (by simp)) (stay s).2, hC.tab.kt (stay s).2.1, hC.npw, hC.npd⟩
    -- the sheet
    refine ⟨.ref p, rfl, p, Z.C_Chosen, dx, _, _, rfl, hp, T.cl_Chosen, T.n_Chosen_table, chF7_table _ _ _ _ _ _ _, .ref p, rfl, p, Z.C_Chosen, dx, _, _, rfl, hp, T.cl_Chosen, T.n_Chosen_wanted, chF7_wanted _ _ _ _ _ _ _, wp, dxw, _, rfl, hwp, waF1_no_asks _, wp, d, as, rfl, hC.want, fun t us H1 sm1 nt ht az => ?_⟩
    refine ⟨.ref p, rfl, p, Z.C_Chosen, dx, _, _, rfl, sm1 _ _ hp, T.cl_Chosen, T.n_Chosen_changes, chF7_changes _ _ _ _ _ _ _, (by show 3 ≤ sizeLine; decide), fun wk nwk => ?_⟩
    have sm2 : Same H (upd H1 wk (.tup [tv, .ref t, .int chg])) := Same.new sm1 nwk
    have fW : WorkZ (upd H1 wk (.tup [tv, .ref t, .int chg])) (.ref wk) cols rows as chg := ⟨wk, tv, t, us, rfl, upd_same, hC.tab.kt (Same.kt sm2), keep_new ht nwk, az.kT (KT.new nwk)⟩
    generalize upd H1 wk (.tup [tv, .ref t, .int chg]) = H2 at sm2 fW ⊢
    refine fun s0 dxs ns ndxs nexs => ?_
    have nps : s0 ≠ p := (ne_of_none (sm2 _ _ hp) ns).symm
    have sm3 : Same H2 (upd (upd H2 dxs (.own s0)) s0 (.ins Z.C_Sheet dxs [])) := fun b o e => by
      rw [upd_ne (ne_of_none e ns), upd_ne (ne_of_none e ndxs)]
      exact e
    have hs3 : (upd (upd H2 dxs (.own s0)) s0 (.ins Z.C_Sheet dxs [])) s0 = some (.ins Z.C_Sheet dxs []) := upd_same
    generalize upd (upd H2 dxs (.own s0)) s0 (.ins Z.C_Sheet dxs []) = H3 at sm3 hs3 ⊢
    have sm03 := Same.trans sm2 sm3
    refine ⟨s0, dxs, .ref wk, cols, rows, as, chg, rfl, hs3, tg.same sm03, fW.kT (Same.kT sm3), hrs, hrn, hcn, has, fun H4 sx4 tg4 hS4 => ⟨rfl, ?_⟩⟩
    have sx04 : Sx Z.Ps H H4 := fun b o n e => sx4 b o (fun z => (List.mem_cons.mp z).elim (ne_of_none (sm2 _ _ e) ns) n) (sm03 b o e)
    have tab4 := tab_sx tab tg sx04 T.l_Sheet_most_saving
    have sxL4 := toL sx04
    have hp4 := sx04 _ _ (tg.not hp fun q z => nomatch z) hp
    have hcp4 := (sx04.kt tg) _ _ hcp
    obtain ⟨dx4, l4, oo4, bb4, qd4, ds4, hs4, more4⟩ := id hS4
    -- self.least
    have chl : ch.length ≤ 100 := by
      have := letters_len cC.sub
      have := cC.fits
      omega
    refine ⟨.ref s0, rfl, s0, dx4, _, rfl, hs4, shF5_no_cost _ _ _ _ _, .ref p, rfl, p, Z.C_Chosen, dx, _, _, rfl, hp4, T.cl_Chosen, T.n_Chosen_chosen, chF7_chosen _ _ _ _ _ _ _, s0, cp, cols, rows, as, chg, ch, rfl, tg4, hS4, hcp4, cC.sub, chl, hcn, has, hrn, hg0, hg1, fun H5 sx5 tg5 => ?_⟩
    have hp5 := sx5 _ _ (tg4.not hp4 fun q z => nomatch z) hp4
    refine ⟨.ref p, rfl, p, Z.C_Chosen, dx, _, rfl, hp5, T.cl_Chosen, T.n_Chosen_least, (by show 7 < 1000; decide), ?_⟩
    rw [chF_put_least]
    have hp6 : (upd H5 p (.ins Z.C_Chosen dx (chF7 tv chg room wp cp (workM cols rows ch as chg) mk))) p = some (.ins Z.C_Chosen dx (chF7 tv chg room wp cp (workM cols rows ch as chg) mk)) := upd_same
    have sx6 : Sx (p :: Z.P_Sheet_most_saving :: Z.Ps) H (upd H5 p (.ins Z.C_Chosen dx (chF7 tv chg room wp cp (workM cols rows ch as chg) mk))) := Sx.updL (sxL4.trans (toL sx5))
    have tg6 : TG Z.Ps (upd H5 p (.ins Z.C_Chosen dx (chF7 tv chg room wp cp (workM cols rows ch as chg) mk))) := tg5.put (tg5.not hp5 fun q z => nomatch z)
    have tab5 := tab_sx tab4 tg4 sx5 T.l_Sheet_most_saving
    have tab6 : LamX.TabS (upd H5 p (.ins Z.C_Chosen dx (chF7 tv chg room wp cp (workM cols rows ch as chg) mk))) Z.P_Sheet_most_saving (lamQ "Sheet.most_saving") := tab_put tab5 hp5
    have hS6 := (hS4.ext (sx5.ext tg4)).but nps hp5 (H' := upd H5 p (.ins Z.C_Chosen dx (chF7 tv chg room wp cp (workM cols rows ch as chg) mk))) fun b o nb e => keep_ne e nb
    have hcp6 := (stay sx6).2.1 _ _ hcp
    generalize upd H5 p (.ins Z.C_Chosen dx (chF7 tv chg room wp cp (workM cols rows ch as chg) mk)) = H6 at hp6 sx6 tg6 tab6 hS6 hcp6 ⊢
    clear tab5 hp5 sx5 tg5 hS4 hs4 more4 tab4 sxL4 hp4 hcp4 sx04 sx4 tg4 sm03 sm3 hs3 fW sm2 sm1 ht az
    -- what grown tells
    refine ⟨.ref s0, rfl, .ref p, rfl, p, Z.C_Chosen, dx, _, _, rfl, hp6, T.cl_Chosen, T.n_Chosen_room, chF7_room _ _ _ _ _ _ _, .ref p, rfl, p, Z.C_Chosen, dx, _, _, rfl, hp6, T.cl_Chosen, T.n_Chosen_least, chF7_least _ _ _ _ _ _ _, .ref p, rfl, p, Z.C_Chosen, dx, _, _, rfl, hp6, T.cl_Chosen, T.n_Chosen_chosen, chF7_chosen _ _ _ _ _ _ _, (by show 2 ≤ sizeLine; decide), fun b0 nb0 => ⟨(by show 0 ≤ sizeLine; decide), fun e2 ne2 => ?_⟩⟩
    have sm7 : Same H6 (upd (upd H6 b0 (.tup [.int (workM cols rows ch as chg), .ref cp])) e2 (.tup [])) := Same.new (Same.new (Same.refl H6) nb0) ne2
    have hb7 : (upd (upd H6 b0 (.tup [.int (workM cols rows ch as chg), .ref cp])) e2 (.tup [])) b0 = some (.tup [.int (workM cols rows ch as chg), .ref cp]) := keep_new upd_same ne2
    have he7 : (upd (upd H6 b0 (.tup [.int (workM cols rows ch as chg), .ref cp])) e2 (.tup [])) e2 = some (.tup []) := upd_same
    generalize upd (upd H6 b0 (.tup [.int (workM cols rows ch as chg), .ref cp])) e2 (.tup []) = H7 at sm7 hb7 he7 ⊢
    have tg7 := tg6.same sm7
    have hS7 := hS6.ext fun b o e _ => sm7 b o e
    obtain ⟨dx7, l7, oo7, bb7, qd7, ds7, hs7, more7⟩ := id hS7
    refine ⟨.ref s0, rfl, s0, dx7, _, rfl, hs7, shF5_no_strong _ _ _ _ _, s0, cols, rows, as, chg, rfl, tg7, hS7, hcd, hc4, hrn, has, fun H8 D st sx8 tg8 nD hD8 S => ?_⟩
    have stl : st.length ≤ 64 := strong_len S (lists_four hcd hc4)
    have tab8 := tab_sx (tab_same tab6 sm7) tg7 sx8 T.l_Sheet_most_saving
    have c0 : Ch cols room [] := ⟨List.nodup_nil, (fun o h => nomatch h), Nat.zero_le _⟩
    have sx08 := (sx6.trans (Same.sx sm7)).trans (toL sx8)
    have kt78 := sx8.kt tg7
    refine ⟨s0, b0, e2, D, room, workM cols rows ch as chg, cols, rows, as, chg, [], st, rfl, tg8, tab8, hS7.ext (sx8.ext tg7), ⟨cp, ch, kt78 _ _ hb7, kt78 _ _ (sm7 _ _ hcp6), cC, rfl⟩, kt78 _ _ he7, c0, hD8, S.nd, (fun o ho => ⟨S.sub o ho, fun z => nomatch z⟩), stl, by omega, by omega, hcn, has, hrn, hg0, hg1, fun H9 t1 ba tree r sx9 tg9 tab9 ht1 hB good _ _ _ _ _ => ?_⟩
    obtain ⟨ca, fd, hba, hca, cF, er⟩ := id hB
    have opt : Opt cols rows as chg room (listsM cols cols.length) r := S.optB has hg0 good ⟨ch, cC.nd, cC.sub, cC.fits, rfl⟩
    have sx09 := sx08.trans (sx9.more fun b hb => List.mem_cons_of_mem _ hb)
    have pL8 : p ∉ Z.P_Sheet_most_saving :: Z.Ps := pL hp fun q z => nomatch z
    have hp9 : H9 p = some (.ins Z.C_Chosen dx (chF7 tv chg room wp cp (workM cols rows ch as chg) mk)) := sx9 _ _ pL8 (sx8 _ _ (fun z => pL8 (List.mem_cons_of_mem _ z)) (sm7 _ _ hp6))
    have hcp9 := (stay sx09).2.1 _ _ hcp
    clear sx9 sx08 kt78 hB tab8 hS7 hs7 more7 hD8 sx8 tg8 hb7 he7 tg7 sm7 hS6 hcp6 tab6 tg6 sx6 hp6 nD
    refine ⟨t1, [.ref ba, tree], rfl, .inl (.inl ht1), rfl, .ref ba, [tree], rfl, ba, [.int r, .ref ca], rfl, .inl (.inl hba), rfl, .int r, [.ref ca], rfl, .ref ca, [], rfl, rfl, tree, [], rfl, rfl, ?_⟩
    refine ⟨.int r, rfl, .ref p, rfl, p, Z.C_Chosen, dx, _, _, rfl, hp9, T.cl_Chosen, T.n_Chosen_least, chF7_least _ _ _ _ _ _ _, _, _, rfl, rfl, _, rfl, ite2 (fun c1 => ?_) (fun c1 => ?_)⟩
    rotate_left 1
    · -- the choice stays
      have er2 : r = workM cols rows ch as chg := by
        have := good.le
        have : ¬ r < workM cols rows ch as chg := fun z => c1 (decide_eq_true z)
        omega
      refine q ch (workM cols rows ch as chg) mk H9 sx09 tg9 tab9 (keep sx09 hp9 hcp9) ⟨er2 ▸ opt, rfl, cC, fun _ => rfl, ?_, up⟩
      have e0 : (ch.filter fun o => decide (o ∉ ch)) = [] := List.filter_eq_nil_iff.mpr fun o ho => by simpa using ho
      rw [e0]
      simp
    have lt : r < workM cols rows ch as chg := of_decide_eq_true c1
    -- another choice
    have fl : fd.length ≤ 100 := by
      have := letters_len cF.sub
      have := cF.fits
      omega
    refine ⟨.ref p, rfl, p, Z.C_Chosen, dx, _, _, rfl, hp9, T.cl_Chosen, T.n_Chosen_new_lists, chF7_new_lists _ _ _ _ _ _ _, .ref ca, rfl, ca, rfl, ⟨_, .inl (.inl hca)⟩, fun D2 nD2 => lc_it (walk_tup (xs := fd.map tx)) (fun i H' => Same H9 H' ∧ H' D2 = some (.lst (((fd.take i).filter fun o => decide (o ∉ ch)).map tx)))
      ⟨Same.new (Same.refl H9) nD2, upd_same⟩ (fun i H' _ hP => .inl (.inl (hP.1 _ _ hca))) (fun i x H11 H10 hi hP hY => ?_) (fun H10 hP => ?_)⟩
    · obtain ⟨smA, hDA⟩ := hP
      obtain ⟨rfl, hx⟩ := hY
      rw [List.getElem?_map] at hx
      obtain ⟨o, ho, rfl⟩ := Option.map_eq_some_iff.mp hx
      have fs := filter_snoc (fun o : List Nat => decide (o ∉ ch)) fd i o ho
      have ein : inV (tx o) (ch.map tx) = decide (o ∈ ch) := inV_texts o ch
      refine ⟨rfl, tx o, rfl, .ref p, rfl, p, Z.C_Chosen, dx, _, _, rfl, smA _ _ hp9, T.cl_Chosen, T.n_Chosen_chosen, chF7_chosen _ _ _ _ _ _ _, cp, ch.map tx, rfl, .inr (.inl (.inl (smA _ _ hcp9))), rfl, ?_, _, rfl, ite2 (fun e => ?_) (fun e => ?_)⟩
      · rw [List.all_map]
        exact List.all_eq_true.mpr fun _ _ => rfl
      · have ne : o ∉ ch := fun z => by
          rw [ein, decide_eq_true z] at e
          cases e
        refine ⟨tx o, rfl, _, hDA, ?_, Same.mut smA nD2, ?_⟩
        · rw [List.length_map]
          have := List.length_filter_le (fun o : List Nat => decide (o ∉ ch)) (fd.take i)
          rw [List.length_take] at this
          exact small1000 (by omega)
        · rw [upd_same, fs, if_pos (decide_eq_true ne), List.map_append]
          rfl
      · have y : o ∈ ch := by
          apply Classical.byContradiction
          intro z
          rw [ein, decide_eq_false z] at e
          exact e rfl
        refine ⟨smA, ?_⟩
        rw [hDA, fs, if_neg (by simpa using y), List.append_nil]
    obtain ⟨smA, hDA⟩ := hP
    rw [List.length_map, List.take_of_length_le (Nat.le_refl _)] at hDA
    refine ⟨D2, _, rfl, .inl (.inl (.inl hDA)), _, _, rfl, rfl, dx, _, smA _ _ hp9, (by show 7 < 1000; decide), ?_⟩
    rw [chF_put_new_lists, List.length_map]
    generalize hmk : mk + ((fd.filter fun o => decide (o ∉ ch)).length : Nat) = mk2
    have sxA := sx09.trans (Same.sx smA)
    have hpB : (upd H10 p (.ins Z.C_Chosen dx (chF7 tv chg room wp cp (workM cols rows ch as chg) mk2))) p = some (.ins Z.C_Chosen dx (chF7 tv chg room wp cp (workM cols rows ch as chg) mk2)) := upd_same
    have sxB : Sx (p :: Z.P_Sheet_most_saving :: Z.Ps) H (upd H10 p (.ins Z.C_Chosen dx (chF7 tv chg room wp cp (workM cols rows ch as chg) mk2))) := Sx.updL sxA
    have hcaB : (upd H10 p (.ins Z.C_Chosen dx (chF7 tv chg room wp cp (workM cols rows ch as chg) mk2))) ca = some (.tup (fd.map tx)) := (KT.ins (smA _ _ hp9)).1 _ _ (smA _ _ hca)
    have tgB : TG Z.Ps (upd H10 p (.ins Z.C_Chosen dx (chF7 tv chg room wp cp (workM cols rows ch as chg) mk2))) := (tg9.same smA).put ((tg9.same smA).not (smA _ _ hp9) fun q z => nomatch z)
    have tabB : LamX.TabS (upd H10 p (.ins Z.C_Chosen dx (chF7 tv chg room wp cp (workM cols rows ch as chg) mk2))) Z.P_Sheet_most_saving (lamQ "Sheet.most_saving") := tab_put (tab_same tab9 smA) (smA _ _ hp9)
    generalize upd H10 p (.ins Z.C_Chosen dx (chF7 tv chg room wp cp (workM cols rows ch as chg) mk2)) = H11 at hpB sxB hcaB tgB tabB ⊢
    -- self.chosen
    refine ⟨.ref ca, rfl, ca, fd, rfl, .inl (.inl hcaB), fun k nk => ⟨k, _, rfl, .inl ⟨.inl (.inl upd_same), fun ct nct => ?_⟩⟩⟩
    have smC : Same H11 (upd (upd H11 k (.lst ((sortO fd).map tx))) ct (.tup ((sortO fd).map tx))) := Same.new (Same.new (Same.refl H11) nk) nct
    have hct : (upd (upd H11 k (.lst ((sortO fd).map tx))) ct (.tup ((sortO fd).map tx))) ct = some (.tup ((sortO fd).map tx)) := upd_same
    generalize upd (upd H11 k (.lst ((sortO fd).map tx))) ct (.tup ((sortO fd).map tx)) = H12 at smC hct ⊢
    have hpC := smC _ _ hpB
    refine ⟨.ref p, rfl, p, Z.C_Chosen, dx, _, rfl, hpC, T.cl_Chosen, T.n_Chosen_chosen, (by show 7 < 1000; decide), ?_⟩
    rw [chF_put_chosen]
    have tgC := tgB.same smC
    have tabC := tab_same tabB smC
    have hpD : (upd H12 p (.ins Z.C_Chosen dx (chF7 tv chg room wp ct (workM cols rows ch as chg) mk2))) p = some (.ins Z.C_Chosen dx (chF7 tv chg room wp ct (workM cols rows ch as chg) mk2)) := upd_same
    have sxD : Sx (p :: Z.P_Sheet_most_saving :: Z.Ps) H (upd H12 p (.ins Z.C_Chosen dx (chF7 tv chg room wp ct (workM cols rows ch as chg) mk2))) := Sx.updL (sxB.trans (Same.sx smC))
    have hctD : (upd H12 p (.ins Z.C_Chosen dx (chF7 tv chg room wp ct (workM cols rows ch as chg) mk2))) ct = some (.tup ((sortO fd).map tx)) := (KT.ins hpC).1 _ _ hct
    have tgD : TG Z.Ps (upd H12 p (.ins Z.C_Chosen dx (chF7 tv chg room wp ct (workM cols rows ch as chg) mk2))) := tgC.put (tgC.not hpC fun q z => nomatch z)
    have tabD : LamX.TabS (upd H12 p (.ins Z.C_Chosen dx (chF7 tv chg room wp ct (workM cols rows ch as chg) mk2))) Z.P_Sheet_most_saving (lamQ "Sheet.most_saving") := tab_put tabC hpC
    generalize upd H12 p (.ins Z.C_Chosen dx (chF7 tv chg room wp ct (workM cols rows ch as chg) mk2)) = H13 at hpD sxD hctD tgD tabD ⊢
    -- self.least
    refine ⟨.int r, rfl, .ref p, rfl, p, Z.C_Chosen, dx, _, rfl, hpD, T.cl_Chosen, T.n_Chosen_least, (by show 7 < 1000; decide), ?_⟩
    rw [chF_put_least]
    have sxE : Sx (p :: Z.P_Sheet_most_saving :: Z.Ps) H (upd H13 p (.ins Z.C_Chosen dx (chF7 tv chg room wp ct r mk2))) := Sx.updL sxD
    refine q (sortO fd) r mk2 _ sxE (tgD.put (tgD.not hpD fun q z => nomatch z)) (tab_put tabD hpD) (keep sxE upd_same ((KT.ins hpD).1 _ _ hctD)) ⟨opt, ?_, ⟨?_, fun o ho => cF.sub o (sortO_mem.mp ho), ?_⟩, fun z => ?_, ?_, sortO_same fd⟩
    · rw [er]
      exact (work_perm (sortO_perm fd)).symm
    · exact (sortO_perm fd).nodup_iff.mpr cF.nd
    · rw [letters_perm (sortO_perm fd)]
      exact cF.fits
    · omega
    · rw [← hmk, ((sortO_perm fd).filter _).length_eq]

/-! ### Chosen.ask, leave and what it tells -/
/-- a dict of numbers is no code object -/
theorem dic_code {w : World} {d : Addr} {kvs : KvQ} {q : Str} (h : dicQ w d kvs = LamX.CodeO d q) : False := by
  unfold dicQ LamX.CodeO at h
  have e := congrFun (HO.ext.inj h) ⟨Array.replicate (d + 1) { cls := .none, data := .fields #[.none, .str q 0] }, {}⟩
  have get : (⟨Array.replicate (d + 1) { cls := .none, data := .fields #[.none, .str q 0] }, {}⟩ : Heap).get? d = some { cls := .none, data := .fields #[.none, .str q 0] } := by
    unfold Heap.get?
    simp
  obtain ⟨_, _, _, _, _, o, es, ep, h1, _, h2, _⟩ : LiesQ w d kvs _ := e.mpr ⟨_, _, 0, get, rfl, rfl⟩
  rw [get] at h1
  cases h1
  cases h2
theorem tg_dic {w : World} {Ps : List Addr} {H H' : Hp} {d : Addr} {kvs : KvQ} (t : TG Ps H) (hd : H d = some (dicQ w d kvs)) (s : Sx [d] H H') : TG Ps H' := fun P hP => by
  obtain ⟨ps, h1, h2⟩ := t P hP
  refine ⟨ps, s _ _ (fun z => ?_) h1, h2⟩
  rw [List.mem_singleton.mp z, hd] at h1
  cases h1
theorem tab_dic {w : World} {P : Addr} {q : Str} {H H' : Hp} {d : Addr} {kvs : KvQ} (t : LamX.TabS H P q) (hd : H d = some (dicQ w d kvs)) (s : Sx [d] H H') : LamX.TabS H' P q := by
  obtain ⟨ps, h1, h2, h3⟩ := t
  refine ⟨ps, s _ _ (fun z => by rw [List.mem_singleton.mp z, hd] at h1; cases h1) h1, h2, fun pos cv e => ?_⟩
  obtain ⟨c, e1, e2⟩ := h3 pos cv e
  exact ⟨c, e1, s _ _ (fun z => by
    have zc := List.mem_singleton.mp z
    subst zc
    rw [hd] at e2
    exact dic_code (Option.some.inj e2)) e2⟩
/-- what a keeper of a choice needs to be asked -/
structure ChoRdy (cols : List Nat) (rows : List (List Int)) (chg : Int) (room : Nat) (ch : List (List Nat)) : Prop where
  cC : Ch cols room ch
  up : sortO ch = ch
  rok : RowsOk cols.length rows
  rl : rows.length ≤ 100
  cd : cols.Nodup
  c4 : cols.length ≤ 4
  g0 : 0 ≤ chg
  g1 : chg ≤ 1000000
  rm : room ≤ 89
theorem Chose.rdy {cols : List Nat} {rows : List (List Int)} {as : List Ask} {chg : Int} {room : Nat} {ch : List (List Nat)} {mk : Int} {ch' : List (List Nat)} {ls' mk' : Int} (h : Chose cols rows as chg room ch mk ch' ls' mk') (r : ChoRdy cols rows chg room ch) : ChoRdy cols rows chg room ch' :=
  ⟨h.ok, h.up, r.rok, r.rl, r.cd, r.c4, r.g0, r.g1, r.rm⟩
def spChosenAsk (w : World) (K : PySem.W.Frag) (Z : Ad) : Sp := fun vs H Q E => ∃ (p wp d qa : Addr) (tv : V) (cols : List Nat) (rows : List (List Int)) (chg : Int) (room : Nat) (as : List Ask) (ch : List (List Nat)) (ls mk : Int) (q : Qn) (n : Int), vs = [.ref p, .ref qa, .int n] ∧ ChosenAt w Z.C_Chosen Z.C_Wanted H p wp d tv cols rows chg room as ch ls mk ∧ ChoRdy cols rows chg room ch ∧ TG Z.Ps H ∧ LamX.TabS H Z.P_Sheet_most_saving (lamQ "Sheet.most_saving") ∧ QZ H (.ref qa) q.1 q.2 ∧ as.length ≤ 5 ∧ (¬(q ∈ qsOf as ∨ as.length < 5) → E (.ref (Z.xa "TooMany")) none H) ∧ ((q ∈ qsOf as ∨ as.length < 5) → AsksOk cols (moreA as q n)) ∧
  ((q ∈ qsOf as ∨ as.length < 5) → ∀ (ch' : List (List Nat)) (ls' mk' : Int) (H' : Hp), Sx (p :: d :: Z.P_Sheet_most_saving :: Z.Ps) H H' → TG Z.Ps H' → LamX.TabS H' Z.P_Sheet_most_saving (lamQ "Sheet.most_saving") → ChosenAt w Z.C_Chosen Z.C_Wanted H' p wp d tv cols rows chg room (moreA as q n) ch' ls' mk' → Chose cols rows (moreA as q n) chg room ch mk ch' ls' mk' → Q .non H')
theorem ok_chosenask (T : Tx K mg Z) (TB : Tb base mg Z) : FnOk P w K mg base (L2.CX P w) 81 Z.f_Chosen_ask Z.d_Chosen_ask ["self", "question", "often"] (spChosenAsk w K Z) := by
  have G_Wanted_more : FnOk P w K mg base (L2.CX P w) 1 Z.f_Wanted_more Z.d_Wanted_more ["self", "question", "often"] (spMore w K Z) := ok_more T
  have G_Chosen_choose : FnOk P w K mg base CX0 80 Z.f_Chosen_choose Z.d_Chosen_choose ["self"] (spChoose w K Z) := ok_choose T TB
  refine T.F_Chosen_ask.okX sc_Chosen_ask (fun vs H Q E h => ?_) (fun cdv A outer s H vs Q E hr h => ?_)
  · obtain ⟨p, wp, d, qa, tv, cols, rows, chg, room, as, ch, ls, mk, q, n, rfl, _⟩ := h
    rfl
  · obtain ⟨p, wp, d, qa, tv, cols, rows, chg, room, as, ch, ls, mk, q, n, rfl, hC, R, tg, tab, fq, hl, qx, has0, qq0⟩ := h
    refine ⟨_, (pss_cons (ps_expr (pe_methX (fldK K (pv 0) rfl) T.cl_Wanted T.m_Wanted_more G_Wanted_more (hr.mono (by omega)) T.b_Wanted_more (fun σ => passAt (takes_of rfl rfl rfl rfl) σ) (pa_cons (pv 1) (pa_cons (pv 2) pa_nil))))
      (PSs.nox (pss_one (ps_expr (pe_meth0 (pv 0) T.cl_Chosen T.m_Chosen_choose G_Chosen_choose (hr.mono (by omega)) T.b_Chosen_choose .nil pass0))))), ?_⟩
    obtain ⟨dx, cp, hp, hcp⟩ := hC.self
    obtain ⟨dxw, ws, ews, hwp, hd, hz⟩ := id hC.want
    refine ⟨.ref p, rfl, p, Z.C_Chosen, dx, _, _, rfl, hp, T.cl_Chosen, T.n_Chosen_wanted, chF7_wanted _ _ _ _ _ _ _, wp, dxw, _, rfl, hwp, waF1_no_more _, .ref qa, rfl, .int n, rfl, wp, d, qa, as, q, n, rfl, hC.want, fq, hl, fun few H1 sx1 kt1 hW1 => ?_, qx⟩
    have has := has0 few
    have qq := qq0 few
    have hp1 := sx1 _ _ (fun z => hC.npd (List.mem_singleton.mp z)) hp
    have hC1 : ChosenAt w Z.C_Chosen Z.C_Wanted H1 p wp d tv cols rows chg room (moreA as q n) ch ls mk := ⟨⟨dx, cp, hp1, kt1.1 _ _ hcp⟩, hW1, hC.tab.kt kt1.1, hC.npw, hC.npd⟩
    refine ⟨.ref p, rfl, p, dx, _, rfl, hp1, chF7_no_choose _ _ _ _ _ _ _, p, wp, d, tv, cols, rows, chg, room, moreA as q n, ch, ls, mk, rfl, hC1, R.cC, R.up, tg_dic tg hd sx1, tab_dic tab hd sx1, R.rok, R.rl, R.cd, R.c4, has, R.g0, R.g1, R.rm, fun ch' ls' mk' H2 sx2 tg2 tab2 hC2 cho => ?_⟩
    exact qq ch' ls' mk' H2 ((sx1.more fun b hb => by rw [List.mem_singleton.mp hb]; exact List.mem_cons_of_mem _ List.mem_cons_self).trans (sx2.more fun b hb => (List.mem_cons.mp hb).elim (fun z => z ▸ List.mem_cons_self) fun z => List.mem_cons_of_mem _ (List.mem_cons_of_mem _ z))) tg2 tab2 hC2 cho
def spChosenLeave (w : World) (K : PySem.W.Frag) (Z : Ad) : Sp := fun vs H Q E => ∃ (p wp d qa : Addr) (tv : V) (cols : List Nat) (rows : List (List Int)) (chg : Int) (room : Nat) (as : List Ask) (ch : List (List Nat)) (ls mk : Int) (q : Qn), vs = [.ref p, .ref qa] ∧ ChosenAt w Z.C_Chosen Z.C_Wanted H p wp d tv cols rows chg room as ch ls mk ∧ ChoRdy cols rows chg room ch ∧ TG Z.Ps H ∧ LamX.TabS H Z.P_Sheet_most_saving (lamQ "Sheet.most_saving") ∧ QZ H (.ref qa) q.1 q.2 ∧ as.length ≤ 5 ∧ (q ∉ qsOf as → E (.ref (Z.xa "NoQuestion")) none H) ∧ (q ∈ qsOf as → AsksOk cols (lessA as q)) ∧
  (q ∈ qsOf as → ∀ (ch' : List (List Nat)) (ls' mk' : Int) (H' : Hp), Sx (p :: d :: Z.P_Sheet_most_saving :: Z.Ps) H H' → TG Z.Ps H' → LamX.TabS H' Z.P_Sheet_most_saving (lamQ "Sheet.most_saving") → ChosenAt w Z.C_Chosen Z.C_Wanted H' p wp d tv cols rows chg room (lessA as q) ch' ls' mk' → Chose cols rows (lessA as q) chg room ch mk ch' ls' mk' → Q .non H')
theorem ok_chosenleave (T : Tx K mg Z) (TB : Tb base mg Z) : FnOk P w K mg base (L2.CX P w) 81 Z.f_Chosen_leave Z.d_Chosen_leave ["self", "question"] (spChosenLeave w K Z) := by
  have G_Wanted_leave : FnOk P w K mg base (L2.CX P w) 1 Z.f_Wanted_leave Z.d_Wanted_leave ["self", "question"] (spLeave w K Z) := ok_leave T
  have G_Chosen_choose : FnOk P w K mg base CX0 80 Z.f_Chosen_choose Z.d_Chosen_choose ["self"] (spChoose w K Z) := ok_choose T TB
  refine T.F_Chosen_leave.okX sc_Chosen_leave (fun vs H Q E h => ?_) (fun cdv A outer s H vs Q E hr h => ?_)
  · obtain ⟨p, wp, d, qa, tv, cols, rows, chg, room, as, ch, ls, mk, q, rfl, _⟩ := h
    rfl
  · obtain ⟨p, wp, d, qa, tv, cols, rows, chg, room, as, ch, ls, mk, q, rfl, hC, R, tg, tab, fq, hl, qx, has0, qq0⟩ := h
    refine ⟨_, (pss_cons (ps_expr (pe_methX (fldK K (pv 0) rfl) T.cl_Wanted T.m_Wanted_leave G_Wanted_leave (hr.mono (by omega)) T.b_Wanted_leave (fun σ => passAt (takes_of rfl rfl rfl rfl) σ) (pa_cons (pv 1) pa_nil)))
      (PSs.nox (pss_one (ps_expr (pe_meth0 (pv 0) T.cl_Chosen T.m_Chosen_choose G_Chosen_choose (hr.mono (by omega)) T.b_Chosen_choose .nil pass0))))), ?_⟩
    obtain ⟨dx, cp, hp, hcp⟩ := hC.self
    obtain ⟨dxw, ws, ews, hwp, hd, hz⟩ := id hC.want
    refine ⟨.ref p, rfl, p, Z.C_Chosen, dx, _, _, rfl, hp, T.cl_Chosen, T.n_Chosen_wanted, chF7_wanted _ _ _ _ _ _ _, wp, dxw, _, rfl, hwp, waF1_no_leave _, .ref qa, rfl, wp, d, qa, as, q, rfl, hC.want, fq, hl, fun hq H1 sx1 kt1 hW1 => ?_, qx⟩
    have has := has0 hq
    have qq := qq0 hq
    have hp1 := sx1 _ _ (fun z => hC.npd (List.mem_singleton.mp z)) hp
    have hC1 : ChosenAt w Z.C_Chosen Z.C_Wanted H1 p wp d tv cols rows chg room (lessA as q) ch ls mk := ⟨⟨dx, cp, hp1, kt1.1 _ _ hcp⟩, hW1, hC.tab.kt kt1.1, hC.npw, hC.npd⟩
    refine ⟨.ref p, rfl, p, dx, _, rfl, hp1, chF7_no_choose _ _ _ _ _ _ _, p, wp, d, tv, cols, rows, chg, room, lessA as q, ch, ls, mk, rfl, hC1, R.cC, R.up, tg_dic tg hd sx1, tab_dic tab hd sx1, R.rok, R.rl, R.cd, R.c4, has, R.g0, R.g1, R.rm, fun ch' ls' mk' H2 sx2 tg2 tab2 hC2 cho => ?_⟩
    exact qq ch' ls' mk' H2 ((sx1.more fun b hb => by rw [List.mem_singleton.mp hb]; exact List.mem_cons_of_mem _ List.mem_cons_self).trans (sx2.more fun b hb => (List.mem_cons.mp hb).elim (fun z => z ▸ List.mem_cons_self) fun z => List.mem_cons_of_mem _ (List.mem_cons_of_mem _ z))) tg2 tab2 hC2 cho
def spChosenAsks (w : World) (K : PySem.W.Frag) (Z : Ad) : Sp := fun vs H Q _ => ∃ (p wp d : Addr) (tv : V) (cols : List Nat) (rows : List (List Int)) (chg : Int) (room : Nat) (as : List Ask) (ch : List (List Nat)) (ls mk : Int), vs = [.ref p] ∧ ChosenAt w Z.C_Chosen Z.C_Wanted H p wp d tv cols rows chg room as ch ls mk ∧
  ∀ (t : Addr) (us : List V) (H' : Hp), Same H H' → H t = none → H' t = some (.tup us) → AsksZ H' us as → Q (.ref t) H'
theorem ok_chosenasks (T : Tx K mg Z) : FnOk P w K mg base CX0 2 Z.f_Chosen_asks Z.d_Chosen_asks ["self"] (spChosenAsks w K Z) := by
  have G_Wanted_as_asks : FnOk P w K mg base CX0 1 Z.f_Wanted_as_asks Z.d_Wanted_as_asks ["self"] (spAsAsks w K Z) := ok_asasks T
  refine T.F_Chosen_asks.ok sc_Chosen_asks (fun vs H Q E h => ?_) (fun cdv A outer s H vs Q E hr h => ?_)
  · obtain ⟨p, wp, d, tv, cols, rows, chg, room, as, ch, ls, mk, rfl, _⟩ := h
    rfl
  · obtain ⟨p, wp, d, tv, cols, rows, chg, room, as, ch, ls, mk, rfl, hC, qq⟩ := h
    refine ⟨_, (pss_one (ps_ret (pe_meth0 (fldK K (pv 0) rfl) T.cl_Wanted T.m_Wanted_as_asks G_Wanted_as_asks (hr.mono (by omega)) T.b_Wanted_as_asks .nil pass0))), ?_⟩
    obtain ⟨dx, cp, hp, hcp⟩ := hC.self
    obtain ⟨dxw, ws, ews, hwp, hd, hz⟩ := id hC.want
    exact ⟨.ref p, rfl, p, Z.C_Chosen, dx, _, _, rfl, hp, T.cl_Chosen, T.n_Chosen_wanted, chF7_wanted _ _ _ _ _ _ _, wp, dxw, _, rfl, hwp, waF1_no_asks _, wp, d, as, rfl, hC.want, qq⟩
def spChosenChoice (w : World) (K : PySem.W.Frag) (Z : Ad) : Sp := fun vs H Q _ => ∃ (p wp d : Addr) (tv : V) (cols : List Nat) (rows : List (List Int)) (chg : Int) (room : Nat) (as : List Ask) (ch : List (List Nat)) (ls mk : Int), vs = [.ref p] ∧ ChosenAt w Z.C_Chosen Z.C_Wanted H p wp d tv cols rows chg room as ch ls mk ∧ ∀ c, H c = some (.tup (ch.map tx)) → Q (.ref c) H
theorem ok_chosenchoice (T : Tx K mg Z) : FnOk P w K mg base CX0 1 Z.f_Chosen_choice Z.d_Chosen_choice ["self"] (spChosenChoice w K Z) := by
  refine T.F_Chosen_choice.ok sc_Chosen_choice (fun vs H Q E h => ?_) (fun cdv A outer s H vs Q E hr h => ?_)
  · obtain ⟨p, wp, d, tv, cols, rows, chg, room, as, ch, ls, mk, rfl, _⟩ := h
    rfl
  · obtain ⟨p, wp, d, tv, cols, rows, chg, room, as, ch, ls, mk, rfl, hC, qq⟩ := h
    refine ⟨_, (pss_one (ps_ret (fldK K (pv 0) rfl))), ?_⟩
    obtain ⟨dx, cp, hp, hcp⟩ := hC.self
    exact ⟨.ref p, rfl, p, Z.C_Chosen, dx, _, _, rfl, hp, T.cl_Chosen, T.n_Chosen_chosen, chF7_chosen _ _ _ _ _ _ _, qq cp hcp⟩
def spChosenPrice (w : World) (K : PySem.W.Frag) (Z : Ad) : Sp := fun vs H Q _ => ∃ (p wp d : Addr) (tv : V) (cols : List Nat) (rows : List (List Int)) (chg : Int) (room : Nat) (as : List Ask) (ch : List (List Nat)) (ls mk : Int), vs = [.ref p] ∧ ChosenAt w Z.C_Chosen Z.C_Wanted H p wp d tv cols rows chg room as ch ls mk ∧ Q (.int ls) H
theorem ok_chosenprice (T : Tx K mg Z) : FnOk P w K mg base CX0 1 Z.f_Chosen_price Z.d_Chosen_price ["self"] (spChosenPrice w K Z) := by
  refine T.F_Chosen_price.ok sc_Chosen_price (fun vs H Q E h => ?_) (fun cdv A outer s H vs Q E hr h => ?_)
  · obtain ⟨p, wp, d, tv, cols, rows, chg, room, as, ch, ls, mk, rfl, _⟩ := h
    rfl
  · obtain ⟨p, wp, d, tv, cols, rows, chg, room, as, ch, ls, mk, rfl, hC, qq⟩ := h
    refine ⟨_, (pss_one (ps_ret (fldK K (pv 0) rfl))), ?_⟩
    obtain ⟨dx, cp, hp, hcp⟩ := hC.self
    exact ⟨.ref p, rfl, p, Z.C_Chosen, dx, _, _, rfl, hp, T.cl_Chosen, T.n_Chosen_least, chF7_least _ _ _ _ _ _ _, qq⟩

/-! ### how a keeper of a choice stands -/
/-- how a keeper of a choice stands -/
structure Cho (cols : List Nat) (rows : List (List Int)) (chg : Int) (room : Nat) (as : List Ask) (ch : List (List Nat)) (ls : Int) : Prop where
  rdy : ChoRdy cols rows chg room ch
  opt : Opt cols rows as chg room (listsM cols cols.length) ls
  is : ls = workM cols rows ch as chg
  has : AsksOk cols as
theorem Chose.cho {cols : List Nat} {rows : List (List Int)} {as : List Ask} {chg : Int} {room : Nat} {ch : List (List Nat)} {mk : Int} {ch' : List (List Nat)} {ls' mk' : Int} (h : Chose cols rows as chg room ch mk ch' ls' mk') (r : ChoRdy cols rows chg room ch) (has : AsksOk cols as) : Cho cols rows chg room as ch' ls' := ⟨h.rdy r, h.opt, h.is, has⟩
theorem AsksOk.less {cols : List Nat} {as : List Ask} (h : AsksOk cols as) (q : Qn) : AsksOk cols (lessA as q) :=
  ⟨Nat.le_trans (List.length_filter_le _ _) h.len, fun a ha => h.ok a (List.mem_filter.mp ha).1⟩
theorem often_le {as : List Ask} {q : Qn} {B : Int} (h : ∀ a ∈ as, 0 ≤ a.often ∧ a.often ≤ B) (hB : 0 ≤ B) : 0 ≤ oftenOf as q ∧ oftenOf as q ≤ B := by
  unfold oftenOf
  cases e : as.find? (isQ q) with
  | none => exact ⟨Int.le_refl _, hB⟩
  | some a => exact h a (List.mem_of_find?_eq_some e)
theorem AsksOk.more {cols : List Nat} {as : List Ask} {q : Qn} {n B : Int} (h : AsksOk cols as) (hq : QOk cols q.1 q.2) (n1 : 1 ≤ n) (hB : 0 ≤ B) (hb : ∀ a ∈ as, a.often ≤ B) (bn : B + n ≤ 1001000) (few : q ∈ qsOf as ∨ as.length < 5) : AsksOk cols (moreA as q n) ∧ ∀ a ∈ moreA as q n, a.often ≤ B + n := by
  have o := often_le (q := q) (fun a ha => ⟨by have := (h.ok a ha).2.1; omega, hb a ha⟩) hB
  unfold moreA
  by_cases e : as.any (isQ q) = true
  · rw [if_pos e]
    refine ⟨⟨by rw [List.length_map]; exact h.len, fun a ha => ?_⟩, fun a ha => ?_⟩
    · obtain ⟨b, hb', rfl⟩ := List.mem_map.mp ha
      split
      · exact ⟨hq, by show 1 ≤ oftenOf as q + n; omega, by show oftenOf as q + n ≤ 1001000; omega⟩
      · exact h.ok b hb'
    · obtain ⟨b, hb', rfl⟩ := List.mem_map.mp ha
      split
      · show oftenOf as q + n ≤ B + n
        omega
      · have := hb b hb'
        omega
  · rw [if_neg e]
    have l5 : as.length < 5 := by
      rcases few with f | f
      · rw [any_isQ, decide_eq_true f] at e
        exact absurd rfl e
      · exact f
    refine ⟨⟨by rw [List.length_append]; show as.length + 1 ≤ 5; omega, fun a ha => ?_⟩, fun a ha => ?_⟩
    · rcases List.mem_append.mp ha with z | z
      · exact h.ok a z
      · rw [List.mem_singleton.mp z]
        exact ⟨hq, n1, by show n ≤ 1001000; omega⟩
    · rcases List.mem_append.mp ha with z | z
      · have := hb a z
        omega
      · rw [List.mem_singleton.mp z]
        show n ≤ B + n
        omega
/-- asked, where fewer than five others are; left, where n is 0 -/
def stepA (as : List Ask) (q : Qn) (n : Int) : List Ask := if n = 0 then lessA as q else if q ∈ qsOf as ∨ as.length < 5 then moreA as q n else as
theorem lessA_not {as : List Ask} {q : Qn} (h : q ∉ qsOf as) : lessA as q = as := by
  unfold lessA
  refine List.filter_eq_self.mpr fun a ha => ?_
  cases e : isQ q a with
  | false => rfl
  | true =>
    exact absurd (by
      have := List.any_eq_true.mpr ⟨a, ha, e⟩
      rw [any_isQ] at this
      exact of_decide_eq_true this) h
/-- the places that a keeper of a choice may change -/
abbrev LC (Z : Ad) (p d : Addr) : List Addr := p :: d :: Z.P_Sheet_most_saving :: Z.Ps

/-! ### a bag beside tables -/
theorem Bag.sx {b bl : Addr} {Ps : List Addr} {H H' : Hp} (h : Bag b bl H) (t : TG Ps H) (s : Sx Ps H H') : Bag b bl H' := by
  obtain ⟨ns, k, n, e, h1, h2⟩ := h
  exact ⟨ns, k, n, e, s _ _ (t.not h1 fun q z => nomatch z) h1, s _ _ (t.not h2 fun q z => nomatch z) h2⟩
theorem TG.kb {b bl : Addr} {Ps : List Addr} {H H' : Hp} (t : TG Ps H) (h : Bag b bl H) (k : Kp b H H') : TG Ps H' := by
  obtain ⟨ns, m, n, e, h1, h2⟩ := h
  exact t.kp h1 k
theorem tab_kb {b bl P : Addr} {q : Str} {H H' : Hp} (t : LamX.TabS H P q) (h : Bag b bl H) (k : Kp b H H') : LamX.TabS H' P q := by
  obtain ⟨ns, m, n, e, h1, h2⟩ := h
  obtain ⟨ps, g1, g2, g3⟩ := t
  refine ⟨ps, k _ _ (fun z => by rw [z, h1] at g1; cases g1) g1, g2, fun pos cv e => ?_⟩
  obtain ⟨c, e1, e2⟩ := g3 pos cv e
  exact ⟨c, e1, k _ _ (fun z => by
    rw [z, h1] at e2
    have e3 := Option.some.inj e2
    unfold LamX.CodeO at e3
    cases e3) e2⟩

/-! ### asks as data -/
def askD (a : Ask) : PyData := .tuple [qD a.es a.rc, .int a.often]
theorem AsksZ.dp {K : PySem.W.Frag} {H : Hp} {vs : List V} {as : List Ask} (h : AsksZ H vs as) : DpAll K H vs (as.map askD) := by
  induction h with
  | nil => exact .nil
  | cons a _ ih =>
    obtain ⟨p, qv, rfl, h1, h2⟩ := a
    exact .cons (.tup (.inl (.inl h1)) (.cons h2.dp (.cons (.int _) .nil))) ih
theorem lay_asks {cols : List Nat} (hz : ∀ c ∈ cols, c ≤ 122) : ∀ {as : List Ask}, (∀ a ∈ as, QOk cols a.es a.rc) → PyData.canLayAll0 (as.map askD) = true
  | [], _ => rfl
  | a :: as, h => by
    show ((PyData.canLay0 (qD a.es a.rc) && (true && true)) && PyData.canLayAll0 (as.map askD)) = true
    rw [lay_q hz (h a (by simp)), lay_asks hz fun x hx => h x (by simp [hx])]
    rfl
theorem depA_asks : ∀ as : List Ask, PyData.depthAll (as.map askD) ≤ 61
  | [] => Nat.zero_le _
  | a :: as => by
    show max (max (PyData.depth (qD a.es a.rc)) (max 0 0) + 1) (PyData.depthAll (as.map askD)) ≤ 61
    have h1 := dep_q a.es a.rc
    have h2 := depA_asks as
    omega
theorem shaped_asks {cols : List Nat} (hz : ∀ c ∈ cols, c ≤ 122) {as : List Ask} (h : ∀ a ∈ as, QOk cols a.es a.rc) : SeqAt.shaped (.tuple (as.map askD)) = true := by
  unfold SeqAt.shaped
  rw [Bool.and_eq_true]
  refine ⟨lay_asks hz h, decide_eq_true ?_⟩
  show PyData.depthAll (as.map askD) + 1 ≤ 64
  have := depA_asks as
  omega
theorem eqv_asks {cols : List Nat} (hz : ∀ c ∈ cols, c ≤ 122) {as : List Ask} (h : ∀ a ∈ as, QOk cols a.es a.rc) : PyData.eqv (.tuple (as.map askD)) (.tuple (as.map askD)) = true := SeqAt.eqv_refl _ (lay_asks hz h)

/-! ### a keeper of a choice where something is asked only -/
theorem ChosenAt.sx {w : World} {C CW : Addr} {H H' : Hp} {p wp d : Addr} {tv : V} {cols : List Nat} {rows : List (List Int)} {chg : Int} {room : Nat} {as : List Ask} {ch : List (List Nat)} {ls mk : Int} {Ps : List Addr} (h : ChosenAt w C CW H p wp d tv cols rows chg room as ch ls mk) (tg : TG Ps H) (s : Sx Ps H H') : ChosenAt w C CW H' p wp d tv cols rows chg room as ch ls mk := by
  obtain ⟨dx, cp, h1, _⟩ := h.self
  obtain ⟨dxw, ws, _, h2, h3, _⟩ := id h.want
  refine h.keep (fun b hb o e => s b o (fun z => ?_) e) (s.kT tg)
  simp only [List.mem_cons, List.not_mem_nil, or_false] at hb
  rcases hb with y | y | y <;> rw [y] at z
  · exact tg.not h1 (fun q z => nomatch z) z
  · exact tg.not h2 (fun q z => nomatch z) z
  · exact tg.not h3 (fun q z => nomatch z) z
theorem ChosenAt.same {w : World} {C CW : Addr} {H H' : Hp} {p wp d : Addr} {tv : V} {cols : List Nat} {rows : List (List Int)} {chg : Int} {room : Nat} {as : List Ask} {ch : List (List Nat)} {ls mk : Int} (h : ChosenAt w C CW H p wp d tv cols rows chg room as ch ls mk) (k : Same H H') : ChosenAt w C CW H' p wp d tv cols rows chg room as ch ls mk := h.keep (fun b _ o e => k b o e) (Same.kT k)
/-- a choice is the same as itself -/
theorem eqv_cho (os : List (List Nat)) : PyData.eqv (.tuple (os.map strD)) (.tuple (os.map strD)) = true := by
  have := eqv_same os
  simpa [PyData.eqv] using this
theorem shaped_cho {ls : List (List Nat)} (h : ∀ l ∈ ls, ∀ c ∈ l, c ≤ 122) : SeqAt.shaped (.tuple (ls.map strD)) = true := by
  have := shaped_texts h
  simpa [SeqAt.shaped, PyData.canLay0, PyData.depth] using this

/-! ### a keeper of a choice, a bag and a pool -/
theorem moreA_in {as : List Ask} {q : Qn} {n : Int} : q ∈ qsOf (moreA as q n) := by
  unfold moreA qsOf
  split
  · rename_i h
    obtain ⟨a, ha, hq⟩ := List.any_eq_true.mp h
    refine List.mem_map.mpr ⟨_, List.mem_map.mpr ⟨a, ha, rfl⟩, ?_⟩
    rw [if_pos hq]
  · exact List.mem_map.mpr ⟨_, List.mem_append_right _ (List.mem_singleton.mpr rfl), rfl⟩
theorem moreA_still {as : List Ask} {q q' : Qn} {n : Int} (h : q' ∈ qsOf as) : q' ∈ qsOf (moreA as q n) := by
  obtain ⟨a, ha, e⟩ := List.mem_map.mp h
  unfold moreA qsOf
  split
  · refine List.mem_map.mpr ⟨_, List.mem_map.mpr ⟨a, ha, rfl⟩, ?_⟩
    by_cases c : isQ q a = true
    · rw [if_pos c]
      have := of_decide_eq_true c
      rw [← e]
      exact (Prod.ext this.1 this.2).symm
    · rw [if_neg c]
      exact e
  · exact List.mem_map.mpr ⟨a, List.mem_append_left _ ha, e⟩
structure PL (w : World) (Z : Ad) (H : Hp) (b bl L p wp d : Addr) (tv : V) (cols : List Nat) (rows : List (List Int)) (chg : Int) (room : Nat) (vs : List V) (qs : List Qn) (as : List Ask) (ch : List (List Nat)) (ls mk : Int) : Prop where
  bag : Bag b bl H
  tg : TG Z.Ps H
  tab : LamX.TabS H Z.P_Sheet_most_saving (lamQ "Sheet.most_saving")
  c : ChosenAt w Z.C_Chosen Z.C_Wanted H p wp d tv cols rows chg room as ch ls mk
  C : Cho cols rows chg room as ch ls
  hL : H L = some (.lst vs)
  qa : QA H vs qs
  nb : L ≠ b ∧ L ≠ bl
section
variable {w : World} {H H' : Hp} {b bl L p wp d : Addr} {tv : V} {cols : List Nat} {rows : List (List Int)} {chg : Int} {room : Nat} {vs : List V} {qs : List Qn} {as as' : List Ask} {ch ch' : List (List Nat)} {ls mk ls' mk' : Int}
theorem ChosenAt.kinds {C CW : Addr} (h : ChosenAt w C CW H p wp d tv cols rows chg room as ch ls mk) : (∃ dx f, H p = some (.ins C dx f)) ∧ (∃ dx f, H wp = some (.ins CW dx f)) ∧ ∃ kvs, H d = some (dicQ w d kvs) := by
  obtain ⟨dx, cp, h1, _⟩ := h.self
  obtain ⟨dxw, ws, _, h2, h3, _⟩ := id h.want
  exact ⟨⟨_, _, h1⟩, ⟨_, _, h2⟩, _, h3⟩
theorem PL.tgL (h : PL w Z H b bl L p wp d tv cols rows chg room vs qs as ch ls mk) : TG (Z.P_Sheet_most_saving :: Z.Ps) H := tab_tg h.tab h.tg
theorem PL.kb (h : PL w Z H b bl L p wp d tv cols rows chg room vs qs as ch ls mk) (k : Kp b H H') (hB : Bag b bl H') : PL w Z H' b bl L p wp d tv cols rows chg room vs qs as ch ls mk := by
  obtain ⟨xs, hb⟩ : ∃ xs, H b = some (.lst xs) := let ⟨_, _, _, _, h1, _⟩ := h.bag; ⟨_, h1⟩
  obtain ⟨⟨dx, f, h1⟩, ⟨dw, f2, h2⟩, kvs, h3⟩ := h.c.kinds
  have kT := k.kTb h.bag
  refine ⟨hB, h.tg.kb h.bag k, tab_kb h.tab h.bag k, h.c.keep (fun c hc o e => k c o (fun z => ?_) e) kT, h.C, k _ _ h.nb.1 h.hL, h.qa.kT kT, h.nb⟩
  simp only [List.mem_cons, List.not_mem_nil, or_false] at hc
  rcases hc with y | y | y
  · rw [← y, z, hb] at h1
    cases h1
  · rw [← y, z, hb] at h2
    cases h2
  · rw [← y, z, hb] at h3
    cases h3
theorem PL.sx (T : Tx K mg Z) (h : PL w Z H b bl L p wp d tv cols rows chg room vs qs as ch ls mk) (s : Sx Z.Ps H H') (tg : TG Z.Ps H') : PL w Z H' b bl L p wp d tv cols rows chg room vs qs as ch ls mk :=
  ⟨h.bag.sx h.tg s, tg, tab_sx h.tab h.tg s T.l_Sheet_most_saving, h.c.sx h.tg s, h.C, s.lst h.tg h.hL, h.qa.kT (s.kT h.tg), h.nb⟩
theorem PL.same (T : Tx K mg Z) (h : PL w Z H b bl L p wp d tv cols rows chg room vs qs as ch ls mk) (s : Same H H') : PL w Z H' b bl L p wp d tv cols rows chg room vs qs as ch ls mk := h.sx T (Same.sx s) (h.tg.same s)
theorem PL.off (h : PL w Z H b bl L p wp d tv cols rows chg room vs qs as ch ls mk) {c : Addr} {xs : List V} (e : H c = some (.lst xs) ∨ H c = some (.tup xs)) : c ∉ LC Z p d := by
  obtain ⟨⟨dx, f, h1⟩, _, kvs, h3⟩ := h.c.kinds
  intro z
  rcases List.mem_cons.mp z with z | z
  · rw [z, h1] at e
    rcases e with e | e <;> cases e
  rcases List.mem_cons.mp z with z | z
  · rw [z, h3] at e
    rcases e with e | e <;> cases e
  · rcases e with e | e
    · exact h.tgL.not e (fun q z => nomatch z) z
    · exact h.tgL.not e (fun q z => nomatch z) z
theorem PL.kTC (h : PL w Z H b bl L p wp d tv cols rows chg room vs qs as ch ls mk) (s : Sx (LC Z p d) H H') : KT H H' := by
  obtain ⟨⟨dx, f, h1⟩, _, kvs, h3⟩ := h.c.kinds
  refine ⟨fun c xs e => s c _ (h.off (.inr e)) e, fun c o xs e => s c _ (fun z => ?_) e⟩
  rcases List.mem_cons.mp z with z | z
  · rw [z, h1] at e
    cases e
  rcases List.mem_cons.mp z with z | z
  · rw [z, h3] at e
    cases e
  · exact h.tgL.not e (fun q z => nomatch z) z
theorem PL.told (h : PL w Z H b bl L p wp d tv cols rows chg room vs qs as ch ls mk) (s : Sx (LC Z p d) H H') (tg : TG Z.Ps H') (tab : LamX.TabS H' Z.P_Sheet_most_saving (lamQ "Sheet.most_saving")) (c : ChosenAt w Z.C_Chosen Z.C_Wanted H' p wp d tv cols rows chg room as' ch' ls' mk') (C : Cho cols rows chg room as' ch' ls') : PL w Z H' b bl L p wp d tv cols rows chg room vs qs as' ch' ls' mk' := by
  refine ⟨?_, tg, tab, c, C, s _ _ (h.off (.inl h.hL)) h.hL, h.qa.kT (h.kTC s), h.nb⟩
  obtain ⟨ns, m, n, e, h1, h2⟩ := h.bag
  exact ⟨ns, m, n, e, s _ _ (h.off (.inl h1)) h1, s _ _ (h.off (.inl h2)) h2⟩
end

/-! ### Chosen.made -/
def spChosenMade (w : World) (K : PySem.W.Frag) (Z : Ad) : Sp := fun vs H Q _ => ∃ (p wp d : Addr) (tv : V) (cols : List Nat) (rows : List (List Int)) (chg : Int) (room : Nat) (as : List Ask) (ch : List (List Nat)) (ls mk : Int), vs = [.ref p] ∧ ChosenAt w Z.C_Chosen Z.C_Wanted H p wp d tv cols rows chg room as ch ls mk ∧ Q (.int mk) H
theorem ok_chosenmade (T : Tx K mg Z) : FnOk P w K mg base CX0 1 Z.f_Chosen_made Z.d_Chosen_made ["self"] (spChosenMade w K Z) := by
  refine T.F_Chosen_made.ok sc_Chosen_made (fun vs H Q E h => ?_) (fun cdv A outer s H vs Q E hr h => ?_)
  · obtain ⟨p, wp, d, tv, cols, rows, chg, room, as, ch, ls, mk, rfl, _⟩ := h
    rfl
  · obtain ⟨p, wp, d, tv, cols, rows, chg, room, as, ch, ls, mk, rfl, hC, qq⟩ := h
    refine ⟨_, (pss_one (ps_ret (fldK K (pv 0) rfl))), ?_⟩
    obtain ⟨dx, cp, hp, hcp⟩ := hC.self
    exact ⟨.ref p, rfl, p, Z.C_Chosen, dx, _, _, rfl, hp, T.cl_Chosen, T.n_Chosen_new_lists, chF7_new_lists _ _ _ _ _ _ _, qq⟩

/-! ### _law_kind -/
def kindN (n : Str) : Int := if n = "TooMany" then 1 else 3
/-- what _law_kind makes of the lambda that it is handed -/
def TTKind (Z : Ad) : (XK → Hp → VK → Prop) → Hp → VK → Prop := fun tl H Q => ∀ (E' : XK) (Q' : VK), (∀ n ∈ [("TooMany" : Str), "NoQuestion"], ∀ H', (∀ H'', Same H' H'' → Q (.int (kindN n)) H'') → E' (.ref (Z.xa n)) none H') → (∀ v H', Q (.int (-1)) H' → Q' v H') → tl E' H Q'
theorem kind_walk (T : Tx K mg Z) {A : Around} {outer : List Env} {s : Shared} {H : Hp} {Q : VK} {tl : XK → Hp → VK → Prop} {f c' : Addr} {q : Str} {cdv : Value}
    (act : ∀ (W : WX) (pn : List (Addr × Obj)) (xe : Value → Shared → Prop) (E : XK) (p1 p2 : Pos), Takes ((cxOf C8.CX0 P w K mg base ["ask", "caught", "e", "flags"] "_law_kind" (defScope s_l_kind) Z.f_l_kind cdv A outer s H C8.E0).nox.tr pn xe) W → (∀ cls d σ' H', E cls d H' → W cls d σ' H') →
      PE ((cxOf C8.CX0 P w K mg base ["ask", "caught", "e", "flags"] "_law_kind" (defScope s_l_kind) Z.f_l_kind cdv A outer s H C8.E0).nox.tr pn xe) (.Call (.Name "ask" p1) [] [] p2) (fun σZ HZ Q => σZ[0]? = some (some (.ref f)) ∧ HZ c' = some (LamX.CodeO c' q) ∧ tl E HZ Q))
    (hc : H c' = some (LamX.CodeO c' q)) (h : TTKind Z tl H Q) :
    ∃ t, PSs (cxOf C8.CX0 P w K mg base ["ask", "caught", "e", "flags"] "_law_kind" (defScope s_l_kind) Z.f_l_kind cdv A outer s H C8.E0).nox (defBody s_l_kind) t ∧ t { nx := fun _ H' => Q .non H', rt := Q } (L2.start ["ask", "caught", "e", "flags"] [.ref f]) H := by
  refine ⟨_, (pss_cons (ps_set (i := 1) sc_l_kind.nd rfl (.inl rfl) pe_non)
      (pss_cons (ps_try_note (i := 2) (j := 1) (c := .ref (Z.xa "ListError")) rfl rfl rfl sc_l_kind.nd rfl rfl rfl rfl rfl ⟨rfl, by decide, .inl T.gx_ListError⟩ (by decide) (by decide) rfl fun W pn xe tk _ => (pss_one (ps_act act tk rfl)))
      (pss_cons (ps_if (pt_cmpR op_isN (pv 1) pe_non (nomark _)) (pss_one (ps_ret (pe_un un_neg pe_int))) pss_nil)
      (pss_cons (ps_set (i := 3) sc_l_kind.nd rfl (.inl rfl) (pe_lst (pa_cons (pe_callB (isN K) (by rfl) T.m_isinstance (by decide +kernel) (pa_cons (pv 1) (pa_cons (pe_glob (v := .ref (Z.xa "NoRow")) (by rfl) T.gx_NoRow rfl) pa_nil))) (pa_cons (pe_callB (isN K) (by rfl) T.m_isinstance (by decide +kernel) (pa_cons (pv 1) (pa_cons (pe_glob (v := .ref (Z.xa "TooMany")) (by rfl) T.gx_TooMany rfl) pa_nil))) (pa_cons (pe_callB (isN K) (by rfl) T.m_isinstance (by decide +kernel) (pa_cons (pv 1) (pa_cons (pe_glob (v := .ref (Z.xa "NoNumber")) (by rfl) T.gx_NoNumber rfl) pa_nil))) pa_nil)))))
      (pss_cons (ps_set (i := 3) sc_l_kind.nd rfl (.inl rfl) (pe_op op_cat (pv 3) (pe_lst (pa_cons (pe_callB (isN K) (by rfl) T.m_isinstance (by decide +kernel) (pa_cons (pv 1) (pa_cons (pe_glob (v := .ref (Z.xa "NoQuestion")) (by rfl) T.gx_NoQuestion rfl) pa_nil))) (pa_cons (pe_callB (isN K) (by rfl) T.m_isinstance (by decide +kernel) (pa_cons (pv 1) (pa_cons (pe_glob (v := .ref (Z.xa "NoText")) (by rfl) T.gx_NoText rfl) pa_nil))) pa_nil)))))
      (pss_cons (ps_if (PW.pt (pw_or (pt_cmpR op_ne (bmK K PySem.F.plainAttrs_list PySem.F.slot_list_count PySem.F.type_list_count (mt_countF K) (pv 3) (pa_cons pe_bl pa_nil)) pe_int (nomark _)) (pw_or1 (pt_not (pt_val (pe_callB (isN K) (by rfl) T.m_isinstance (by decide +kernel) (pa_cons (pv 1) (pa_cons (pe_bltn (v := .ty "ValueError") (by rfl) T.m_ValueError (by decide +kernel) rfl) pa_nil)))))))) (pss_one (ps_ret (pe_un un_neg pe_int))) pss_nil)
      (pss_one (ps_ret (bmK K PySem.F.plainAttrs_list PySem.F.slot_list_index PySem.F.type_list_index mt_index (pv 3) (pa_cons pe_bl pa_nil)))))))))), ?_⟩
  refine ⟨fun cls d H' => ∃ n ∈ [("TooMany" : Str), "NoQuestion"], cls = .ref (Z.xa n) ∧ d = none ∧ ∀ H'', Same H' H'' → Q (.int (kindN n)) H'', fun cls d σ' H' he hl => ?_, rfl, hc, h _ _ (fun n hn H' hq => ⟨n, hn, rfl, rfl, hq⟩) fun v H1 hq => ?_⟩
  · obtain ⟨n, hn, rfl, rfl, hq⟩ := he
    have X := T.xf.cls n hn
    refine ⟨X.le, rfl, fun a na => ?_⟩
    obtain ⟨s0, s1, s2, s3, rfl⟩ : ∃ s0 s1 s2 s3, σ' = [s0, s1, s2, s3] := by
      match σ', hl with
      | [a, b, c, d], _ => exact ⟨a, b, c, d, rfl⟩
    have kt : ∀ {m : Str}, m ∈ [("NoRow" : Str), "TooMany", "NoNumber", "NoQuestion", "NoText"] → ∃ cv : Value, (∀ u, RelV (.ref (Z.xa m)) u → u = cv) ∧ PySem.W.kitOne K (.ref (Z.xa n)) cv = some (n == m) := fun {m} hm => ⟨.ref (Z.xa m), fun u r => r, T.xf.kit n hn m hm⟩
    have hG : (upd H' a (ExN (.ref (Z.xa n)) a)) a = some (ExN (.ref (Z.xa n)) a) := upd_same
    have sm0 := Same.new (o := ExN (.ref (Z.xa n)) a) (Same.refl H') na
    generalize upd H' a (ExN (.ref (Z.xa n)) a) = G at hG sm0 ⊢
    refine ⟨.ref a, rfl, rfl, _, rfl, ite2 (fun z => absurd (of_decide_eq_true z) (fun y => nomatch y)) (fun _ => ?_)⟩
    refine ⟨.ref a, rfl, a, Z.xa n, _, _, rfl, hG, X.ex, .inl (kt (by simp)), .ref a, rfl, a, Z.xa n, _, _, rfl, hG, X.ex, .inl (kt (by simp)), .ref a, rfl, a, Z.xa n, _, _, rfl, hG, X.ex, .inl (kt (by simp)), (by show 3 ≤ sizeLine; decide), fun l1 nl1 => ?_⟩
    have sm1 := Same.new (o := .lst [.bl (n == "NoRow"), .bl (n == "TooMany"), .bl (n == "NoNumber")]) sm0 nl1
    have hG1 := keep_new (o := .lst [.bl (n == "NoRow"), .bl (n == "TooMany"), .bl (n == "NoNumber")]) hG nl1
    have hl1 : (upd G l1 (.lst [.bl (n == "NoRow"), .bl (n == "TooMany"), .bl (n == "NoNumber")])) l1 = some (.lst [.bl (n == "NoRow"), .bl (n == "TooMany"), .bl (n == "NoNumber")]) := upd_same
    generalize upd G l1 (.lst [.bl (n == "NoRow"), .bl (n == "TooMany"), .bl (n == "NoNumber")]) = G1 at sm1 hG1 hl1 ⊢
    refine ⟨.ref l1, rfl, .ref a, rfl, a, Z.xa n, _, _, rfl, hG1, X.ex, .inl (kt (by simp)), .ref a, rfl, a, Z.xa n, _, _, rfl, hG1, X.ex, .inl (kt (by simp)), (by show 2 ≤ sizeLine; decide), fun l2 nl2 => ?_⟩
    have sm2 := Same.new (o := .lst [.bl (n == "NoQuestion"), .bl (n == "NoText")]) sm1 nl2
    have hG2 := keep_new (o := .lst [.bl (n == "NoQuestion"), .bl (n == "NoText")]) hG1 nl2
    have hl12 := keep_new (o := .lst [.bl (n == "NoQuestion"), .bl (n == "NoText")]) hl1 nl2
    have hl2 : (upd G1 l2 (.lst [.bl (n == "NoQuestion"), .bl (n == "NoText")])) l2 = some (.lst [.bl (n == "NoQuestion"), .bl (n == "NoText")]) := upd_same
    generalize upd G1 l2 (.lst [.bl (n == "NoQuestion"), .bl (n == "NoText")]) = G2 at sm2 hG2 hl12 hl2 ⊢
    refine ⟨l1, l2, _, _, rfl, rfl, hl12, hl2, (by show 5 ≤ sizeLine; decide), fun l3 nl3 => ?_⟩
    obtain ⟨F, hF⟩ : ∃ F : List V, F = [.bl (n == "NoRow"), .bl (n == "TooMany"), .bl (n == "NoNumber"), .bl (n == "NoQuestion"), .bl (n == "NoText")] := ⟨_, rfl⟩
    have eF : [V.bl (n == "NoRow"), .bl (n == "TooMany"), .bl (n == "NoNumber")] ++ [V.bl (n == "NoQuestion"), .bl (n == "NoText")] = F := hF.symm
    rw [eF]
    have sm3 := Same.new (o := .lst F) sm2 nl3
    have hG3 := keep_new (o := .lst F) hG2 nl3
    have hl3 : (upd G2 l3 (.lst F)) l3 = some (.lst F) := upd_same
    generalize upd G2 l3 (.lst F) = G3 at sm3 hG3 hl3 ⊢
    have hn2 : n = "TooMany" ∨ n = "NoQuestion" := by simpa using hn
    have fl : F.all flatV = true := by rw [hF]; rfl
    have cnt : (F.countP fun z => eqV z (.bl true)) = 1 := by
      rw [hF]
      rcases hn2 with rfl | rfl <;> decide
    refine ⟨.ref l3, rfl, .inl ⟨rfl, _, .inl (.inl hl3)⟩, l3, F, .bl true, rfl, rfl, .inl (.inl hl3), rfl, fl, rfl, _, rfl, ite2 (fun z => ?_) (fun _ => ?_)⟩
    · rw [cnt] at z
      exact absurd z (by decide)
    refine ⟨.ref a, rfl, a, Z.xa n, .ty "ValueError", true, rfl, hG3, X.ex, .inl ⟨.type "ValueError", fun u r => r, X.ve⟩, true, rfl, iteF ?_⟩
    have fin : ∀ j : Nat, kindN n = (j : Int) → F[j]? = some (.bl true) → (∀ (m : Nat) (z' : V), m < j → F[m]? = some z' → eqV z' (.bl true) = false) → rIndex K (.ref l3) [.bl true] G3 Q := fun j e1 e2 e3 => ⟨l3, F, .bl true, j, .bl true, rfl, rfl, .inl (.inl hl3), rfl, fl, e2, rfl, e3, e1 ▸ hq G3 sm3⟩
    refine ⟨.ref l3, rfl, .inl ⟨rfl, _, .inl (.inl hl3)⟩, ?_⟩
    show rIndex K (.ref l3) [.bl true] G3 Q
    rcases hn2 with rfl | rfl
    · refine fin 1 (by decide) (by rw [hF]; rfl) fun m z' hm e => ?_
      obtain rfl : m = 0 := by omega
      rw [hF] at e
      obtain rfl := (Option.some.inj e).symm
      decide
    · refine fin 3 (by decide) (by rw [hF]; rfl) fun m z' hm e => ?_
      rw [hF] at e
      have : m = 0 ∨ m = 1 ∨ m = 2 := by omega
      rcases this with rfl | rfl | rfl
      all_goals
        obtain rfl := (Option.some.inj e).symm
        decide
  · refine ⟨.non, rfl, rfl, _, rfl, ite2 (fun _ => ?_) (fun z => absurd (decide_eq_true rfl) z)⟩
    exact ⟨_, rfl, hq⟩
theorem gives_kind {X : Cx} (T : Tx X.K X.mg Z) {q : Str} (cdv : Value) : LamX.GivesTo X ["ask", "caught", "e", "flags"] "_law_kind" (defScope s_l_kind) Z.f_l_kind cdv (defBody s_l_kind) "ask" q (TTKind Z) := fun _ _ _ _ _ _ act hc h => kind_walk T act hc h

/-! ### _law_state -/
/-- what stands of a keeper, as data -/
def stateD (as : List Ask) (ch : List (List Nat)) (ls mk : Int) : PyData := .tuple [.tuple (as.map askD), .tuple (ch.map strD), .int ls, .int mk]
def spState (w : World) (K : PySem.W.Frag) (Z : Ad) : Sp := fun vs H Q _ => ∃ (p wp d : Addr) (tv : V) (cols : List Nat) (rows : List (List Int)) (chg : Int) (room : Nat) (as : List Ask) (ch : List (List Nat)) (ls mk : Int), vs = [.ref p] ∧ ChosenAt w Z.C_Chosen Z.C_Wanted H p wp d tv cols rows chg room as ch ls mk ∧
  ∀ (t : Addr) (H' : Hp), Same H H' → H t = none → (∀ H2, KT H' H2 → Dp K H2 (.ref t) (stateD as ch ls mk)) → Q (.ref t) H'
theorem ok_state (T : Tx K mg Z) : FnOk P w K mg base CX0 3 Z.f_l_state Z.d_l_state ["chosen"] (spState w K Z) := by
  have G_Chosen_asks : FnOk P w K mg base CX0 2 Z.f_Chosen_asks Z.d_Chosen_asks ["self"] (spChosenAsks w K Z) := ok_chosenasks T
  have G_Chosen_choice : FnOk P w K mg base CX0 1 Z.f_Chosen_choice Z.d_Chosen_choice ["self"] (spChosenChoice w K Z) := ok_chosenchoice T
  have G_Chosen_price : FnOk P w K mg base CX0 1 Z.f_Chosen_price Z.d_Chosen_price ["self"] (spChosenPrice w K Z) := ok_chosenprice T
  have G_Chosen_made : FnOk P w K mg base CX0 1 Z.f_Chosen_made Z.d_Chosen_made ["self"] (spChosenMade w K Z) := ok_chosenmade T
  refine T.F_l_state.ok sc_l_state (fun vs H Q E h => ?_) (fun cdv A outer s H vs Q E hr h => ?_)
  · obtain ⟨p, wp, d, tv, cols, rows, chg, room, as, ch, ls, mk, rfl, _⟩ := h
    rfl
  · obtain ⟨p, wp, d, tv, cols, rows, chg, room, as, ch, ls, mk, rfl, hC, q⟩ := h
    refine ⟨_, (pss_one (ps_ret (pe_tup (pa_cons (pe_meth0 (pv 0) T.cl_Chosen T.m_Chosen_asks G_Chosen_asks (hr.mono (by omega)) T.b_Chosen_asks .nil pass0) (pa_cons (pe_meth0 (pv 0) T.cl_Chosen T.m_Chosen_choice G_Chosen_choice (hr.mono (by omega)) T.b_Chosen_choice .nil pass0) (pa_cons (pe_meth0 (pv 0) T.cl_Chosen T.m_Chosen_price G_Chosen_price (hr.mono (by omega)) T.b_Chosen_price .nil pass0) (pa_cons (pe_meth0 (pv 0) T.cl_Chosen T.m_Chosen_made G_Chosen_made (hr.mono (by omega)) T.b_Chosen_made .nil pass0) pa_nil))))))), ?_⟩
    obtain ⟨dx, cp, hp, hcp⟩ := hC.self
    refine ⟨.ref p, rfl, p, dx, _, rfl, hp, chF7_no_asks _ _ _ _ _ _ _, p, wp, d, tv, cols, rows, chg, room, as, ch, ls, mk, rfl, hC, fun t us H1 sm1 nt ht az => ?_⟩
    have hp1 := sm1 _ _ hp
    have hC1 := hC.same sm1
    refine ⟨.ref p, rfl, p, dx, _, rfl, hp1, chF7_no_choice _ _ _ _ _ _ _, p, wp, d, tv, cols, rows, chg, room, as, ch, ls, mk, rfl, hC1, fun c hc => ?_⟩
    refine ⟨.ref p, rfl, p, dx, _, rfl, hp1, chF7_no_price _ _ _ _ _ _ _, p, wp, d, tv, cols, rows, chg, room, as, ch, ls, mk, rfl, hC1, ?_⟩
    refine ⟨.ref p, rfl, p, dx, _, rfl, hp1, chF7_no_made _ _ _ _ _ _ _, p, wp, d, tv, cols, rows, chg, room, as, ch, ls, mk, rfl, hC1, (by show 4 ≤ sizeLine; decide), fun r nr => ?_⟩
    have sm2 := Same.new (o := .tup [.ref t, .ref c, .int ls, .int mk]) sm1 nr
    refine q r _ sm2 (by cases e : H r with | none => rfl | some o => rw [sm1 _ _ e] at nr; cases nr) fun H2 kt => ?_
    have k12 : KT H1 H2 := (KT.new nr).trans kt
    exact .tup (.inl (.inl (kt.1 _ _ upd_same))) (.cons (.tup (.inl (.inl (k12.1 _ _ ht))) (az.kT k12).dp) (.cons (.tup (.inl (.inl (k12.1 _ _ hc))) (dp_texts _)) (.cons (.int _) (.cons (.int _) .nil))))

/-! ### _law_refused -/
theorem tg_kp {Ps : List Addr} {r : Addr} {H H' : Hp} (t : TG Ps H) (k : Kp r H H') (n : r ∉ Ps) : TG Ps H' := fun P hP => by
  obtain ⟨ps, h1, h2⟩ := t P hP
  exact ⟨ps, k _ _ (fun z => n (z ▸ hP)) h1, h2⟩
def spRefused (w : World) (K : PySem.W.Frag) (Z : Ad) : Sp := fun vs H Q _ => ∃ (p wp d qa : Addr) (tv : V) (cols : List Nat) (rows : List (List Int)) (chg : Int) (room : Nat) (as : List Ask) (ch : List (List Nat)) (ls mk : Int) (q : Qn) (asks : Bool), vs = [.ref p, .ref qa, .bl asks] ∧ ChosenAt w Z.C_Chosen Z.C_Wanted H p wp d tv cols rows chg room as ch ls mk ∧ Cho cols rows chg room as ch ls ∧ TG Z.Ps H ∧ LamX.TabS H Z.P_Sheet_most_saving (lamQ "Sheet.most_saving") ∧ LamX.TabS H Z.P_l_refused (lamQ "_law_refused") ∧ QZ H (.ref qa) q.1 q.2 ∧ q ∉ qsOf as ∧ (asks = true → as.length = 5) ∧ (∀ c ∈ cols, c ≤ 122) ∧
  ∀ H' : Hp, Kp Z.P_l_refused H H' → LamX.TabS H' Z.P_l_refused (lamQ "_law_refused") → Q (.bl true) H'
set_option maxHeartbeats 4000000 in
theorem ok_refused (T : Tx K mg Z) (TB : Tb base mg Z) : FnOk P w K mg base CX0 84 Z.f_l_refused Z.d_l_refused ["chosen", "question", "asks"] (spRefused w K Z) := by
  have G_l_state : FnOk P w K mg base CX0 3 Z.f_l_state Z.d_l_state ["chosen"] (spState w K Z) := ok_state T
  have G_Chosen_ask : FnOk P w K mg base (L2.CX P w) 81 Z.f_Chosen_ask Z.d_Chosen_ask ["self", "question", "often"] (spChosenAsk w K Z) := ok_chosenask T TB
  have G_Chosen_leave : FnOk P w K mg base (L2.CX P w) 81 Z.f_Chosen_leave Z.d_Chosen_leave ["self", "question"] (spChosenLeave w K Z) := ok_chosenleave T TB
  refine T.C_l_refused.ok sc_l_refused (fun vs H Q E h => ?_) (fun A outer s H vs Q E hr h => ?_)
  · obtain ⟨p, wp, d, qa, tv, cols, rows, chg, room, as, ch, ls, mk, q, asks, rfl, _⟩ := h
    rfl
  · obtain ⟨p, wp, d, qa, tv, cols, rows, chg, room, as, ch, ls, mk, q, asks, rfl, hC, cho, tg, tab, tabR, fq, hn, h5, h122, qq⟩ := h
    refine ⟨_, (pss_cons (ps_set (i := 3) sc_l_refused.nd rfl (.inl rfl) (pe_call G_l_state (hr.mono (by omega)) (by rfl) T.g_l_state T.F_l_state.kp T.b_l_state .nil pass0 (pa_cons (pv 0) pa_nil)))
      (pss_mid (ps_if (pt_val (pv 2)) (pss_one (ps_set (i := 4) sc_l_refused.nd rfl (.inl rfl) (pe_lamF (k := 81) T.F_l_kind (by rfl) T.g_l_kind T.b_l_kind sc_l_kind rfl (.inl rfl) ((gives_kind T)) (TB.t_l_refused) rfl (hr.mono (by omega)) (LamX.lamS_by (by kernel_rfl)) (by rfl) (fun _ _ _ _ _ => rfl) (fun _ _ _ _ _ _ _ hr => (pe_methX (pv 0) T.cl_Chosen T.m_Chosen_ask G_Chosen_ask (hr.mono (by omega)) T.b_Chosen_ask (fun σ => passAt (takes_of rfl rfl rfl rfl) σ) (pa_cons (pv 1) (pa_cons pe_int pa_nil))))))) (pss_one (ps_set (i := 4) sc_l_refused.nd rfl (.inl rfl) (pe_lamF (k := 81) T.F_l_kind (by rfl) T.g_l_kind T.b_l_kind sc_l_kind rfl (.inl rfl) ((gives_kind T)) (TB.t_l_refused) rfl (hr.mono (by omega)) (LamX.lamS_by (by kernel_rfl)) (by rfl) (fun _ _ _ _ _ => rfl) (fun _ _ _ _ _ _ _ hr => (pe_methX (pv 0) T.cl_Chosen T.m_Chosen_leave G_Chosen_leave (hr.mono (by omega)) T.b_Chosen_leave (fun σ => passAt (takes_of rfl rfl rfl rfl) σ) (pa_cons (pv 1) pa_nil)))))))
      (pss_one (ps_ret (pe_and (pe_cmpR op_eq (pv 4) (pe_ix (ixL K) (pe_lst (pa_cons pe_int (pa_cons pe_int pa_nil))) (pe_callTy call_int1 (by rfl) T.m_int (by decide +kernel) (pa_cons (pv 2) pa_nil)) (fun _ _ => rfl)) (nomark _)) (pe_one (pe_cmpR (eqDK K hr.units) (pe_call G_l_state (hr.mono (by omega)) (by rfl) T.g_l_state T.F_l_state.kp T.b_l_state .nil pass0 (pa_cons (pv 0) pa_nil)) (pv 3) (nomark _)))))))), ?_⟩
    obtain ⟨dx, cp, hp, hcp⟩ := hC.self
    have R := cho.rdy
    refine ⟨.ref p, rfl, p, wp, d, tv, cols, rows, chg, room, as, ch, ls, mk, rfl, hC, fun t H1 sm1 nt dp1 => ?_⟩
    have hC1 := hC.same sm1
    have tg1 := tg.same sm1
    have tab1 := tab_same tab sm1
    have tabR1 := tab_same tabR sm1
    have fq1 := fq.kT (Same.kT sm1)
    refine ⟨fun σ G => σ = [some (.ref p), some (.ref qa), some (.bl asks), some (.ref t), some (.int (if asks then 1 else 3))] ∧ Kp Z.P_l_refused H1 G ∧ LamX.TabS G Z.P_l_refused (lamQ "_law_refused"), ?_, fun σ G hM => ?_⟩
    · have tgl : TG [Z.P_l_refused] H1 := fun b hb => by
        obtain ⟨ps, h1, h2, _⟩ := tabR1
        rw [List.mem_singleton.mp hb]
        exact ⟨ps, h1, h2⟩
      have lR : Z.P_Sheet_most_saving ∉ [Z.P_l_refused] := fun z => T.ll_Sheet_most_saving_l_refused (List.mem_singleton.mp z)
      have len5 := cho.has.len
      cases asks with
      | true =>
        have l5 := h5 rfl
        refine ⟨.bl true, rfl, true, rfl, ite2 (fun _ => ?_) (fun z => absurd rfl z)⟩
        refine ⟨tabR1, fun H2 kp2 tab2 E' Q' hE hQ => ?_⟩
        have sxR : Sx [Z.P_l_refused] H1 H2 := fun b o n e => kp2 b o (fun z => n (by rw [z]; exact List.mem_singleton.mpr rfl)) e
        have hC2 := hC1.sx tgl sxR
        obtain ⟨dx2, cp2, hp2, _⟩ := hC2.self
        have no : ¬(q ∈ qsOf as ∨ as.length < 5) := fun z => z.elim hn (by omega)
        exact ⟨.ref p, rfl, p, dx2, _, rfl, hp2, chF7_no_ask _ _ _ _ _ _ _, .ref qa, rfl, p, wp, d, qa, tv, cols, rows, chg, room, as, ch, ls, mk, q, 1, rfl, hC2, R, tg_kp tg1 kp2 T.l_l_refused, tab_sx tab1 tgl sxR lR, fq1.kT (sxR.kT tgl), len5, (fun _ => hE "TooMany" (by simp) H2 fun H3 sm3 => ⟨rfl, fun b o n e => sm3 _ _ (kp2 b o n e), tab_same tab2 sm3⟩), (fun z => absurd z no), fun z => absurd z no⟩
      | false =>
        refine ⟨.bl false, rfl, false, rfl, ite2 (fun z => nomatch z) (fun _ => ?_)⟩
        refine ⟨tabR1, fun H2 kp2 tab2 E' Q' hE hQ => ?_⟩
        have sxR : Sx [Z.P_l_refused] H1 H2 := fun b o n e => kp2 b o (fun z => n (by rw [z]; exact List.mem_singleton.mpr rfl)) e
        have hC2 := hC1.sx tgl sxR
        obtain ⟨dx2, cp2, hp2, _⟩ := hC2.self
        exact ⟨.ref p, rfl, p, dx2, _, rfl, hp2, chF7_no_leave _ _ _ _ _ _ _, .ref qa, rfl, p, wp, d, qa, tv, cols, rows, chg, room, as, ch, ls, mk, q, rfl, hC2, R, tg_kp tg1 kp2 T.l_l_refused, tab_sx tab1 tgl sxR lR, fq1.kT (sxR.kT tgl), len5, (fun _ => hE "NoQuestion" (by simp) H2 fun H3 sm3 => ⟨rfl, fun b o n e => sm3 _ _ (kp2 b o n e), tab_same tab2 sm3⟩), (fun z => absurd z hn), fun z => absurd z hn⟩
    obtain ⟨rfl, kp, tabG⟩ := hM
    have tgl : TG [Z.P_l_refused] H1 := fun b hb => by
      obtain ⟨ps, h1, h2, _⟩ := tabR1
      rw [List.mem_singleton.mp hb]
      exact ⟨ps, h1, h2⟩
    have sxR : Sx [Z.P_l_refused] H1 G := fun b o n e => kp b o (fun z => n (by rw [z]; exact List.mem_singleton.mpr rfl)) e
    have hC2 := hC1.sx tgl sxR
    have dpG := dp1 G (sxR.kT tgl)
    refine ⟨.int _, rfl, (by show 2 ≤ sizeLine; decide), fun l nl => ?_⟩
    have smL := Same.new (o := .lst [.int 3, .int 1]) (Same.refl G) nl
    have hl : (upd G l (.lst [.int 3, .int 1])) l = some (.lst [.int 3, .int 1]) := upd_same
    have hC3 := hC2.same smL
    generalize upd G l (.lst [.int 3, .int 1]) = G2 at smL hl hC3 ⊢
    refine ⟨.bl asks, rfl, .inr ⟨asks, rfl, l, _, _, .int (if asks then 1 else 3), rfl, rfl, .inl (.inl hl), ?_, ?_⟩⟩
    · cases asks <;> rfl
    refine ⟨rfl, _, rfl, ite2 (fun _ => ?_) (fun z => absurd (decide_eq_true rfl) z)⟩
    refine ⟨.ref p, rfl, p, wp, d, tv, cols, rows, chg, room, as, ch, ls, mk, rfl, hC3, fun t2 H3 sm3 nt2 dp2 => ?_⟩
    have hz : ∀ o ∈ ch, ∀ c ∈ o, c ≤ 122 := fun o ho c hc => h122 c ((lists_mem.mp (R.cC.sub o ho)).2.2.2 c hc)
    have hq : ∀ a ∈ as, QOk cols a.es a.rc := fun a ha => (cho.has.ok a ha).1
    have lay : PyData.canLay0 (stateD as ch ls mk) = true := by
      have h1 := lay_asks h122 hq
      have h2 := shaped_cho hz
      unfold SeqAt.shaped at h2
      have h3 := (Bool.and_eq_true _ _).mp h2
      show (PyData.canLayAll0 (as.map askD) && (PyData.canLayAll0 (ch.map strD) && (true && (true && true)))) = true
      rw [h1, show PyData.canLayAll0 (ch.map strD) = true from h3.1]
      rfl
    have shp : SeqAt.shaped (stateD as ch ls mk) = true := by
      unfold SeqAt.shaped
      rw [lay]
      refine decide_eq_true ?_
      have h1 := depA_asks as
      have h2 : PyData.depthAll (ch.map strD) ≤ 1 := by
        clear hz
        generalize ch = c
        induction c with
        | nil => exact Nat.zero_le _
        | cons o c ih =>
          show max (PyData.depth (strD o)) (PyData.depthAll (c.map strD)) ≤ 1
          have : PyData.depth (strD o) ≤ 1 := Nat.zero_le _
          omega
      show max (PyData.depthAll (as.map askD) + 1) (max (PyData.depthAll (ch.map strD) + 1) (max 0 (max 0 0))) + 1 ≤ 64
      omega
    have ktG : KT G H3 := (Same.kT smL).trans (Same.kT sm3)
    refine ⟨.ref t, rfl, stateD as ch ls mk, stateD as ch ls mk, dp2 H3 ⟨fun _ _ e => e, fun _ _ _ e => e⟩, dp1 H3 ((sxR.kT tgl).trans ktG), shp, shp, ?_⟩
    rw [SeqAt.eqv_refl _ lay]
    have smG : Same G H3 := Same.trans smL sm3
    exact qq H3 (fun b o n e => smG _ _ (kp b o n (sm1 _ _ e))) (tab_same tabG smG)

/-! ### _law_six -/
theorem QA.take {H : Hp} : ∀ (j : Nat) {vs : List V} {qs : List Qn}, QA H vs qs → QA H (vs.take j) (qs.take j)
  | 0, _, _, _ => by
    rw [List.take_zero, List.take_zero]
    exact .nil
  | _ + 1, _, _, .nil => .nil
  | j + 1, _, _, .cons h r => .cons h (QA.take j r)
def spSix (K : PySem.W.Frag) : Sp := fun vs H Q _ => ∃ (b bl : Addr) (tb : V) (cols : List Nat) (rows : List (List Int)), vs = [.ref b, tb] ∧ Bag b bl H ∧ Fz H tb (tabD cols rows) ∧ Cols cols ∧ 1 ≤ cols.length ∧ cols.length ≤ 26 ∧ RowsOk cols.length rows ∧ rows.length ≤ 1000 ∧
  ∀ (L : Addr) (vs : List V) (qs : List Qn) (H' : Hp), Kp b H H' → Bag b bl H' → H L = none → H' L = some (.lst vs) → QA H' vs qs → 6 ≤ qs.length → qs.length ≤ 13 → qs.Nodup → (∀ q ∈ qs, QOk cols q.1 q.2) → Q (.ref L) H'
theorem ok_six (T : Tx K mg Z) : FnOk P w K mg base CX0 5 Z.f_l_six Z.d_l_six ["bag", "table"] (spSix K) := by
  have G_l_pool : FnOk P w K mg base CX0 4 Z.f_l_pool Z.d_l_pool ["bag", "table", "many"] (spPool K) := ok_pool T
  refine T.F_l_six.ok sc_l_six (fun vs H Q E h => ?_) (fun cdv A outer s H vs Q E hr h => ?_)
  · obtain ⟨b, bl, tb, cols, rows, rfl, _⟩ := h
    rfl
  · obtain ⟨b, bl, tb, cols, rows, rfl, hB, ft, hc, hc1, hc2, hrows, hrl, q⟩ := h
    refine ⟨_, (pss_cons (ps_set (i := 2) sc_l_six.nd rfl (.inr rfl) (pe_call G_l_pool (hr.mono (by omega)) (by rfl) T.g_l_pool T.F_l_pool.kp T.b_l_pool .nil pass0 (pa_cons (pv 0) (pa_cons (pv 1) (pa_cons pe_int pa_nil)))))
      (pss_cons (ps_for PassesOwn.never rfl (pi_range2 (by rfl) T.m_range (pa_cons pe_int (pa_cons pe_int pa_nil))) (pg_name (i := 3) sc_l_six.nd rfl (.inl rfl)) (pss_one (ps_expr (bmK K PySem.F.plainAttrs_list PySem.F.slot_list_append PySem.F.type_list_append mt_append (pv 2) (pa_cons (pe_tup (pa_cons (pe_tupF (pa_cons (pe_tup (pa_cons (pe_ix ix_str (pe_ix (ixT K) (pv 1) pe_int (fun _ _ => rfl)) pe_int (fun _ _ => rfl)) (pa_cons (pv 3) pa_nil))) pa_nil)) (pa_cons pe_non pa_nil))) pa_nil)))))
      (pss_one (ps_ret (pe_lc (own := [("at", 4), ("question", 5)]) (tt := _) (by rfl) sc_l_six.nd (pi_enum (by rfl) T.m_enumerate (pa_cons (pv 2) pa_nil)) (blkOk_by (own := [("at", 4), ("question", 5)]) (by kernel_rfl)) (fun _ _ _ _ _ => (pgT K (n := 2) (pgs_cons (pg_name (i := 4) sc_l_six.nd rfl (.inl rfl)) (pgs_cons (pg_name (i := 5) sc_l_six.nd rfl (.inl rfl)) pgs_nil)))) (fun _ _ _ _ _ => (pts_one (pt_cmpR (notInDK K hr.units) (pv 5) (pe_slice (slLK K) (pv 2) po_none (po_some (pv 4))) (by rfl)))) (fun _ _ _ _ _ => (pv 5))))))), ?_⟩
    have hz : ∀ c ∈ cols, c ≤ 122 := fun c h => (hc.az c h).2
    refine ⟨.ref b, rfl, tb, rfl, b, bl, tb, cols, rows, 4, rfl, by decide, hB, ft, hc, hc2, hrows, hrl, fun L vs qs H1 kp1 hB1 nL hL1 qa1 hql _ hnd hqo => ?_⟩
    have ft1 := ft.kt (Kp.kTb kp1 hB).1
    obtain ⟨tt, RR, tvs, etv, htt, hRR, ftv⟩ := tab_open ft1
    subst etv
    obtain ⟨c0, rest, ec⟩ : ∃ c0 rest, cols = c0 :: rest := List.exists_cons_of_length_pos hc1
    have c0m : c0 ∈ cols := by rw [ec]; exact List.mem_cons_self
    have nq : ∀ j : Nat, j < 9 → QOk cols [(c0, 900 + (j : Int))] none := fun j hj => ⟨List.pairwise_singleton _ _, fun p hp => by
      rw [List.mem_singleton.mp hp]
      exact ⟨c0m, by show (0 : Int) ≤ 900 + j; omega, by show (900 + j : Int) < 1000; omega⟩, by show 1 ≤ cols.length; omega, fun _ _ _ z => nomatch z⟩
    have nLb2 : L ≠ b ∧ L ≠ bl := hB.ne nL
    let nm : Nat → Qn := fun k => ([(c0, 900 + (k : Int))], none)
    refine ⟨900, 909, rfl, by decide, for_range (fun j σ H' => ∃ (vs' : List V) (y : Option V), σ = [some (.ref b), some (.ref tt), some (.ref L), y, none, none] ∧ Kp b H H' ∧ Bag b bl H' ∧ H' L = some (.lst vs') ∧ QA H' vs' (qs ++ (List.range j).map nm)) ⟨vs, none, rfl, kp1, hB1, hL1, by simpa using qa1⟩ (fun j σ H2 hj hP => ?_) (fun σ H2 hP => ?_)⟩
    · obtain ⟨vs2, y, rfl, kp2, hB2, hL2, qa2⟩ := hP
      have hj9 : j < 9 := hj
      have htt2 := (Kp.kTb kp2 hB).1
      obtain ⟨tt2, RR2, tvs2, etv2, htt3, _, _⟩ := tab_open (ft.kt htt2)
      obtain rfl : tt = tt2 := by injection etv2
      have hvl := qa2.len
      rw [List.length_append, List.length_map, List.length_range] at hvl
      refine ⟨.ref L, rfl, .inl ⟨rfl, _, .inl (.inl hL2)⟩, .ref tt, rfl, tt, _, 0, tx cols, rfl, rfl, .inl (.inl htt3), rfl, txS cols, 0, c0, rfl, rfl, ?_, ?_, .int (900 + (j : Int)), rfl, (by show 2 ≤ sizeLine; decide), fun p np => ?_⟩
      · have : (txS cols).length = cols.length := by simp [Str.length]
        rw [this]
        exact Nat.le_of_lt (small1000 (by omega))
      · rw [ec]
        exact atI_nat (j := 0) (show (txS (c0 :: rest)).cps.toList[0]? = some c0 by simp)
      refine ⟨(by show 1 ≤ sizeLine; decide), fun te ob nte hob => ⟨(by show 2 ≤ sizeLine; decide), fun v nv => ?_⟩⟩
      have f0 : Fz (upd H2 p (.tup [sg c0, .int (900 + (j : Int))])) (.ref p) (eqD (c0, 900 + (j : Int))) := Fz.made np (.cons (.str (sS c0)) (.cons (.int _) .nil))
      have hL3 := keep_new (o := .tup [sg c0, .int (900 + (j : Int))]) hL2 np
      have kp3 := kp2.new (o := .tup [sg c0, .int (900 + (j : Int))]) np
      have hB3 := hB2.new (o := .tup [sg c0, .int (900 + (j : Int))]) np
      have qa3 := qa2.kT (KT.new (o := .tup [sg c0, .int (900 + (j : Int))]) np)
      generalize upd H2 p (.tup [sg c0, .int (900 + (j : Int))]) = H3 at f0 hL3 kp3 hB3 qa3 nte nv ⊢
      have f1 : EZ (upd H3 te (.frz ob (.tup [.ref p]))) (.ref te) [(c0, 900 + (j : Int))] := EZ.made nte hob (.cons f0 .nil)
      have hL4 := keep_new (o := .frz ob (.tup [.ref p])) hL3 nte
      have kp4 := kp3.new (o := .frz ob (.tup [.ref p])) nte
      have hB4 := hB3.new (o := .frz ob (.tup [.ref p])) nte
      have qa4 := qa3.kT (KT.new (o := .frz ob (.tup [.ref p])) nte)
      generalize upd H3 te (.frz ob (.tup [.ref p])) = H4 at f1 hL4 kp4 hB4 qa4 nv ⊢
      have f2 : QZ (upd H4 v (.tup [.ref te, .non])) (.ref v) [(c0, 900 + (j : Int))] none := QZ.made nv f1 .non
      have hL5 := keep_new (o := .tup [.ref te, .non]) hL4 nv
      have kp5 := kp4.new (o := .tup [.ref te, .non]) nv
      have hB5 := hB4.new (o := .tup [.ref te, .non]) nv
      have qa5 := qa4.kT (KT.new (o := .tup [.ref te, .non]) nv)
      generalize upd H4 v (.tup [.ref te, .non]) = H5 at f2 hL5 kp5 hB5 qa5 ⊢
      refine ⟨L, vs2, .ref v, rfl, rfl, hL5, small1000 (by omega), vs2 ++ [.ref v], _, rfl, kp5.mut nL, hB5.upd nLb2.1 nLb2.2, upd_same, ?_⟩
      rw [List.range_succ, List.map_append, ← List.append_assoc]
      exact (qa5.snoc (q := nm j) f2).kT (KT.lst hL5)
    · obtain ⟨vs2, y, rfl, kp2, hB2, hL2, qa2⟩ := hP
      have e9 : ((909 : Int) - 900).toNat = 9 := by decide
      rw [e9] at qa2
      have hqo2 : ∀ x ∈ qs ++ (List.range 9).map nm, QOk cols x.1 x.2 := fun x hx => by
        rcases List.mem_append.mp hx with h | h
        · exact hqo x h
        · obtain ⟨k, hk, rfl⟩ := List.mem_map.mp h
          exact nq k (List.mem_range.mp hk)
      have hln : (qs ++ (List.range 9).map nm).length ≤ 13 := by
        rw [List.length_append, List.length_map, List.length_range]
        omega
      have hin : ∀ x ∈ (List.range 9).map nm, x ∈ qs ++ (List.range 9).map nm := fun x hx => List.mem_append_right _ hx
      generalize qs ++ (List.range 9).map nm = qp at qa2 hqo2 hln hin
      have hvl := qa2.len
      refine ⟨.ref L, rfl, L, vs2, rfl, .inl (.inl hL2), fun D nD => lc_it (walk_enum (xs := vs2)) (fun i H' => Same H2 H' ∧ ∃ (ws : List V) (rs : List Qn), H' D = some (.lst ws) ∧ QA H' ws rs ∧ rs.Nodup ∧ rs.length ≤ i ∧ ∀ x, x ∈ rs ↔ x ∈ qp.take i)
        ⟨Same.new (Same.refl H2) nD, [], [], upd_same, .nil, .nil, Nat.le_refl _, fun x => by simp⟩ (fun i H' _ hP => .inl (.inl (hP.1 _ _ hL2))) (fun i x H3 H4 hi hP hY => ?_) (fun H3 hP => ?_)⟩
      · obtain ⟨sm3, ws, rs, hD3, qr, rn, rl, rm⟩ := hP
        obtain ⟨t, x1, x2, rfl, nt, rfl, e1, e2⟩ := hY
        cases e1
        have hi2 : i < qp.length := by omega
        obtain ⟨v, hv, fq⟩ := qa2.at (List.getElem?_eq_getElem hi2)
        have e2' : vs2[i]? = some x2 := e2
        obtain rfl : v = x2 := Option.some.inj (hv.symm.trans e2')
        have sm4 : Same H2 (upd H3 t (.tup [.int (i : Nat), v])) := Same.new sm3 nt
        have hD4 : (upd H3 t (.tup [.int (i : Nat), v])) D = some (.lst ws) := keep_new hD3 nt
        have ht4 : (upd H3 t (.tup [.int (i : Nat), v])) t = some (.tup [.int (i : Nat), v]) := upd_same
        have qr4 := qr.kT (KT.new (o := .tup [.int (i : Nat), v]) nt)
        generalize upd H3 t (.tup [.int (i : Nat), v]) = H5 at sm4 hD4 ht4 qr4 ⊢
        have fq5 := fq.kT (Same.kT sm4)
        have qa5 := qa2.kT (Same.kT sm4)
        refine ⟨t, _, rfl, .inl (.inl ht4), rfl, .int (i : Nat), [v], rfl, v, [], rfl, rfl, rfl, ?_⟩
        refine ⟨v, rfl, .ref L, rfl, .int (i : Nat), rfl, (i : Nat), rfl, L, vs2, rfl, .inl (.inl (sm4 _ _ hL2)), fun p np => ?_⟩
        rw [cut_to]
        have sm5 : Same H2 (upd H5 p (.lst (vs2.take i))) := Same.new sm4 np
        have hD5 := keep_new (o := .lst (vs2.take i)) hD4 np
        have hp5 : (upd H5 p (.lst (vs2.take i))) p = some (.lst (vs2.take i)) := upd_same
        have kt5 : KT H5 (upd H5 p (.lst (vs2.take i))) := KT.new np
        have qr5 := qr4.kT kt5
        have qt5 := (qa5.take i).kT kt5
        have fq6 := fq5.kT kt5
        generalize upd H5 p (.lst (vs2.take i)) = H6 at sm5 hD5 hp5 qr5 qt5 fq6 ⊢
        have qok := hqo2 _ (List.getElem_mem hi2)
        have hqt : ∀ x ∈ qp.take i, QOk cols x.1 x.2 := fun x hx => hqo2 x (List.mem_of_mem_take hx)
        have et : qp.take (i + 1) = qp.take i ++ [qp[i]] := List.take_succ_eq_append_getElem hi2
        have an := any_qs qp[i] (qp.take i)
        refine ⟨_, _, fq6.dp, .lst (.inl (.inl hp5)) qt5.dp, lay_qs hz hqt, lay_q hz qok, dep_q _ _, _, rfl, ite2 (fun e => ?_) (fun e => ?_)⟩
        · have no : qp[i] ∉ qp.take i := fun z => by
            rw [decide_eq_true z] at an
            rw [an] at e
            cases e
          refine ⟨v, rfl, ws, hD5, ?_, Same.mut sm5 nD, ws ++ [v], rs ++ [qp[i]], upd_same, (qr5.snoc (q := qp[i]) fq6).kT (KT.lst hD5), ?_, by rw [List.length_append]; exact Nat.succ_le_succ rl, fun x => ?_⟩
          · have := qr5.len
            exact small1000 (by omega)
          · exact List.nodup_append.mpr ⟨rn, List.nodup_cons.mpr ⟨List.not_mem_nil, .nil⟩, fun x hx y hy z => no (by rw [List.mem_singleton.mp hy] at z; exact (rm _).mp (z ▸ hx))⟩
          · rw [et, List.mem_append, List.mem_append, rm]
        · have yes : qp[i] ∈ qp.take i := by
            apply Classical.byContradiction
            intro z
            rw [decide_eq_false z] at an
            rw [an] at e
            exact e rfl
          refine ⟨sm5, ws, rs, hD5, qr5, rn, by omega, fun x => ?_⟩
          rw [et, List.mem_append, rm]
          refine ⟨.inl, fun h => h.elim id fun z => ?_⟩
          rw [List.mem_singleton.mp z]
          exact yes
      · obtain ⟨sm3, ws, rs, hD3, qr, rn, rl, rm⟩ := hP
        have rm2 : ∀ x, x ∈ rs ↔ x ∈ qp := fun x => by rw [rm, hvl, List.take_of_length_le (Nat.le_refl _)]
        have six : 9 ≤ rs.length := by
          have l9 : ((List.range 9).map fun k => 900 + k).length ≤ (rs.filterMap fun x : Qn => x.1.head?.map fun y => y.2.toNat).length := nodup_sub_len (List.pairwise_map.mpr (List.nodup_range.imp fun {x y} h z => h (by omega))) fun x hx => by
            obtain ⟨k, hk, rfl⟩ := List.mem_map.mp hx
            exact List.mem_filterMap.mpr ⟨nm k, (rm2 _).mpr (hin _ (List.mem_map.mpr ⟨k, hk, rfl⟩)), by show some ((900 + (k : Int)).toNat) = some (900 + k); congr 1⟩
          have l2 := List.length_filterMap_le (fun x : Qn => x.1.head?.map fun y => y.2.toNat) rs
          rw [List.length_map, List.length_range] at l9
          omega
        exact q D ws rs H3 (fun b o nb e => sm3 _ _ (kp2 b o nb e)) (hB2.same sm3) (by
          cases e : H D with
          | none => rfl
          | some o => 
            have := kp2 D o (hB2.ne nD).1 e
            rw [nD] at this
            cases this) hD3 qr (by omega) (by omega) rn fun x hx => hqo2 x ((rm2 x).mp hx)

/-! ### _law_others_refused -/
theorem qm_none {H : Hp} {te v : Addr} {ob : Obj} (nte : H te = none) (hob : ob.dict = none) (nv : (upd H te (.frz ob (.tup []))) v = none) : QZ (upd (upd H te (.frz ob (.tup []))) v (.tup [.ref te, .non])) (.ref v) [] none ∧ Same H (upd (upd H te (.frz ob (.tup []))) v (.tup [.ref te, .non])) :=
  ⟨QZ.made nv (EZ.made nte hob .nil) .non, Same.new (Same.new (Same.refl H) nte) nv⟩
theorem qm_pair {H : Hp} {p te v : Addr} {ob : Obj} {c : Nat} {n : Int} (np : H p = none) (nte : (upd H p (.tup [sg c, .int n])) te = none) (hob : ob.dict = none) (nv : (upd (upd H p (.tup [sg c, .int n])) te (.frz ob (.tup [.ref p]))) v = none) :
    QZ (upd (upd (upd H p (.tup [sg c, .int n])) te (.frz ob (.tup [.ref p]))) v (.tup [.ref te, .non])) (.ref v) [(c, n)] none ∧ Same H (upd (upd (upd H p (.tup [sg c, .int n])) te (.frz ob (.tup [.ref p]))) v (.tup [.ref te, .non])) :=
  ⟨QZ.made nv (EZ.made nte hob (.cons (Fz.made np (.cons (.str (sS c)) (.cons (.int n) .nil))) .nil)) .non, Same.new (Same.new (Same.new (Same.refl H) np) nte) nv⟩
theorem qm_reach {H : Hp} {te tr v : Addr} {ob : Obj} {c : Nat} {lo hi : Int} (nte : H te = none) (hob : ob.dict = none) (ntr : (upd H te (.frz ob (.tup []))) tr = none) (nv : (upd (upd H te (.frz ob (.tup []))) tr (.tup [sg c, .int lo, .int hi])) v = none) :
    QZ (upd (upd (upd H te (.frz ob (.tup []))) tr (.tup [sg c, .int lo, .int hi])) v (.tup [.ref te, .ref tr])) (.ref v) [] (some (c, lo, hi)) ∧ Same H (upd (upd (upd H te (.frz ob (.tup []))) tr (.tup [sg c, .int lo, .int hi])) v (.tup [.ref te, .ref tr])) :=
  ⟨QZ.made (rc := some (c, lo, hi)) nv ((EZ.made (es := []) nte hob .nil).kT (.new ntr)) (Fz.made ntr (.cons (.str (sS c)) (.cons (.int lo) (.cons (.int hi) .nil)))), Same.new (Same.new (Same.new (Same.refl H) nte) ntr) nv⟩
def spOthers (w : World) (K : PySem.W.Frag) (Z : Ad) : Sp := fun vs H Q _ => ∃ (p wp d A : Addr) (tv : V) (cols : List Nat) (rows : List (List Int)) (chg : Int) (room : Nat) (us : List V) (q5 : List Qn) (as : List Ask) (ch : List (List Nat)) (ls mk : Int), vs = [.ref p, tv, .ref A] ∧ ChosenAt w Z.C_Chosen Z.C_Wanted H p wp d tv cols rows chg room as ch ls mk ∧ Cho cols rows chg room as ch ls ∧ TG Z.Ps H ∧ LamX.TabS H Z.P_Sheet_most_saving (lamQ "Sheet.most_saving") ∧ LamX.TabS H Z.P_l_refused (lamQ "_law_refused") ∧ H A = some (.lst us) ∧ QA H us q5 ∧ (∀ q ∈ q5, QOk cols q.1 q.2) ∧ q5.length ≤ 5 ∧ (∀ q ∈ qsOf as, q ∈ q5) ∧ (∀ c ∈ cols, c ≤ 122) ∧ 1 ≤ cols.length ∧
  ∀ H' : Hp, Kp Z.P_l_refused H H' → LamX.TabS H' Z.P_l_refused (lamQ "_law_refused") → Q (.bl true) H'
set_option maxHeartbeats 4000000 in
theorem ok_others (T : Tx K mg Z) (TB : Tb base mg Z) : FnOk P w K mg base CX0 85 Z.f_l_others_refused Z.d_l_others_refused ["chosen", "table", "asked"] (spOthers w K Z) := by
  have G_l_refused : FnOk P w K mg base CX0 84 Z.f_l_refused Z.d_l_refused ["chosen", "question", "asks"] (spRefused w K Z) := ok_refused T TB
  refine T.F_l_others_refused.ok sc_l_others_refused (fun vs H Q E h => ?_) (fun cdv A outer s H vs Q E hr h => ?_)
  · obtain ⟨p, wp, d, A, tv, cols, rows, chg, room, us, q5, as, ch, ls, mk, rfl, _⟩ := h
    rfl
  · obtain ⟨p, wp, d, A1, tv, cols, rows, chg, room, us, q5, as, ch, ls, mk, rfl, hC, cho, tg, tab, tabR, hA, qa, hqo, q5l, hin, h122, c1, qq⟩ := h
    refine ⟨_, (pss_cons (ps_set (i := 3) sc_l_others_refused.nd rfl (.inl rfl) (pe_ix ix_str (pe_ix (ixT K) (pv 1) pe_int (fun _ _ => rfl)) (pe_un un_neg pe_int) (fun _ _ => rfl)))
      (pss_cons (ps_set (i := 4) sc_l_others_refused.nd rfl (.inl rfl) (pe_lst (pa_cons (pe_tup (pa_cons (pe_tupF pa_nil) (pa_cons pe_non pa_nil))) (pa_cons (pe_tup (pa_cons (pe_tupF (pa_cons (pe_tup (pa_cons (pv 3) (pa_cons pe_int pa_nil))) pa_nil)) (pa_cons pe_non pa_nil))) (pa_cons (pe_tup (pa_cons (pe_tupF pa_nil) (pa_cons (pe_tup (pa_cons (pv 3) (pa_cons pe_int (pa_cons pe_int pa_nil)))) pa_nil))) (pa_cons (pe_tup (pa_cons (pe_tupF (pa_cons (pe_tup (pa_cons (pv 3) (pa_cons pe_int pa_nil))) pa_nil)) (pa_cons pe_non pa_nil))) pa_nil))))))
      (pss_cons (ps_for PassesOwn.never rfl (piL K (pe_op op_cat (pv 4) (pe_lst (pa_cons (pe_tup (pa_cons (pe_tupF pa_nil) (pa_cons (pe_tup (pa_cons (pv 3) (pa_cons pe_int (pa_cons pe_int pa_nil)))) pa_nil))) pa_nil)))) (pg_name (i := 5) sc_l_others_refused.nd rfl (.inl rfl)) (pss_one (ps_if (PW.pt (pw_and (pt_cmpR (notInDK K hr.units) (pv 5) (pv 2) (by rfl)) (pw_and1 (pt_not (pt_val (pe_call G_l_refused (hr.mono (by omega)) (by rfl) T.g_l_refused T.F_l_refused.kp T.b_l_refused .nil pass0 (pa_cons (pv 0) (pa_cons (pv 5) (pa_cons pe_bl pa_nil))))))))) (pss_one (ps_ret pe_bl)) pss_nil)))
      (pss_one (ps_ret pe_bl))))), ?_⟩
    obtain ⟨tt, RR, tvs, etv, htt, hRR, ftv⟩ := tab_open hC.tab
    subst etv
    obtain ⟨c, hc, ec⟩ := at_memZ (vs := (txS cols).cps.toList) (i := -1) (by simp; omega) (by simp; omega)
    have hc2 : c ∈ cols := by simpa using hc
    have tl : (txS cols).length ≤ sizeLine := by
      have : (txS cols).length = cols.length := by simp [Str.length]
      have := cho.rdy.c4
      exact Nat.le_of_lt (small1000 (by omega))
    refine ⟨.ref tt, rfl, tt, _, 0, tx cols, rfl, rfl, .inl (.inl htt), rfl, 1, rfl, txS cols, -1, c, rfl, rfl, tl, ec, ?_⟩
    refine ⟨(by show 0 ≤ sizeLine; decide), fun t1 o1 nt1 ho1 => ⟨(by show 2 ≤ sizeLine; decide), fun v1 nv1 => ?_⟩⟩
    obtain ⟨f1, s1⟩ := qm_none nt1 ho1 nv1
    generalize upd (upd H t1 (.frz o1 (.tup []))) v1 (.tup [.ref t1, .non]) = H1 at f1 s1 ⊢
    refine ⟨sg c, rfl, (by show 2 ≤ sizeLine; decide), fun p2 np2 => ⟨(by show 1 ≤ sizeLine; decide), fun t2 o2 nt2 ho2 => ⟨(by show 2 ≤ sizeLine; decide), fun v2 nv2 => ?_⟩⟩⟩
    obtain ⟨f2, s2⟩ := qm_pair np2 nt2 ho2 nv2
    generalize upd (upd (upd H1 p2 (.tup [sg c, .int 998])) t2 (.frz o2 (.tup [.ref p2]))) v2 (.tup [.ref t2, .non]) = H2 at f2 s2 ⊢
    refine ⟨(by show 0 ≤ sizeLine; decide), fun t3 o3 nt3 ho3 => ⟨sg c, rfl, (by show 3 ≤ sizeLine; decide), fun r3 nr3 => ⟨(by show 2 ≤ sizeLine; decide), fun v3 nv3 => ?_⟩⟩⟩
    obtain ⟨f3, s3⟩ := qm_reach nt3 ho3 nr3 nv3
    generalize upd (upd (upd H2 t3 (.frz o3 (.tup []))) r3 (.tup [sg c, .int 0, .int 999])) v3 (.tup [.ref t3, .ref r3]) = H3 at f3 s3 ⊢
    refine ⟨sg c, rfl, (by show 2 ≤ sizeLine; decide), fun p4 np4 => ⟨(by show 1 ≤ sizeLine; decide), fun t4 o4 nt4 ho4 => ⟨(by show 2 ≤ sizeLine; decide), fun v4 nv4 => ?_⟩⟩⟩
    obtain ⟨f4, s4⟩ := qm_pair np4 nt4 ho4 nv4
    generalize upd (upd (upd H3 p4 (.tup [sg c, .int 0])) t4 (.frz o4 (.tup [.ref p4]))) v4 (.tup [.ref t4, .non]) = H4 at f4 s4 ⊢
    refine ⟨(by show 4 ≤ sizeLine; decide), fun D nD => ?_⟩
    have sD := Same.new (o := .lst [.ref v1, .ref v2, .ref v3, .ref v4]) (Same.refl H4) nD
    have hD : (upd H4 D (.lst [.ref v1, .ref v2, .ref v3, .ref v4])) D = some (.lst [.ref v1, .ref v2, .ref v3, .ref v4]) := upd_same
    generalize upd H4 D (.lst [.ref v1, .ref v2, .ref v3, .ref v4]) = H5 at sD hD ⊢
    refine ⟨.ref D, rfl, ?_⟩
    refine ⟨(by show 0 ≤ sizeLine; decide), fun t6 o6 nt6 ho6 => ⟨sg c, rfl, (by show 3 ≤ sizeLine; decide), fun r6 nr6 => ⟨(by show 2 ≤ sizeLine; decide), fun v6 nv6 => ?_⟩⟩⟩
    obtain ⟨f6, s6⟩ := qm_reach nt6 ho6 nr6 nv6
    generalize upd (upd (upd H5 t6 (.frz o6 (.tup []))) r6 (.tup [sg c, .int 998, .int 998])) v6 (.tup [.ref t6, .ref r6]) = H6 at f6 s6 ⊢
    refine ⟨(by show 1 ≤ sizeLine; decide), fun D2 nD2 => ?_⟩
    have sE := Same.new (o := .lst [.ref v6]) (Same.refl H6) nD2
    have hD2 : (upd H6 D2 (.lst [.ref v6])) D2 = some (.lst [.ref v6]) := upd_same
    generalize upd H6 D2 (.lst [.ref v6]) = H7 at sE hD2 ⊢
    refine ⟨D, D2, _, _, rfl, rfl, sE _ _ (s6 _ _ hD), hD2, (by show 5 ≤ sizeLine; decide), fun D3 nD3 => ?_⟩
    have sF := Same.new (o := .lst [.ref v1, .ref v2, .ref v3, .ref v4, .ref v6]) (Same.refl H7) nD3
    have hD3 : (upd H7 D3 (.lst [.ref v1, .ref v2, .ref v3, .ref v4, .ref v6])) D3 = some (.lst [.ref v1, .ref v2, .ref v3, .ref v4, .ref v6]) := upd_same
    have s68 : Same H6 (upd H7 D3 (.lst [.ref v1, .ref v2, .ref v3, .ref v4, .ref v6])) := Same.trans sE sF
    have s58 := Same.trans s6 s68
    have s48 := Same.trans sD s58
    have s38 := Same.trans s4 s48
    have s28 := Same.trans s3 s38
    have s18 := Same.trans s2 s28
    have s08 := Same.trans s1 s18
    have qz : QA (upd H7 D3 (.lst [.ref v1, .ref v2, .ref v3, .ref v4, .ref v6])) [.ref v1, .ref v2, .ref v3, .ref v4, .ref v6] [([], none), ([(c, 998)], none), ([], some (c, 0, 999)), ([(c, 0)], none), ([], some (c, 998, 998))] :=
      .cons (q := ([], none)) (f1.kT (Same.kT s18)) (.cons (q := ([(c, 998)], none)) (f2.kT (Same.kT s28)) (.cons (q := ([], some (c, 0, 999))) (f3.kT (Same.kT s38)) (.cons (q := ([(c, 0)], none)) (f4.kT (Same.kT s48)) (.cons (q := ([], some (c, 998, 998))) (f6.kT (Same.kT s68)) .nil))))
    have ok1 : ∀ n : Int, 0 ≤ n → n < 1000 → QOk cols [(c, n)] none := fun n h0 h1 => ⟨List.pairwise_singleton _ _, fun p hp => by
      rw [List.mem_singleton.mp hp]
      exact ⟨hc2, h0, h1⟩, c1, fun _ _ _ z => nomatch z⟩
    have ok2 : ∀ lo hi : Int, 0 ≤ lo → lo ≤ hi → hi < 1000 → QOk cols [] (some (c, lo, hi)) := fun lo hi h0 h1 h2 => ⟨.nil, (fun p hp => nomatch hp), Nat.zero_le _, fun c' lo' hi' z => by
      have z2 := Option.some.inj z
      obtain ⟨rfl, z3⟩ := Prod.mk.inj z2
      obtain ⟨rfl, rfl⟩ := Prod.mk.inj z3
      exact ⟨hc2, (fun z => nomatch z), h0, h1, h2⟩⟩
    have qok5 : ∀ q ∈ ([([], none), ([(c, 998)], none), ([], some (c, 0, 999)), ([(c, 0)], none), ([], some (c, 998, 998))] : List Qn), QOk cols q.1 q.2 := fun q hq => by
      simp only [List.mem_cons, List.not_mem_nil, or_false] at hq
      rcases hq with rfl | rfl | rfl | rfl | rfl
      · exact ⟨.nil, (fun p hp => nomatch hp), Nat.zero_le _, fun _ _ _ z => nomatch z⟩
      · exact ok1 _ (by decide) (by decide)
      · exact ok2 _ _ (by decide) (by decide) (by decide)
      · exact ok1 _ (by decide) (by decide)
      · exact ok2 _ _ (by decide) (by decide) (by decide)
    clear ok1 ok2 s18 s28 s38 s48 s58 s68 sD sE sF s1 s2 s3 s4 s6 f1 f2 f3 f4 f6 hD hD2
    have hC8 := hC.same s08
    have tg8 := tg.same s08
    have tab8 := tab_same tab s08
    have tabR8 := tab_same tabR s08
    have hA8 := s08 _ _ hA
    have qa8 := qa.kT (Same.kT s08)
    have eL : ([V.ref v1, .ref v2, .ref v3, .ref v4] : List V) ++ [.ref v6] = [.ref v1, .ref v2, .ref v3, .ref v4, .ref v6] := rfl
    rw [eL]
    generalize upd H7 D3 (.lst [.ref v1, .ref v2, .ref v3, .ref v4, .ref v6]) = H8 at qz hD3 s08 hC8 tg8 tab8 tabR8 hA8 qa8 ⊢
    generalize ([.ref v1, .ref v2, .ref v3, .ref v4, .ref v6] : List V) = xs at qz hD3 ⊢
    generalize ([([], none), ([(c, 998)], none), ([], some (c, 0, 999)), ([(c, 0)], none), ([], some (c, 998, 998))] : List Qn) = qs at qz qok5
    have tgl : TG [Z.P_l_refused] H8 := fun b hb => by
      obtain ⟨ps, h1, h2, _⟩ := tabR8
      rw [List.mem_singleton.mp hb]
      exact ⟨ps, h1, h2⟩
    have lR : Z.P_Sheet_most_saving ∉ [Z.P_l_refused] := fun z => T.ll_Sheet_most_saving_l_refused (List.mem_singleton.mp z)
    have sx : ∀ {G : Hp}, Kp Z.P_l_refused H8 G → Sx [Z.P_l_refused] H8 G := fun k b o n e => k b o (fun z => n (by rw [z]; exact List.mem_singleton.mpr rfl)) e
    have stay : ∀ {G : Hp} {a : Addr} {l : List V}, Kp Z.P_l_refused H8 G → H8 a = some (.lst l) → G a = some (.lst l) := fun k e => sx k _ _ (tgl.not e fun q z => nomatch z) e
    refine ⟨D3, rfl, ⟨_, .inl (.inl hD3)⟩, for_it (walk_list (xs := xs)) (fun i σ G => ∃ y, σ = [some (.ref p), some (.ref tt), some (.ref A1), some (sg c), some (.ref D), y] ∧ Kp Z.P_l_refused H8 G ∧ LamX.TabS G Z.P_l_refused (lamQ "_law_refused")) ⟨none, rfl, Kp.rfl', tabR8⟩ (fun i σ G _ hP => ?_) (fun i x σ G2 G hi hP hY => ?_) (fun σ G hP => ?_)⟩
    · obtain ⟨y, rfl, k, _⟩ := hP
      exact .inl (.inl (stay k hD3))
    · obtain ⟨y, rfl, k, tabG⟩ := hP
      obtain ⟨rfl, hx⟩ := hY
      have hqx := qz.len
      have hi2 : i < qs.length := by omega
      obtain ⟨v, hv, fq⟩ := qz.at (List.getElem?_eq_getElem hi2)
      obtain rfl : v = x := Option.some.inj (hv.symm.trans hx)
      have qok := qok5 _ (List.getElem_mem hi2)
      have kt := (sx k).kT tgl
      have fqG := fq.kT kt
      have qaG := qa8.kT kt
      have an := any_qs qs[i] q5
      obtain ⟨qv, rfl⟩ := fqG.ref
      refine ⟨.ref qv, rfl, .ref A1, rfl, _, _, fqG.dp, .lst (.inl (.inl (stay k hA8))) qaG.dp, lay_qs h122 hqo, lay_q h122 qok, dep_q _ _, _, rfl, ite2 (fun e => ?_) (fun e => iteF ⟨_, rfl, k, tabG⟩)⟩
      have no : qs[i] ∉ qsOf as := fun z => by
        rw [decide_eq_true (hin _ z)] at an
        rw [an] at e
        cases e
      refine ⟨.ref p, rfl, .ref qv, rfl, p, wp, d, qv, .ref tt, cols, rows, chg, room, as, ch, ls, mk, qs[i], false, rfl, hC8.sx tgl (sx k), cho, tg_kp tg8 k T.l_l_refused, tab_sx tab8 tgl (sx k) lR, tabG, fqG, no, (fun z => nomatch z), h122, fun G' k' tabG' => ⟨true, rfl, iteF ⟨_, rfl, k.trans k', tabG'⟩⟩⟩
    · obtain ⟨y, rfl, k, tabG⟩ := hP
      exact qq G (fun b o n e => k b o n (s08 _ _ e)) tabG

/-! ### _law_last_right -/
def spLast (w : World) (K : PySem.W.Frag) (Z : Ad) : Sp := fun vs H Q _ => ∃ (p wp d : Addr) (wv tv : V) (cols : List Nat) (rows : List (List Int)) (chg : Int) (room : Nat) (as : List Ask) (ch : List (List Nat)) (ls mk : Int), vs = [.ref p, wv, .int room] ∧ ChosenAt w Z.C_Chosen Z.C_Wanted H p wp d tv cols rows chg room as ch ls mk ∧ Cho cols rows chg room as ch ls ∧ TG Z.Ps H ∧ LamX.TabS H Z.P_Sheet_most_saving (lamQ "Sheet.most_saving") ∧ WorkZ H wv cols rows as chg ∧ (∀ c ∈ cols, c ≤ 122) ∧
  ∀ H' : Hp, Sx (Z.P_Sheet_most_saving :: Z.Ps) H H' → TG Z.Ps H' → LamX.TabS H' Z.P_Sheet_most_saving (lamQ "Sheet.most_saving") → Q (.bl true) H'
set_option maxHeartbeats 4000000 in
theorem ok_last (T : Tx K mg Z) (TB : Tb base mg Z) : FnOk P w K mg base CX0 81 Z.f_l_last_right Z.d_l_last_right ["chosen", "work", "most"] (spLast w K Z) := by
  have G_cheapest : FnOk P w K mg base CX0 80 Z.f_cheapest Z.d_cheapest ["work", "room"] (spCheapest K Z) := ok_cheapest T TB
  have G_price : FnOk P w K mg base CX0 9 Z.f_price Z.d_price ["work", "choice"] (spPrice K Z) := ok_price T TB
  have G_room : FnOk P w K mg base CX0 4 Z.f_room Z.d_room ["choice"] (spRoom K Z) := ok_room T TB
  have G_Chosen_asks : FnOk P w K mg base CX0 2 Z.f_Chosen_asks Z.d_Chosen_asks ["self"] (spChosenAsks w K Z) := ok_chosenasks T
  have G_Chosen_choice : FnOk P w K mg base CX0 1 Z.f_Chosen_choice Z.d_Chosen_choice ["self"] (spChosenChoice w K Z) := ok_chosenchoice T
  have G_Chosen_price : FnOk P w K mg base CX0 1 Z.f_Chosen_price Z.d_Chosen_price ["self"] (spChosenPrice w K Z) := ok_chosenprice T
  refine T.F_l_last_right.ok sc_l_last_right (fun vs H Q E h => ?_) (fun cdv A outer s H vs Q E hr h => ?_)
  · obtain ⟨p, wp, d, wv, tv, cols, rows, chg, room, as, ch, ls, mk, rfl, _⟩ := h
    rfl
  · obtain ⟨p, wp, d, wv, tv, cols, rows, chg, room, as, ch, ls, mk, rfl, hC, cho, tg, tab, hW, h122, qq⟩ := h
    refine ⟨_, (pss_cons (ps_set (i := 3) sc_l_last_right.nd rfl (.inl rfl) (pe_ix (ixT K) (pe_call G_cheapest (hr.mono (by omega)) (by rfl) T.g_cheapest T.F_cheapest.kp T.b_cheapest .nil pass0 (pa_cons (pv 1) (pa_cons (pv 2) pa_nil))) pe_int (fun _ _ => rfl)))
      (pss_mid (ps_if (PW.pt (pw_or (pt_cmpR (neDK K hr.units) (pe_meth0 (pv 0) T.cl_Chosen T.m_Chosen_asks G_Chosen_asks (hr.mono (by omega)) T.b_Chosen_asks .nil pass0) (pe_ix (ixT K) (pv 1) pe_int (fun _ _ => rfl)) (nomark _)) (pw_or1 (pt_cmpR op_ne (pe_meth0 (pv 0) T.cl_Chosen T.m_Chosen_price G_Chosen_price (hr.mono (by omega)) T.b_Chosen_price .nil pass0) (pv 3) (nomark _))))) (pss_one (ps_ret pe_bl)) pss_nil)
      (pss_one (ps_ret (pe_and (pe_cmpR op_eq (pe_call G_price (hr.mono (by omega)) (by rfl) T.g_price T.F_price.kp T.b_price .nil pass0 (pa_cons (pv 1) (pa_cons (pe_meth0 (pv 0) T.cl_Chosen T.m_Chosen_choice G_Chosen_choice (hr.mono (by omega)) T.b_Chosen_choice .nil pass0) pa_nil))) (pv 3) (nomark _)) (pe_one (pe_cmpR op_le (pe_call G_room (hr.mono (by omega)) (by rfl) T.g_room T.F_room.kp T.b_room .nil pass0 (pa_cons (pe_meth0 (pv 0) T.cl_Chosen T.m_Chosen_choice G_Chosen_choice (hr.mono (by omega)) T.b_Chosen_choice .nil pass0) pa_nil)) (pv 2) (nomark _)))))))), ?_⟩
    have R := cho.rdy
    refine ⟨wv, rfl, .int room, rfl, wv, room, cols, rows, as, chg, rfl, R.rm, tg, tab, hW, R.rok, R.rl, R.cd, R.c4, cho.has, R.g0, R.g1, fun t ct tree r ch2 H1 sx1 tg1 tab1 opt cc er hct ht d2 fd dd cl go => ⟨t, _, 0, .int r, rfl, rfl, .inl (.inl ht), rfl, ?_⟩⟩
    clear go cl dd fd
    obtain rfl : r = ls := opt.one cho.opt
    have tgL := tab_tg tab tg
    have hC1 := hC.sx tgL sx1
    have hW1 := hW.kT (sx1.kT tgL)
    obtain ⟨wa, tv2, aa, vs2, rfl, hwa, fT2, haa, az⟩ := id hW1
    obtain ⟨dx, cp, hp1, _⟩ := hC1.self
    have hq : ∀ a ∈ as, QOk cols a.es a.rc := fun a ha => (cho.has.ok a ha).1
    refine ⟨fun σ G => σ = [some (.ref p), some (.ref wa), some (.int room), some (.int r)] ∧ Same H1 G, ?_, fun σ G hM => ?_⟩
    · refine ⟨.ref p, rfl, p, dx, _, rfl, hp1, chF7_no_asks _ _ _ _ _ _ _, p, wp, d, tv, cols, rows, chg, room, as, ch, r, mk, rfl, hC1, fun t2 us2 H2 sm2 nt2 ht2 az2 => ?_⟩
      refine ⟨.ref wa, rfl, wa, _, 1, .ref aa, rfl, rfl, .inl (.inl (sm2 _ _ hwa)), rfl, .tuple (as.map askD), .tuple (as.map askD), .tup (.inl (.inl ht2)) az2.dp, .tup (.inl (.inl (sm2 _ _ haa))) (az.kT (Same.kT sm2)).dp, shaped_asks h122 hq, shaped_asks h122 hq, _, rfl, ite2 (fun z => absurd z (by rw [eqv_asks h122 hq]; decide)) fun _ => ?_⟩
      exact ⟨.ref p, rfl, p, dx, _, rfl, sm2 _ _ hp1, chF7_no_price _ _ _ _ _ _ _, p, wp, d, tv, cols, rows, chg, room, as, ch, r, mk, rfl, hC1.same sm2, .int r, rfl, rfl, _, rfl, ite2 (fun z => by rw [decide_eq_true rfl] at z; cases z) fun _ => ⟨rfl, sm2⟩⟩
    obtain ⟨rfl, sm⟩ := hM
    have hC2 := hC1.same sm
    have tg2 := tg1.same sm
    have tab2 := tab_same tab1 sm
    have hW2 := hW1.kT (Same.kT sm)
    obtain ⟨dx2, cp2, hp2, _⟩ := hC2.self
    have lsn : ∀ o ∈ ch, o.length ≤ 1000 ∧ ∀ x ∈ o, x ∈ cols := fun o ho => by
      obtain ⟨_, l2, _, l4⟩ := lists_mem.mp (R.cC.sub _ ho)
      have := R.c4
      exact ⟨by omega, l4⟩
    have chl : ch.length ≤ 100 := by
      have := letters_len R.cC.sub
      have := R.cC.fits
      have := R.rm
      omega
    refine ⟨.ref wa, rfl, .ref p, rfl, p, dx2, _, rfl, hp2, chF7_no_choice _ _ _ _ _ _ _, p, wp, d, tv, cols, rows, chg, room, as, ch, r, mk, rfl, hC2, fun c hc => ?_⟩
    refine ⟨.ref wa, cols, rows, as, chg, c, ch, rfl, tg2, hW2, R.rok, R.rl, (by have := R.c4; omega), cho.has, R.g0, R.g1, hc, lsn, chl, fun H3 sx3 tg3 => ⟨.int r, rfl, rfl, _, rfl, ite2 (fun _ => ?_) (fun z => absurd (decide_eq_true (congrArg V.int cho.is.symm)) z)⟩⟩
    have hC3 := hC2.sx tg2 sx3
    have tab3 := tab_sx tab2 tg2 sx3 T.l_Sheet_most_saving
    obtain ⟨dx3, cp3, hp3, _⟩ := hC3.self
    refine ⟨.ref p, rfl, p, dx3, _, rfl, hp3, chF7_no_choice _ _ _ _ _ _ _, p, wp, d, tv, cols, rows, chg, room, as, ch, r, mk, rfl, hC3, fun c3 hc3 => ?_⟩
    refine ⟨c3, ch, rfl, tg3, hc3, chl, fun o ho => (lsn o ho).1, fun H4 sx4 tg4 => ⟨.int room, rfl, _, _, rfl, rfl, ?_⟩⟩
    have le : roomM ch ≤ (room : Int) := by
      have := R.cC.fits
      rw [letters_room]
      omega
    exact Eq.mpr (congrArg (fun b : Bool => Q (V.bl b) H4) (decide_eq_true le)) (qq H4 (((sx1.trans (Same.sx sm)).trans (Sx.more sx3 fun b hb => List.mem_cons_of_mem _ hb)).trans (Sx.more sx4 fun b hb => List.mem_cons_of_mem _ hb)) tg4 (tab_sx tab3 tg3 sx4 T.l_Sheet_most_saving))

/-! ### a keeper of a choice at its beginning -/
theorem cho_nil {cols : List Nat} {rows : List (List Int)} {chg : Int} {room : Nat} (hr : RowsOk cols.length rows) (rl : rows.length ≤ 100) (cd : cols.Nodup) (c4 : cols.length ≤ 4) (g0 : 0 ≤ chg) (g1 : chg ≤ 1000000) (rm : room ≤ 89) : Cho cols rows chg room [] [] 0 := by
  have e0 : workM cols rows [] [] chg = 0 := by
    unfold workM askedM keepM
    simp
  have cC : Ch cols room [] := ⟨.nil, (fun o h => nomatch h), Nat.zero_le _⟩
  refine ⟨⟨cC, (by unfold sortO; simp), hr, rl, cd, c4, g0, g1, rm⟩, ⟨fun ch _ _ _ => ?_, [], .nil, (fun o h => nomatch h), Nat.zero_le _, e0.symm⟩, e0.symm, ⟨Nat.zero_le _, fun a h => nomatch h⟩⟩
  have := keep_pos g0 ch
  show 0 ≤ askedM cols rows ch [] + keepM chg ch
  have e1 : askedM cols rows ch [] = 0 := rfl
  omega

/-! ### _law_often_right -/
def asI (i : Nat) : List Ask := if i = 0 then [] else [⟨[], none, 1000 * (i : Int)⟩]
theorem asI_more (i : Nat) : moreA (asI i) ([], none) 1000 = asI (i + 1) := by
  unfold asI moreA
  rw [if_neg (Nat.succ_ne_zero i)]
  by_cases h : i = 0
  · subst h
    rfl
  · rw [if_neg h]
    have e1 : isQ ([], none) ⟨[], none, 1000 * (i : Int)⟩ = true := by unfold isQ; simp
    have e2 : oftenOf [⟨[], none, 1000 * (i : Int)⟩] ([], none) = 1000 * (i : Int) := by
      unfold oftenOf
      rw [List.find?_cons, e1]
      rfl
    rw [List.any_cons, e1, e2]
    have e3 : 1000 * ((i + 1 : Nat) : Int) = 1000 * (i : Int) + 1000 := by omega
    rw [e3]
    simp [e1]
theorem asI_ok {i : Nat} (h1 : 1 ≤ i) (h : i ≤ 1001) : AsksOk [97] (asI i) := by
  unfold asI
  rw [if_neg (by omega)]
  exact ⟨by show 1 ≤ 5; decide, fun a ha => by
    rw [List.mem_singleton.mp ha]
    exact ⟨⟨.nil, (fun p hp => nomatch hp), Nat.zero_le _, fun _ _ _ z => nomatch z⟩, by show 1 ≤ 1000 * (i : Int); omega, by show 1000 * (i : Int) ≤ 1001000; omega⟩⟩
def spOften (w : World) (K : PySem.W.Frag) (Z : Ad) : Sp := fun vs H Q _ => vs = [] ∧ TG Z.Ps H ∧ LamX.TabS H Z.P_Sheet_most_saving (lamQ "Sheet.most_saving") ∧ ∀ H' : Hp, Q (.bl true) H'
set_option maxHeartbeats 4000000 in
theorem ok_often (T : Tx K mg Z) (TB : Tb base mg Z) : FnOk P w K mg base CX0 84 Z.f_l_often_right Z.d_l_often_right [] (spOften w K Z) := by
  have G_Chosen___init__ : FnOk P w K mg base CX0 3 Z.f_Chosen___init__ Z.d_Chosen___init__ ["self", "table", "changes", "room"] (spChosenInit w K Z) := ok_choseninit T
  have G_Chosen_ask : FnOk P w K mg base (L2.CX P w) 81 Z.f_Chosen_ask Z.d_Chosen_ask ["self", "question", "often"] (spChosenAsk w K Z) := ok_chosenask T TB
  have G_Chosen_asks : FnOk P w K mg base CX0 2 Z.f_Chosen_asks Z.d_Chosen_asks ["self"] (spChosenAsks w K Z) := ok_chosenasks T
  have G_Chosen_price : FnOk P w K mg base CX0 1 Z.f_Chosen_price Z.d_Chosen_price ["self"] (spChosenPrice w K Z) := ok_chosenprice T
  refine T.F_l_often_right.ok sc_l_often_right (fun vs H Q E h => ?_) (fun cdv A outer s H vs Q E hr h => ?_)
  · obtain ⟨rfl, _⟩ := h
    rfl
  · obtain ⟨rfl, tg, tab, qq⟩ := h
    refine ⟨_, (pss_cons (ps_set (i := 0) sc_l_often_right.nd rfl (.inl rfl) (pe_make T.mk_Chosen G_Chosen___init__ (hr.mono (by omega)) (by rfl) T.g_Chosen T.b_Chosen___init__ .nil pass0 (pa_cons (pe_tup (pa_cons pe_str (pa_cons (pe_tup (pa_cons (pe_tup (pa_cons pe_int pa_nil)) pa_nil)) pa_nil))) (pa_cons pe_int (pa_cons pe_int pa_nil)))))
      (pss_cons (ps_for PassesOwn.never rfl (pi_range1 (by rfl) T.m_range (pa_cons pe_int pa_nil)) (pg_name (i := 1) sc_l_often_right.nd rfl (.inl rfl)) (pss_one (ps_expr (pe_methX (pv 0) T.cl_Chosen T.m_Chosen_ask G_Chosen_ask (hr.mono (by omega)) T.b_Chosen_ask (fun σ => passNo σ) (pa_cons (pe_tup (pa_cons (pe_tupF pa_nil) (pa_cons pe_non pa_nil))) (pa_cons pe_int pa_nil))))))
      (pss_one (ps_ret (pe_and (pe_cmpR (eqDK K hr.units) (pe_meth0 (pv 0) T.cl_Chosen T.m_Chosen_asks G_Chosen_asks (hr.mono (by omega)) T.b_Chosen_asks .nil pass0) (pe_tup (pa_cons (pe_tup (pa_cons (pe_tup (pa_cons (pe_tupF pa_nil) (pa_cons pe_non pa_nil))) (pa_cons pe_int pa_nil))) pa_nil)) (nomark _)) (pe_one (pe_cmpR op_eq (pe_meth0 (pv 0) T.cl_Chosen T.m_Chosen_price G_Chosen_price (hr.mono (by omega)) T.b_Chosen_price .nil pass0) pe_int (nomark _)))))))), ?_⟩
    refine ⟨(by show 1 ≤ sizeLine; decide), fun ra nra => ⟨(by show 1 ≤ sizeLine; decide), fun RR nRR => ⟨(by show 2 ≤ sizeLine; decide), fun tt ntt => fun p dx np ndx nex => ?_⟩⟩⟩
    have f0 : Fz (upd H ra (.tup [.int 1])) (.ref ra) (rowD [1]) := row_made (row := [1]) nra
    have f1 : Fz (upd (upd H ra (.tup [.int 1])) RR (.tup [.ref ra])) (.ref RR) (.tuple [rowD [1]]) := Fz.made nRR (.cons f0 .nil)
    have f2 : Fz (upd (upd (upd H ra (.tup [.int 1])) RR (.tup [.ref ra])) tt (.tup [.str (Str.ofString "a"), .ref RR])) (.ref tt) (tabD [97] [[1]]) := Fz.made ntt (.cons (.str _) (.cons f1 .nil))
    have sm1 : Same H (upd (upd (upd H ra (.tup [.int 1])) RR (.tup [.ref ra])) tt (.tup [.str (Str.ofString "a"), .ref RR])) := Same.new (Same.new (Same.new (Same.refl H) nra) nRR) ntt
    generalize upd (upd (upd H ra (.tup [.int 1])) RR (.tup [.ref ra])) tt (.tup [.str (Str.ofString "a"), .ref RR]) = H1 at f2 sm1 np ndx nex ⊢
    have sm9 : Same H1 (upd (upd H1 dx (.own p)) p (.ins Z.C_Chosen dx [])) := fun b o e => by
      rw [upd_ne (ne_of_none e np), upd_ne (ne_of_none e ndx)]
      exact e
    have hp9 : (upd (upd H1 dx (.own p)) p (.ins Z.C_Chosen dx [])) p = some (.ins Z.C_Chosen dx []) := upd_same
    generalize upd (upd H1 dx (.own p)) p (.ins Z.C_Chosen dx []) = H9 at sm9 hp9 ⊢
    refine ⟨p, dx, .ref tt, [97], [[1]], 0, 0, rfl, hp9, f2.kt (Same.kt sm9), fun wp d HA kpA nwp nd hC => ⟨rfl, ?_⟩⟩
    have smA : Same H1 HA := Same.kpN sm9 np kpA
    have sm0A := Same.trans sm1 smA
    have rok : RowsOk ([97] : List Nat).length [[1]] := fun row hrow => by
      rw [List.mem_singleton.mp hrow]
      exact ⟨rfl, fun n hn => by rw [List.mem_singleton.mp hn]; decide⟩
    have cho0 : Cho [97] [[1]] 0 0 (asI 0) [] 0 := cho_nil (cols := [97]) (rows := [[1]]) (chg := 0) (room := 0) rok (by decide) (by decide) (by decide) (by decide) (by decide) (by decide)
    refine ⟨1001, rfl, by decide, by decide, for_range (fun i σ G => ∃ (y : Option V) (ch : List (List Nat)) (ls mk : Int), σ = [some (.ref p), y] ∧ ChosenAt w Z.C_Chosen Z.C_Wanted G p wp d (.ref tt) [97] [[1]] 0 0 (asI i) ch ls mk ∧ Cho [97] [[1]] 0 0 (asI i) ch ls ∧ TG Z.Ps G ∧ LamX.TabS G Z.P_Sheet_most_saving (lamQ "Sheet.most_saving")) ⟨none, [], 0, 0, rfl, hC, cho0, tg.same sm0A, tab_same tab sm0A⟩ (fun i σ G hi hP => ?_) (fun σ G hP => ?_)⟩
    · obtain ⟨y, ch, ls, mk, rfl, hC1, cho, tg1, tab1⟩ := hP
      obtain ⟨dx1, cp1, hp1, _⟩ := hC1.self
      refine ⟨.ref p, rfl, p, dx1, _, rfl, hp1, chF7_no_ask _ _ _ _ _ _ _, (by show 0 ≤ sizeLine; decide), fun te ob nte hob => ⟨(by show 2 ≤ sizeLine; decide), fun v nv => ?_⟩⟩
      obtain ⟨fq, smQ⟩ := qm_none nte hob nv
      generalize upd (upd G te (.frz ob (.tup []))) v (.tup [.ref te, .non]) = G1 at fq smQ ⊢
      have hl : (asI i).length ≤ 1 := by
        unfold asI
        split <;> simp
      refine ⟨p, wp, d, v, .ref tt, [97], [[1]], 0, 0, asI i, ch, ls, mk, ([], none), 1000, rfl, hC1.same smQ, cho.rdy, tg1.same smQ, tab_same tab1 smQ, fq, by omega, (fun z => absurd (.inr (by omega)) z), (fun _ => ?_), fun _ ch' ls' mk' G2 sx2 tg2 tab2 hC2 ch2 => ?_⟩
      · rw [asI_more]
        exact asI_ok (by omega) (by omega)
      · rw [asI_more] at hC2 ch2
        exact ⟨_, ch', ls', mk', rfl, hC2, ch2.cho cho.rdy (asI_ok (by omega) (by omega)), tg2, tab2⟩
    · obtain ⟨y, ch, ls, mk, rfl, hC1, cho, tg1, tab1⟩ := hP
      obtain ⟨dx1, cp1, hp1, _⟩ := hC1.self
      have ech : ch = [] := by
        cases ch with
        | nil => rfl
        | cons o r =>
          exfalso
          obtain ⟨o0, _⟩ := lists_mem.mp (cho.rdy.cC.sub o List.mem_cons_self)
          have l := cho.rdy.cC.fits
          have l2 : lettersM (o :: r) = o.length + lettersM r := rfl
          have := List.length_pos_iff.mpr o0
          omega
      subst ech
      have els : ls = 1001000 := cho.is
      subst els
      refine ⟨.ref p, rfl, p, dx1, _, rfl, hp1, chF7_no_asks _ _ _ _ _ _ _, p, wp, d, .ref tt, [97], [[1]], 0, 0, asI 1001, [], 1001000, mk, rfl, hC1, fun t2 us2 H2 sm2 nt2 ht2 az2 => ?_⟩
      have e1 : asI 1001 = [⟨[], none, 1001000⟩] := rfl
      rw [e1] at az2
      refine ⟨(by show 0 ≤ sizeLine; decide), fun te ob nte hob => ⟨(by show 2 ≤ sizeLine; decide), fun v nv => ⟨(by show 2 ≤ sizeLine; decide), fun wa nwa => ⟨(by show 1 ≤ sizeLine; decide), fun za nza => ?_⟩⟩⟩⟩
      obtain ⟨fq, smQ⟩ := qm_none nte hob nv
      generalize upd (upd H2 te (.frz ob (.tup []))) v (.tup [.ref te, .non]) = G1 at fq smQ nwa nza ⊢
      have smW := Same.new (o := .tup [.ref v, .int 1001000]) (Same.refl G1) nwa
      have hW : (upd G1 wa (.tup [.ref v, .int 1001000])) wa = some (.tup [.ref v, .int 1001000]) := upd_same
      generalize upd G1 wa (.tup [.ref v, .int 1001000]) = G2 at smW hW nza ⊢
      have smZ := Same.new (o := .tup [.ref wa]) (Same.refl G2) nza
      have hZ : (upd G2 za (.tup [.ref wa])) za = some (.tup [.ref wa]) := upd_same
      generalize upd G2 za (.tup [.ref wa]) = G3 at smZ hZ ⊢
      have aZ : AsksZ G3 [.ref wa] [⟨[], none, 1001000⟩] := .cons ⟨wa, .ref v, rfl, smZ _ _ hW, fq.kT (Same.kT (Same.trans smW smZ))⟩ .nil
      have sm23 : Same H2 G3 := Same.trans smQ (Same.trans smW smZ)
      have hq : ∀ a ∈ ([⟨[], none, 1001000⟩] : List Ask), QOk [97] a.es a.rc := fun a ha => (((asI_ok (i := 1001) (by decide) (by decide)).ok a ha)).1
      have hz : ∀ c ∈ ([97] : List Nat), c ≤ 122 := by decide
      refine ⟨.tuple (([⟨[], none, 1001000⟩] : List Ask).map askD), .tuple (([⟨[], none, 1001000⟩] : List Ask).map askD), .tup (.inl (.inl (sm23 _ _ ht2))) (az2.kT (Same.kT sm23)).dp, .tup (.inl (.inl hZ)) aZ.dp, shaped_asks hz hq, shaped_asks hz hq, _, rfl, ite2 (fun _ => ?_) (fun z => absurd (eqv_asks hz hq) z)⟩
      exact ⟨.ref p, rfl, p, dx1, _, rfl, sm23 _ _ (sm2 _ _ hp1), chF7_no_price _ _ _ _ _ _ _, p, wp, d, .ref tt, [97], [[1]], 0, 0, asI 1001, [], 1001000, mk, rfl, hC1.same (Same.trans sm2 sm23), rfl, qq G3⟩

/-! ### a keeper of a choice, a bag, a pool, what is asked, and how often -/
def Syn (kvs : KvQ) (as : List Ask) : Prop := ∀ a ∈ as, valQ kvs (nkQ (a.es, a.rc)) = some a.often
theorem seqL_keep {K : PySem.W.Frag} {H H' : Hp} {a : Addr} {xs : List V} (h : SqL K H a xs) (k : ∀ o, H a = some o → (o = .lst xs ∨ ∃ ob, o = .frz ob (.lst xs)) → H' a = some o) : SqL K H' a xs := by
  rcases h with (h | ⟨o, h⟩) | h
  · exact .inl (.inl (k _ h (.inl rfl)))
  · exact .inl (.inr ⟨o, k _ h (.inr ⟨o, rfl⟩)⟩)
  · exact .inr h
theorem seqL_kb {K : PySem.W.Frag} {H H' : Hp} {a b bl : Addr} {ns : List Int} (h : SqL K H a (ns.map V.int)) (hB : Bag b bl H) (k : Kp b H H') : SqL K H' a (ns.map V.int) := by
  obtain ⟨xs, m, n, _, h1, _⟩ := hB
  refine seqL_keep h fun o e c => k _ _ (fun z => ?_) e
  rw [z, h1] at e
  have e2 := Option.some.inj e
  rcases c with c | ⟨ob, c⟩
  · rw [c] at e2
    have e3 := HO.lst.inj e2
    cases ns with
    | nil => cases e3
    | cons _ _ => cases (List.cons.inj e3).1
  · rw [c] at e2
    cases e2
structure PK (w : World) (Z : Ad) (K : PySem.W.Frag) (a : Addr) (ns : List Int) (H : Hp) (b bl L p wp d A D : Addr) (tv : V) (cols : List Nat) (rows : List (List Int)) (chg : Int) (room : Nat) (vs : List V) (qs : List Qn) (us : List V) (q5 : List Qn) (as : List Ask) (ch : List (List Nat)) (ls mk : Int) (kvs : KvQ) : Prop where
  pl : PL w Z H b bl L p wp d tv cols rows chg room vs qs as ch ls mk
  tabR : LamX.TabS H Z.P_l_refused (lamQ "_law_refused")
  hA : H A = some (.lst us)
  qA : QA H us q5
  nA : A ≠ b ∧ A ≠ bl
  hD : H D = some (dicQ w D kvs)
  ks : KeysQ H kvs
  nD : D ≠ d
  scr : SqL K H a (ns.map V.int)
section
variable {w : World} {a : Addr} {ns : List Int} {H H' : Hp} {b bl L p wp d A D : Addr} {tv : V} {cols : List Nat} {rows : List (List Int)} {chg : Int} {room : Nat} {vs us : List V} {qs q5 : List Qn} {as as' : List Ask} {ch ch' : List (List Nat)} {ls mk ls' mk' : Int} {kvs kvs' : KvQ}
theorem PK.kb (h : PK w Z K a ns H b bl L p wp d A D tv cols rows chg room vs qs us q5 as ch ls mk kvs) (k : Kp b H H') (hB : Bag b bl H') : PK w Z K a ns H' b bl L p wp d A D tv cols rows chg room vs qs us q5 as ch ls mk kvs := by
  have kT := k.kTb h.pl.bag
  obtain ⟨xs, hb⟩ : ∃ xs, H b = some (.lst xs) := let ⟨_, _, _, _, h1, _⟩ := h.pl.bag; ⟨_, h1⟩
  exact ⟨h.pl.kb k hB, tab_kb h.tabR h.pl.bag k, k _ _ h.nA.1 h.hA, h.qA.kT kT, h.nA, k _ _ (fun z => by
    have := h.hD
    rw [z, hb] at this
    cases this) h.hD, h.ks.kT kT, h.nD, seqL_kb h.scr h.pl.bag k⟩
theorem PK.same (T : Tx K mg Z) (h : PK w Z K a ns H b bl L p wp d A D tv cols rows chg room vs qs us q5 as ch ls mk kvs) (k : Same H H') : PK w Z K a ns H' b bl L p wp d A D tv cols rows chg room vs qs us q5 as ch ls mk kvs :=
  ⟨h.pl.same T k, tab_same h.tabR k, k _ _ h.hA, h.qA.kT (Same.kT k), h.nA, k _ _ h.hD, h.ks.kT (Same.kT k), h.nD, Same.seq k h.scr⟩
theorem PK.kr (T : Tx K mg Z) (h : PK w Z K a ns H b bl L p wp d A D tv cols rows chg room vs qs us q5 as ch ls mk kvs) (k : Kp Z.P_l_refused H H') (tabR : LamX.TabS H' Z.P_l_refused (lamQ "_law_refused")) : PK w Z K a ns H' b bl L p wp d A D tv cols rows chg room vs qs us q5 as ch ls mk kvs := by
  have tgl : TG [Z.P_l_refused] H := fun b hb => by
    obtain ⟨ps, h1, h2, _⟩ := h.tabR
    rw [List.mem_singleton.mp hb]
    exact ⟨ps, h1, h2⟩
  have sx : Sx [Z.P_l_refused] H H' := fun b o n e => k b o (fun z => n (by rw [z]; exact List.mem_singleton.mpr rfl)) e
  have kT := sx.kT tgl
  have off : ∀ {a : Addr} {o : HO}, H a = some o → (∀ q, o ≠ .tbl q) → H' a = some o := fun e n => sx _ _ (tgl.not e n) e
  exact ⟨⟨h.pl.bag.sx tgl sx, tg_kp h.pl.tg k T.l_l_refused, tab_sx h.pl.tab tgl sx (fun z => T.ll_Sheet_most_saving_l_refused (List.mem_singleton.mp z)), h.pl.c.sx tgl sx, h.pl.C, off h.pl.hL (fun q z => nomatch z), h.pl.qa.kT kT, h.pl.nb⟩, tabR, off h.hA (fun q z => nomatch z), h.qA.kT kT, h.nA, off h.hD (fun q z => nomatch z), h.ks.kT kT, h.nD, seqL_keep h.scr fun o e c => off e fun q z => by
    subst z
    rcases c with c | ⟨ob, c⟩ <;> cases c⟩
theorem PK.told (T : Tx K mg Z) (h : PK w Z K a ns H b bl L p wp d A D tv cols rows chg room vs qs us q5 as ch ls mk kvs) (s : Sx (LC Z p d) H H') (tg : TG Z.Ps H') (tab : LamX.TabS H' Z.P_Sheet_most_saving (lamQ "Sheet.most_saving")) (c : ChosenAt w Z.C_Chosen Z.C_Wanted H' p wp d tv cols rows chg room as' ch' ls' mk') (C : Cho cols rows chg room as' ch' ls') : PK w Z K a ns H' b bl L p wp d A D tv cols rows chg room vs qs us q5 as' ch' ls' mk' kvs := by
  have kT := h.pl.kTC s
  obtain ⟨⟨dx, f, h1⟩, _, kd, h3⟩ := h.pl.c.kinds
  have nR : Z.P_l_refused ∉ LC Z p d := fun z => by
    obtain ⟨ps, e, _⟩ := h.tabR
    rcases List.mem_cons.mp z with z | z
    · rw [z, h1] at e
      cases e
    rcases List.mem_cons.mp z with z | z
    · rw [z, h3] at e
      cases e
    rcases List.mem_cons.mp z with z | z
    · exact T.ll_Sheet_most_saving_l_refused z.symm
    · exact T.l_l_refused z
  have nDL : D ∉ LC Z p d := fun z => by
    have e := h.hD
    rcases List.mem_cons.mp z with z | z
    · rw [z, h1] at e
      cases e
    rcases List.mem_cons.mp z with z | z
    · exact h.nD z
    · exact h.pl.tgL.not e (fun q z => nomatch z) z
  refine ⟨h.pl.told s tg tab c C, ?_, s _ _ (h.pl.off (.inl h.hA)) h.hA, h.qA.kT kT, h.nA, s _ _ nDL h.hD, h.ks.kT kT, h.nD, seqL_keep h.scr fun o e cc => s _ _ (fun z => ?_) e⟩
  rotate_left 1
  · have ne : ∀ {φ}, o ≠ .ext φ ∧ (∀ C dx f, o ≠ .ins C dx f) ∧ ∀ q, o ≠ .tbl q := fun {φ} => by
      rcases cc with rfl | ⟨ob, rfl⟩
      · exact ⟨(fun z => nomatch z), (fun _ _ _ z => nomatch z), fun _ z => nomatch z⟩
      · exact ⟨(fun z => nomatch z), (fun _ _ _ z => nomatch z), fun _ z => nomatch z⟩
    rcases List.mem_cons.mp z with z | z
    · rw [z, h1] at e
      exact (ne (φ := fun _ => True)).2.1 _ _ _ (Option.some.inj e).symm
    rcases List.mem_cons.mp z with z | z
    · rw [z, h3] at e
      exact ne.1 (Option.some.inj e).symm
    · exact h.pl.tgL.not e (ne (φ := fun _ => True)).2.2 z
  obtain ⟨ps, e1, e2, e3⟩ := h.tabR
  refine ⟨ps, s _ _ nR e1, e2, fun pos cv e => ?_⟩
  obtain ⟨c2, e4, e5⟩ := e3 pos cv e
  refine ⟨c2, e4, s _ _ (fun z => ?_) e5⟩
  rcases List.mem_cons.mp z with z | z
  · rw [z, h1] at e5
    have e6 := Option.some.inj e5
    unfold LamX.CodeO at e6
    cases e6
  rcases List.mem_cons.mp z with z | z
  · rw [z, h3] at e5
    have e6 := Option.some.inj e5
    rw [← z] at e6
    exact dic_code e6
  · exact h.pl.tgL.not e5 (fun ps z => LamX.codeO_ne ps z) z
theorem PK.put (h : PK w Z K a ns H b bl L p wp d A D tv cols rows chg room vs qs us q5 as ch ls mk kvs) (ks : KeysQ H kvs') : PK w Z K a ns (upd H D (dicQ w D kvs')) b bl L p wp d A D tv cols rows chg room vs qs us q5 as ch ls mk kvs' := by
  have kT : KT H (upd H D (dicQ w D kvs')) := KT.dic h.hD
  have sx : Sx [D] H (upd H D (dicQ w D kvs')) := fun b o n e => keep_ne e fun z => n (by rw [z]; exact List.mem_singleton.mpr rfl)
  have ne : ∀ {a : Addr} {o : HO}, H a = some o → (∀ φ, o ≠ .ext φ) → a ≠ D := fun {a o} e n z => by
    have := h.hD
    rw [← z, e] at this
    exact n _ (Option.some.inj this)
  obtain ⟨⟨dx, f, h1⟩, ⟨dw, f2, h2⟩, kd, h3⟩ := h.pl.c.kinds
  obtain ⟨ns, m, n, e0, b1, b2⟩ := id h.pl.bag
  refine ⟨⟨h.pl.bag.upd (ne b1 (fun _ z => nomatch z)).symm (ne b2 (fun _ z => nomatch z)).symm, tg_dic h.pl.tg h.hD sx, tab_dic h.pl.tab h.hD sx, h.pl.c.keep (fun c hc o e => keep_ne e ?_) kT, h.pl.C, keep_ne h.pl.hL (ne h.pl.hL fun _ z => nomatch z), h.pl.qa.kT kT, h.pl.nb⟩, tab_dic h.tabR h.hD sx, keep_ne h.hA (ne h.hA fun _ z => nomatch z), h.qA.kT kT, h.nA, upd_same, ks.kT kT, h.nD, seqL_keep h.scr fun o e c => keep_ne e (ne e fun φ z => by
    subst z
    rcases c with c | ⟨ob, c⟩ <;> cases c)⟩
  simp only [List.mem_cons, List.not_mem_nil, or_false] at hc
  rcases hc with y | y | y
  · exact y ▸ ne h1 fun _ z => nomatch z
  · exact y ▸ ne h2 fun _ z => nomatch z
  · exact y ▸ h.nD.symm
end

/-! ### how often, in the dict and in the keeper -/
theorem qsOf_old {as : List Ask} {q : Qn} {n : Int} (h : q ∈ qsOf as) : qsOf (moreA as q n) = qsOf as := by
  unfold moreA
  rw [any_isQ, decide_eq_true h, if_pos rfl]
  unfold qsOf
  rw [List.map_map]
  refine List.map_congr_left fun a ha => ?_
  show (fun x : Ask => (x.es, x.rc)) (if isQ q a = true then ⟨q.1, q.2, oftenOf as q + n⟩ else a) = (a.es, a.rc)
  by_cases e : isQ q a = true
  · rw [if_pos e]
    have := of_decide_eq_true e
    exact Prod.ext this.1.symm this.2.symm
  · rw [if_neg e]
theorem key_of_mem {as : List Ask} {q : Qn} {a : Ask} (h : q ∉ qsOf as) (ha : a ∈ as) : nkQ (a.es, a.rc) ≠ nkQ q := fun z => h (by
  rw [← nkQ_inj z]
  exact List.mem_map.mpr ⟨a, ha, rfl⟩)
theorem Syn.new {kvs : KvQ} {as : List Ask} {q : Qn} {qa : Addr} {n : Int} (s : Syn kvs as) (h : q ∉ qsOf as) : Syn (putQ kvs (nkQ q) qa n) (as ++ [⟨q.1, q.2, n⟩]) := fun a ha => by
  rw [val_put]
  rcases List.mem_append.mp ha with z | z
  · rw [if_neg (key_of_mem h z)]
    exact s a z
  · rw [List.mem_singleton.mp z, if_pos rfl]
theorem Syn.val {kvs : KvQ} {as : List Ask} {q : Qn} (s : Syn kvs as) (h : q ∈ qsOf as) : valQ kvs (nkQ q) = some (oftenOf as q) := by
  have e : as.any (isQ q) = true := by rw [any_isQ]; exact decide_eq_true h
  unfold oftenOf
  cases f : as.find? (isQ q) with
  | none =>
    rw [List.find?_eq_none] at f
    obtain ⟨a, ha, hq⟩ := List.any_eq_true.mp e
    exact absurd hq (f a ha)
  | some a =>
    have hq := List.find?_some f
    rw [← isQ_key.mp hq]
    exact s a (List.mem_of_find?_eq_some f)
theorem Syn.more {kvs : KvQ} {as : List Ask} {q : Qn} {qa : Addr} {n : Int} (s : Syn kvs as) (h : q ∈ qsOf as) : Syn (putQ kvs (nkQ q) qa (oftenOf as q + n)) (moreA as q n) := fun a ha => by
  unfold moreA at ha
  rw [any_isQ, decide_eq_true h, if_pos rfl] at ha
  obtain ⟨x, hx, rfl⟩ := List.mem_map.mp ha
  rw [val_put]
  by_cases e : isQ q x = true
  · rw [if_pos e, if_pos rfl]
  · rw [if_neg e, if_neg (fun z => e (isQ_key.mpr z))]
    exact s x hx
theorem Syn.less {kvs : KvQ} {as : List Ask} {q : Qn} (s : Syn kvs as) : Syn kvs (lessA as q) := fun a ha => s a (List.mem_filter.mp ha).1
theorem qsOf_less (as : List Ask) (q : Qn) : qsOf (lessA as q) = (qsOf as).filter fun x => decide (x ≠ q) := by
  unfold lessA qsOf
  rw [List.filter_map]
  congr 1
  refine List.filter_congr fun a _ => ?_
  show (!isQ q a) = decide ((a.es, a.rc) ≠ q)
  unfold isQ
  by_cases e : (a.es, a.rc) = q
  · subst e
    simp
  · rw [decide_eq_true e]
    have : ¬(a.es = q.1 ∧ a.rc = q.2) := fun z => e (Prod.ext z.1 z.2)
    simp [this]
theorem AsksOk.new {cols : List Nat} {as : List Ask} {q : Qn} {n : Int} (h : AsksOk cols as) (hq : QOk cols q.1 q.2) (n1 : 1 ≤ n) (n2 : n ≤ 1001000) (few : as.length < 5) : AsksOk cols (as ++ [⟨q.1, q.2, n⟩]) :=
  ⟨by rw [List.length_append]; exact few, fun a ha => by
    rcases List.mem_append.mp ha with z | z
    · exact h.ok a z
    · rw [List.mem_singleton.mp z]
      exact ⟨hq, n1, n2⟩⟩
theorem moreA_last {as : List Ask} {q : Qn} {m n : Int} (h : q ∉ qsOf as) : moreA (as ++ [⟨q.1, q.2, m⟩]) q n = as ++ [⟨q.1, q.2, m + n⟩] := by
  have no : ∀ a ∈ as, isQ q a = false := fun a ha => by
    cases e : isQ q a with
    | false => rfl
    | true =>
      exact absurd (by
        have := List.any_eq_true.mpr ⟨a, ha, e⟩
        rw [any_isQ] at this
        exact of_decide_eq_true this) h
  have yes : isQ q ⟨q.1, q.2, m⟩ = true := by unfold isQ; simp
  have f : oftenOf (as ++ [⟨q.1, q.2, m⟩]) q = m := by
    unfold oftenOf
    rw [List.find?_append, List.find?_eq_none.mpr (fun a ha z => by rw [no a ha] at z; cases z), List.find?_cons, yes]
    rfl
  unfold moreA
  rw [any_isQ, decide_eq_true (by unfold qsOf; rw [List.map_append]; exact List.mem_append_right _ (List.mem_singleton.mpr rfl)), if_pos rfl, List.map_append, f]
  congr 1
  · refine (List.map_congr_left fun a ha => ?_).trans (List.map_id as)
    rw [no a ha]
    rfl
  · rw [List.map_cons, yes]
    rfl
/-- asks, told by their questions and the dict -/
def byD (kvs : KvQ) (qs : List Qn) : List Ask := qs.map fun q => ⟨q.1, q.2, (valQ kvs (nkQ q)).getD 0⟩
theorem Syn.is {kvs : KvQ} {as : List Ask} (s : Syn kvs as) : byD kvs (qsOf as) = as := by
  unfold byD qsOf
  rw [List.map_map]
  refine (List.map_congr_left fun a ha => ?_).trans (List.map_id as)
  show (⟨a.es, a.rc, (valQ kvs (nkQ (a.es, a.rc))).getD 0⟩ : Ask) = a
  rw [s a ha]
  rfl
theorem asks_snoc {H : Hp} {vs : List V} {as : List Ask} {v : V} {a : Ask} (h : AsksZ H vs as) (hv : AskZ H v a) : AsksZ H (vs ++ [v]) (as ++ [a]) := by
  induction h with
  | nil => exact .cons hv .nil
  | cons x _ ih => exact .cons x ih

/-! ### the law -/
def spLaw (K : PySem.W.Frag) (Z : Ad) : Sp := fun vs H Q _ => ∃ (a : Addr) (ns : List Int), vs = [.ref a] ∧ SqL K H a (ns.map V.int) ∧ ns.length ≤ 63 ∧ (∀ P ∈ Z.Ps, GxR.TabG H P) ∧ LamX.TabS H Z.P_Sheet_most_saving (lamQ "Sheet.most_saving") ∧ LamX.TabS H Z.P_l_refused (lamQ "_law_refused") ∧ ∀ H', Q (.bl true) H'
set_option maxHeartbeats 16000000 in
theorem ok_law (T : Tx K mg Z) (TB : Tb base mg Z) : FnOk P w K mg base CX0 90 Z.f_law Z.d_law ["script"] (spLaw K Z) := by
  have G_l_bag : FnOk P w K mg base CX0 1 Z.f_l_bag Z.d_l_bag ["script"] (spBag K) := ok_bag T
  have G_l_lot : FnOk P w K mg base CX0 1 Z.f_l_lot Z.d_l_lot ["bag", "many"] (spLot K) := ok_lot T
  have G_l_table : FnOk P w K mg base CX0 3 Z.f_l_table Z.d_l_table ["bag", "most", "rows"] (spTable K) := ok_table T
  have G_l_six : FnOk P w K mg base CX0 5 Z.f_l_six Z.d_l_six ["bag", "table"] (spSix K) := ok_six T
  have G_Chosen___init__ : FnOk P w K mg base CX0 3 Z.f_Chosen___init__ Z.d_Chosen___init__ ["self", "table", "changes", "room"] (spChosenInit w K Z) := ok_choseninit T
  have G_Chosen_ask : FnOk P w K mg base (L2.CX P w) 81 Z.f_Chosen_ask Z.d_Chosen_ask ["self", "question", "often"] (spChosenAsk w K Z) := ok_chosenask T TB
  have G_Chosen_leave : FnOk P w K mg base (L2.CX P w) 81 Z.f_Chosen_leave Z.d_Chosen_leave ["self", "question"] (spChosenLeave w K Z) := ok_chosenleave T TB
  have G_l_refused : FnOk P w K mg base CX0 84 Z.f_l_refused Z.d_l_refused ["chosen", "question", "asks"] (spRefused w K Z) := ok_refused T TB
  have G_l_others_refused : FnOk P w K mg base CX0 85 Z.f_l_others_refused Z.d_l_others_refused ["chosen", "table", "asked"] (spOthers w K Z) := ok_others T TB
  have G_l_last_right : FnOk P w K mg base CX0 81 Z.f_l_last_right Z.d_l_last_right ["chosen", "work", "most"] (spLast w K Z) := ok_last T TB
  have G_l_often_right : FnOk P w K mg base CX0 84 Z.f_l_often_right Z.d_l_often_right [] (spOften w K Z) := ok_often T TB
  refine T.F_law.ok sc_law (fun vs H Q E h => ?_) (fun cdv A outer s H vs Q E hr h => ?_)
  · obtain ⟨a, ns, rfl, _⟩ := h
    rfl
  · obtain ⟨a, ns, rfl, hS, hlen, tgA, tabA, tabRA, q⟩ := h
    have tg : TG Z.Ps H := tgA
    refine ⟨_, (pss_cons (ps_set (i := 1) sc_law.nd rfl (.inl rfl) (pe_call G_l_bag (hr.mono (by omega)) (by rfl) T.g_l_bag T.F_l_bag.kp T.b_l_bag .nil pass0 (pa_cons (pv 0) pa_nil)))
      (pss_cons (ps_set (i := 2) sc_law.nd rfl (.inl rfl) (pe_call G_l_lot (hr.mono (by omega)) (by rfl) T.g_l_lot T.F_l_lot.kp T.b_l_lot .nil pass0 (pa_cons (pv 1) (pa_cons pe_int pa_nil))))
      (pss_cons (ps_set (i := 3) sc_law.nd rfl (.inl rfl) (pe_call G_l_table (hr.mono (by omega)) (by rfl) T.g_l_table T.F_l_table.kp T.b_l_table .nil pass0 (pa_cons (pv 1) (pa_cons (pe_ix (ixL K) (pe_lst (pa_cons pe_int (pa_cons pe_int (pa_cons pe_int (pa_cons pe_int pa_nil))))) (pv 2) (fun _ _ => rfl)) (pa_cons (pe_ix (ixL K) (pe_lst (pa_cons pe_int (pa_cons pe_int (pa_cons pe_int (pa_cons pe_int pa_nil))))) (pv 2) (fun _ _ => rfl)) pa_nil)))))
      (pss_cons (ps_set (i := 4) sc_law.nd rfl (.inl rfl) (pe_call G_l_lot (hr.mono (by omega)) (by rfl) T.g_l_lot T.F_l_lot.kp T.b_l_lot .nil pass0 (pa_cons (pv 1) (pa_cons pe_int pa_nil))))
      (pss_cons (ps_set (i := 5) sc_law.nd rfl (.inl rfl) (pe_call G_l_lot (hr.mono (by omega)) (by rfl) T.g_l_lot T.F_l_lot.kp T.b_l_lot .nil pass0 (pa_cons (pv 1) (pa_cons (pe_ix (ixL K) (pe_lst (pa_cons pe_int (pa_cons pe_int (pa_cons pe_int (pa_cons pe_int pa_nil))))) (pv 2) (fun _ _ => rfl)) pa_nil))))
      (pss_cons (ps_set (i := 6) sc_law.nd rfl (.inl rfl) (pe_make T.mk_Chosen G_Chosen___init__ (hr.mono (by omega)) (by rfl) T.g_Chosen T.b_Chosen___init__ .nil pass0 (pa_cons (pv 3) (pa_cons (pv 4) (pa_cons (pv 5) pa_nil)))))
      (pss_cons (ps_set (i := 7) sc_law.nd rfl (.inl rfl) (pe_call G_l_six (hr.mono (by omega)) (by rfl) T.g_l_six T.F_l_six.kp T.b_l_six .nil pass0 (pa_cons (pv 1) (pa_cons (pv 3) pa_nil))))
      (pss_cons (ps_set (i := 8) sc_law.nd rfl (.inl rfl) (pe_slice (slLK K) (pv 7) po_none (po_some pe_int)))
      (pss_cons (ps_set (i := 9) sc_law.nd rfl (.inr rfl) (pe_dnewQ w))
      (pss_cons (ps_for PassesOwn.never rfl (piL K (pv 8)) (pg_name (i := 10) sc_law.nd rfl (.inl rfl)) (pss_cons (ps_if (pt_not (pt_val (pe_call G_l_refused (hr.mono (by omega)) (by rfl) T.g_l_refused T.F_l_refused.kp T.b_l_refused .nil pass0 (pa_cons (pv 6) (pa_cons (pv 10) (pa_cons pe_bl pa_nil)))))) (pss_one (ps_ret pe_bl)) pss_nil)
      (pss_cons (ps_asg (pe_op op_add pe_int (pe_call G_l_lot (hr.mono (by omega)) (by rfl) T.g_l_lot T.F_l_lot.kp T.b_l_lot .nil pass0 (pa_cons (pv 1) (pa_cons pe_int pa_nil)))) (pg_sub (pv 9) (pv 10) (setQ w hr.units)))
      (pss_one (ps_expr (pe_methX (pv 6) T.cl_Chosen T.m_Chosen_ask G_Chosen_ask (hr.mono (by omega)) T.b_Chosen_ask (fun σ => passNo σ) (pa_cons (pv 10) (pa_cons (pe_dixQ w hr.units (pv 9) (pv 10) (fun _ _ => rfl)) pa_nil))))))))
      (pss_cons (ps_if (PW.pt (pw_or (pt_not (pt_val (pe_call G_l_refused (hr.mono (by omega)) (by rfl) T.g_l_refused T.F_l_refused.kp T.b_l_refused .nil pass0 (pa_cons (pv 6) (pa_cons (pe_ix (ixL K) (pv 7) pe_int (fun _ _ => rfl)) (pa_cons pe_bl pa_nil)))))) (pw_or1 (pt_not (pt_val (pe_call G_l_refused (hr.mono (by omega)) (by rfl) T.g_l_refused T.F_l_refused.kp T.b_l_refused .nil pass0 (pa_cons (pv 6) (pa_cons (pe_ix (ixL K) (pv 7) pe_int (fun _ _ => rfl)) (pa_cons pe_bl pa_nil))))))))) (pss_one (ps_ret pe_bl)) pss_nil)
      (pss_cons (ps_if (pt_not (pt_val (pe_call G_l_others_refused (hr.mono (by omega)) (by rfl) T.g_l_others_refused T.F_l_others_refused.kp T.b_l_others_refused .nil pass0 (pa_cons (pv 6) (pa_cons (pv 3) (pa_cons (pv 8) pa_nil)))))) (pss_one (ps_ret pe_bl)) pss_nil)
      (pss_cons (ps_set (i := 11) sc_law.nd rfl (.inl rfl) (pe_ix (ixL K) (pv 8) (pe_call G_l_lot (hr.mono (by omega)) (by rfl) T.g_l_lot T.F_l_lot.kp T.b_l_lot .nil pass0 (pa_cons (pv 1) (pa_cons pe_int pa_nil))) (fun _ _ => rfl)))
      (pss_cons (ps_expr (pe_methX (pv 6) T.cl_Chosen T.m_Chosen_ask G_Chosen_ask (hr.mono (by omega)) T.b_Chosen_ask (fun σ => passNo σ) (pa_cons (pv 11) (pa_cons pe_int pa_nil))))
      (pss_cons (ps_asg (pe_op op_add (pe_dixQ w hr.units (pv 9) (pv 11) (fun _ _ => rfl)) pe_int) (pg_sub (pv 9) (pv 11) (setQ w hr.units)))
      (pss_cons (ps_set (i := 12) sc_law.nd rfl (.inr rfl) (pe_ix (ixL K) (pv 8) (pe_call G_l_lot (hr.mono (by omega)) (by rfl) T.g_l_lot T.F_l_lot.kp T.b_l_lot .nil pass0 (pa_cons (pv 1) (pa_cons pe_int pa_nil))) (fun _ _ => rfl)))
      (pss_cons (ps_expr (pe_methX (pv 6) T.cl_Chosen T.m_Chosen_leave G_Chosen_leave (hr.mono (by omega)) T.b_Chosen_leave (fun σ => passNo σ) (pa_cons (pv 12) pa_nil)))
      (pss_cons (ps_if (pt_not (pt_val (pe_call G_l_refused (hr.mono (by omega)) (by rfl) T.g_l_refused T.F_l_refused.kp T.b_l_refused .nil pass0 (pa_cons (pv 6) (pa_cons (pv 12) (pa_cons pe_bl pa_nil)))))) (pss_one (ps_ret pe_bl)) pss_nil)
      (pss_cons (ps_expr (pe_methX (pv 6) T.cl_Chosen T.m_Chosen_ask G_Chosen_ask (hr.mono (by omega)) T.b_Chosen_ask (fun σ => passNo σ) (pa_cons (pe_ix (ixL K) (pv 7) pe_int (fun _ _ => rfl)) (pa_cons pe_int pa_nil))))
      (pss_cons (ps_if (pt_not (pt_val (pe_call G_l_refused (hr.mono (by omega)) (by rfl) T.g_l_refused T.F_l_refused.kp T.b_l_refused .nil pass0 (pa_cons (pv 6) (pa_cons (pv 12) (pa_cons pe_bl pa_nil)))))) (pss_one (ps_ret pe_bl)) pss_nil)
      (pss_cons (ps_for PassesOwn.never rfl (pi_range1 (by rfl) T.m_range (pa_cons pe_int pa_nil)) (pg_name (i := 13) sc_law.nd rfl (.inl rfl)) (pss_one (ps_expr (pe_methX (pv 6) T.cl_Chosen T.m_Chosen_ask G_Chosen_ask (hr.mono (by omega)) T.b_Chosen_ask (fun σ => passNo σ) (pa_cons (pe_ix (ixL K) (pv 7) pe_int (fun _ _ => rfl)) (pa_cons pe_int pa_nil))))))
      (pss_cons (ps_asg pe_int (pg_sub (pv 9) (pe_ix (ixL K) (pv 7) pe_int (fun _ _ => rfl)) (setQ w hr.units)))
      (pss_cons (ps_set (i := 14) sc_law.nd rfl (.inl rfl) (pe_callTy (cTupSq K) (by rfl) T.m_tuple (by decide +kernel) (pa_cons (pe_lc (own := [("one", 15)]) (tt := _) (by rfl) sc_law.nd (piL K (pe_op op_cat (pv 8) (pe_lst (pa_cons (pe_ix (ixL K) (pv 7) pe_int (fun _ _ => rfl)) pa_nil)))) (blkOk_by (own := [("one", 15)]) (by kernel_rfl)) (fun _ _ _ _ _ => (pg_name (i := 15) sc_law.nd rfl (.inl rfl))) (fun _ _ _ _ _ => (pts_one (pt_cmpR (neDK K hr.units) (pv 15) (pv 12) (nomark _)))) (fun _ _ _ _ _ => (pe_tup (pa_cons (pv 15) (pa_cons (pe_dixQ w hr.units (pv 9) (pv 15) (fun _ _ => rfl)) pa_nil))))) pa_nil)))
      (pss_cons (ps_if (pt_not (pt_val (pe_call G_l_last_right (hr.mono (by omega)) (by rfl) T.g_l_last_right T.F_l_last_right.kp T.b_l_last_right .nil pass0 (pa_cons (pv 6) (pa_cons (pe_tup (pa_cons (pv 3) (pa_cons (pv 14) (pa_cons (pv 4) pa_nil)))) (pa_cons (pv 5) pa_nil)))))) (pss_one (ps_ret pe_bl)) pss_nil)
      (pss_one (ps_ret (pe_or (pe_cmpR op_ne (pe_op op_mod (pe_callB (cLenSq K) (by rfl) T.m_len (by decide +kernel) (pa_cons (pv 0) pa_nil)) pe_int) pe_int (nomark _)) (pe_one (pe_call0 G_l_often_right (hr.mono (by omega)) (by rfl) T.g_l_often_right T.F_l_often_right.kp T.b_l_often_right .nil pass0))))))))))))))))))))))))))))), ?_⟩
    refine ⟨.ref a, rfl, a, ns, rfl, hS, hlen, fun b bl H1 sm1 nb nbl hB1 => ?_⟩
    have tg1 := tg.same sm1
    have tab1 := tab_same tabA sm1
    have tabR1 := tab_same tabRA sm1
    have hS1 := Same.seq sm1 hS
    refine ⟨.ref b, rfl, b, bl, 4, rfl, hB1, by decide, by decide, fun g H2 kp2 hB2 g0 g1 => ?_⟩
    have tg2 := tg1.kb hB1 kp2
    have tab2 := tab_kb tab1 hB1 kp2
    have tabR2 := tab_kb tabR1 hB1 kp2
    have hS2 := seqL_kb hS1 hB1 kp2
    clear tg1 tab1 tabR1 kp2 hB1 sm1 nb nbl
    have four : ∀ (x y z : Nat), ∃ n : Nat, L2.atI [V.int x, .int y, .int z, .int z] g = some (.int (n : Int)) ∧ (n = x ∨ n = y ∨ n = z) := fun x y z => by
      have : g = 0 ∨ g = 1 ∨ g = 2 ∨ g = 3 := by omega
      rcases this with e | e | e | e <;> rw [e]
      · exact ⟨x, rfl, .inl rfl⟩
      · exact ⟨y, rfl, .inr (.inl rfl)⟩
      · exact ⟨z, rfl, .inr (.inr rfl)⟩
      · exact ⟨z, rfl, .inr (.inr rfl)⟩
    obtain ⟨mc, hmc, mc1⟩ := four 4 2 3
    obtain ⟨mr, hmr, mr1⟩ := four 10 40 8
    obtain ⟨mm, hmm, mm1⟩ := four 3 7 4
    -- table
    refine ⟨.ref b, rfl, (by show 4 ≤ sizeLine; decide), fun L1 nL1 => ⟨.int g, rfl, L1, _, g, .int mc, rfl, rfl, .inl (.inl upd_same), hmc, (by show 4 ≤ sizeLine; decide), fun L2' nL2 => ⟨.int g, rfl, L2', _, g, .int mr, rfl, rfl, .inl (.inl upd_same), hmr, ?_⟩⟩⟩
    have smL : Same H2 (upd (upd H2 L1 (.lst [.int 4, .int 2, .int 3, .int 3])) L2' (.lst [.int 10, .int 40, .int 8, .int 8])) := Same.new (Same.new (Same.refl H2) nL1) nL2
    generalize upd (upd H2 L1 (.lst [.int 4, .int 2, .int 3, .int 3])) L2' (.lst [.int 10, .int 40, .int 8, .int 8]) = H3 at smL ⊢
    have hB3 := hB2.same smL
    refine ⟨b, bl, mc, mr, rfl, hB3, by omega, by omega, by omega, fun cols rows tv H4 kp4 hB4 fT4 hc hc1 hc4 hrs hrl => ?_⟩
    have tg4 := (tg2.same smL).kb hB3 kp4
    have tab4 := tab_kb (tab_same tab2 smL) hB3 kp4
    have tabR4 := tab_kb (tab_same tabR2 smL) hB3 kp4
    have hS4 := seqL_kb (Same.seq smL hS2) hB3 kp4
    clear tg2 tab2 tabR2 kp4 hB3 smL nL1 nL2 hB2 hmc hmr
    -- changes
    refine ⟨.ref b, rfl, b, bl, 4, rfl, hB4, by decide, by decide, fun chg H5 kp5 hB5 cg0 cg1 => ?_⟩
    have fT5 := fT4.kt (kp5.kTb hB4).1
    have tg5 := tg4.kb hB4 kp5
    have tab5 := tab_kb tab4 hB4 kp5
    have tabR5 := tab_kb tabR4 hB4 kp5
    have hS5 := seqL_kb hS4 hB4 kp5
    clear tg4 tab4 tabR4 kp5 hB4 fT4
    -- most
    refine ⟨.ref b, rfl, (by show 4 ≤ sizeLine; decide), fun L3 nL3 => ⟨.int g, rfl, L3, _, g, .int mm, rfl, rfl, .inl (.inl upd_same), hmm, ?_⟩⟩
    have smL := Same.new (o := .lst [.int 3, .int 7, .int 4, .int 4]) (Same.refl H5) nL3
    generalize upd H5 L3 (.lst [.int 3, .int 7, .int 4, .int 4]) = H6 at smL ⊢
    have hB6 := hB5.same smL
    refine ⟨b, bl, mm, rfl, hB6, by omega, by omega, fun ms H7 kp7 hB7 m0 m1 => ?_⟩
    obtain ⟨room, rfl⟩ : ∃ room : Nat, ms = room := ⟨ms.toNat, by omega⟩
    have fT7 := (fT5.kt (Same.kt smL)).kt (kp7.kTb hB6).1
    have tg7 := (tg5.same smL).kb hB6 kp7
    have tab7 := tab_kb (tab_same tab5 smL) hB6 kp7
    have tabR7 := tab_kb (tab_same tabR5 smL) hB6 kp7
    have hS7 := seqL_kb (Same.seq smL hS5) hB6 kp7
    clear tg5 tab5 tabR5 kp7 hB6 fT5 hB5 smL nL3 hmm four
    -- the keeper
    refine ⟨tv, rfl, .int chg, rfl, .int room, rfl, fun p dx np ndx nex => ?_⟩
    have sm9 : Same H7 (upd (upd H7 dx (.own p)) p (.ins Z.C_Chosen dx [])) := fun b o e => by
      rw [upd_ne (ne_of_none e np), upd_ne (ne_of_none e ndx)]
      exact e
    have hp9 : (upd (upd H7 dx (.own p)) p (.ins Z.C_Chosen dx [])) p = some (.ins Z.C_Chosen dx []) := upd_same
    generalize upd (upd H7 dx (.own p)) p (.ins Z.C_Chosen dx []) = H9 at sm9 hp9 ⊢
    refine ⟨p, dx, tv, cols, rows, chg, room, rfl, hp9, (fT7.kt (Same.kt sm9)), fun wp d HA kpA nwp nd hC => ⟨rfl, ?_⟩⟩
    have smA : Same H7 HA := Same.kpN sm9 np kpA
    have h122 : ∀ c ∈ cols, c ≤ 122 := fun c hc' => (hc.az c hc').2
    have hBA := hB7.same smA
    have tgA' := tg7.same smA
    have tabA' := tab_same tab7 smA
    have tabRA' := tab_same tabR7 smA
    have hSA := Same.seq smA hS7
    have fTA := fT7.kt (Same.kt smA)
    have cho0 := cho_nil (cols := cols) (rows := rows) (chg := chg) (room := room) hrs (by omega) hc.nd (by omega) cg0 (by omega) (by omega)
    clear hB7 tg7 tab7 tabR7 fT7 sm9 hp9 kpA smA nwp nd np ndx nex
    -- the pool
    refine ⟨.ref b, rfl, tv, rfl, b, bl, tv, cols, rows, rfl, hBA, fTA, hc, hc1, by omega, hrs, by omega, fun L vs qs H8 kp8 hB8 nL hL qa h6 h13 hnd hqo => ?_⟩
    have kT8 := kp8.kTb hBA
    have nLb := hBA.ne nL
    have P0 : PL w Z H8 b bl L p wp d tv cols rows chg room vs qs [] [] 0 0 := by
      obtain ⟨xs, hb⟩ : ∃ xs, HA b = some (.lst xs) := let ⟨_, _, _, _, h1, _⟩ := hBA; ⟨_, h1⟩
      obtain ⟨⟨dx, f, h1⟩, ⟨dw, f2, h2⟩, kvs, h3⟩ := hC.kinds
      refine ⟨hB8, tgA'.kb hBA kp8, tab_kb tabA' hBA kp8, hC.keep (fun c hc o e => kp8 c o (fun z => ?_) e) kT8, cho0, hL, qa, nLb⟩
      simp only [List.mem_cons, List.not_mem_nil, or_false] at hc
      rcases hc with y | y | y
      · rw [← y, z, hb] at h1
        cases h1
      · rw [← y, z, hb] at h2
        cases h2
      · rw [← y, z, hb] at h3
        cases h3
    have tabR8 := tab_kb tabRA' hBA kp8
    have hS8 := seqL_kb hSA hBA kp8
    clear kp8 hB8 tgA' tabA' tabRA' hC hBA kT8 fTA hL qa nL
    -- those that are asked
    refine ⟨.ref L, rfl, 5, rfl, L, vs, rfl, .inl (.inl P0.hL), fun A nA => ?_⟩
    rw [show (5 : Int) = ((5 : Nat) : Int) from rfl, cut_to]
    have smT := Same.new (o := .lst (vs.take 5)) (Same.refl H8) nA
    have nAb := P0.bag.ne nA
    have hA9 : (upd H8 A (.lst (vs.take 5))) A = some (.lst (vs.take 5)) := upd_same
    have P1 := P0.same T smT
    have qA9 := P1.qa.take 5
    have tabR9 := tab_same tabR8 smT
    have hS9 := Same.seq smT hS8
    generalize upd H8 A (.lst (vs.take 5)) = H9 at smT hA9 P1 qA9 tabR9 hS9 ⊢
    refine fun D nD => ?_
    have smD := Same.new (o := dicQ w D []) (Same.refl H9) nD
    have P2 := P1.same T smD
    have K0 : PK w Z K a ns (upd H9 D (dicQ w D [])) b bl L p wp d A D tv cols rows chg room vs qs (vs.take 5) (qs.take 5) [] [] 0 0 [] := ⟨P2, tab_same tabR9 smD, smD _ _ hA9, qA9.kT (Same.kT smD), nAb, upd_same, (fun x hx => nomatch hx), (fun z => by
      obtain ⟨_, _, kd, h3⟩ := P1.c.kinds
      rw [← z, nD] at h3
      cases h3), Same.seq smD hS9⟩
    generalize upd H9 D (dicQ w D []) = H10 at K0 ⊢
    clear P0 tabR8 nAb smT hA9 P1 qA9 tabR9 smD P2 nD nA cho0
    have l5 : (qs.take 5).length = 5 := by rw [List.length_take]; omega
    have hq5 : ∀ q ∈ qs.take 5, QOk cols q.1 q.2 := fun q hq => hqo q (List.mem_of_mem_take hq)
    have hnd5 : (qs.take 5).Nodup := hnd.sublist (List.take_sublist 5 qs)
    obtain ⟨q6, hq6⟩ : ∃ q6, qs[5]? = some q6 := ⟨_, List.getElem?_eq_getElem (by omega)⟩
    have hn6 : q6 ∉ qs.take 5 := fun z => by
      obtain ⟨i, hi, e⟩ := List.mem_iff_getElem.mp z
      obtain ⟨h5, e5⟩ := List.getElem?_eq_some_iff.mp hq6
      have hi5 : i < 5 := by omega
      rw [List.getElem_take] at e
      have := (List.getElem_inj (h₀ := by omega) (h₁ := h5) hnd).mp (e.trans e5.symm)
      omega
    have hqo6 := hqo q6 (List.mem_of_getElem? hq6)
    generalize hu5 : vs.take 5 = us at K0 ⊢
    generalize hq5' : qs.take 5 = q5 at K0 l5 hq5 hnd5 hn6 ⊢
    have lu : us.length = 5 := K0.qA.len.trans l5
    have rm : room ≤ 89 := by omega
    -- all of them asked
    refine ⟨.ref A, rfl, A, rfl, ⟨_, .inl (.inl K0.hA)⟩, for_it (walk_list (xs := us)) (fun j σ G => ∃ (y : Option V) (as : List Ask) (ch : List (List Nat)) (ls mk : Int) (kvs : KvQ), σ = [some (.ref a), some (.ref b), some (.int g), some tv, some (.int chg), some (.int room), some (.ref p), some (.ref L), some (.ref A), some (.ref D), y, none, none, none, none, none] ∧ PK w Z K a ns G b bl L p wp d A D tv cols rows chg room vs qs us q5 as ch ls mk kvs ∧ qsOf as = q5.take j ∧ Syn kvs as ∧ (∀ a ∈ as, a.often ≤ 9) ∧ kvs.length ≤ j)
      ⟨none, [], [], 0, 0, [], rfl, K0, rfl, (fun a h => nomatch h), (fun a h => nomatch h), Nat.le_refl _⟩ (fun j σ G _ hP => ?_) (fun j x σ G2 G hj hP hY => ?_) (fun σ G hP => ?_)⟩
    · obtain ⟨y, as, ch, ls, mk, kvs, rfl, P, _⟩ := hP
      exact .inl (.inl P.hA)
    · obtain ⟨y, as, ch, ls, mk, kvs, rfl, P, eqs, syn, bd, kl⟩ := hP
      obtain ⟨rfl, hx⟩ := hY
      have hj5 : j < q5.length := by omega
      obtain ⟨v, hv, fq⟩ := P.qA.at (List.getElem?_eq_getElem hj5)
      obtain rfl : v = x := Option.some.inj (hv.symm.trans hx)
      obtain ⟨qv, rfl⟩ := fq.ref
      have qok := hq5 _ (List.getElem_mem hj5)
      have no : q5[j] ∉ qsOf as := fun z => by
        rw [eqs] at z
        obtain ⟨i, hi, e⟩ := List.mem_iff_getElem.mp z
        rw [List.length_take] at hi
        rw [List.getElem_take] at e
        have := (List.getElem_inj (h₀ := by omega) (h₁ := hj5) hnd5).mp e
        omega
      have al : as.length = j := by
        have := congrArg List.length eqs
        unfold qsOf at this
        rw [List.length_map, List.length_take] at this
        omega
      refine ⟨.ref p, rfl, .ref qv, rfl, p, wp, d, qv, tv, cols, rows, chg, room, as, ch, ls, mk, q5[j], false, rfl, P.pl.c, P.pl.C, P.pl.tg, P.pl.tab, P.tabR, fq, no, (fun z => nomatch z), h122, fun G1 k1 tab1 => ⟨true, rfl, iteF ?_⟩⟩
      have P1 := P.kr T k1 tab1
      refine ⟨.ref b, rfl, b, bl, 9, rfl, P1.pl.bag, by decide, by decide, fun x G2 k2 hB2 x0 x1 => ⟨1, x, rfl, rfl, ?_⟩⟩
      have P2 := P1.kb k2 hB2
      obtain ⟨v2, hv2, fq2⟩ := P2.qA.at (List.getElem?_eq_getElem hj5)
      obtain rfl : v2 = .ref qv := Option.some.inj (hv2.symm.trans hx)
      refine ⟨.ref D, rfl, .ref qv, rfl, qv, D, kvs, nkQ q5[j], 1 + x, rfl, rfl, rfl, P2.hD, P2.ks, fq2.ky, nkQ_depth _, by omega, ?_⟩
      have P3 := P2.put (P2.ks.put (n := 1 + x) fq2.ky (nkQ_depth _))
      have fq3 := fq2.kT (KT.dic (o := dicQ w D (putQ kvs (nkQ q5[j]) qv (1 + x))) P2.hD)
      generalize upd G2 D (dicQ w D (putQ kvs (nkQ q5[j]) qv (1 + x))) = G3 at P3 fq3 ⊢
      obtain ⟨dx3, cp3, hp3, _⟩ := P3.pl.c.self
      have hasN := P3.pl.C.has.new qok (n := 1 + x) (by omega) (by omega) (by omega)
      refine ⟨.ref p, rfl, p, dx3, _, rfl, hp3, chF7_no_ask _ _ _ _ _ _ _, .ref qv, rfl, .ref D, rfl, .ref qv, rfl, qv, D, _, nkQ q5[j], 1 + x, rfl, rfl, P3.hD, P3.ks, fq3.ky, nkQ_depth _, (by rw [val_put, if_pos rfl]), ?_⟩
      refine ⟨p, wp, d, qv, tv, cols, rows, chg, room, as, ch, ls, mk, q5[j], 1 + x, rfl, P3.pl.c, P3.pl.C.rdy, P3.pl.tg, P3.pl.tab, fq3, by omega, (fun z => absurd (.inr (by omega)) z), (fun _ => by rw [moreA_new no]; exact hasN), fun _ ch' ls' mk' G4 sx4 tg4 tab4 hC4 ch4 => ?_⟩
      rw [moreA_new no] at hC4 ch4
      refine ⟨_, _, ch', ls', mk', _, rfl, P3.told T sx4 tg4 tab4 hC4 (ch4.cho P3.pl.C.rdy hasN), ?_, syn.new no, fun a ha => ?_, ?_⟩
      · rw [List.take_succ_eq_append_getElem hj5, ← eqs]
        unfold qsOf
        rw [List.map_append]
        rfl
      · rcases List.mem_append.mp ha with z | z
        · exact bd a z
        · rw [List.mem_singleton.mp z]
          show 1 + x ≤ 9
          omega
      · exact Nat.le_trans (@putQ_len kvs (nkQ q5[j]) qv (1 + x)) (Nat.succ_le_succ kl)
    obtain ⟨yq, as, ch, ls, mk, kvs, rfl, P, eqs, syn, bd, kl⟩ := hP
    rw [lu, ← l5, List.take_of_length_le (Nat.le_refl _)] at eqs
    clear K0
    have kl5 : kvs.length ≤ 5 := by omega
    have al5 : as.length = 5 := by
      have := congrArg List.length eqs
      unfold qsOf at this
      rw [List.length_map] at this
      omega
    clear kl
    -- the sixth one, twice
    obtain ⟨v6, hv6, fq6⟩ := P.pl.qa.at hq6
    obtain ⟨qv6, rfl⟩ := fq6.ref
    have no6 : q6 ∉ qsOf as := by rw [eqs]; exact hn6
    have at6 : L2.atI vs 5 = some (.ref qv6) := atI_nat (j := 5) hv6
    refine ⟨.ref p, rfl, .ref L, rfl, L, vs, 5, .ref qv6, rfl, rfl, .inl (.inl P.pl.hL), at6, ?_⟩
    refine ⟨p, wp, d, qv6, tv, cols, rows, chg, room, as, ch, ls, mk, q6, true, rfl, P.pl.c, P.pl.C, P.pl.tg, P.pl.tab, P.tabR, fq6, no6, (fun _ => al5), h122, fun G1 k1 tab1 => ⟨true, rfl, iteF ?_⟩⟩
    have P1 := P.kr T k1 tab1
    obtain ⟨v6b, hv6b, fq6b⟩ := P1.pl.qa.at hq6
    obtain rfl : v6b = .ref qv6 := Option.some.inj (hv6b.symm.trans hv6)
    refine ⟨.ref p, rfl, .ref L, rfl, L, vs, 5, .ref qv6, rfl, rfl, .inl (.inl P1.pl.hL), at6, ?_⟩
    refine ⟨p, wp, d, qv6, tv, cols, rows, chg, room, as, ch, ls, mk, q6, false, rfl, P1.pl.c, P1.pl.C, P1.pl.tg, P1.pl.tab, P1.tabR, fq6b, no6, (fun z => nomatch z), h122, fun G2 k2 tab2 => ⟨true, rfl, iteF ?_⟩⟩
    have P2 := P1.kr T k2 tab2
    clear P P1 fq6 fq6b k1 tab1 k2 tab2 hv6b
    -- others
    refine ⟨.ref p, rfl, tv, rfl, .ref A, rfl, p, wp, d, A, tv, cols, rows, chg, room, us, q5, as, ch, ls, mk, rfl, P2.pl.c, P2.pl.C, P2.pl.tg, P2.pl.tab, P2.tabR, P2.hA, P2.qA, hq5, by omega, (fun q hq => by rw [← eqs]; exact hq), h122, hc1, fun G3 k3 tab3 => ⟨true, rfl, iteF ?_⟩⟩
    have P3 := P2.kr T k3 tab3
    clear P2 k3 tab3
    -- one asked more often
    refine ⟨.ref A, rfl, .ref b, rfl, b, bl, 5, rfl, P3.pl.bag, by decide, by decide, fun x G4 k4 hB4 x0 x1 => ?_⟩
    have P4 := P3.kb k4 hB4
    clear P3 k4 hB4
    obtain ⟨xn, rfl⟩ : ∃ xn : Nat, x = xn := ⟨x.toNat, by omega⟩
    have hx5 : xn < q5.length := by omega
    obtain ⟨vm, hvm, fm⟩ := P4.qA.at (List.getElem?_eq_getElem hx5)
    obtain ⟨qm, rfl⟩ := fm.ref
    obtain ⟨qq, eqq⟩ : ∃ qq, q5[xn] = qq := ⟨_, rfl⟩
    have hqq : qq ∈ q5 := eqq ▸ List.getElem_mem hx5
    rw [eqq] at fm
    refine ⟨A, us, xn, .ref qm, rfl, rfl, .inl (.inl P4.hA), atI_nat hvm, ?_⟩
    have hmo : qq ∈ qsOf as := by rw [eqs]; exact hqq
    obtain ⟨dx4, cp4, hp4, _⟩ := P4.pl.c.self
    have hasM := P4.pl.C.has.more (q := qq) (n := 1) (B := 9) (hq5 qq hqq) (by decide) (by decide) bd (by decide) (.inl hmo)
    refine ⟨.ref p, rfl, p, dx4, _, rfl, hp4, chF7_no_ask _ _ _ _ _ _ _, .ref qm, rfl, p, wp, d, qm, tv, cols, rows, chg, room, as, ch, ls, mk, qq, 1, rfl, P4.pl.c, P4.pl.C.rdy, P4.pl.tg, P4.pl.tab, fm, by omega, (fun z => absurd (.inl hmo) z), (fun _ => hasM.1), fun _ ch' ls' mk' G5 sx5 tg5 tab5 hC5 ch5 => ?_⟩
    have P5 := P4.told T sx5 tg5 tab5 hC5 (ch5.cho P4.pl.C.rdy hasM.1)
    clear hC5 ch5 sx5 tg5 tab5
    obtain ⟨vm5, hvm5, fm5⟩ := P5.qA.at (List.getElem?_eq_getElem hx5)
    obtain rfl : vm5 = .ref qm := Option.some.inj (hvm5.symm.trans hvm)
    rw [eqq] at fm5
    refine ⟨.ref D, rfl, .ref qm, rfl, qm, D, kvs, nkQ qq, _, rfl, rfl, P5.hD, P5.ks, fm5.ky, nkQ_depth _, syn.val hmo, _, _, rfl, rfl, .ref D, rfl, .ref qm, rfl, qm, D, kvs, nkQ qq, _, rfl, rfl, rfl, P5.hD, P5.ks, fm5.ky, nkQ_depth _, by omega, ?_⟩
    have P6 := P5.put (P5.ks.put (n := oftenOf as qq + 1) fm5.ky (nkQ_depth qq))
    have syn6 := syn.more (qa := qm) (n := 1) hmo
    have eqs6 : qsOf (moreA as qq 1) = q5 := (qsOf_old hmo).trans eqs
    have bd6 := hasM.2
    have kl6 : (putQ kvs (nkQ qq) qm (oftenOf as qq + 1)).length ≤ 6 := Nat.le_trans putQ_len (Nat.succ_le_succ kl5)
    generalize upd G5 D (dicQ w D (putQ kvs (nkQ qq) qm (oftenOf as qq + 1))) = G6 at P6 ⊢
    generalize putQ kvs (nkQ qq) qm (oftenOf as qq + 1) = kvs6 at P6 syn6 kl6
    clear fm5 hvm5 fm hasM hp4 P4 P5 hmo
    generalize moreA as qq 1 = as6 at P6 syn6 eqs6 bd6
    clear syn bd kl5 al5 eqs no6
    have al6 : as6.length = 5 := by
      have := congrArg List.length eqs6
      unfold qsOf at this
      rw [List.length_map] at this
      omega
    -- one left
    refine ⟨.ref A, rfl, .ref b, rfl, b, bl, 5, rfl, P6.pl.bag, by decide, by decide, fun y G7 k7 hB7 y0 y1 => ?_⟩
    have P7 := P6.kb k7 hB7
    clear P6 k7 hB7
    obtain ⟨yn, rfl⟩ : ∃ yn : Nat, y = yn := ⟨y.toNat, by omega⟩
    have hy5 : yn < q5.length := by omega
    obtain ⟨vg, hvg, fg⟩ := P7.qA.at (List.getElem?_eq_getElem hy5)
    obtain ⟨qg, rfl⟩ := fg.ref
    obtain ⟨gn, egn⟩ : ∃ gn, q5[yn] = gn := ⟨_, rfl⟩
    have hgn : gn ∈ q5 := egn ▸ List.getElem_mem hy5
    rw [egn] at fg
    refine ⟨A, us, yn, .ref qg, rfl, rfl, .inl (.inl P7.hA), atI_nat hvg, ?_⟩
    have hgo : gn ∈ qsOf as6 := by rw [eqs6]; exact hgn
    obtain ⟨dx7, cp7, hp7, _⟩ := P7.pl.c.self
    have hasL := P7.pl.C.has.less gn
    refine ⟨.ref p, rfl, p, dx7, _, rfl, hp7, chF7_no_leave _ _ _ _ _ _ _, .ref qg, rfl, p, wp, d, qg, tv, cols, rows, chg, room, as6, _, _, _, gn, rfl, P7.pl.c, P7.pl.C.rdy, P7.pl.tg, P7.pl.tab, fg, by omega, (fun z => absurd hgo z), (fun _ => hasL), fun _ ch8 ls8 mk8 G8 sx8 tg8 tab8 hC8 ch8' => ?_⟩
    have P8 := P7.told T sx8 tg8 tab8 hC8 (ch8'.cho P7.pl.C.rdy hasL)
    have syn8 := syn6.less (q := gn)
    have eqs8 : qsOf (lessA as6 gn) = q5.filter fun x => decide (x ≠ gn) := (qsOf_less as6 gn).trans (by rw [eqs6])
    have bd8 : ∀ a ∈ lessA as6 gn, a.often ≤ 10 := fun a ha => bd6 a (List.mem_filter.mp ha).1
    generalize lessA as6 gn = as8 at P8 syn8 eqs8 bd8 hasL
    clear hC8 ch8' sx8 tg8 tab8 P7 hp7 fg syn6 eqs6 bd6 al6 hgo
    have al8 : as8.length = 4 := by
      have e1 := congrArg List.length eqs8
      unfold qsOf at e1
      rw [List.length_map] at e1
      have e2 : (q5.filter fun x => decide (x ≠ gn)) = q5.erase gn := (hnd5.erase_eq_filter gn).symm ▸ (List.filter_congr fun x _ => by
        by_cases e : x = gn
        · simp [e]
        · simp [e])
      rw [e2, List.length_erase_of_mem hgn] at e1
      omega
    have nog : gn ∉ qsOf as8 := fun z => by
      rw [eqs8] at z
      have := (List.mem_filter.mp z).2
      simp at this
    have no6 : q6 ∉ qsOf as8 := fun z => by
      rw [eqs8] at z
      exact hn6 (List.mem_filter.mp z).1
    -- that one again
    obtain ⟨vg8, hvg8, fg8⟩ := P8.qA.at (List.getElem?_eq_getElem hy5)
    obtain rfl : vg8 = .ref qg := Option.some.inj (hvg8.symm.trans hvg)
    rw [egn] at fg8
    refine ⟨.ref p, rfl, .ref qg, rfl, p, wp, d, qg, tv, cols, rows, chg, room, as8, ch8, ls8, mk8, gn, false, rfl, P8.pl.c, P8.pl.C, P8.pl.tg, P8.pl.tab, P8.tabR, fg8, nog, (fun z => nomatch z), h122, fun G9 k9 tab9 => ⟨true, rfl, iteF ?_⟩⟩
    have P9 := P8.kr T k9 tab9
    clear P8 k9 tab9 fg8 hvg8
    -- the sixth one asked
    obtain ⟨v69, hv69, fq69⟩ := P9.pl.qa.at hq6
    obtain rfl : v69 = .ref qv6 := Option.some.inj (hv69.symm.trans hv6)
    obtain ⟨dx9, cp9, hp9, _⟩ := P9.pl.c.self
    have has9 : ∀ m : Int, 1 ≤ m → m ≤ 1001000 → AsksOk cols (as8 ++ [⟨q6.1, q6.2, m⟩]) := fun m h1 h2 => P9.pl.C.has.new hqo6 h1 h2 (by omega)
    refine ⟨.ref p, rfl, p, dx9, _, rfl, hp9, chF7_no_ask _ _ _ _ _ _ _, .ref L, rfl, L, vs, 5, .ref qv6, rfl, rfl, .inl (.inl P9.pl.hL), at6, ?_⟩
    refine ⟨p, wp, d, qv6, tv, cols, rows, chg, room, as8, ch8, ls8, mk8, q6, 2, rfl, P9.pl.c, P9.pl.C.rdy, P9.pl.tg, P9.pl.tab, fq69, by omega, (fun z => absurd (.inr (by omega)) z), (fun _ => by rw [moreA_new no6]; exact has9 2 (by decide) (by decide)), fun _ ch10 ls10 mk10 G10 sx10 tg10 tab10 hC10 ch10' => ?_⟩
    rw [moreA_new no6] at hC10 ch10'
    have P10 := P9.told T sx10 tg10 tab10 hC10 (ch10'.cho P9.pl.C.rdy (has9 2 (by decide) (by decide)))
    clear hC10 ch10' sx10 tg10 tab10 P9 hp9 fq69 hv69
    -- the one that was left: refused
    obtain ⟨vg10, hvg10, fg10⟩ := P10.qA.at (List.getElem?_eq_getElem hy5)
    obtain rfl : vg10 = .ref qg := Option.some.inj (hvg10.symm.trans hvg)
    rw [egn] at fg10
    have nog10 : gn ∉ qsOf (as8 ++ [⟨q6.1, q6.2, 2⟩]) := fun z => by
      unfold qsOf at z
      rw [List.map_append] at z
      rcases List.mem_append.mp z with z | z
      · exact nog z
      · have e : gn = q6 := List.mem_singleton.mp z
        exact hn6 (e ▸ hgn)
    refine ⟨.ref p, rfl, .ref qg, rfl, p, wp, d, qg, tv, cols, rows, chg, room, _, ch10, ls10, mk10, gn, true, rfl, P10.pl.c, P10.pl.C, P10.pl.tg, P10.pl.tab, P10.tabR, fg10, nog10, (fun _ => by rw [List.length_append, al8]; rfl), h122, fun G11 k11 tab11 => ⟨true, rfl, iteF ?_⟩⟩
    have P11 := P10.kr T k11 tab11
    clear P10 k11 tab11 fg10 hvg10 nog10
    -- three times more
    refine ⟨3, rfl, by decide, by decide, for_range (fun i σ G => ∃ (y : Option V) (ch : List (List Nat)) (ls mk : Int), σ = [some (.ref a), some (.ref b), some (.int g), some tv, some (.int chg), some (.int room), some (.ref p), some (.ref L), some (.ref A), some (.ref D), yq, some (.ref qm), some (.ref qg), y, none, none] ∧ PK w Z K a ns G b bl L p wp d A D tv cols rows chg room vs qs us q5 (as8 ++ [⟨q6.1, q6.2, 2 + 1000 * (i : Int)⟩]) ch ls mk kvs6) ⟨_, _, _, _, rfl, P11⟩ (fun i σ G hi hP => ?_) (fun σ G hP => ?_)⟩
    · obtain ⟨y, ch, ls, mk, rfl, P⟩ := hP
      obtain ⟨v, hv, fq⟩ := P.pl.qa.at hq6
      obtain rfl : v = .ref qv6 := Option.some.inj (hv.symm.trans hv6)
      obtain ⟨dx, cp, hp, _⟩ := P.pl.c.self
      have em : moreA (as8 ++ [⟨q6.1, q6.2, 2 + 1000 * (i : Int)⟩]) q6 1000 = as8 ++ [⟨q6.1, q6.2, 2 + 1000 * ((i + 1 : Nat) : Int)⟩] := by
        rw [moreA_last no6]
        have : 2 + 1000 * (i : Int) + 1000 = 2 + 1000 * ((i + 1 : Nat) : Int) := by omega
        rw [this]
      have hasI := has9 (2 + 1000 * ((i + 1 : Nat) : Int)) (by omega) (by omega)
      have hin : q6 ∈ qsOf (as8 ++ [⟨q6.1, q6.2, 2 + 1000 * (i : Int)⟩]) := by
        unfold qsOf
        rw [List.map_append]
        exact List.mem_append_right _ (List.mem_singleton.mpr rfl)
      refine ⟨.ref p, rfl, p, dx, _, rfl, hp, chF7_no_ask _ _ _ _ _ _ _, .ref L, rfl, L, vs, 5, .ref qv6, rfl, rfl, .inl (.inl P.pl.hL), at6, ?_⟩
      refine ⟨p, wp, d, qv6, tv, cols, rows, chg, room, _, ch, ls, mk, q6, 1000, rfl, P.pl.c, P.pl.C.rdy, P.pl.tg, P.pl.tab, fq, P.pl.C.has.len, (fun z => absurd (.inl hin) z), (fun _ => by rw [em]; exact hasI), fun _ ch' ls' mk' G' sx' tg' tab' hC' chs' => ?_⟩
      rw [em] at hC' chs'
      exact ⟨_, ch', ls', mk', rfl, P.told T sx' tg' tab' hC' (chs'.cho P.pl.C.rdy hasI)⟩
    obtain ⟨y, ch, ls, mk, rfl, P⟩ := hP
    clear P11
    have e3002 : 2 + 1000 * (((3 : Int).toNat : Nat) : Int) = 3002 := by decide
    rw [e3002] at P
    -- how often, in the dict
    obtain ⟨v12, hv12, fq12⟩ := P.pl.qa.at hq6
    obtain rfl : v12 = .ref qv6 := Option.some.inj (hv12.symm.trans hv6)
    refine ⟨.ref D, rfl, .ref L, rfl, L, vs, 5, .ref qv6, rfl, rfl, .inl (.inl P.pl.hL), at6, ?_⟩
    refine ⟨qv6, D, kvs6, nkQ q6, 3002, rfl, rfl, rfl, P.hD, P.ks, fq12.ky, nkQ_depth _, by omega, ?_⟩
    have P13 := P.put (P.ks.put (n := 3002) fq12.ky (nkQ_depth q6))
    have syn13 := syn8.new (qa := qv6) (n := 3002) no6
    have eqs13 : qsOf (as8 ++ [⟨q6.1, q6.2, 3002⟩]) = (q5 ++ [q6]).filter fun x => decide (x ≠ gn) := by
      unfold qsOf
      rw [List.map_append, List.filter_append]
      have e1 : ([q6].filter fun x => decide (x ≠ gn)) = [q6] := by
        have ne6 : q6 ≠ gn := fun z => hn6 (z ▸ hgn)
        rw [List.filter_cons, if_pos (decide_eq_true ne6)]
        rfl
      rw [e1]
      exact congrArg (· ++ [q6]) eqs8
    generalize upd G D (dicQ w D (putQ kvs6 (nkQ q6) qv6 3002)) = G13 at P13 ⊢
    generalize putQ kvs6 (nkQ q6) qv6 3002 = kvs13 at P13 syn13
    clear P fq12 hv12 syn8
    -- those that are left
    obtain ⟨v14, hv14, fq14⟩ := P13.pl.qa.at hq6
    obtain rfl : v14 = .ref qv6 := Option.some.inj (hv14.symm.trans hv6)
    refine ⟨.ref A, rfl, .ref L, rfl, L, vs, 5, .ref qv6, rfl, rfl, .inl (.inl P13.pl.hL), at6, (by show 1 ≤ sizeLine; decide), fun M nM => ?_⟩
    have smM := Same.new (o := .lst [.ref qv6]) (Same.refl G13) nM
    have hM : (upd G13 M (.lst [.ref qv6])) M = some (.lst [.ref qv6]) := upd_same
    generalize upd G13 M (.lst [.ref qv6]) = G14 at smM hM ⊢
    refine ⟨A, M, us, [.ref qv6], rfl, rfl, smM _ _ P13.hA, hM, (by rw [P13.qA.len, l5]; show 5 + 1 ≤ sizeLine; decide), fun N nN => ?_⟩
    have smN := Same.new (o := .lst (us ++ [.ref qv6])) smM nN
    have hN : (upd G14 N (.lst (us ++ [.ref qv6]))) N = some (.lst (us ++ [.ref qv6])) := upd_same
    have P15 := P13.same T smN
    have qaN : QA (upd G14 N (.lst (us ++ [.ref qv6]))) (us ++ [.ref qv6]) (q5 ++ [q6]) := P15.qA.snoc (fq14.kT (Same.kT smN))
    generalize upd G14 N (.lst (us ++ [.ref qv6])) = G15 at smN hN P15 qaN ⊢
    have hqo7 : ∀ x ∈ q5 ++ [q6], QOk cols x.1 x.2 := fun x hx => by
      rcases List.mem_append.mp hx with z | z
      · exact hq5 x z
      · rw [List.mem_singleton.mp z]
        exact hqo6
    have lN : (us ++ [V.ref qv6]).length = (q5 ++ [q6]).length := qaN.len
    obtain ⟨vgN, hvgN, fgN⟩ := P15.qA.at (List.getElem?_eq_getElem hy5)
    obtain rfl : vgN = .ref qg := Option.some.inj (hvgN.symm.trans hvg)
    rw [egn] at fgN
    have shp : ∀ {x : Qn}, QOk cols x.1 x.2 → SeqAt.shaped (qD x.1 x.2) = true := fun {x} h => by
      unfold SeqAt.shaped
      rw [lay_q h122 h]
      refine decide_eq_true ?_
      have := dep_q x.1 x.2
      omega
    refine ⟨N, rfl, ⟨_, .inl (.inl hN)⟩, fun R nR => lc_it (walk_list (xs := us ++ [.ref qv6])) (fun i G => Same G15 G ∧ ∃ ws, G R = some (.lst ws) ∧ AsksZ G ws (byD kvs13 (((q5 ++ [q6]).take i).filter fun x => decide (x ≠ gn))))
      ⟨Same.new (Same.refl G15) nR, [], upd_same, .nil⟩ (fun i G _ hP => .inl (.inl (hP.1 _ _ hN))) (fun i x G2 G hi hP hY => ?_) (fun G hP => ?_)⟩
    · obtain ⟨sm, ws, hR, az⟩ := hP
      obtain ⟨rfl, hx⟩ := hY
      have hi2 : i < (q5 ++ [q6]).length := by omega
      obtain ⟨v, hv, fq⟩ := qaN.at (List.getElem?_eq_getElem hi2)
      obtain rfl : v = x := Option.some.inj (hv.symm.trans hx)
      obtain ⟨qv, rfl⟩ := fq.ref
      have fqG := fq.kT (Same.kT sm)
      have fgG := fgN.kT (Same.kT sm)
      have qok := hqo7 _ (List.getElem_mem hi2)
      have PG := P15.same T sm
      have et : (q5 ++ [q6]).take (i + 1) = (q5 ++ [q6]).take i ++ [(q5 ++ [q6])[i]] := List.take_succ_eq_append_getElem hi2
      have mem : (q5 ++ [q6])[i] ∈ q5 ++ [q6] := List.getElem_mem hi2
      generalize (q5 ++ [q6])[i] = qi at fq fqG qok et mem
      refine ⟨rfl, .ref qv, rfl, .ref qg, rfl, qD qi.1 qi.2, qD gn.1 gn.2, fqG.dp, fgG.dp, ?_, ?_, _, rfl, ite2 (fun e => ?_) (fun e => ?_)⟩
      · exact shp qok
      · exact shp (hq5 gn hgn)
      · have ne : qi ≠ gn := fun z => by
          rw [z, SeqAt.eqv_refl _ (lay_q h122 (hq5 gn hgn))] at e
          cases e
        have hin : qi ∈ qsOf (as8 ++ [⟨q6.1, q6.2, 3002⟩]) := by
          rw [eqs13]
          exact List.mem_filter.mpr ⟨mem, decide_eq_true ne⟩
        refine ⟨.ref qv, rfl, .ref D, rfl, .ref qv, rfl, qv, D, kvs13, nkQ qi, _, rfl, rfl, PG.hD, PG.ks, fqG.ky, nkQ_depth _, syn13.val hin, (by show 2 ≤ sizeLine; decide), fun t nt => ?_⟩
        have vq := syn13.val hin
        generalize oftenOf (as8 ++ [⟨q6.1, q6.2, 3002⟩]) qi = oi at vq nt ⊢
        have eb : byD kvs13 (((q5 ++ [q6]).take (i + 1)).filter fun x => decide (x ≠ gn)) = byD kvs13 (((q5 ++ [q6]).take i).filter fun x => decide (x ≠ gn)) ++ [⟨qi.1, qi.2, oi⟩] := by
          rw [et, List.filter_append, List.filter_cons, if_pos (decide_eq_true ne), List.filter_nil]
          unfold byD
          rw [List.map_append, List.map_cons, vq]
          rfl
        have hR2 := keep_new (o := .tup [.ref qv, .int oi]) hR nt
        have ht : (upd G t (.tup [.ref qv, .int oi])) t = some (.tup [.ref qv, .int oi]) := upd_same
        have sm2 := Same.new (o := .tup [.ref qv, .int oi]) sm nt
        have az2 := az.kT (KT.new (o := .tup [.ref qv, .int oi]) nt)
        have fq2 := fqG.kT (KT.new (o := .tup [.ref qv, .int oi]) nt)
        generalize upd G t (.tup [.ref qv, .int oi]) = G3 at hR2 ht sm2 az2 fq2 ⊢
        refine ⟨ws, hR2, ?_, Same.mut sm2 nR, ws ++ [.ref t], upd_same, ?_⟩
        · have e1 := az2.len
          unfold byD at e1
          rw [List.length_map] at e1
          have e2 := List.length_filter_le (fun x : Qn => decide (x ≠ gn)) ((q5 ++ [q6]).take i)
          rw [List.length_take] at e2
          have e3 : (q5 ++ [q6]).length = 6 := by rw [List.length_append, l5]; rfl
          exact small1000 (by omega)
        · rw [eb]
          exact asks_snoc (az2.kT (KT.lst hR2)) ⟨t, .ref qv, rfl, (KT.lst hR2).1 _ _ ht, fq2.kT (KT.lst hR2)⟩
      · have eq : qi = gn := by
          apply Classical.byContradiction
          intro z
          have := eqv_q qi gn
          rw [decide_eq_false z] at this
          rw [this] at e
          exact e rfl
        refine ⟨sm, ws, hR, ?_⟩
        rw [et, List.filter_append, List.filter_cons, if_neg (by rw [eq]; simp), List.filter_nil, List.append_nil]
        exact az
    obtain ⟨sm, ws, hR, az⟩ := hP
    rw [lN, List.take_of_length_le (Nat.le_refl _), ← eqs13, syn13.is] at az
    have PG := P15.same T sm
    refine ⟨R, _, rfl, .inl ⟨.inl (.inl hR), fun lt nlt => ?_⟩⟩
    have smT := Same.new (o := .tup ws) (Same.refl G) nlt
    have hlt : (upd G lt (.tup ws)) lt = some (.tup ws) := upd_same
    have azT := az.kT (Same.kT smT)
    have PT := PG.same T smT
    generalize upd G lt (.tup ws) = G20 at hlt azT PT ⊢
    clear PG P13 P15 az sm smT smM smN qaN hN hM fgN fq14
    refine ⟨.ref p, rfl, tv, rfl, .ref lt, rfl, .int chg, rfl, (by show 3 ≤ sizeLine; decide), fun wk nwk => ?_⟩
    have smW := Same.new (o := .tup [tv, .ref lt, .int chg]) (Same.refl G20) nwk
    have hW : WorkZ (upd G20 wk (.tup [tv, .ref lt, .int chg])) (.ref wk) cols rows (as8 ++ [⟨q6.1, q6.2, 3002⟩]) chg := ⟨wk, tv, lt, ws, rfl, upd_same, PT.pl.c.tab.kt (Same.kt smW), smW _ _ hlt, azT.kT (Same.kT smW)⟩
    have PW := PT.same T smW
    generalize upd G20 wk (.tup [tv, .ref lt, .int chg]) = G21 at hW PW ⊢
    refine ⟨.int room, rfl, p, wp, d, .ref wk, tv, cols, rows, chg, room, _, ch, ls, mk, rfl, PW.pl.c, PW.pl.C, PW.pl.tg, PW.pl.tab, hW, h122, fun G22 sx22 tg22 tab22 => ⟨true, rfl, iteF ?_⟩⟩
    have scr := Sx.seqL PW.pl.tgL sx22 PW.scr
    refine ⟨.ref a, rfl, a, _, rfl, .inl scr, _, 8, rfl, rfl, (by show (0 : Int) < 8; decide), rfl, _, rfl, ite2 (fun _ => q _) (fun _ => ?_)⟩
    exact ⟨rfl, tg22, tab22, fun H' => q H'⟩

end
/-! ### the head: facts by names, the run -/
def df0 : He.DefD := ⟨("lists_of", none), "lists_of", "lists_of", defArgs s_lists_of, defBody s_lists_of, defScope s_lists_of, [], []⟩
def df1 : He.DefD := ⟨("picked", none), "picked", "picked", defArgs s_picked, defBody s_picked, defScope s_picked, [], []⟩
def df2 : He.DefD := ⟨("letters_of", none), "letters_of", "letters_of", defArgs s_letters_of, defBody s_letters_of, defScope s_letters_of, [], []⟩
def df3 : He.DefD := ⟨("spans", none), "spans", "spans", defArgs s_spans, defBody s_spans, defScope s_spans, [], []⟩
def df4 : He.DefD := ⟨("used", none), "used", "used", defArgs s_used, defBody s_used, defScope s_used, [], []⟩
def df5 : He.DefD := ⟨("stretch", none), "stretch", "stretch", defArgs s_stretch, defBody s_stretch, defScope s_stretch, [], []⟩
def df6 : He.DefD := ⟨("price_by", none), "price_by", "price_by", defArgs s_price_by, defBody s_price_by, defScope s_price_by, [], []⟩
def df7 : He.DefD := ⟨("price_of", none), "price_of", "price_of", defArgs s_price_of, defBody s_price_of, defScope s_price_of, [], []⟩
def df8 : He.DefD := ⟨("upkeep", none), "upkeep", "upkeep", defArgs s_upkeep, defBody s_upkeep, defScope s_upkeep, [], []⟩
def df9 : He.DefD := ⟨("price", none), "price", "price", defArgs s_price, defBody s_price, defScope s_price, [], []⟩
def df10 : He.DefD := ⟨("room", none), "room", "room", defArgs s_room, defBody s_room, defScope s_room, [], []⟩
def df11 : He.DefD := ⟨("prices_by", none), "prices_by", "prices_by", defArgs s_prices_by, defBody s_prices_by, defScope s_prices_by, [], []⟩
def df12 : He.DefD := ⟨("Sheet", some "__init__"), "__init__", "Sheet.__init__", defArgs s_Sheet___init__, defBody s_Sheet___init__, defScope s_Sheet___init__, [], []⟩
def df13 : He.DefD := ⟨("Sheet", some "asked"), "asked", "Sheet.asked", defArgs s_Sheet_asked, defBody s_Sheet_asked, defScope s_Sheet_asked, [], []⟩
def df14 : He.DefD := ⟨("Sheet", some "cost"), "cost", "Sheet.cost", defArgs s_Sheet_cost, defBody s_Sheet_cost, defScope s_Sheet_cost, [], []⟩
def df15 : He.DefD := ⟨("Sheet", some "outdoes"), "outdoes", "Sheet.outdoes", defArgs s_Sheet_outdoes, defBody s_Sheet_outdoes, defScope s_Sheet_outdoes, [], []⟩
def df16 : He.DefD := ⟨("Sheet", some "most_saving"), "most_saving", "Sheet.most_saving", defArgs s_Sheet_most_saving, defBody s_Sheet_most_saving, defScope s_Sheet_most_saving, [], []⟩
def df17 : He.DefD := ⟨("Sheet", some "strong_lists"), "strong_lists", "Sheet.strong_lists", defArgs s_Sheet_strong_lists, defBody s_Sheet_strong_lists, defScope s_Sheet_strong_lists, [], []⟩
def df18 : He.DefD := ⟨("Sheet", some "strength"), "strength", "Sheet.strength", defArgs s_Sheet_strength, defBody s_Sheet_strength, defScope s_Sheet_strength, [], []⟩
def df19 : He.DefD := ⟨("left_of", none), "left_of", "left_of", defArgs s_left_of, defBody s_left_of, defScope s_left_of, [], []⟩
def df20 : He.DefD := ⟨("fitting", none), "fitting", "fitting", defArgs s_fitting, defBody s_fitting, defScope s_fitting, [], []⟩
def df21 : He.DefD := ⟨("floor", none), "floor", "floor", defArgs s_floor, defBody s_floor, defScope s_floor, [], []⟩
def df22 : He.DefD := ⟨("grown", none), "grown", "grown", defArgs s_grown, defBody s_grown, defScope s_grown, [], []⟩
def df23 : He.DefD := ⟨("cheapest", none), "cheapest", "cheapest", defArgs s_cheapest, defBody s_cheapest, defScope s_cheapest, [], []⟩
def df24 : He.DefD := ⟨("Wanted", some "__init__"), "__init__", "Wanted.__init__", defArgs s_Wanted___init__, defBody s_Wanted___init__, defScope s_Wanted___init__, [], []⟩
def df25 : He.DefD := ⟨("Wanted", some "more"), "more", "Wanted.more", defArgs s_Wanted_more, defBody s_Wanted_more, defScope s_Wanted_more, [], []⟩
def df26 : He.DefD := ⟨("Wanted", some "leave"), "leave", "Wanted.leave", defArgs s_Wanted_leave, defBody s_Wanted_leave, defScope s_Wanted_leave, [], []⟩
def df27 : He.DefD := ⟨("Wanted", some "as_asks"), "as_asks", "Wanted.as_asks", defArgs s_Wanted_as_asks, defBody s_Wanted_as_asks, defScope s_Wanted_as_asks, [], []⟩
def df28 : He.DefD := ⟨("Chosen", some "__init__"), "__init__", "Chosen.__init__", defArgs s_Chosen___init__, defBody s_Chosen___init__, defScope s_Chosen___init__, [], []⟩
def df29 : He.DefD := ⟨("Chosen", some "ask"), "ask", "Chosen.ask", defArgs s_Chosen_ask, defBody s_Chosen_ask, defScope s_Chosen_ask, [], []⟩
def df30 : He.DefD := ⟨("Chosen", some "leave"), "leave", "Chosen.leave", defArgs s_Chosen_leave, defBody s_Chosen_leave, defScope s_Chosen_leave, [], []⟩
def df31 : He.DefD := ⟨("Chosen", some "choose"), "choose", "Chosen.choose", defArgs s_Chosen_choose, defBody s_Chosen_choose, defScope s_Chosen_choose, [], []⟩
def df32 : He.DefD := ⟨("Chosen", some "asks"), "asks", "Chosen.asks", defArgs s_Chosen_asks, defBody s_Chosen_asks, defScope s_Chosen_asks, [], []⟩
def df33 : He.DefD := ⟨("Chosen", some "choice"), "choice", "Chosen.choice", defArgs s_Chosen_choice, defBody s_Chosen_choice, defScope s_Chosen_choice, [], []⟩
def df34 : He.DefD := ⟨("Chosen", some "price"), "price", "Chosen.price", defArgs s_Chosen_price, defBody s_Chosen_price, defScope s_Chosen_price, [], []⟩
def df35 : He.DefD := ⟨("Chosen", some "made"), "made", "Chosen.made", defArgs s_Chosen_made, defBody s_Chosen_made, defScope s_Chosen_made, [], []⟩
def df36 : He.DefD := ⟨("_law_bag", none), "_law_bag", "_law_bag", defArgs s_l_bag, defBody s_l_bag, defScope s_l_bag, [], []⟩
def df37 : He.DefD := ⟨("_law_lot", none), "_law_lot", "_law_lot", defArgs s_l_lot, defBody s_l_lot, defScope s_l_lot, [], []⟩
def df38 : He.DefD := ⟨("_law_columns", none), "_law_columns", "_law_columns", defArgs s_l_columns, defBody s_l_columns, defScope s_l_columns, [], []⟩
def df39 : He.DefD := ⟨("_law_table", none), "_law_table", "_law_table", defArgs s_l_table, defBody s_l_table, defScope s_l_table, [], []⟩
def df40 : He.DefD := ⟨("_law_near", none), "_law_near", "_law_near", defArgs s_l_near, defBody s_l_near, defScope s_l_near, [], []⟩
def df41 : He.DefD := ⟨("_law_question", none), "_law_question", "_law_question", defArgs s_l_question, defBody s_l_question, defScope s_l_question, [], []⟩
def df42 : He.DefD := ⟨("_law_pool", none), "_law_pool", "_law_pool", defArgs s_l_pool, defBody s_l_pool, defScope s_l_pool, [], []⟩
def df43 : He.DefD := ⟨("_law_kind", none), "_law_kind", "_law_kind", defArgs s_l_kind, defBody s_l_kind, defScope s_l_kind, [], []⟩
def df44 : He.DefD := ⟨("_law_state", none), "_law_state", "_law_state", defArgs s_l_state, defBody s_l_state, defScope s_l_state, [], []⟩
def df45 : He.DefD := ⟨("_law_refused", none), "_law_refused", "_law_refused", defArgs s_l_refused, defBody s_l_refused, defScope s_l_refused, [], []⟩
def df46 : He.DefD := ⟨("_law_six", none), "_law_six", "_law_six", defArgs s_l_six, defBody s_l_six, defScope s_l_six, [], []⟩
def df47 : He.DefD := ⟨("_law_others_refused", none), "_law_others_refused", "_law_others_refused", defArgs s_l_others_refused, defBody s_l_others_refused, defScope s_l_others_refused, [], []⟩
def df48 : He.DefD := ⟨("_law_often_right", none), "_law_often_right", "_law_often_right", defArgs s_l_often_right, defBody s_l_often_right, defScope s_l_often_right, [], []⟩
def df49 : He.DefD := ⟨("_law_last_right", none), "_law_last_right", "_law_last_right", defArgs s_l_last_right, defBody s_l_last_right, defScope s_l_last_right, [], []⟩
def df50 : He.DefD := ⟨("law", none), "law", "law", defArgs s_law, defBody s_law, defScope s_law, [], []⟩
def dfs : List He.DefD := [df0, df1, df2, df3, df4, df5, df6, df7, df8, df9, df10, df11, df12, df13, df14, df15, df16, df17, df18, df19, df20, df21, df22, df23, df24, df25, df26, df27, df28, df29, df30, df31, df32, df33, df34, df35, df36, df37, df38, df39, df40, df41, df42, df43, df44, df45, df46, df47, df48, df49, df50]
def fas : List He.Fa := [.glo "lists_of", .glo "picked", .glo "letters_of", .glo "spans", .glo "used", .glo "stretch", .glo "price_by", .glo "price_of", .glo "upkeep", .glo "price", .glo "room", .glo "prices_by", .mkr "Sheet", .meth "Sheet" "asked", .meth "Sheet" "cost", .meth "Sheet" "outdoes", .meth "Sheet" "most_saving", .meth "Sheet" "strong_lists", .meth "Sheet" "strength", .glo "left_of", .glo "fitting", .glo "floor", .glo "grown", .glo "cheapest", .mkr "Wanted", .meth "Wanted" "more", .meth "Wanted" "leave", .meth "Wanted" "as_asks", .mkr "Chosen", .meth "Chosen" "ask", .meth "Chosen" "leave", .meth "Chosen" "choose", .meth "Chosen" "asks", .meth "Chosen" "choice", .meth "Chosen" "price", .meth "Chosen" "made", .glo "_law_bag", .glo "_law_lot", .glo "_law_columns", .glo "_law_table", .glo "_law_near", .glo "_law_question", .glo "_law_pool", .glo "_law_kind", .glo "_law_state", .glo "_law_refused", .glo "_law_six", .glo "_law_others_refused", .glo "_law_often_right", .glo "_law_last_right", .glo "law", .glo "Sheet", .cls "Sheet", .noat "Sheet" "changes", .noat "Sheet" "lists", .noat "Sheet" "often", .noat "Sheet" "bare", .noat "Sheet" "prices", .glo "Wanted", .cls "Wanted", .noat "Wanted" "times", .glo "Chosen", .cls "Chosen", .noat "Chosen" "table", .noat "Chosen" "changes", .noat "Chosen" "room", .noat "Chosen" "wanted", .noat "Chosen" "chosen", .noat "Chosen" "least", .noat "Chosen" "new_lists", .free "len", .free "range", .free "list", .free "sorted", .free "tuple", .free "min", .free "max", .free "enumerate", .free "dict", .free "isinstance", .free "zip", .free "int", .free "bool", .free "sum", .free "all", .free "any", .free "str", .free "set", .free "ValueError", .int "MOST_ASKS" 5, .glo "ListError", .glo "TooMany", .glo "NoQuestion", .glo "NoRow", .glo "NoNumber", .glo "NoText"]
def tfs : List He.Defn := [("Sheet", some "strong_lists"), ("room", none), ("picked", none), ("stretch", none), ("upkeep", none), ("price", none), ("left_of", none), ("Sheet", some "outdoes"), ("Sheet", some "strength"), ("Sheet", some "most_saving"), ("_law_refused", none)]
def apart : PySem.W.Frag → Bool := fun K => (!([He.tabOf K (He.codeOf K ("Sheet", some "strong_lists")), He.tabOf K (He.codeOf K ("room", none)), He.tabOf K (He.codeOf K ("picked", none)), He.tabOf K (He.codeOf K ("stretch", none)), He.tabOf K (He.codeOf K ("upkeep", none)), He.tabOf K (He.codeOf K ("price", none)), He.tabOf K (He.codeOf K ("left_of", none)), He.tabOf K (He.codeOf K ("Sheet", some "outdoes")), He.tabOf K (He.codeOf K ("Sheet", some "strength"))].contains (He.tabOf K (He.codeOf K ("Sheet", some "most_saving"))))) && (!([He.tabOf K (He.codeOf K ("Sheet", some "strong_lists")), He.tabOf K (He.codeOf K ("room", none)), He.tabOf K (He.codeOf K ("picked", none)), He.tabOf K (He.codeOf K ("stretch", none)), He.tabOf K (He.codeOf K ("upkeep", none)), He.tabOf K (He.codeOf K ("price", none)), He.tabOf K (He.codeOf K ("left_of", none)), He.tabOf K (He.codeOf K ("Sheet", some "outdoes")), He.tabOf K (He.codeOf K ("Sheet", some "strength"))].contains (He.tabOf K (He.codeOf K ("_law_refused", none))))) && (!decide (He.tabOf K (He.codeOf K ("Sheet", some "most_saving")) = He.tabOf K (He.codeOf K ("_law_refused", none)))) && (decide (PySem.W.specialIn K (.ref (He.ma K (He.ga K "Sheet") "strength")) "__get__" = some (some (.builtin "function.__get__")))) && (decide (PySem.W.takesIn K (.ref (He.ma K (He.ga K "Sheet") "strength")) = some false)) && (PySem.W.fnIn K (He.ma K (He.ga K "Sheet") "strength")) && (xfamB K (He.ga K) ["TooMany", "NoQuestion"] ["NoRow", "TooMany", "NoNumber", "NoQuestion", "NoText"])
abbrev Rw : PySem.W.OpenRow := PySem.W.OpenLaw.row PySem.Challenge.rw_stretchkeep_k45_chosen_refused
abbrev hk : PySem.W.Hook := He.hookX 10 fas dfs [] tfs apart
def ob (s : PySem.W.SharedT) : He.AlX := He.obsX 10 fas dfs [] tfs apart (HandSHeadRun.getT s)
theorem ob_eq (s : PySem.W.SharedT) : ob s = hk.obs s.abs := He.obsX_eq (HandSHeadRun.getT_eq s)
def loose1 : List Str := ["lists_of", "picked", "letters_of", "spans", "used", "stretch", "price_by", "price_of", "upkeep", "price", "room", "prices_by", "Sheet", "left_of", "fitting", "floor", "grown", "cheapest", "ListError", "TooMany", "NoNumber"]
def loose2 : List Str := ["NoQuestion", "NoRow", "NoText", "MOST_ASKS", "Wanted", "Chosen", "_law_bag", "_law_lot", "_law_columns", "_law_table", "_law_near", "_law_question", "_law_pool", "_law_kind", "_law_state", "_law_refused", "_law_six", "_law_others_refused", "_law_often_right", "_law_last_right"]
set_option maxHeartbeats 0 in
theorem run (w : World) : HandSHeadRun.RunEq Rw (PySem.W.view Rw.prog [50]) hk ob 4000 (loose1 ++ loose2) w := by
  intro os
  kernel_rfl
theorem all_mk {l : PySem.W.OpenLaw} {w : World} {K : PySem.W.Frag} {h : Heap} {mg : Str → Option Value} {fa : Addr} (X : K.In h) (G : h.Ns mainGlobals mg) (hfa : mg "law" = some (.ref fa)) (c : He.SaysX fas dfs [] tfs apart w h K) : LamX.LawAtS l w K CX0 90 63 "script" mg fa h := by
  obtain ⟨fd0, D0⟩ := c.t.d.def_ 0 (d := df0) rfl
  replace D0 : DefAt K ("lists_of", none) "lists_of" "lists_of" s_lists_of fd0 := D0
  obtain ⟨fd1, D1⟩ := c.t.d.def_ 1 (d := df1) rfl
  replace D1 : DefAt K ("picked", none) "picked" "picked" s_picked fd1 := D1
  obtain ⟨fd2, D2⟩ := c.t.d.def_ 2 (d := df2) rfl
  replace D2 : DefAt K ("letters_of", none) "letters_of" "letters_of" s_letters_of fd2 := D2
  obtain ⟨fd3, D3⟩ := c.t.d.def_ 3 (d := df3) rfl
  replace D3 : DefAt K ("spans", none) "spans" "spans" s_spans fd3 := D3
  obtain ⟨fd4, D4⟩ := c.t.d.def_ 4 (d := df4) rfl
  replace D4 : DefAt K ("used", none) "used" "used" s_used fd4 := D4
  obtain ⟨fd5, D5⟩ := c.t.d.def_ 5 (d := df5) rfl
  replace D5 : DefAt K ("stretch", none) "stretch" "stretch" s_stretch fd5 := D5
  obtain ⟨fd6, D6⟩ := c.t.d.def_ 6 (d := df6) rfl
  replace D6 : DefAt K ("price_by", none) "price_by" "price_by" s_price_by fd6 := D6
  obtain ⟨fd7, D7⟩ := c.t.d.def_ 7 (d := df7) rfl
  replace D7 : DefAt K ("price_of", none) "price_of" "price_of" s_price_of fd7 := D7
  obtain ⟨fd8, D8⟩ := c.t.d.def_ 8 (d := df8) rfl
  replace D8 : DefAt K ("upkeep", none) "upkeep" "upkeep" s_upkeep fd8 := D8
  obtain ⟨fd9, D9⟩ := c.t.d.def_ 9 (d := df9) rfl
  replace D9 : DefAt K ("price", none) "price" "price" s_price fd9 := D9
  obtain ⟨fd10, D10⟩ := c.t.d.def_ 10 (d := df10) rfl
  replace D10 : DefAt K ("room", none) "room" "room" s_room fd10 := D10
  obtain ⟨fd11, D11⟩ := c.t.d.def_ 11 (d := df11) rfl
  replace D11 : DefAt K ("prices_by", none) "prices_by" "prices_by" s_prices_by fd11 := D11
  obtain ⟨fd12, D12⟩ := c.t.d.def_ 12 (d := df12) rfl
  replace D12 : DefAt K ("Sheet", some "__init__") "__init__" "Sheet.__init__" s_Sheet___init__ fd12 := D12
  obtain ⟨fd13, D13⟩ := c.t.d.def_ 13 (d := df13) rfl
  replace D13 : DefAt K ("Sheet", some "asked") "asked" "Sheet.asked" s_Sheet_asked fd13 := D13
  obtain ⟨fd14, D14⟩ := c.t.d.def_ 14 (d := df14) rfl
  replace D14 : DefAt K ("Sheet", some "cost") "cost" "Sheet.cost" s_Sheet_cost fd14 := D14
  obtain ⟨fd15, D15⟩ := c.t.d.def_ 15 (d := df15) rfl
  replace D15 : DefAt K ("Sheet", some "outdoes") "outdoes" "Sheet.outdoes" s_Sheet_outdoes fd15 := D15
  obtain ⟨fd16, D16⟩ := c.t.d.def_ 16 (d := df16) rfl
  replace D16 : DefAt K ("Sheet", some "most_saving") "most_saving" "Sheet.most_saving" s_Sheet_most_saving fd16 := D16
  obtain ⟨fd17, D17⟩ := c.t.d.def_ 17 (d := df17) rfl
  replace D17 : DefAt K ("Sheet", some "strong_lists") "strong_lists" "Sheet.strong_lists" s_Sheet_strong_lists fd17 := D17
  obtain ⟨fd18, D18⟩ := c.t.d.def_ 18 (d := df18) rfl
  replace D18 : DefAt K ("Sheet", some "strength") "strength" "Sheet.strength" s_Sheet_strength fd18 := D18
  obtain ⟨fd19, D19⟩ := c.t.d.def_ 19 (d := df19) rfl
  replace D19 : DefAt K ("left_of", none) "left_of" "left_of" s_left_of fd19 := D19
  obtain ⟨fd20, D20⟩ := c.t.d.def_ 20 (d := df20) rfl
  replace D20 : DefAt K ("fitting", none) "fitting" "fitting" s_fitting fd20 := D20
  obtain ⟨fd21, D21⟩ := c.t.d.def_ 21 (d := df21) rfl
  replace D21 : DefAt K ("floor", none) "floor" "floor" s_floor fd21 := D21
  obtain ⟨fd22, D22⟩ := c.t.d.def_ 22 (d := df22) rfl
  replace D22 : DefAt K ("grown", none) "grown" "grown" s_grown fd22 := D22
  obtain ⟨fd23, D23⟩ := c.t.d.def_ 23 (d := df23) rfl
  replace D23 : DefAt K ("cheapest", none) "cheapest" "cheapest" s_cheapest fd23 := D23
  obtain ⟨fd24, D24⟩ := c.t.d.def_ 24 (d := df24) rfl
  replace D24 : DefAt K ("Wanted", some "__init__") "__init__" "Wanted.__init__" s_Wanted___init__ fd24 := D24
  obtain ⟨fd25, D25⟩ := c.t.d.def_ 25 (d := df25) rfl
  replace D25 : DefAt K ("Wanted", some "more") "more" "Wanted.more" s_Wanted_more fd25 := D25
  obtain ⟨fd26, D26⟩ := c.t.d.def_ 26 (d := df26) rfl
  replace D26 : DefAt K ("Wanted", some "leave") "leave" "Wanted.leave" s_Wanted_leave fd26 := D26
  obtain ⟨fd27, D27⟩ := c.t.d.def_ 27 (d := df27) rfl
  replace D27 : DefAt K ("Wanted", some "as_asks") "as_asks" "Wanted.as_asks" s_Wanted_as_asks fd27 := D27
  obtain ⟨fd28, D28⟩ := c.t.d.def_ 28 (d := df28) rfl
  replace D28 : DefAt K ("Chosen", some "__init__") "__init__" "Chosen.__init__" s_Chosen___init__ fd28 := D28
  obtain ⟨fd29, D29⟩ := c.t.d.def_ 29 (d := df29) rfl
  replace D29 : DefAt K ("Chosen", some "ask") "ask" "Chosen.ask" s_Chosen_ask fd29 := D29
  obtain ⟨fd30, D30⟩ := c.t.d.def_ 30 (d := df30) rfl
  replace D30 : DefAt K ("Chosen", some "leave") "leave" "Chosen.leave" s_Chosen_leave fd30 := D30
  obtain ⟨fd31, D31⟩ := c.t.d.def_ 31 (d := df31) rfl
  replace D31 : DefAt K ("Chosen", some "choose") "choose" "Chosen.choose" s_Chosen_choose fd31 := D31
  obtain ⟨fd32, D32⟩ := c.t.d.def_ 32 (d := df32) rfl
  replace D32 : DefAt K ("Chosen", some "asks") "asks" "Chosen.asks" s_Chosen_asks fd32 := D32
  obtain ⟨fd33, D33⟩ := c.t.d.def_ 33 (d := df33) rfl
  replace D33 : DefAt K ("Chosen", some "choice") "choice" "Chosen.choice" s_Chosen_choice fd33 := D33
  obtain ⟨fd34, D34⟩ := c.t.d.def_ 34 (d := df34) rfl
  replace D34 : DefAt K ("Chosen", some "price") "price" "Chosen.price" s_Chosen_price fd34 := D34
  obtain ⟨fd35, D35⟩ := c.t.d.def_ 35 (d := df35) rfl
  replace D35 : DefAt K ("Chosen", some "made") "made" "Chosen.made" s_Chosen_made fd35 := D35
  obtain ⟨fd36, D36⟩ := c.t.d.def_ 36 (d := df36) rfl
  replace D36 : DefAt K ("_law_bag", none) "_law_bag" "_law_bag" s_l_bag fd36 := D36
  obtain ⟨fd37, D37⟩ := c.t.d.def_ 37 (d := df37) rfl
  replace D37 : DefAt K ("_law_lot", none) "_law_lot" "_law_lot" s_l_lot fd37 := D37
  obtain ⟨fd38, D38⟩ := c.t.d.def_ 38 (d := df38) rfl
  replace D38 : DefAt K ("_law_columns", none) "_law_columns" "_law_columns" s_l_columns fd38 := D38
  obtain ⟨fd39, D39⟩ := c.t.d.def_ 39 (d := df39) rfl
  replace D39 : DefAt K ("_law_table", none) "_law_table" "_law_table" s_l_table fd39 := D39
  obtain ⟨fd40, D40⟩ := c.t.d.def_ 40 (d := df40) rfl
  replace D40 : DefAt K ("_law_near", none) "_law_near" "_law_near" s_l_near fd40 := D40
  obtain ⟨fd41, D41⟩ := c.t.d.def_ 41 (d := df41) rfl
  replace D41 : DefAt K ("_law_question", none) "_law_question" "_law_question" s_l_question fd41 := D41
  obtain ⟨fd42, D42⟩ := c.t.d.def_ 42 (d := df42) rfl
  replace D42 : DefAt K ("_law_pool", none) "_law_pool" "_law_pool" s_l_pool fd42 := D42
  obtain ⟨fd43, D43⟩ := c.t.d.def_ 43 (d := df43) rfl
  replace D43 : DefAt K ("_law_kind", none) "_law_kind" "_law_kind" s_l_kind fd43 := D43
  obtain ⟨fd44, D44⟩ := c.t.d.def_ 44 (d := df44) rfl
  replace D44 : DefAt K ("_law_state", none) "_law_state" "_law_state" s_l_state fd44 := D44
  obtain ⟨fd45, D45⟩ := c.t.d.def_ 45 (d := df45) rfl
  replace D45 : DefAt K ("_law_refused", none) "_law_refused" "_law_refused" s_l_refused fd45 := D45
  obtain ⟨fd46, D46⟩ := c.t.d.def_ 46 (d := df46) rfl
  replace D46 : DefAt K ("_law_six", none) "_law_six" "_law_six" s_l_six fd46 := D46
  obtain ⟨fd47, D47⟩ := c.t.d.def_ 47 (d := df47) rfl
  replace D47 : DefAt K ("_law_others_refused", none) "_law_others_refused" "_law_others_refused" s_l_others_refused fd47 := D47
  obtain ⟨fd48, D48⟩ := c.t.d.def_ 48 (d := df48) rfl
  replace D48 : DefAt K ("_law_often_right", none) "_law_often_right" "_law_often_right" s_l_often_right fd48 := D48
  obtain ⟨fd49, D49⟩ := c.t.d.def_ 49 (d := df49) rfl
  replace D49 : DefAt K ("_law_last_right", none) "_law_last_right" "_law_last_right" s_l_last_right fd49 := D49
  obtain ⟨fd50, D50⟩ := c.t.d.def_ 50 (d := df50) rfl
  replace D50 : DefAt K ("law", none) "law" "law" s_law fd50 := D50
  have e := hfa.symm.trans (He.glo_ok X G (c.t.d.fact 50 (f := .glo "law") rfl))
  cases e
  have F0 := D0.fn
  have b0 := F0.binds (ps := ["columns"]) fun _ _ _ _ _ _ us hl => match us, hl with | [_], _ => rfl
  have F1 := D1.fn
  have b1 := F1.binds (ps := ["columns", "row", "letters"]) fun _ _ _ _ _ _ us hl => match us, hl with | [_, _, _], _ => rfl
  have F2 := D2.fn
  have b2 := F2.binds (ps := ["equals"]) fun _ _ _ _ _ _ us hl => match us, hl with | [_], _ => rfl
  have F3 := D3.fn
  have b3 := F3.binds (ps := ["question"]) fun _ _ _ _ _ _ us hl => match us, hl with | [_], _ => rfl
  have F4 := D4.fn
  have b4 := F4.binds (ps := ["one", "question"]) fun _ _ _ _ _ _ us hl => match us, hl with | [_, _], _ => rfl
  have F5 := D5.fn
  have b5 := F5.binds (ps := ["table", "one", "question"]) fun _ _ _ _ _ _ us hl => match us, hl with | [_, _, _], _ => rfl
  have F6 := D6.fn
  have b6 := F6.binds (ps := ["table", "one", "question"]) fun _ _ _ _ _ _ us hl => match us, hl with | [_, _, _], _ => rfl
  have F7 := D7.fn
  have b7 := F7.binds (ps := ["table", "choice", "question"]) fun _ _ _ _ _ _ us hl => match us, hl with | [_, _, _], _ => rfl
  have F8 := D8.fn
  have b8 := F8.binds (ps := ["changes", "choice"]) fun _ _ _ _ _ _ us hl => match us, hl with | [_, _], _ => rfl
  have F9 := D9.fn
  have b9 := F9.binds (ps := ["work", "choice"]) fun _ _ _ _ _ _ us hl => match us, hl with | [_, _], _ => rfl
  have F10 := D10.fn
  have b10 := F10.binds (ps := ["choice"]) fun _ _ _ _ _ _ us hl => match us, hl with | [_], _ => rfl
  have F11 := D11.fn
  have b11 := F11.binds (ps := ["table", "question", "lists"]) fun _ _ _ _ _ _ us hl => match us, hl with | [_, _, _], _ => rfl
  have F12 := D12.fn
  have b12 := F12.binds (ps := ["self", "work"]) fun _ _ _ _ _ _ us hl => match us, hl with | [_, _], _ => rfl
  have F13 := D13.fn
  have b13 := F13.binds (ps := ["self", "near"]) fun _ _ _ _ _ _ us hl => match us, hl with | [_, _], _ => rfl
  have F14 := D14.fn
  have b14 := F14.binds (ps := ["self", "choice"]) fun _ _ _ _ _ _ us hl => match us, hl with | [_, _], _ => rfl
  have F15 := D15.fn
  have b15 := F15.binds (ps := ["self", "one", "other"]) fun _ _ _ _ _ _ us hl => match us, hl with | [_, _, _], _ => rfl
  have F16 := D16.fn
  have b16 := F16.binds (ps := ["self", "choice", "lists"]) fun _ _ _ _ _ _ us hl => match us, hl with | [_, _, _], _ => rfl
  have F17 := D17.fn
  have b17 := F17.binds (ps := ["self"]) fun _ _ _ _ _ _ us hl => match us, hl with | [_], _ => rfl
  have F18 := D18.fn
  have b18 := F18.binds (ps := ["self", "one"]) fun _ _ _ _ _ _ us hl => match us, hl with | [_, _], _ => rfl
  have F19 := D19.fn
  have b19 := F19.binds (ps := ["room", "inside"]) fun _ _ _ _ _ _ us hl => match us, hl with | [_, _], _ => rfl
  have F20 := D20.fn
  have b20 := F20.binds (ps := ["room", "inside", "free"]) fun _ _ _ _ _ _ us hl => match us, hl with | [_, _, _], _ => rfl
  have F21 := D21.fn
  have b21 := F21.binds (ps := ["sheet", "room", "inside", "free"]) fun _ _ _ _ _ _ us hl => match us, hl with | [_, _, _, _], _ => rfl
  have F22 := D22.fn
  have b22 := F22.binds (ps := ["sheet", "room", "best", "inside", "free"]) fun _ _ _ _ _ _ us hl => match us, hl with | [_, _, _, _, _], _ => rfl
  have F23 := D23.fn
  have b23 := F23.binds (ps := ["work", "room"]) fun _ _ _ _ _ _ us hl => match us, hl with | [_, _], _ => rfl
  have F24 := D24.fn
  have b24 := F24.binds (ps := ["self"]) fun _ _ _ _ _ _ us hl => match us, hl with | [_], _ => rfl
  have F25 := D25.fn
  have b25 := F25.binds (ps := ["self", "question", "often"]) fun _ _ _ _ _ _ us hl => match us, hl with | [_, _, _], _ => rfl
  have F26 := D26.fn
  have b26 := F26.binds (ps := ["self", "question"]) fun _ _ _ _ _ _ us hl => match us, hl with | [_, _], _ => rfl
  have F27 := D27.fn
  have b27 := F27.binds (ps := ["self"]) fun _ _ _ _ _ _ us hl => match us, hl with | [_], _ => rfl
  have F28 := D28.fn
  have b28 := F28.binds (ps := ["self", "table", "changes", "room"]) fun _ _ _ _ _ _ us hl => match us, hl with | [_, _, _, _], _ => rfl
  have F29 := D29.fn
  have b29 := F29.binds (ps := ["self", "question", "often"]) fun _ _ _ _ _ _ us hl => match us, hl with | [_, _, _], _ => rfl
  have F30 := D30.fn
  have b30 := F30.binds (ps := ["self", "question"]) fun _ _ _ _ _ _ us hl => match us, hl with | [_, _], _ => rfl
  have F31 := D31.fn
  have b31 := F31.binds (ps := ["self"]) fun _ _ _ _ _ _ us hl => match us, hl with | [_], _ => rfl
  have F32 := D32.fn
  have b32 := F32.binds (ps := ["self"]) fun _ _ _ _ _ _ us hl => match us, hl with | [_], _ => rfl
  have F33 := D33.fn
  have b33 := F33.binds (ps := ["self"]) fun _ _ _ _ _ _ us hl => match us, hl with | [_], _ => rfl
  have F34 := D34.fn
  have b34 := F34.binds (ps := ["self"]) fun _ _ _ _ _ _ us hl => match us, hl with | [_], _ => rfl
  have F35 := D35.fn
  have b35 := F35.binds (ps := ["self"]) fun _ _ _ _ _ _ us hl => match us, hl with | [_], _ => rfl
  have F36 := D36.fn
  have b36 := F36.binds (ps := ["script"]) fun _ _ _ _ _ _ us hl => match us, hl with | [_], _ => rfl
  have F37 := D37.fn
  have b37 := F37.binds (ps := ["bag", "many"]) fun _ _ _ _ _ _ us hl => match us, hl with | [_, _], _ => rfl
  have F38 := D38.fn
  have b38 := F38.binds (ps := ["bag", "most"]) fun _ _ _ _ _ _ us hl => match us, hl with | [_, _], _ => rfl
  have F39 := D39.fn
  have b39 := F39.binds (ps := ["bag", "most", "rows"]) fun _ _ _ _ _ _ us hl => match us, hl with | [_, _, _], _ => rfl
  have F40 := D40.fn
  have b40 := F40.binds (ps := ["bag", "table", "at"]) fun _ _ _ _ _ _ us hl => match us, hl with | [_, _, _], _ => rfl
  have F41 := D41.fn
  have b41 := F41.binds (ps := ["bag", "table"]) fun _ _ _ _ _ _ us hl => match us, hl with | [_, _], _ => rfl
  have F42 := D42.fn
  have b42 := F42.binds (ps := ["bag", "table", "many"]) fun _ _ _ _ _ _ us hl => match us, hl with | [_, _, _], _ => rfl
  have F43 := D43.fn
  have b43 := F43.binds (ps := ["ask"]) fun _ _ _ _ _ _ us hl => match us, hl with | [_], _ => rfl
  have F44 := D44.fn
  have b44 := F44.binds (ps := ["chosen"]) fun _ _ _ _ _ _ us hl => match us, hl with | [_], _ => rfl
  have F45 := D45.fn
  have b45 := F45.binds (ps := ["chosen", "question", "asks"]) fun _ _ _ _ _ _ us hl => match us, hl with | [_, _, _], _ => rfl
  have F46 := D46.fn
  have b46 := F46.binds (ps := ["bag", "table"]) fun _ _ _ _ _ _ us hl => match us, hl with | [_, _], _ => rfl
  have F47 := D47.fn
  have b47 := F47.binds (ps := ["chosen", "table", "asked"]) fun _ _ _ _ _ _ us hl => match us, hl with | [_, _, _], _ => rfl
  have F48 := D48.fn
  have b48 := F48.binds (ps := []) fun _ _ _ _ _ _ us hl => match us, hl with | [], _ => rfl
  have F49 := D49.fn
  have b49 := F49.binds (ps := ["chosen", "work", "most"]) fun _ _ _ _ _ _ us hl => match us, hl with | [_, _, _], _ => rfl
  have F50 := D50.fn
  have b50 := F50.binds (ps := ["script"]) fun _ _ _ _ _ _ us hl => match us, hl with | [_], _ => rfl
  obtain ⟨tk0, hy0⟩ := He.int_ok X G (c.t.d.fact 89 (f := .int "MOST_ASKS" 5) rfl)
  let Z : Ad := ⟨He.fAd K ("lists_of", none), fd0, He.fAd K ("picked", none), fd1, He.codeOf K ("picked", none), He.tabOf K (He.codeOf K ("picked", none)), He.fAd K ("letters_of", none), fd2, He.fAd K ("spans", none), fd3, He.fAd K ("used", none), fd4, He.fAd K ("stretch", none), fd5, He.codeOf K ("stretch", none), He.tabOf K (He.codeOf K ("stretch", none)), He.fAd K ("price_by", none), fd6, He.fAd K ("price_of", none), fd7, He.fAd K ("upkeep", none), fd8, He.codeOf K ("upkeep", none), He.tabOf K (He.codeOf K ("upkeep", none)), He.fAd K ("price", none), fd9, He.codeOf K ("price", none), He.tabOf K (He.codeOf K ("price", none)), He.fAd K ("room", none), fd10, He.codeOf K ("room", none), He.tabOf K (He.codeOf K ("room", none)), He.fAd K ("prices_by", none), fd11, He.fAd K ("Sheet", some "__init__"), fd12, He.fAd K ("Sheet", some "asked"), fd13, He.fAd K ("Sheet", some "cost"), fd14, He.fAd K ("Sheet", some "outdoes"), fd15, He.codeOf K ("Sheet", some "outdoes"), He.tabOf K (He.codeOf K ("Sheet", some "outdoes")), He.fAd K ("Sheet", some "most_saving"), fd16, He.codeOf K ("Sheet", some "most_saving"), He.tabOf K (He.codeOf K ("Sheet", some "most_saving")), He.fAd K ("Sheet", some "strong_lists"), fd17, He.codeOf K ("Sheet", some "strong_lists"), He.tabOf K (He.codeOf K ("Sheet", some "strong_lists")), He.fAd K ("Sheet", some "strength"), fd18, He.codeOf K ("Sheet", some "strength"), He.tabOf K (He.codeOf K ("Sheet", some "strength")), He.fAd K ("left_of", none), fd19, He.codeOf K ("left_of", none), He.tabOf K (He.codeOf K ("left_of", none)), He.fAd K ("fitting", none), fd20, He.fAd K ("floor", none), fd21, He.fAd K ("grown", none), fd22, He.fAd K ("cheapest", none), fd23, He.fAd K ("Wanted", some "__init__"), fd24, He.fAd K ("Wanted", some "more"), fd25, He.fAd K ("Wanted", some "leave"), fd26, He.fAd K ("Wanted", some "as_asks"), fd27, He.fAd K ("Chosen", some "__init__"), fd28, He.fAd K ("Chosen", some "ask"), fd29, He.fAd K ("Chosen", some "leave"), fd30, He.fAd K ("Chosen", some "choose"), fd31, He.fAd K ("Chosen", some "asks"), fd32, He.fAd K ("Chosen", some "choice"), fd33, He.fAd K ("Chosen", some "price"), fd34, He.fAd K ("Chosen", some "made"), fd35, He.fAd K ("_law_bag", none), fd36, He.fAd K ("_law_lot", none), fd37, He.fAd K ("_law_columns", none), fd38, He.fAd K ("_law_table", none), fd39, He.fAd K ("_law_near", none), fd40, He.fAd K ("_law_question", none), fd41, He.fAd K ("_law_pool", none), fd42, He.fAd K ("_law_kind", none), fd43, He.fAd K ("_law_state", none), fd44, He.fAd K ("_law_refused", none), fd45, He.codeOf K ("_law_refused", none), He.tabOf K (He.codeOf K ("_law_refused", none)), He.fAd K ("_law_six", none), fd46, He.fAd K ("_law_others_refused", none), fd47, He.fAd K ("_law_often_right", none), fd48, He.fAd K ("_law_last_right", none), fd49, He.fAd K ("law", none), fd50, He.ga K "Sheet", He.ga K "Wanted", He.ga K "Chosen", tk0, He.ga K⟩
  have far := c.more
  simp only [apart, Bool.and_eq_true, Bool.not_eq_true', List.contains_eq_mem, decide_eq_false_iff_not, decide_eq_true_eq] at far
  have T : Tx K mg Z := ⟨F0, b0, He.glo_ok X G (c.t.d.fact 0 (f := .glo "lists_of") rfl), F1, D1.fc, b1, He.glo_ok X G (c.t.d.fact 1 (f := .glo "picked") rfl), F2, b2, He.glo_ok X G (c.t.d.fact 2 (f := .glo "letters_of") rfl), F3, b3, He.glo_ok X G (c.t.d.fact 3 (f := .glo "spans") rfl), F4, b4, He.glo_ok X G (c.t.d.fact 4 (f := .glo "used") rfl), F5, D5.fc, b5, He.glo_ok X G (c.t.d.fact 5 (f := .glo "stretch") rfl), F6, b6, He.glo_ok X G (c.t.d.fact 6 (f := .glo "price_by") rfl), F7, b7, He.glo_ok X G (c.t.d.fact 7 (f := .glo "price_of") rfl), F8, D8.fc, b8, He.glo_ok X G (c.t.d.fact 8 (f := .glo "upkeep") rfl), F9, D9.fc, b9, He.glo_ok X G (c.t.d.fact 9 (f := .glo "price") rfl), F10, D10.fc, b10, He.glo_ok X G (c.t.d.fact 10 (f := .glo "room") rfl), F11, b11, He.glo_ok X G (c.t.d.fact 11 (f := .glo "prices_by") rfl), F12, b12, He.mkr_ok (c.t.d.fact 12 (f := .mkr "Sheet") rfl), F13, b13, He.meth_ok (c.t.d.fact 13 (f := .meth "Sheet" "asked") rfl), F14, b14, He.meth_ok (c.t.d.fact 14 (f := .meth "Sheet" "cost") rfl), F15, D15.fc, b15, He.meth_ok (c.t.d.fact 15 (f := .meth "Sheet" "outdoes") rfl), F16, D16.fc, b16, He.meth_ok (c.t.d.fact 16 (f := .meth "Sheet" "most_saving") rfl), F17, D17.fc, b17, He.meth_ok (c.t.d.fact 17 (f := .meth "Sheet" "strong_lists") rfl), F18, D18.fc, b18, He.meth_ok (c.t.d.fact 18 (f := .meth "Sheet" "strength") rfl), F19, D19.fc, b19, He.glo_ok X G (c.t.d.fact 19 (f := .glo "left_of") rfl), F20, b20, He.glo_ok X G (c.t.d.fact 20 (f := .glo "fitting") rfl), F21, b21, He.glo_ok X G (c.t.d.fact 21 (f := .glo "floor") rfl), F22, b22, He.glo_ok X G (c.t.d.fact 22 (f := .glo "grown") rfl), F23, b23, He.glo_ok X G (c.t.d.fact 23 (f := .glo "cheapest") rfl), F24, b24, He.mkr_ok (c.t.d.fact 24 (f := .mkr "Wanted") rfl), F25, b25, He.meth_ok (c.t.d.fact 25 (f := .meth "Wanted" "more") rfl), F26, b26, He.meth_ok (c.t.d.fact 26 (f := .meth "Wanted" "leave") rfl), F27, b27, He.meth_ok (c.t.d.fact 27 (f := .meth "Wanted" "as_asks") rfl), F28, b28, He.mkr_ok (c.t.d.fact 28 (f := .mkr "Chosen") rfl), F29, b29, He.meth_ok (c.t.d.fact 29 (f := .meth "Chosen" "ask") rfl), F30, b30, He.meth_ok (c.t.d.fact 30 (f := .meth "Chosen" "leave") rfl), F31, b31, He.meth_ok (c.t.d.fact 31 (f := .meth "Chosen" "choose") rfl), F32, b32, He.meth_ok (c.t.d.fact 32 (f := .meth "Chosen" "asks") rfl), F33, b33, He.meth_ok (c.t.d.fact 33 (f := .meth "Chosen" "choice") rfl), F34, b34, He.meth_ok (c.t.d.fact 34 (f := .meth "Chosen" "price") rfl), F35, b35, He.meth_ok (c.t.d.fact 35 (f := .meth "Chosen" "made") rfl), F36, b36, He.glo_ok X G (c.t.d.fact 36 (f := .glo "_law_bag") rfl), F37, b37, He.glo_ok X G (c.t.d.fact 37 (f := .glo "_law_lot") rfl), F38, b38, He.glo_ok X G (c.t.d.fact 38 (f := .glo "_law_columns") rfl), F39, b39, He.glo_ok X G (c.t.d.fact 39 (f := .glo "_law_table") rfl), F40, b40, He.glo_ok X G (c.t.d.fact 40 (f := .glo "_law_near") rfl), F41, b41, He.glo_ok X G (c.t.d.fact 41 (f := .glo "_law_question") rfl), F42, b42, He.glo_ok X G (c.t.d.fact 42 (f := .glo "_law_pool") rfl), F43, b43, He.glo_ok X G (c.t.d.fact 43 (f := .glo "_law_kind") rfl), F44, b44, He.glo_ok X G (c.t.d.fact 44 (f := .glo "_law_state") rfl), F45, D45.fc, b45, He.glo_ok X G (c.t.d.fact 45 (f := .glo "_law_refused") rfl), F46, b46, He.glo_ok X G (c.t.d.fact 46 (f := .glo "_law_six") rfl), F47, b47, He.glo_ok X G (c.t.d.fact 47 (f := .glo "_law_others_refused") rfl), F48, b48, He.glo_ok X G (c.t.d.fact 48 (f := .glo "_law_often_right") rfl), F49, b49, He.glo_ok X G (c.t.d.fact 49 (f := .glo "_law_last_right") rfl), F50, b50, He.glo_ok X G (c.t.d.fact 50 (f := .glo "law") rfl), (by simpa using far.1.1.1.1.1.1), (by simpa using far.1.1.1.1.1.2), far.1.1.1.1.2, ⟨He.meth_ok (c.t.d.fact 18 (f := .meth "Sheet" "strength") rfl), far.1.1.1.2, far.1.1.2, by decide, far.1.2⟩, He.cls_ok (c.t.d.fact 52 (f := .cls "Sheet") rfl), He.glo_ok X G (c.t.d.fact 51 (f := .glo "Sheet") rfl), He.noat_ok (c.t.d.fact 53 (f := .noat "Sheet" "changes") rfl), He.noat_ok (c.t.d.fact 54 (f := .noat "Sheet" "lists") rfl), He.noat_ok (c.t.d.fact 55 (f := .noat "Sheet" "often") rfl), He.noat_ok (c.t.d.fact 56 (f := .noat "Sheet" "bare") rfl), He.noat_ok (c.t.d.fact 57 (f := .noat "Sheet" "prices") rfl), He.cls_ok (c.t.d.fact 59 (f := .cls "Wanted") rfl), He.glo_ok X G (c.t.d.fact 58 (f := .glo "Wanted") rfl), He.noat_ok (c.t.d.fact 60 (f := .noat "Wanted" "times") rfl), He.cls_ok (c.t.d.fact 62 (f := .cls "Chosen") rfl), He.glo_ok X G (c.t.d.fact 61 (f := .glo "Chosen") rfl), He.noat_ok (c.t.d.fact 63 (f := .noat "Chosen" "table") rfl), He.noat_ok (c.t.d.fact 64 (f := .noat "Chosen" "changes") rfl), He.noat_ok (c.t.d.fact 65 (f := .noat "Chosen" "room") rfl), He.noat_ok (c.t.d.fact 66 (f := .noat "Chosen" "wanted") rfl), He.noat_ok (c.t.d.fact 67 (f := .noat "Chosen" "chosen") rfl), He.noat_ok (c.t.d.fact 68 (f := .noat "Chosen" "least") rfl), He.noat_ok (c.t.d.fact 69 (f := .noat "Chosen" "new_lists") rfl), He.free_ok X G (c.t.d.fact 70 (f := .free "len") rfl), He.free_ok X G (c.t.d.fact 71 (f := .free "range") rfl), He.free_ok X G (c.t.d.fact 72 (f := .free "list") rfl), He.free_ok X G (c.t.d.fact 73 (f := .free "sorted") rfl), He.free_ok X G (c.t.d.fact 74 (f := .free "tuple") rfl), He.free_ok X G (c.t.d.fact 75 (f := .free "min") rfl), He.free_ok X G (c.t.d.fact 76 (f := .free "max") rfl), He.free_ok X G (c.t.d.fact 77 (f := .free "enumerate") rfl), He.free_ok X G (c.t.d.fact 78 (f := .free "dict") rfl), He.free_ok X G (c.t.d.fact 79 (f := .free "isinstance") rfl), He.free_ok X G (c.t.d.fact 80 (f := .free "zip") rfl), He.free_ok X G (c.t.d.fact 81 (f := .free "int") rfl), He.free_ok X G (c.t.d.fact 82 (f := .free "bool") rfl), He.free_ok X G (c.t.d.fact 83 (f := .free "sum") rfl), He.free_ok X G (c.t.d.fact 84 (f := .free "all") rfl), He.free_ok X G (c.t.d.fact 85 (f := .free "any") rfl), He.free_ok X G (c.t.d.fact 86 (f := .free "str") rfl), He.free_ok X G (c.t.d.fact 87 (f := .free "set") rfl), He.free_ok X G (c.t.d.fact 88 (f := .free "ValueError") rfl), hy0, xfam_of far.2, He.glo_ok X G (c.t.d.fact 90 (f := .glo "ListError") rfl), He.glo_ok X G (c.t.d.fact 91 (f := .glo "TooMany") rfl), He.glo_ok X G (c.t.d.fact 92 (f := .glo "NoQuestion") rfl), He.glo_ok X G (c.t.d.fact 93 (f := .glo "NoRow") rfl), He.glo_ok X G (c.t.d.fact 94 (f := .glo "NoNumber") rfl), He.glo_ok X G (c.t.d.fact 95 (f := .glo "NoText") rfl)⟩
  have bA := FunD.bindsA (ps := ["script"]) D50 fun _ _ _ _ _ _ us hl => match us, hl with | [_], _ => rfl
  have each : ∀ {R : Addr × Addr → Prop}, (∀ p ∈ tfs, R (He.cT K p)) → ∀ q ∈ [He.cT K ("Sheet", some "strong_lists"), He.cT K ("room", none), He.cT K ("picked", none), He.cT K ("stretch", none), He.cT K ("upkeep", none), He.cT K ("price", none), He.cT K ("left_of", none), He.cT K ("Sheet", some "outdoes"), He.cT K ("Sheet", some "strength"), He.cT K ("Sheet", some "most_saving"), He.cT K ("_law_refused", none)], R q := fun h q hq => by
    obtain ⟨p, hp, rfl⟩ := List.mem_map.mp (show q ∈ tfs.map (He.cT K) from hq)
    exact h p hp
  refine ⟨Z.d_law, [He.cT K ("Sheet", some "strong_lists"), He.cT K ("room", none), He.cT K ("picked", none), He.cT K ("stretch", none), He.cT K ("upkeep", none), He.cT K ("price", none), He.cT K ("left_of", none), He.cT K ("Sheet", some "outdoes"), He.cT K ("Sheet", some "strength"), He.cT K ("Sheet", some "most_saving"), He.cT K ("_law_refused", none)], spLaw K Z, each c.empty, each c.out, each fun p hp => PySem.W.codeHd_of_K X (c.hd p hp), fun s v => bA s [v] rfl, fun H a ns hl _ hT hS => ?_, fun base _ _ hTB => ?_⟩
  · refine ⟨a, ns, rfl, hS, hl, fun P hP => ?_, LamX.TabS.nil (hT (He.cT K ("Sheet", some "most_saving")) (by simp)), LamX.TabS.nil (hT (He.cT K ("_law_refused", none)) (by simp)), fun _ => rfl⟩
    have hP2 : P ∈ [He.tabOf K (He.codeOf K ("Sheet", some "strong_lists")), He.tabOf K (He.codeOf K ("room", none)), He.tabOf K (He.codeOf K ("picked", none)), He.tabOf K (He.codeOf K ("stretch", none)), He.tabOf K (He.codeOf K ("upkeep", none)), He.tabOf K (He.codeOf K ("price", none)), He.tabOf K (He.codeOf K ("left_of", none)), He.tabOf K (He.codeOf K ("Sheet", some "outdoes")), He.tabOf K (He.codeOf K ("Sheet", some "strength"))] := hP
    obtain ⟨p, hp, rfl⟩ : ∃ p ∈ [He.cT K ("Sheet", some "strong_lists"), He.cT K ("room", none), He.cT K ("picked", none), He.cT K ("stretch", none), He.cT K ("upkeep", none), He.cT K ("price", none), He.cT K ("left_of", none), He.cT K ("Sheet", some "outdoes"), He.cT K ("Sheet", some "strength"), He.cT K ("Sheet", some "most_saving"), He.cT K ("_law_refused", none)], p.2 = P := by
      simp only [List.mem_cons, List.not_mem_nil, or_false] at hP2
      rcases hP2 with e | e | e | e | e | e | e | e | e
      · exact ⟨He.cT K ("Sheet", some "strong_lists"), by simp, e.symm⟩
      · exact ⟨He.cT K ("room", none), by simp, e.symm⟩
      · exact ⟨He.cT K ("picked", none), by simp, e.symm⟩
      · exact ⟨He.cT K ("stretch", none), by simp, e.symm⟩
      · exact ⟨He.cT K ("upkeep", none), by simp, e.symm⟩
      · exact ⟨He.cT K ("price", none), by simp, e.symm⟩
      · exact ⟨He.cT K ("left_of", none), by simp, e.symm⟩
      · exact ⟨He.cT K ("Sheet", some "outdoes"), by simp, e.symm⟩
      · exact ⟨He.cT K ("Sheet", some "strength"), by simp, e.symm⟩
    exact ⟨#[], hT p hp, trivial⟩
  · exact ok_law T ⟨hTB (He.cT K ("Sheet", some "strong_lists")) (by simp), hTB (He.cT K ("room", none)) (by simp), hTB (He.cT K ("picked", none)) (by simp), hTB (He.cT K ("stretch", none)) (by simp), hTB (He.cT K ("upkeep", none)) (by simp), hTB (He.cT K ("price", none)) (by simp), hTB (He.cT K ("left_of", none)) (by simp), hTB (He.cT K ("Sheet", some "outdoes")) (by simp), hTB (He.cT K ("Sheet", some "strength")) (by simp), hTB (He.cT K ("Sheet", some "most_saving")) (by simp), hTB (He.cT K ("_law_refused", none)) (by simp)⟩
end My
open PySem PySem.W PySem.Calls PyProof.Rows
set_option maxHeartbeats 0 in
theorem PySem.Challenge.cw_stretchkeep_k45_chosen_refused_holds : PySem.Challenge.rw_stretchkeep_k45_chosen_refused.Holds := by
  w_on; o_law
  refine HandSHeadRun.head_any (r := My.Rw) (q := view My.Rw.prog [50]) (H := My.hk) (ob := My.ob) (M := 4000) (loose := My.loose1 ++ My.loose2) (d := HandSHeadRun.topDef My.Rw.prog 50) (kwd := []) My.ob_eq
    (by kernel_rfl) (fun s => by kernel_rfl) My.run (by kernel_rfl) (by kernel_rfl) (by kernel_rfl) (by rfl) (by first | assumption | decide +kernel) (by decide +kernel) ⟨rfl, rfl, rfl, rfl, rfl, by decide +kernel⟩ ?hw ?hc
  case hw => w_witness2
  case hc =>
    refine LamX.walk_ofTsE (l := PySem.Challenge.rw_stretchkeep_k45_chosen_refused) (n := 63) (k := 90) (x := "script") (CX := fun _ => L2.CX0) rfl (by decide) (by kernel_rfl) ⟨rfl, by decide, by decide⟩ ?F (fun _ _ _ _ _ z => z)
    intro w mg fa h Y G hmg0
    obtain ⟨K, KX, c⟩ := Y
    have hmg : mg ("law" : PySem.Str) = some (.ref fa) := by
      have e : (HandSHeadRun.topDef My.Rw.prog 50).name = ("law" : PySem.Str) := by kernel_rfl
      rw [← e]
      exact hmg0
    exact ⟨K, KX, My.all_mk KX G hmg c⟩

