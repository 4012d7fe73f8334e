import PyProof.Rows.All
import Wide.All
import OpenK.AllK
import Wide.FinOn
import HandS.ForMost
import HandS.Walk
import HandS.IsInst
import HandS.DictComp
import HandS.SortInts
import HandS.NoneIn
import HandS.Replace
import HandS.TupAny
import HandS.TupLe
import PyProof.ListStr
import PyProof.TupleOfStr
import KE.GoesNew
import HandS.Zip
import HandS.More
import PyProof.StrLawsFirst
import HandS.Conv
import KE.KSortedM
import HandS.AnyAll
import HandS.EndTab
import PyProof.TupleOfGen
import HandS.EndOwn
import KE.KDictPairs
import KE.SortData
import KE.DataCmp
import PyProof.DictWalks
import KE.KDictWalk
import HandS.Style
import PyProof.CollectStr
import PyProof.SliceStr2
import PyProof.TupleOfSeq
import HandS.Star
import HandS.Wide
import KE.DataMinMax
import HandS.GenOver
import HandS.GenList
import KE.DatumIndex
import PyProof.ConsumeWalk
import HandS.SetFor
import PyProof.StrWalks
import PyProof.SetRoads
import PyProof.Rows.StrCase
import HandS.TupMul
import PyProof.ListNew
import HandS.SetBool
import KE.DataMinKey
import HandS.SortKw
import HandS.Strs
import HandS.Deep
import HandS.ListItems
import KE.KDictZip
import KE.GoesMore
import KE.GoesEnum
import HandS.Nested
import KE.KMinKey
import KE.GoesZip
import HandS.DictSub
import HandS.Defaults
import HandS.Head0
import HandS.Head1
import HandS.Head2
import HandS.HeadHook1
import HandS.HeadHook2
import HandS.HeadHook3
import HandS.HeadHook4
import HandS.HeadWalk
import KE.SortKeyHeap
import HandS.Keys
import HandS.Text
import PyProof.P3In
import KE.KDictSum
import KE.KEqDict
import KE.KDictKeyed
import KE.KDictItemsList
import HandS.TupLen
import HandS.ExcIs
import HandS.ExcOwn
import HandS.Lambda
import HandS.WordsExc
import KE.KDictDisplayH
import PySem.Challenge.RW_stretchkeep_k22_trees_looked_at
set_option Elab.async false
set_option linter.all false
set_option maxRecDepth 100000
namespace My
open PySem PySem.Spec PyProof.Rows L2
/-! ### heaps -/
/-- all but r is as it was -/
def Kp (r : Addr) (H H' : Hp) : Prop := ∀ b o, b ≠ r → H b = some o → H' b = some o
theorem Kp.rfl' {r : Addr} {H : Hp} : Kp r H H := fun _ _ _ h => h
theorem Kp.trans {r : Addr} {H H1 H2 : Hp} (a : Kp r H H1) (b : Kp r H1 H2) : Kp r H H2 := fun c o n h => b c o n (a c o n h)
theorem Kp.new {r p : Addr} {H H1 : Hp} {o : HO} (a : Kp r H H1) (n : H1 p = none) : Kp r H (upd H1 p o) := fun b x nb h => by
  have h1 := a b x nb h
  rw [upd_ne (ne_of_none h1 n)]
  exact h1
theorem Kp.own {r : Addr} {H H1 : Hp} {o : HO} (a : Kp r H H1) : Kp r H (upd H1 r o) := fun b x nb h => by
  rw [upd_ne nb]
  exact a b x nb h
/-- an object that H does not know is written -/
theorem Kp.mut {r p : Addr} {H H1 : Hp} {o : HO} (a : Kp r H H1) (n : H p = none) : Kp r H (upd H1 p o) := fun b x nb h => by
  rw [upd_ne (ne_of_none h n)]
  exact a b x nb h
theorem Same.kp {r : Addr} {H H' : Hp} (s : Same H H') : Kp r H H' := fun b o _ h => s b o h
theorem Same.new {p : Addr} {H H1 : Hp} {o : HO} (a : Same H H1) (n : H1 p = none) : Same H (upd H1 p o) := fun b x h => by
  have h1 := a b x h
  rw [upd_ne (ne_of_none h1 n)]
  exact h1
theorem Same.mut {p : Addr} {H H1 : Hp} {o : HO} (a : Same H H1) (n : H p = none) : Same H (upd H1 p o) := fun b x h => by
  rw [upd_ne (ne_of_none h n)]
  exact a b x h
theorem Same.tup {K : PySem.W.Frag} {H H' : Hp} {a : Addr} {xs : List V} (e : Same H H') (h : SqT K H a xs) : SqT K H' a xs := by
  rcases h with (h | ⟨o, h⟩) | h
  · exact .inl (.inl (e _ _ h))
  · exact .inl (.inr ⟨o, e _ _ h⟩)
  · exact .inr h
/-- a list, a tuple that stands there stays, if it is not at r -/
theorem Kp.seqL {K : PySem.W.Frag} {r a : Addr} {H H' : Hp} {xs : List V} (e : Kp r H H') (n : a ≠ r) (h : SqL K H a xs) : SqL K H' a xs := by
  rcases h with (h | ⟨o, h⟩) | h
  · exact .inl (.inl (e _ _ n h))
  · exact .inl (.inr ⟨o, e _ _ n h⟩)
  · exact .inr h
theorem Same.kpN {r : Addr} {H H1 H2 : Hp} (s : Same H H1) (n : H r = Option.none) (k : Kp r H1 H2) : Same H H2 := fun b o h => k b o (ne_of_none h n) (s b o h)
theorem Kp.none {r p : Addr} {H H' : Hp} (e : Kp r H H') (n : p ≠ r) (h : H' p = Option.none) : H p = Option.none := by
  cases q : H p with
  | none => rfl
  | some o =>
    rw [e p o n q] at h
    cases h
theorem keep_new {H : Hp} {p b : Addr} {o x : HO} (h : H b = some x) (n : H p = Option.none) : (upd H p o) b = some x := by
  rw [upd_ne (ne_of_none h n)]
  exact h
theorem keep_ne {H : Hp} {p b : Addr} {o x : HO} (h : H b = some x) (n : b ≠ p) : (upd H p o) b = some x := by
  rw [upd_ne n]
  exact h
/-! ### a word between a statement and the rest -/
def tMid (t u : TS) : TS := fun D σ H => ∃ M : L2.St → Hp → Prop, t { D with nx := M } σ H ∧ ∀ σ1 H1, M σ1 H1 → u D σ1 H1
theorem pss_mid {X : Cx} {st : Stmt} {r : List Stmt} {t u : TS} (a : PS X st t) (b : PSs X r u) : PSs X (st :: r) (tMid t u) := ⟨fun pins s σ H D I h => by
  obtain ⟨M, hm, hu⟩ := h
  refine wpAny_execs_cons (thn (a.run pins s σ H { D with nx := M } I hm) fun f s1 q => ?_)
  cases f
  case next =>
    obtain ⟨σ1, H1, I1, q1⟩ := q
    exact b.run pins s1 σ1 H1 D I1 (hu σ1 H1 q1)
  all_goals exact q⟩
/-! ### texts -/
/-- a text of these codes; one sign -/
abbrev tx (l : List Nat) : V := .str ⟨l.toArray⟩
abbrev sg (c : Nat) : V := .str ⟨#[c]⟩
theorem signs_vals {x : Str} {acc : Array Value} (h : ItemsOf (SignAt x) acc x.cps.size) : Vals (x.cps.toList.map sg) acc.toList := by
  obtain ⟨hz, hi⟩ := h
  have key : ∀ (l : List Nat) (us : List Value), l.length = us.length → (∀ (j : Nat) (c : Nat) (v : Value), l[j]? = some c → us[j]? = some v → ∃ t, v = Value.str ⟨#[c]⟩ t) → Vals (l.map sg) us := by
    intro l
    induction l with
    | nil =>
      intro us hl _
      cases us with
      | nil => exact .nil
      | cons a b => cases hl
    | cons c l ih =>
      intro us hl hh
      cases us with
      | nil => cases hl
      | cons u us =>
        refine .cons ?_ (ih us (Nat.succ.inj hl) fun j c v h1 h2 => hh (j + 1) c v h1 h2)
        obtain ⟨t, e⟩ := hh 0 c u rfl rfl
        exact ⟨t, e⟩
  refine key _ _ (by rw [Array.length_toList, Array.length_toList, hz]) fun j c v h1 h2 => ?_
  obtain ⟨cc, t, e1, e2⟩ := hi j v (by rw [← Array.getElem?_toList]; exact h2)
  rw [Array.getElem?_toList] at h1
  rw [h1] at e1
  cases e1
  exact ⟨t, e2⟩
/-- the text of one sign -/
abbrev sS (c : Nat) : Str := ⟨#[c]⟩
theorem str_empty : (Str.ofString "").cps = #[] := by decide +kernel
theorem join_signs : ∀ l : List Nat, Txt.join (Str.ofString "") (l.map sS) = ⟨l.toArray⟩ := by
  intro l
  show PySem.Builtin.Str.glued (Str.ofString "") (l.map sS) = _
  rw [PySem.StrLaws.glued_eq_join]
  induction l with
  | nil => rfl
  | cons c l ih =>
    cases l with
    | nil => rfl
    | cons d l =>
      show sS c ++ Str.ofString "" ++ Str.join (Str.ofString "") ((d :: l).map sS) = _
      rw [ih]
      show (⟨(#[c] ++ (Str.ofString "").cps) ++ (d :: l).toArray⟩ : Str) = _
      rw [str_empty]
      simp
theorem ltCps_one {a b : Nat} (h : ltCps [a] [b] = false) : b ≤ a := by
  simp [ltCps] at h
  exact h
theorem rising_signs : ∀ (l : List Nat) (c : Nat), risingS (sS c) (l.map sS) = true → (c :: l).Pairwise (· ≤ ·)
  | [], c, _ => List.pairwise_singleton _ _
  | d :: l, c, h => by
    have h' : (!ltCps [d] [c] && risingS (sS d) (l.map sS)) = true := h
    rw [Bool.and_eq_true, Bool.not_eq_true'] at h'
    have hd := ltCps_one h'.1
    have ih := rising_signs l d h'.2
    refine List.Pairwise.cons (fun x hx => ?_) ih
    rcases List.mem_cons.mp hx with e | hx
    · rw [e]
      exact hd
    · exact Nat.le_trans hd ((List.pairwise_cons.mp ih).1 x hx)
theorem sorted_signs : ∀ (l : List Nat), sortedS (l.map sS) = true → l.Pairwise (· ≤ ·)
  | [], _ => List.Pairwise.nil
  | c :: l, h => rising_signs l c h
theorem perm_signs {ys : List Str} {l : List Nat} (h : ys.Perm (l.map sS)) : ∃ l' : List Nat, ys = l'.map sS ∧ l'.Perm l := by
  let hd : Str → Nat := fun z => z.cps.toList.headD 0
  refine ⟨ys.map hd, ?_, ?_⟩
  · rw [List.map_map]
    have e : ∀ y ∈ ys, (sS ∘ hd) y = y := fun y hy => by
      obtain ⟨c, _, rfl⟩ := List.mem_map.mp (h.mem_iff.mp hy)
      rfl
    conv => lhs; rw [← List.map_id ys]
    exact (List.map_congr_left e).symm
  · have e := h.map hd
    rw [List.map_map] at e
    have e2 : l.map (hd ∘ sS) = l := by
      conv => rhs; rw [← List.map_id l]
      exact List.map_congr_left fun c _ => rfl
    rw [e2] at e
    exact e
theorem strict_of {l : List Nat} (h : l.Pairwise (· ≤ ·)) (n : l.Nodup) : l.Pairwise (· < ·) := by
  refine (h.and n).imp fun {a b} q => ?_
  have h1 := q.1
  have h2 : a ≠ b := q.2
  omega
theorem map_sg (l : List Nat) : l.map sg = (l.map sS).map V.str := by
  rw [List.map_map]
  rfl
theorem erase_map {α β : Type} (f : α → β) : ∀ (l : List α) (k : Nat), (l.map f).eraseIdx k = (l.eraseIdx k).map f
  | [], _ => rfl
  | _ :: _, 0 => rfl
  | a :: l, k + 1 => by
    show f a :: (l.map f).eraseIdx k = f a :: (l.eraseIdx k).map f
    rw [erase_map f l k]
theorem pop_perm : ∀ {l : List Nat} {k : Nat} {y : Nat}, l[k]? = some y → (y :: l.eraseIdx k).Perm l
  | [], k, y, h => by simp at h
  | a :: l, 0, y, h => by
    have e : a = y := Option.some.inj h
    rw [e]
    exact List.Perm.refl _
  | a :: l, k + 1, y, h => by
    have ih := pop_perm (l := l) (k := k) (y := y) h
    exact (List.Perm.swap a y (l.eraseIdx k)).trans (ih.cons a)
theorem popped {l : List Nat} {k : Nat} {y : Nat} (h : l[k]? = some y) (f : List Nat) : (l.eraseIdx k ++ (f ++ [y])).Perm (l ++ f) := by
  have p := pop_perm h
  have p1 : (l.eraseIdx k ++ (f ++ [y])).Perm ([y] ++ (l.eraseIdx k ++ f)) := by
    rw [← List.append_assoc]
    exact List.perm_append_comm
  refine p1.trans ?_
  rw [← List.append_assoc]
  exact p.append_right f
section
variable {X : Cx}
theorem call_list_txt (hc : X.calm = true := by rfl) : CallR X (.type "list") (fun xs H Q => ∃ z : Str, xs = [.str z] ∧ z.length ≤ sizeLine ∧ ∀ l, H l = none → Q (.ref l) (upd H l (.lst (z.cps.toList.map sg)))) := by
  intro pins s σ H xs us Q I r h
  obtain ⟨z, rfl, hz, q⟩ := h
  obtain ⟨u, rfl, rx⟩ := vals1 r
  obtain ⟨t, rfl⟩ := rx
  refine PySem.call_list_str (I.ok.hd hc) z t (fun h' tk acc c kp e hi => ?_) hz
  have hv := signs_vals hi
  exact ⟨.ref s.heap.objs.size, _, I.laid (t' := tk) kp (Nat.le_refl _) (show ObjOk X.prog X.w _ h' _ (.lst (z.cps.toList.map sg)) from ⟨by rw [List.length_map, Array.length_toList]; exact hz, acc.toList, c, hv, by rw [Array.toArray_toList]; exact e⟩), rfl, q _ (I.hok.fresh (Nat.le_refl _))⟩
end
end My

set_option Elab.async false
set_option linter.all false
set_option maxRecDepth 100000
set_option maxHeartbeats 1000000
namespace My
open PySem PySem.Spec PyProof.Rows L2
/-! ### enumerate over a text, over a tuple -/
def ItEg (go : Nat → Hp → Prop) (val : Nat → Hp → V → Prop) (stop : Nat → Hp → Prop) : It :=
  ⟨go, fun i H v H' => ∃ T x, v = .ref T ∧ H T = none ∧ H' = upd H T (.tup [.int (i : Nat), x]) ∧ val i H x, stop⟩
theorem turn_eg {P : Program} {w : World} {K : PySem.W.Frag} {elts : List Expr} {kk : Nat} {tpos : Pos} {e it : Addr} {Sub : Nat → Heap → Prop} {go stop : Nat → Hp → Prop} {val : Nat → Hp → V → Prop} (hne : e ≠ it)
    (obj : ∀ i h, Sub i h → ∃ o, h.get? it = some o ∧ ∀ v, o.data ≠ .cell v)
    (keep : ∀ i h h', Sub i h → (∀ o, h.get? it = some o → h'.get? it = some o) → Sub i h')
    (draw : ∀ (X : Cx) (pins : List (Addr × Obj)) (σ : L2.St) (H : Hp) (s : Shared) (i : Nat), X.prog = P → X.w = w → X.K = K → X.calm = true → Inv X pins σ H s → (∃ old, IsEnum s.heap e it ((i : Nat) : Int) old) → Sub i s.heap → go i H ∨ stop i H →
      ∃ (fp : List Addr) (n : Nat) (Pd : Nat → Value → Prop) (St : Nat → Heap → Prop), Draws P w X.A.in1 it fp n Pd St ∧ St i s.heap ∧ (∀ j h, St j h → Sub j h) ∧ e ∉ fp ∧ (go i H → i < n) ∧ (stop i H → i = n) ∧ (go i H → ∀ u, Pd i u → ∃ x, RelV x u ∧ val i H x)) :
    Turn P w K (.Tuple elts kk tpos) (ItEg go val stop) [e, it] e (fun i h => (∃ old, IsEnum h e it ((i : Nat) : Int) old) ∧ Sub i h) where
  mem := by simp
  obj := fun i h st b hb => by
    obtain ⟨⟨old, he⟩, hs⟩ := st
    have hb2 : b = e ∨ b = it := by simpa using hb
    rcases hb2 with z | z
    · rw [z]
      exact ⟨_, he, fun v q => nomatch q⟩
    · rw [z]
      exact obj i h hs
  keep := fun i h h' st k => by
    obtain ⟨⟨old, he⟩, hs⟩ := st
    exact ⟨⟨old, k e (by simp) _ he⟩, keep i h h' hs fun o q => k it (by simp) o q⟩
  item := by
    intro X hP hw hK hc i pins s σ H E I hf st hg
    obtain ⟨fp, n, Pd, St, D, hst, hsub, hef, hlt, _, hval⟩ := draw X pins σ H s i hP hw hK hc I st.1 st.2 (.inl hg)
    obtain ⟨⟨old, he⟩, hs⟩ := st
    subst hP hw hK
    have hel : e < s.heap.objs.size := Heap.lt_size he
    have hil : it < s.heap.objs.size := by
      obtain ⟨o, q, _⟩ := obj i _ hs
      exact Heap.lt_size q
    refine wpAny_pyNext_enum_itemC D he hst (hlt hg) hne hef fun u h' tk hu ho hst' hT hsz hk => ?_
    obtain ⟨x, ru, hv⟩ := hval hg u hu
    refine ⟨_, rfl, wpAny_letOwnedTupleGo_enum (s := { s with heap := h', toks := tk + 1 }) ho fun h'' he' sb => ?_⟩
    have hT2 : h''.get? s.heap.objs.size = some { cls := .type "tuple", data := .seq #[.int i tk, u] } := (sb.2 _ (Nat.ne_of_gt hel)).trans hT
    have new : ObjOk X.prog X.w (upd H s.heap.objs.size (.tup [.int (i : Nat), x])) h'' s.heap.objs.size (.tup [.int (i : Nat), x]) := ⟨by show 2 ≤ sizeLine; decide, [.int i tk, u], .cons ⟨_, rfl⟩ (.cons ru .nil), ⟨_, hT2, rfl, _, rfl⟩⟩
    have I1 : Inv X pins σ (upd H s.heap.objs.size (.tup [.int (i : Nat), x])) { s with heap := h'', toks := tk + 1 } :=
      I.turnedNew (ch := [e, it]) (fun b ob hb q => (sb.2 b fun z => hb (by simp [z])).trans (hk b ob (fun z => hb (by simp [z])) (fun z => hb (by simp [z])) q)) hf (Nat.le_refl _) new
    refine ⟨.ref s.heap.objs.size, _, I1, rfl, ⟨_, x, rfl, I.hok.fresh (Nat.le_refl _), rfl, hv⟩, ⟨⟨u, ?_⟩, keep _ _ _ (hsub _ _ hst') fun o q => (sb.2 it (Ne.symm hne)).trans q⟩, fun b hb => ?_⟩
    · have e1 : ((i + 1 : Nat) : Int) = (i : Int) + 1 := by omega
      rw [e1]
      exact he'
    · have hb2 : b = e ∨ b = it := by simpa using hb
      have hb' : b < s.heap.objs.size := by
        rcases hb2 with z | z
        · rw [z]
          exact hel
        · rw [z]
          exact hil
      rw [upd_ne (Nat.ne_of_lt hb')]
      exact (hf b hb).1
  done := by
    intro X hP hw hK hc i pins s σ H E I hf st hg
    obtain ⟨fp, n, Pd, St, D, hst, hsub, hef, _, heq, _⟩ := draw X pins σ H s i hP hw hK hc I st.1 st.2 (.inr hg)
    obtain ⟨⟨old, he⟩, hs⟩ := st
    subst hP hw hK
    have ei := heq hg
    subst ei
    obtain ⟨f0, f1, f2, f3, f4, f5⟩ := hf it (by simp)
    exact wpAny_pyNext_enum_endD D he hst fun h' eb => ⟨rfl, I.turned (t' := s.toks) (fun b o hb q => eb b o hb q) f0 f1 f3 f4 f5⟩
  self := fun A i s Q E st h => by
    obtain ⟨⟨old, he⟩, _⟩ := st
    exact wpAny_pyIter_enum he h
/-- the signs of a text with their places -/
def Ites (z : Str) : It := ItEg (fun i _ => i < z.cps.size) (fun i _ x => ∃ c, z.cps[i]? = some c ∧ x = sg c) (fun i _ => i = z.cps.size)
/-- the items of a tuple with their places -/
def Itet (K : PySem.W.Frag) (a : Addr) : It := ItEg (fun i H => ∃ xs, SqT K H a xs ∧ i < xs.length) (fun i H x => ∀ xs, SqT K H a xs → xs[i]? = some x) (fun i H => ∃ xs, SqT K H a xs ∧ i = xs.length)
theorem turn_es {P : Program} {w : World} {K : PySem.W.Frag} {elts : List Expr} {kk : Nat} {tpos : Pos} {e it : Addr} (z : Str) (t : Tok) (hne : e ≠ it) :
    Turn P w K (.Tuple elts kk tpos) (Ites z) [e, it] e (fun i h => (∃ old, IsEnum h e it ((i : Nat) : Int) old) ∧ h.IsStrIter it (strIterType z) z t i) := by
  refine turn_eg hne (fun i h st => ?_) (fun i h h' st k => ?_) (fun X pins σ H s i hP hw hK hc I hen st hg => ?_)
  · obtain ⟨o, e1, c, d⟩ := st
    exact ⟨o, e1, fun v q => by rw [d] at q; cases q⟩
  · obtain ⟨o, ho, r⟩ := st
    exact ⟨o, k o ho, r⟩
  · have hh : X.A.in1.handled = none := I.ok.hd hc
    subst hP hw hK
    refine ⟨_, _, _, _, Draws.text hh it z t, st, fun _ _ q => q, fun q => hne (by simpa using q), fun q => q, fun q => q, fun _ u hu => ?_⟩
    obtain ⟨c, tk, e1, e2⟩ := hu
    exact ⟨sg c, ⟨tk, e2⟩, c, e1, rfl⟩
theorem turn_et {P : Program} {w : World} {K : PySem.W.Frag} {elts : List Expr} {kk : Nat} {tpos : Pos} {e it : Addr} (a : Addr) (hne : e ≠ it) :
    Turn P w K (.Tuple elts kk tpos) (Itet K a) [e, it] e (fun i h => (∃ old, IsEnum h e it ((i : Nat) : Int) old) ∧ h.IsTupleIter it a i) := by
  refine turn_eg hne (fun i h st => ?_) (fun i h h' st k => ?_) (fun X pins σ H s i hP hw hK hc I hen st hg => ?_)
  · obtain ⟨o, e1, c, d⟩ := st
    exact ⟨o, e1, fun v q => by rw [d] at q; cases q⟩
  · obtain ⟨o, ho, r⟩ := st
    exact ⟨o, k o ho, r⟩
  · have hh : X.A.in1.handled = none := I.ok.hd hc
    subst hP hw hK
    have hx : ∃ xs, SqT X.K H a xs := by
      rcases hg with ⟨xs, q, _⟩ | ⟨xs, q, _⟩
      · exact ⟨xs, q⟩
      · exact ⟨xs, q⟩
    obtain ⟨xs, hq⟩ := hx
    obtain ⟨its, rv, p, hz⟩ := I.tuple hq
    have hl := rv.length
    have same : ∀ ys, SqT X.K H a ys → ys.length = its.length := fun ys hy => by
      rw [I.tuple_inj hy hq]
      exact hl
    have hia : a ≠ it := fun z => by
      obtain ⟨o1, h1, c1, _⟩ := st
      obtain ⟨o2, h2, c2, _⟩ := p
      rw [z] at h2
      rw [h1] at h2
      cases h2
      rw [c1] at c2
      exact absurd c2 (by decide)
    have hea : e ≠ a := fun z => by
      obtain ⟨old, he⟩ := hen
      obtain ⟨o2, h2, c2, _⟩ := p
      rw [← z] at h2
      have he' : s.heap.get? e = some _ := he
      rw [he'] at h2
      cases h2
      exact absurd (show Value.type "enumerate" = Value.type "tuple" from c2) (by decide)
    refine ⟨_, _, _, _, Draws.tuple hh it a hia its.toArray, ⟨st, p⟩, fun _ _ q => q.1, fun q => ?_, fun q => ?_, fun q => ?_, fun q u hu => ?_⟩
    · have q2 : e = it ∨ e = a := by simpa using q
      rcases q2 with z | z
      · exact hne z
      · exact hea z
    · obtain ⟨ys, hy, hi⟩ := q
      have := same ys hy
      simp only [List.size_toArray]
      omega
    · obtain ⟨ys, hy, hi⟩ := q
      have := same ys hy
      simp only [List.size_toArray]
      omega
    · have hu2 : its[i]? = some u := by simpa using hu
      have hi : i < xs.length := by
        have := (List.getElem?_eq_some_iff.mp hu2).1
        omega
      obtain ⟨u', hu', ru⟩ := rv.get (List.getElem?_eq_getElem hi)
      rw [hu2] at hu'
      cases hu'
      refine ⟨xs[i], ru, fun ys hy => ?_⟩
      rw [I.tuple_inj hy hq]
      exact List.getElem?_eq_getElem hi
section
variable {X : Cx}
def iEnumS (ta : TA) : TI := fun σ H R => ta σ H fun vs H1 => ∃ z, vs = [.str z] ∧ R (Ites z) H1
def iEnumT (K : PySem.W.Frag) (ta : TA) : TI := fun σ H R => ta σ H fun vs H1 => ∃ a xs, vs = [.ref a] ∧ SqT K H1 a xs ∧ R (Itet K a) H1
theorem fresh2 {pins : List (Addr × Obj)} {σ : L2.St} {H : Hp} {s : Shared} (I : Inv X pins σ H s) : ∀ b ∈ [s.heap.objs.size + 1, s.heap.objs.size], FpOk X pins H b := fun b hb => by
  have hb2 : b = s.heap.objs.size + 1 ∨ b = s.heap.objs.size := by simpa using hb
  have hle : s.heap.objs.size ≤ b := by
    rcases hb2 with z | z
    · rw [z]
      exact Nat.le_succ _
    · rw [z]
      exact Nat.le_refl _
  exact I.fpOk hle (I.hok.fresh hle)
theorem pi_enumS {e : Expr} {ta : TA} {p pos tpos : Pos} {elts : List Expr} {kk : Nat} (hg : Gl X "enumerate") (hm : X.mg "enumerate" = none) (ha : PA X [e] ta) (hs : starEach [e] X.env = [(false, eval e X.env)] := by rfl) :
    PI X (.Tuple elts kk tpos) (.Call (.Name "enumerate" p) [e] [] pos) (iEnumS ta) := by
  refine ⟨fun pins s σ H R I h => ?_⟩
  refine Call_ (ld_blt I hg hm boot_enumerate (PyProof.Rows.callWith_type1 (thn (ha.run pos pins s σ H _ I h) fun us s1 ⟨vs, H1, I1, r1, q1⟩ => ?_) hs rfl))
  obtain ⟨z, rfl, q⟩ := q1
  obtain ⟨u, rfl, ru⟩ := vals1 r1
  obtain ⟨t, rfl⟩ := ru
  refine call_enumerate_str fun h' he hit hsz hk => wpAny_pyIter_enum he ?_
  exact ⟨s1.heap.objs.size + 1, [s1.heap.objs.size + 1, s1.heap.objs.size], _, _, H1, rfl, I1.kept (t' := s1.toks) hk, turn_es z t (Nat.succ_ne_self _), ⟨⟨.none, he⟩, hit⟩, fresh2 I1, q⟩
theorem meets_enumT (l : Addr) (items : Array Value) (n : Nat) (dct : Option Addr) (sl : Array (Option Value)) :
    Meets (Builtin.«enumerate.__new__» ⟨[.type "enumerate", .ref l], []⟩) (fun _ R s => s.heap.get? l = some ⟨.type "tuple", dct, .seq items n, sl⟩ ∧
      R (.ok (.ret (.ref (s.heap.push { cls := .type "tuple_iterator", data := .fields #[.ref l, .int 0 0] }).objs.size)))
        { s with heap := (s.heap.push { cls := .type "tuple_iterator", data := .fields #[.ref l, .int 0 0] }).push { cls := .type "enumerate", data := .fields #[.none, .bool false, .ref s.heap.objs.size, rawInt 0, .none, .none] } }) :=
  .of_wp fun prog w A R s h => by
    obtain ⟨hp, g, d, tk, os⟩ := s
    obtain ⟨hl, h⟩ := h
    have hsub := sub_enumerate
    have hT : Heap.IsTuple (Shared.heap ⟨hp, g, d, tk, os⟩) l items := ⟨_, hl, rfl, n, rfl⟩
    wp_walk using AutoSeq1.wpAny_loadPart' hl
    refine wpAny_stack_any fun st => wpAny_pure ?_
    split
    · rename_i c _ _ _ _ _
      cases (c == Value.type "enumerate") <;> (wp_walk using AutoSeq1.wpAny_loadPart' hl, wpAny_pyIter_tuple hT; exact ⟨_, rfl, h⟩)
    · wp_walk using AutoSeq1.wpAny_loadPart' hl, wpAny_pyIter_tuple hT
      exact ⟨_, rfl, h⟩
theorem call_enumT {prog : Program} {w : World} {A : Around} {E : Value → Shared → Prop} {s : Shared} {l : Addr} {items : Array Value} {Q : Value → Shared → Prop} (hL : s.heap.IsTuple l items)
    (h : ∀ h', IsEnum h' (s.heap.objs.size + 1) s.heap.objs.size 0 .none → h'.IsTupleIter s.heap.objs.size l 0 → (∀ b o, s.heap.get? b = some o → h'.get? b = some o) → Q (.ref (s.heap.objs.size + 1)) { s with heap := h' }) :
    wpAny (model prog w) A (call (.type "enumerate") [.ref l]) Q E s := by
  obtain ⟨⟨c, dct, dt, sl⟩, hl, hc, n, hd⟩ := hL
  have hc' : c = .type "tuple" := hc
  have hd' : dt = .seq items n := hd
  subst hc' hd'
  refine callType_new F.called_enumerate (by decide) (F.typeCall_enumerate_1 _) (F.newCall_enumerate_1 _) (fun obj => F.args_object_init_2 obj _) F.entry_enumerate_new (meets_enumT l items n dct sl) ⟨hl, ?_⟩
  have hz : (s.heap.push { cls := .type "tuple_iterator", data := .fields #[.ref l, .int 0 0] }).objs.size = s.heap.objs.size + 1 := Heap.size_push ..
  show _ ∧ _
  rw [hz]
  have he : IsEnum ((s.heap.push { cls := .type "tuple_iterator", data := .fields #[.ref l, .int 0 0] }).push { cls := .type "enumerate", data := .fields #[.none, .bool false, .ref s.heap.objs.size, rawInt 0, .none, .none] }) (s.heap.objs.size + 1) s.heap.objs.size 0 .none := by
    have := Heap.get?_push_size (s.heap.push { cls := .type "tuple_iterator", data := .fields #[.ref l, .int 0 0] }) (o := { cls := .type "enumerate", data := .fields #[.none, .bool false, .ref s.heap.objs.size, rawInt 0, .none, .none] }) rfl
    rw [hz] at this
    exact this
  exact ⟨⟨_, he, rfl⟩, h _ he ⟨_, Heap.get?_push_of_some _ (Heap.get?_push_size _ rfl), rfl, rfl⟩ fun b o x => Heap.get?_push_of_some _ (Heap.get?_push_of_some _ x)⟩
theorem pi_enumT {e : Expr} {ta : TA} {p pos tpos : Pos} {elts : List Expr} {kk : Nat} (hg : Gl X "enumerate") (hm : X.mg "enumerate" = none) (ha : PA X [e] ta) (hs : starEach [e] X.env = [(false, eval e X.env)] := by rfl) :
    PI X (.Tuple elts kk tpos) (.Call (.Name "enumerate" p) [e] [] pos) (iEnumT X.K ta) := by
  refine ⟨fun pins s σ H R I h => ?_⟩
  refine Call_ (ld_blt I hg hm boot_enumerate (PyProof.Rows.callWith_type1 (thn (ha.run pos pins s σ H _ I h) fun us s1 ⟨vs, H1, I1, r1, q1⟩ => ?_) hs rfl))
  obtain ⟨a, xs, rfl, hq, q⟩ := q1
  obtain ⟨u, rfl, ru⟩ := vals1 r1
  cases ru
  obtain ⟨its, rv, pl, hz⟩ := I1.tuple hq
  refine call_enumT pl fun h' he hit hk => wpAny_pyIter_enum he ?_
  exact ⟨s1.heap.objs.size + 1, [s1.heap.objs.size + 1, s1.heap.objs.size], _, _, H1, rfl, I1.kept (t' := s1.toks) hk, turn_et a (Nat.succ_ne_self _), ⟨⟨.none, he⟩, hit⟩, fresh2 I1, q⟩
end
theorem walk_es {z : Str} : Walk (Ites z) z.cps.size (fun _ => True) (YPair (fun i => some (.int (i : Nat))) (fun i => z.cps[i]?.map sg)) := by
  refine ⟨fun _ _ hi _ => hi, fun _ _ => rfl, fun i H v H' hi _ y => ?_⟩
  obtain ⟨T, x, h1, h2, h3, c, h4, h5⟩ := y
  exact ⟨T, .int (i : Nat), x, h1, h2, h3, rfl, by show Option.map sg z.cps[i]? = some x; rw [h4, h5]; rfl⟩
theorem walk_et {K : PySem.W.Frag} {a : Addr} {xs : List V} : Walk (Itet K a) xs.length (fun H => SqT K H a xs) (YPair (fun i => some (.int (i : Nat))) (fun i => xs[i]?)) := by
  refine ⟨fun _ _ hi q => ⟨xs, q, hi⟩, fun _ q => ⟨xs, q, rfl⟩, fun i H v H' hi q y => ?_⟩
  obtain ⟨T, x, h1, h2, h3, h4⟩ := y
  exact ⟨T, .int (i : Nat), x, h1, h2, h3, rfl, h4 xs q⟩
end My

set_option Elab.async false
set_option linter.all false
set_option maxRecDepth 100000
set_option maxHeartbeats 1000000
namespace My
open PySem PySem.Spec PyProof.Rows L2
/-! ### calls by named readings -/
def rLenSq (K : PySem.W.Frag) : List V → Hp → VK → Prop := fun xs H Q => ∃ p ys, xs = [.ref p] ∧ (SqL K H p ys ∨ SqT K H p ys) ∧ Q (.int (ys.length : Nat)) H
def rListSq (K : PySem.W.Frag) : List V → Hp → VK → Prop := fun xs H Q => ∃ p ys, xs = [.ref p] ∧ (SqL K H p ys ∨ SqT K H p ys) ∧ ∀ l, H l = none → Q (.ref l) (upd H l (.lst ys))
def rTupSq (K : PySem.W.Frag) : List V → Hp → VK → Prop := fun xs H Q => ∃ p ys, xs = [.ref p] ∧ ((SqL K H p ys ∧ ∀ l, H l = none → Q (.ref l) (upd H l (.tup ys))) ∨ (SqT K H p ys ∧ Q (.ref p) H))
def rDictSq (K : PySem.W.Frag) : List V → Hp → VK → Prop := fun xs H Q => ∃ (a : Addr) (ps : List Addr) (kvs : List (Key × V)), xs = [.ref a] ∧ SqL K H a (ps.map V.ref) ∧ Paired (fun p kv => SqT K H p [kV kv.1, kv.2]) ps kvs ∧ ∀ p, H p = none → Q (.ref p) (upd H p (.dK (mergeK [] kvs)))
section
variable (K : PySem.W.Frag) {X : Cx}
theorem cLenSq (hK : X.K = K := by rfl) : CallR X (.builtin "len") (rLenSq K) := by
  subst hK
  exact call_len_seq
theorem cListSq (hK : X.K = K := by rfl) : CallR X (.type "list") (rListSq K) := by
  subst hK
  exact call_list_of
theorem cTupSq (hK : X.K = K := by rfl) : CallR X (.type "tuple") (rTupSq K) := by
  subst hK
  exact call_tuple_of
theorem cDictSq (hK : X.K = K := by rfl) (hc : X.calm = true := by rfl) : CallR X (.type "dict") (rDictSq K) := by
  subst hK
  exact call_dictP hc
theorem ixL (hK : X.K = K := by rfl) : IxR X (rIxL K) := by
  subst hK
  exact ix_list
theorem ixT (hK : X.K = K := by rfl) : IxR X (rIxT K) := by
  subst hK
  exact ix_tup
theorem piL {tg l : Expr} {tl : TE} (hl : PE X l tl) (hK : X.K = K := by rfl) : PI X tg l (iList K tl) := by
  subst hK
  exact pi_list hl
theorem piT {tg l : Expr} {tl : TE} (hl : PE X l tl) (hK : X.K = K := by rfl) : PI X tg l (iTup K tl) := by
  subst hK
  exact pi_tup hl
theorem pgT {es : List Expr} {k : Nat} {t : TGs} {n : Nat} {pos : Pos} (h : PGs X es t) (hK : X.K = K := by rfl) (hc : X.calm = true := by rfl) (hn : (assignEach es X.env).length = n := by rfl) (hst : (assignEach es X.env).findIdx? (·.1) = none := by rfl) : PG X (.Tuple es k pos) (gTup K n t) := by
  subst hK
  exact pg_tup hc h hn hst
theorem pgU {es : List Expr} {k : Nat} {t : TGs} {n : Nat} {pos : Pos} (h : PGs X es t) (hK : X.K = K := by rfl) (hc : X.calm = true := by rfl) (hn : (assignEach es X.env).length = n := by rfl) (hst : (assignEach es X.env).findIdx? (·.1) = none := by rfl) : PG X (.Tuple es k pos) (gUnl K n t) := by
  subst hK
  exact pg_unl hc h hn hst
theorem inSq (hK : X.K = K := by rfl) : OpR X (compareOp .In) (rIn K false) := by
  subst hK
  exact op_in_seq
theorem notInSq (hK : X.K = K := by rfl) : OpR X (compareOp .NotIn) (rIn K true) := by
  subst hK
  exact op_notIn_seq
theorem eqDK (hu : X.A.units + 64 < cLine) (hK : X.K = K := by rfl) : OpR X (compareOp .Eq) (rEqD K) := by
  subst hK
  exact op_eqD hu
theorem neDK (hu : X.A.units + 64 < cLine) (hK : X.K = K := by rfl) : OpR X (compareOp .NotEq) (rNeD K) := by
  subst hK
  exact op_neD hu
theorem bmK {T id : String} {name : Str} {r : V → List V → Hp → VK → Prop} {o e : Expr} {es : List Expr} {to : TE} {t : TA} {apos cpos : Pos} (pa : PlainAttrs T) (slot : Slot T name id) (hty : typeOf (.builtin id) = pure (.type "method_descriptor")) (hm : MtR X id r) (ho : PE X o to) (ha : PA X (e :: es) t) (hK : X.K = K := by rfl)
    (hbase : attributeBase o name X.env (eval o X.env) = eval o X.env := by rfl)
    (hfew : ((backTo cpos (starEach (e :: es) X.env)).all (fun x => !x.1) && (backToKw cpos (keywordEach [] X.env)).all (fun x => x.1.isSome) && decide ((e :: es).length + ([] : List Keyword).length + (if ([] : List Keyword).isEmpty then 0 else 1) < 30)) = true := by rfl)
    (hline : (apos.endLine == cpos.line) = true := by rfl) (hs : starEach (e :: es) X.env = (false, eval e X.env) :: starEach es X.env := by rfl) (hplain : (backTo cpos (starEach es X.env)).any (·.1) = false := by rfl) :
    PE X (.Call (.Attribute o name apos) (e :: es) [] cpos) (tBM K T r to t) := by
  subst hK
  exact pe_bm pa slot hty hm ho ha hbase hfew hline hs hplain
theorem enumTK {e : Expr} {ta : TA} {p pos tpos : Pos} {elts : List Expr} {kk : Nat} (hg : Gl X "enumerate") (hm : X.mg "enumerate" = none) (ha : PA X [e] ta) (hK : X.K = K := by rfl) (hs : starEach [e] X.env = [(false, eval e X.env)] := by rfl) :
    PI X (.Tuple elts kk tpos) (.Call (.Name "enumerate" p) [e] [] pos) (iEnumT K ta) := by
  subst hK
  exact pi_enumT hg hm ha hs
theorem zipAK {e e2 : Expr} {ta : TA} {p pos tpos : Pos} {elts : List Expr} {kk : Nat} (hg : Gl X "zip") (hm : X.mg "zip" = none) (ha : PA X [e, e2] ta) (hK : X.K = K := by rfl)
    (hs : starEach [e, e2] X.env = (false, eval e X.env) :: starEach [e2] X.env := by rfl) (hpl : (backTo pos (starEach [e2] X.env)).any (·.1) = false := by rfl) :
    PI X (.Tuple elts kk tpos) (.Call (.Name "zip" p) [e, e2] [] pos) (RZ.iZipA K ta) := by
  subst hK
  exact RZ.pi_zipA hg hm ha hs hpl
theorem isiK (hK : X.K = K := by rfl) : CallR X (.builtin "isinstance") (rIsi K) := by
  subst hK
  exact call_isi
end
/-! ### frozen data: numbers, texts, None, truths, tuples of these -/
mutual
inductive Fz (H : Hp) : V → PyData → Prop
  | non : Fz H .non .none
  | bl (b : Bool) : Fz H (.bl b) (.bool b)
  | int (i : Int) : Fz H (.int i) (.int i)
  | str (x : Str) : Fz H (.str x) (.str x)
  | tup {a : Addr} {xs : List V} {ds : List PyData} : H a = some (.tup xs) → FzA H xs ds → Fz H (.ref a) (.tuple ds)
inductive FzA (H : Hp) : List V → List PyData → Prop
  | nil : FzA H [] []
  | cons {v : V} {vs : List V} {d : PyData} {ds : List PyData} : Fz H v d → FzA H vs ds → FzA H (v :: vs) (d :: ds)
end
/-- tuples stay -/
def Kt (H H' : Hp) : Prop := ∀ b xs, H b = some (.tup xs) → H' b = some (.tup xs)
theorem Kt.rfl' {H : Hp} : Kt H H := fun _ _ h => h
theorem Kt.trans {H H1 H2 : Hp} (a : Kt H H1) (b : Kt H1 H2) : Kt H H2 := fun c o h => b c o (a c o h)
theorem Kt.new {H : Hp} {p : Addr} {o : HO} (n : H p = none) : Kt H (upd H p o) := fun b xs h => by
  rw [upd_ne (ne_of_none h n)]
  exact h
theorem Kt.lst {H : Hp} {p : Addr} {xs : List V} {o : HO} (n : H p = some (.lst xs)) : Kt H (upd H p o) := fun b ys h => by
  have e : b ≠ p := fun z => by
    rw [z, n] at h
    cases h
  rw [upd_ne e]
  exact h
theorem Kt.dct {H : Hp} {p : Addr} {xs : List (Key × V)} {o : HO} (n : H p = some (.dK xs)) : Kt H (upd H p o) := fun b ys h => by
  have e : b ≠ p := fun z => by
    rw [z, n] at h
    cases h
  rw [upd_ne e]
  exact h
theorem Kp.kt {r : Addr} {H H' : Hp} {xs : List V} (k : Kp r H H') (h : H r = some (.lst xs)) : Kt H H' := fun b ys e => k b _ (fun z => by
  rw [z, h] at e
  cases e) e
theorem Same.kt {H H' : Hp} (k : Same H H') : Kt H H' := fun b ys e => k b _ e
mutual
theorem Fz.mono {H H' : Hp} (k : Kt H H') : ∀ (d : PyData) (v : V), Fz H v d → Fz H' v d
  | .none, _, .non => .non
  | .bool _, _, .bl b => .bl b
  | .int _, _, .int i => .int i
  | .str _, _, .str x => .str x
  | .tuple ds, _, .tup h a => .tup (k _ _ h) (FzA.mono k ds _ a)
theorem FzA.mono {H H' : Hp} (k : Kt H H') : ∀ (ds : List PyData) (vs : List V), FzA H vs ds → FzA H' vs ds
  | [], _, .nil => .nil
  | d :: ds, _, .cons h a => .cons (Fz.mono k d _ h) (FzA.mono k ds _ a)
end
theorem Fz.kt {H H' : Hp} {v : V} {d : PyData} (h : Fz H v d) (k : Kt H H') : Fz H' v d := Fz.mono k d v h
theorem FzA.kt {H H' : Hp} {vs : List V} {ds : List PyData} (h : FzA H vs ds) (k : Kt H H') : FzA H' vs ds := FzA.mono k ds vs h
mutual
theorem Fz.dp {K : PySem.W.Frag} {H : Hp} : ∀ (d : PyData) (v : V), Fz H v d → Dp K H v d
  | .none, _, .non => .non
  | .bool _, _, .bl b => .bl b
  | .int _, _, .int i => .int i
  | .str _, _, .str x => .str x
  | .tuple ds, _, .tup h a => .tup (.inl (.inl h)) (FzA.dp ds _ a)
theorem FzA.dp {K : PySem.W.Frag} {H : Hp} : ∀ (ds : List PyData) (vs : List V), FzA H vs ds → DpAll K H vs ds
  | [], _, .nil => .nil
  | d :: ds, _, .cons h a => .cons (Fz.dp d _ h) (FzA.dp ds _ a)
end
theorem Fz.to {K : PySem.W.Frag} {H : Hp} {v : V} {d : PyData} (h : Fz H v d) : Dp K H v d := Fz.dp d v h
theorem FzA.len : ∀ {H : Hp} {vs : List V} {ds : List PyData}, FzA H vs ds → vs.length = ds.length
  | _, _, _, .nil => rfl
  | _, _, _, .cons _ a => by
    rw [List.length_cons, List.length_cons, FzA.len a]
theorem FzA.get : ∀ {H : Hp} {vs : List V} {ds : List PyData} {i : Nat} {d : PyData}, FzA H vs ds → ds[i]? = some d → ∃ v, vs[i]? = some v ∧ Fz H v d
  | _, _, _, _, _, .nil, h => by simp at h
  | _, _, _, 0, _, .cons a _, h => ⟨_, rfl, Option.some.inj h ▸ a⟩
  | _, _, _, i + 1, _, .cons _ a, h => FzA.get (i := i) a h
theorem FzA.getV : ∀ {H : Hp} {vs : List V} {ds : List PyData} {i : Nat} {v : V}, FzA H vs ds → vs[i]? = some v → ∃ d, ds[i]? = some d ∧ Fz H v d
  | _, _, _, _, _, .nil, h => by simp at h
  | _, _, _, 0, _, .cons a _, h => ⟨_, rfl, Option.some.inj h ▸ a⟩
  | _, _, _, i + 1, _, .cons _ a, h => FzA.getV (i := i) a h
theorem FzA.app : ∀ {H : Hp} {vs ws : List V} {ds es : List PyData}, FzA H vs ds → FzA H ws es → FzA H (vs ++ ws) (ds ++ es)
  | _, _, _, _, _, .nil, b => b
  | _, _, _, _, _, .cons a r, b => .cons a (FzA.app r b)
theorem FzA.snoc {H : Hp} {vs : List V} {ds : List PyData} {v : V} {d : PyData} (a : FzA H vs ds) (b : Fz H v d) : FzA H (vs ++ [v]) (ds ++ [d]) := a.app (.cons b .nil)
theorem FzA.ints : ∀ {H : Hp} {ns : List Int} {vs : List V}, FzA H vs (ns.map PyData.int) → vs = ns.map V.int
  | _, [], _, .nil => rfl
  | _, n :: ns, _, .cons (.int _) a => by
    rw [FzA.ints (ns := ns) a]
    rfl
theorem FzA.ofInts : ∀ {H : Hp} {ns : List Int}, FzA H (ns.map V.int) (ns.map PyData.int)
  | _, [] => .nil
  | _, n :: ns => .cons (.int n) (FzA.ofInts (ns := ns))
/-- a tuple, opened -/
theorem Fz.open {H : Hp} {v : V} {ds : List PyData} (h : Fz H v (.tuple ds)) : ∃ (a : Addr) (xs : List V), v = .ref a ∧ H a = some (.tup xs) ∧ FzA H xs ds := by
  cases h with
  | tup h a => exact ⟨_, _, rfl, h, a⟩
theorem FzA.one {H : Hp} {vs : List V} {d : PyData} (h : FzA H vs [d]) : ∃ x, vs = [x] ∧ Fz H x d := by
  cases h with
  | cons a r =>
    cases r
    exact ⟨_, rfl, a⟩
theorem FzA.two {H : Hp} {vs : List V} {d e : PyData} (h : FzA H vs [d, e]) : ∃ x y, vs = [x, y] ∧ Fz H x d ∧ Fz H y e := by
  cases h with
  | cons a r =>
    obtain ⟨y, rfl, b⟩ := r.one
    exact ⟨_, y, rfl, a, b⟩
theorem FzA.three {H : Hp} {vs : List V} {d e f : PyData} (h : FzA H vs [d, e, f]) : ∃ x y z, vs = [x, y, z] ∧ Fz H x d ∧ Fz H y e ∧ Fz H z f := by
  cases h with
  | cons a r =>
    obtain ⟨y, z, rfl, b, c⟩ := r.two
    exact ⟨_, y, z, rfl, a, b, c⟩
theorem Fz.isStr {H : Hp} {v : V} {x : Str} (h : Fz H v (.str x)) : v = .str x := by
  cases h
  rfl
theorem Fz.isInt {H : Hp} {v : V} {i : Int} (h : Fz H v (.int i)) : v = .int i := by
  cases h
  rfl
theorem Fz.isNon {H : Hp} {v : V} (h : Fz H v .none) : v = .non := by
  cases h
  rfl
/-- a tuple just made -/
theorem Fz.made {H : Hp} {p : Addr} {xs : List V} {ds : List PyData} (n : H p = Option.none) (h : FzA H xs ds) : Fz (upd H p (.tup xs)) (.ref p) (.tuple ds) := .tup upd_same (h.kt (.new n))
theorem at_ints {ns : List Int} {d : Int} (h0 : 0 ≤ d) (h1 : d < (ns.length : Nat)) : ∃ t ∈ ns, atI (ns.map V.int) d = some (.int t) := by
  have hd : d.toNat < ns.length := by omega
  refine ⟨ns[d.toNat], List.getElem_mem hd, L2.at_of (j := d.toNat) (by omega) ?_⟩
  rw [List.getElem?_map, List.getElem?_eq_getElem hd]
  rfl
/-! ### tables -/
abbrev rowD (row : List Int) : PyData := .tuple (row.map PyData.int)
abbrev rowsD (rows : List (List Int)) : PyData := .tuple (rows.map rowD)
abbrev tabD (cols : List Nat) (rows : List (List Int)) : PyData := .tuple [.str ⟨cols.toArray⟩, rowsD rows]
/-- rising unlike letters -/
structure Cols (l : List Nat) : Prop where
  up : l.Pairwise (· < ·)
  az : ∀ c ∈ l, 97 ≤ c ∧ c ≤ 122
theorem Cols.nd {l : List Nat} (c : Cols l) : l.Nodup := c.up.imp fun {a b} h => by
  have : a < b := h
  omega
def RowOk (n : Nat) (row : List Int) : Prop := row.length = n ∧ ∀ x ∈ row, 0 ≤ x ∧ x < 1000
def RowsOk (n : Nat) (rows : List (List Int)) : Prop := ∀ row ∈ rows, RowOk n row
theorem row_open {H : Hp} {v : V} {row : List Int} (h : Fz H v (rowD row)) : ∃ a, v = .ref a ∧ H a = some (.tup (row.map V.int)) := by
  obtain ⟨a, xs, rfl, ha, f⟩ := h.open
  rw [FzA.ints f] at ha
  exact ⟨a, rfl, ha⟩
theorem row_made {H : Hp} {p : Addr} {row : List Int} (n : H p = none) : Fz (upd H p (.tup (row.map V.int))) (.ref p) (rowD row) := Fz.made n FzA.ofInts
theorem tab_open {H : Hp} {v : V} {cols : List Nat} {rows : List (List Int)} (h : Fz H v (tabD cols rows)) : ∃ (t R : Addr) (vs : List V), v = .ref t ∧ H t = some (.tup [tx cols, .ref R]) ∧ H R = some (.tup vs) ∧ FzA H vs (rows.map rowD) := by
  obtain ⟨t, xs, rfl, ht, f⟩ := h.open
  obtain ⟨x, y, rfl, fx, fy⟩ := f.two
  obtain ⟨R, vs, rfl, hR, fv⟩ := fy.open
  rw [fx.isStr] at ht
  exact ⟨t, R, vs, rfl, ht, hR, fv⟩
theorem can_row (row : List Int) : PyData.canLay0 (rowD row) = true := by
  show PyData.canLayAll0 (row.map PyData.int) = true
  induction row with
  | nil => rfl
  | cons a r ih =>
    show (PyData.canLay0 (.int a) && PyData.canLayAll0 (r.map PyData.int)) = true
    rw [ih]
    rfl
theorem can_rows (rows : List (List Int)) : PyData.canLay0 (rowsD rows) = true := by
  show PyData.canLayAll0 (rows.map rowD) = true
  induction rows with
  | nil => rfl
  | cons a r ih =>
    show (PyData.canLay0 (rowD a) && PyData.canLayAll0 (r.map rowD)) = true
    rw [ih, can_row]
    rfl
theorem dep_row (row : List Int) : PyData.depth (rowD row) ≤ 1 := by
  show PyData.depthAll (row.map PyData.int) + 1 ≤ 1
  induction row with
  | nil => exact Nat.le_refl _
  | cons a r ih =>
    show max (PyData.depth (.int a)) (PyData.depthAll (r.map PyData.int)) + 1 ≤ 1
    have e : PyData.depth (.int a) = 0 := rfl
    rw [e]
    omega
theorem dep_rows (rows : List (List Int)) : PyData.depth (rowsD rows) ≤ 2 := by
  show PyData.depthAll (rows.map rowD) + 1 ≤ 2
  induction rows with
  | nil => decide
  | cons a r ih =>
    show max (PyData.depth (rowD a)) (PyData.depthAll (r.map rowD)) + 1 ≤ 2
    have := dep_row a
    omega
theorem shaped_rows (rows : List (List Int)) : SeqAt.shaped (rowsD rows) = true := by
  unfold SeqAt.shaped
  rw [can_rows, Bool.true_and]
  have := dep_rows rows
  exact decide_eq_true (by omega)
/-! ### questions -/
abbrev eqD (p : Nat × Int) : PyData := .tuple [.str ⟨#[p.1]⟩, .int p.2]
abbrev eqsD (es : List (Nat × Int)) : PyData := .tuple (es.map eqD)
abbrev rchD : Option (Nat × Int × Int) → PyData
  | none => .none
  | some (c, lo, hi) => .tuple [.str ⟨#[c]⟩, .int lo, .int hi]
abbrev qD (es : List (Nat × Int)) (rc : Option (Nat × Int × Int)) : PyData := .tuple [eqsD es, rchD rc]
structure QOk (cols : List Nat) (es : List (Nat × Int)) (rc : Option (Nat × Int × Int)) : Prop where
  up : (es.map (·.1)).Pairwise (· < ·)
  ok : ∀ p ∈ es, p.1 ∈ cols ∧ 0 ≤ p.2 ∧ p.2 < 1000
  len : es.length ≤ cols.length
  rc : ∀ c lo hi, rc = some (c, lo, hi) → c ∈ cols ∧ c ∉ es.map (·.1) ∧ 0 ≤ lo ∧ lo ≤ hi ∧ hi < 1000
theorem idx_first : ∀ {l : List Nat} {c i : Nat}, l[i]? = some c → (∀ k, k < i → l[k]? ≠ some c) → l.idxOf c = i
  | [], c, i, h, _ => by simp at h
  | a :: l, c, 0, h, _ => by
    have e : a = c := Option.some.inj h
    rw [e]
    simp
  | a :: l, c, i + 1, h, hn => by
    have e : a ≠ c := fun z => hn 0 (Nat.succ_pos _) (by rw [z]; rfl)
    have ih := idx_first (l := l) (c := c) (i := i) h fun k hk => hn (k + 1) (Nat.succ_lt_succ hk)
    rw [List.idxOf_cons, ih]
    have eb : (a == c) = false := by simp [e]
    rw [eb]
    rfl
/-- pairs as a dict's entries -/
abbrev kvI (p : Nat × Int) : Key × V := (Sum.inr (sS p.1), .int p.2)
theorem pairs_of {K : PySem.W.Frag} {H : Hp} : ∀ {es : List (Nat × Int)} {vs : List V}, FzA H vs (es.map eqD) → ∃ ps : List Addr, vs = ps.map V.ref ∧ Paired (fun p kv => SqT K H p [kV kv.1, kv.2]) ps (es.map kvI)
  | [], _, .nil => ⟨[], rfl, .nil⟩
  | e :: es, _, .cons a r => by
    obtain ⟨p, xs, rfl, hp, f⟩ := a.open
    obtain ⟨x, y, rfl, fx, fy⟩ := f.two
    obtain ⟨ps, rfl, hps⟩ := pairs_of (K := K) (es := es) r
    rw [fx.isStr, fy.isInt] at hp
    exact ⟨p :: ps, rfl, .cons (.inl (.inl hp)) hps⟩
theorem merge_new : ∀ (more acc : List (Key × V)), ((acc ++ more).map (·.1)).Nodup → mergeK acc more = acc ++ more
  | [], acc, _ => by
    rw [List.append_nil]
    rfl
  | kv :: more, acc, h => by
    have h2 : ((acc ++ [kv]) ++ more).map (·.1) = (acc ++ kv :: more).map (·.1) := by
      rw [List.append_assoc]
      rfl
    have nk : valV acc kv.1 = none := by
      cases e : valV acc kv.1 with
      | none => rfl
      | some v =>
        exfalso
        have hm : kv.1 ∈ acc.map (·.1) := valV_in e
        rw [List.map_append] at h
        have := (List.nodup_append.mp h).2.2
        exact this _ hm _ (by simp) rfl
    show mergeK (putK acc kv.1 kv.2) more = _
    rw [putK_new kv.2 nk]
    have e := merge_new more (acc ++ [(kv.1, kv.2)]) (by
      show (((acc ++ [kv]) ++ more).map (·.1)).Nodup
      rw [h2]
      exact h)
    rw [e, List.append_assoc]
    rfl
theorem keys_nd {es : List (Nat × Int)} (h : (es.map (·.1)).Nodup) : ((es.map kvI).map (·.1)).Nodup := by
  rw [List.map_map]
  have e : es.map ((fun kv : Key × V => kv.1) ∘ kvI) = (es.map (·.1)).map fun c => (Sum.inr (sS c) : Key) := by
    rw [List.map_map]
    rfl
  rw [e]
  refine List.Pairwise.map _ (fun a b hab z => hab ?_) h
  have z2 : sS a = sS b := Sum.inr.inj z
  have z3 : (#[a] : Array Nat) = #[b] := congrArg Str.cps z2
  simpa using z3
theorem merge_es {es : List (Nat × Int)} (h : (es.map (·.1)).Nodup) : mergeK [] (es.map kvI) = es.map kvI := merge_new _ [] (keys_nd h)
theorem val_es (c : Nat) : ∀ es : List (Nat × Int), (valV (es.map kvI) (Sum.inr (sS c))).isSome = decide (c ∈ es.map (·.1))
  | [] => rfl
  | e :: es => by
    by_cases h : e.1 = c
    · rw [List.map_cons, valV_pos (by show Sum.inr (sS e.1) = Sum.inr (sS c); rw [h])]
      simp [h]
    · rw [List.map_cons, valV_neg (fun z => h ?_), val_es c es]
      · have h2 : ¬ c = e.1 := fun z => h z.symm
        simp [h2]
      · have z2 : sS e.1 = sS c := Sum.inr.inj z
        have z3 : (#[e.1] : Array Nat) = #[c] := congrArg Str.cps z2
        simpa using z3
theorem dp_signs {K : PySem.W.Frag} {H : Hp} : ∀ l : List Nat, DpAll K H (l.map sg) (l.map fun c => PyData.str (sS c))
  | [] => .nil
  | c :: l => .cons (.str _) (dp_signs l)
theorem shaped_signs {l : List Nat} (h : ∀ c ∈ l, c ≤ 122) : SeqAt.shaped (.list (l.map fun c => PyData.str (sS c))) = true := by
  have e1 : PyData.canLayAll0 (l.map fun c => PyData.str (sS c)) = true := by
    induction l with
    | nil => rfl
    | cons c l ih =>
      show (PyData.canLay0 (.str (sS c)) && PyData.canLayAll0 (l.map fun c => PyData.str (sS c))) = true
      rw [ih fun d hd => h d (List.mem_cons_of_mem _ hd), Bool.and_true]
      have hc := h c (List.mem_cons_self ..)
      show (#[c] : Array Nat).all (· < 0x110000) = true
      simp
      omega
  have e2 : PyData.depthAll (l.map fun c => PyData.str (sS c)) = 0 := by
    clear h e1
    induction l with
    | nil => rfl
    | cons c l ih =>
      show max (PyData.depth (.str (sS c))) (PyData.depthAll (l.map fun c => PyData.str (sS c))) = 0
      rw [ih]
      rfl
  unfold SeqAt.shaped
  show (PyData.canLayAll0 _ && decide (PyData.depthAll _ + 1 ≤ 64)) = true
  rw [e1, e2]
  rfl
/-- the place of a letter -/
theorem ix_one {l : List Nat} {c : Nat} (h : c ∈ l) : ∃ r, Builtin.Str.occurrences (⟨l.toArray⟩ : Str) ⟨#[c]⟩ 0 (⟨l.toArray⟩ : Str).length 1 = l.idxOf c :: r := by
  have hx : (⟨l.toArray⟩ : Str).cps.toList = l := by simp
  rcases PySem.StrLaws.occ_head (⟨l.toArray⟩ : Str) ⟨#[c]⟩ 1 (Nat.le_refl 1) with ⟨h0, hn⟩ | ⟨i, r, h0, ha, hn⟩
  · exfalso
    obtain ⟨i, hi⟩ := List.mem_iff_getElem?.mp h
    exact hn i ((PySem.StrLaws.subAt_one _ c i).mpr (by rw [hx]; exact hi))
  · refine ⟨r, ?_⟩
    rw [h0]
    have e1 : l[i]? = some c := by
      have := (PySem.StrLaws.subAt_one _ c i).mp ha
      rw [hx] at this
      exact this
    have e3 : l.idxOf c = i := idx_first e1 fun k hk z => hn k hk ((PySem.StrLaws.subAt_one _ c k).mpr (by rw [hx]; exact z))
    rw [e3]
end My

set_option Elab.async false
set_option linter.all false
set_option maxRecDepth 100000
set_option maxHeartbeats 1000000
namespace My
open PySem PySem.Spec PyProof.Rows L2
/-! ### name = {.. for ..} on one line -/
section
variable {X : Cx} {pins : List (Addr × Obj)} {σ : L2.St} {H : Hp} {s : Shared}
/-- an object of the frame's own at C may become anything: all that is known stays -/
theorem past {C : Addr} {h' : Heap} {t' : Nat} (I : Inv X pins σ H s) (f : FpOk X pins H C) (kp : ∀ b u, b ≠ C → s.heap.get? b = some u → h'.get? b = some u) : Inv X pins σ H { s with heap := h', toks := t' } :=
  I.turned kp f.1 f.2.1 f.2.2.2.1 f.2.2.2.2.1 f.2.2.2.2.2
/-- it is neither the frame's dict nor one of its cells -/
theorem apart_of {C a : Addr} {y : Str} (f : FpOk X pins H C) (ha : a = X.env.locals ∨ X.env.cells.lookup y = some a) : C ≠ a := fun z =>
  ha.elim (fun e => f.2.1 (z.trans e)) fun e => f.2.2.2.2.1 y a e z.symm
/-- the dict that was made goes to the name y while the comprehension's frame C is still there -/
theorem kept_at {C L : Addr} {m : Str → Option Value} {i : Nat} {y : Str} {py : Pos} {D : Ends} {E : Value → Shared → Prop} (I : Inv X pins σ H s) (f : FpOk X pins H C) (hn : s.heap.Ns C m) (hN : X.N.Nodup) (hy : X.N[i]? = some y) (hyl : X.env.scope.names.lookup y = some .local)
    (q : D.nx (σ.set i (some (.ref L))) H) : wpAny (model X.prog X.w) X.A (assign (.Name y py) X.env (.ref L)) (fun _ s' => ∃ m', s'.heap.Ns C m' ∧ ∀ h3, Heap.SameBut C s'.heap h3 → SP X pins D .next { s' with heap := h3 }) E s :=
  wpAny_assign_Name (store_ok2 (v := .ref L) I hN hy (.inl hyl) rfl (fun s2 J ⟨_, sb, ha⟩ => ⟨m, hn.sameBut sb (apart_of f ha), fun h3 sb3 => ⟨_, H, past (t' := s2.toks) J f fun b u ne e => (sb3.2 b ne).trans e, q⟩⟩) (.inr hyl))
theorem ps_setDc {i : Nat} {y : Str} {py : Pos} {kx vx tg iter : Expr} {ifs : List Expr} {scope : Scope} {own : List (Str × Nat)} {pos spos : Pos} {wi : TI} {g : TG} {tt : TT} {tk tv : TE} (hc : X.calm = true) (hN : X.N.Nodup) (hy : X.N[i]? = some y) (hyl : X.env.scope.names.lookup y = some .local)
    (hsw : swapsWith (.DictComp kx vx [⟨tg, iter, ifs, 0⟩] scope pos) (some (.Name y py)) spos.line X.env = pure true) (hi : PI X tg iter wi) (ok : BlkOk X.N X.env.scope scope own)
    (hg : ∀ (s : Shared) (H : Hp) (C : Addr) (cl : List (Str × Addr)) (fp : List Addr), PG (X.blk s H scope (compEnvC scope cl C X.env) fp) tg g)
    (ht : ∀ (s : Shared) (H : Hp) (C : Addr) (cl : List (Str × Addr)) (fp : List Addr), PTs (X.blk s H scope (compEnvC scope cl C X.env) fp) ifs tt)
    (kp : ∀ (s : Shared) (H : Hp) (C : Addr) (cl : List (Str × Addr)) (fp : List Addr), PE (X.blk s H scope (compEnvC scope cl C X.env) fp) kx tk)
    (vp : ∀ (s : Shared) (H : Hp) (C : Addr) (cl : List (Str × Addr)) (fp : List Addr), PE (X.blk s H scope (compEnvC scope cl C X.env) fp) vx tv) (hs : ∀ x, foldedSetIterable iter X.env x = pure x := by intro _; rfl) :
    PS X (.Assign [.Name y py] (.DictComp kx vx [⟨tg, iter, ifs, 0⟩] scope pos) spos) (tAsg (tDc wi g tt tk tv (own.map (·.2))) (gName i)) := by
  constructor
  intro pins s σ H D I h
  have made := dc_core (pos := pos) (pos' := firstIterPos [⟨tg, iter, ifs, 0⟩] pos) (use := some (assign (.Name y py) X.env)) (Qf := fun _ s' => SP X pins D .next s') (Q := fun x H1 => gName i x σ H1 D.nx) hc hN I hi ok hg ht kp vp hs h
    fun L C s' m H' I' q hn f => kept_at I' f hn hN hy hyl q
  rw [exec_Assign_Name_used _ _ _ _ hsw]
  exact wpAny_bind (wpAny_standAt (wpAny_bind (wpAny_bind (thn made fun _ _ z => wpAny_pure (wpAny_pure z)))))
end
theorem sw_dict {kx vx : Expr} {gs : List Comprehension} {scope : Scope} {pos py : Pos} {y : Str} {l : Nat} {env : Env} (hk : env.scope.kind = .function) (hy : env.scope.names.lookup y = some .local) (hl : (py.line == pos.line) = true)
    (ha : (scope.names.any fun (n, k) => n == y && (k == .local || k == .cell)) = false) : swapsWith (.DictComp kx vx gs scope pos) (some (.Name y py)) l env = pure true :=
  Eq.trans (b := swapsWith (.ListComp kx gs scope pos) (some (.Name y py)) l env) rfl (sw_true hk hy hl ha)
/-! ### spans: letters with their bounds -/
inductive SpA (H : Hp) : List (Key × V) → List (Nat × Int × Int) → Prop
  | nil : SpA H [] []
  | cons {p : Addr} {c : Nat} {lo hi : Int} {kvs : List (Key × V)} {l : List (Nat × Int × Int)} : H p = some (.tup [.int lo, .int hi]) → SpA H kvs l → SpA H ((Sum.inr (sS c), .ref p) :: kvs) ((c, lo, hi) :: l)
theorem SpA.kt {H H' : Hp} {kvs : List (Key × V)} {l : List (Nat × Int × Int)} (h : SpA H kvs l) (k : Kt H H') : SpA H' kvs l := by
  induction h with
  | nil => exact .nil
  | cons a _ ih => exact .cons (k _ _ a) ih
theorem SpA.snoc {H : Hp} {kvs : List (Key × V)} {l : List (Nat × Int × Int)} {p : Addr} {c : Nat} {lo hi : Int} (h : SpA H kvs l) (hp : H p = some (.tup [.int lo, .int hi])) : SpA H (kvs ++ [(Sum.inr (sS c), .ref p)]) (l ++ [(c, lo, hi)]) := by
  induction h with
  | nil => exact .cons hp .nil
  | cons a _ ih => exact .cons a ih
theorem SpA.len {H : Hp} {kvs : List (Key × V)} {l : List (Nat × Int × Int)} (h : SpA H kvs l) : kvs.length = l.length := by
  induction h with
  | nil => rfl
  | cons _ _ ih => rw [List.length_cons, List.length_cons, ih]
theorem sS_inj {a b : Nat} (h : sS a = sS b) : a = b := by
  have z3 : (#[a] : Array Nat) = #[b] := congrArg Str.cps h
  simpa using z3
theorem SpA.none {H : Hp} {kvs : List (Key × V)} {l : List (Nat × Int × Int)} {c : Nat} (h : SpA H kvs l) (n : c ∉ l.map (·.1)) : valV kvs (Sum.inr (sS c)) = Option.none := by
  induction h with
  | nil => rfl
  | @cons p d lo hi kvs l a r ih =>
    rw [valV_neg (fun z => n ?_)]
    · exact ih fun q => n (List.mem_cons_of_mem _ q)
    · have : d = c := sS_inj (Sum.inr.inj z)
      rw [← this]
      exact List.mem_cons_self ..
/-- at its place: the letter's entry -/
theorem SpA.get {H : Hp} {kvs : List (Key × V)} {l : List (Nat × Int × Int)} (h : SpA H kvs l) {i : Nat} {k : Key} {v : V} (e : kvs[i]? = some (k, v)) : ∃ (p : Addr) (c : Nat) (lo hi : Int), k = Sum.inr (sS c) ∧ v = .ref p ∧ H p = some (.tup [.int lo, .int hi]) ∧ l[i]? = some (c, lo, hi) := by
  induction h generalizing i with
  | nil => simp at e
  | @cons p c lo hi kvs l a r ih =>
    cases i with
    | zero =>
      have z := Option.some.inj e
      cases z
      exact ⟨p, c, lo, hi, rfl, rfl, a, rfl⟩
    | succ i => exact ih (i := i) e
theorem SpA.look {H : Hp} {kvs : List (Key × V)} {l : List (Nat × Int × Int)} (h : SpA H kvs l) (nd : (l.map (·.1)).Nodup) {c : Nat} {lo hi : Int} (m : (c, lo, hi) ∈ l) : ∃ p, valV kvs (Sum.inr (sS c)) = some (.ref p) ∧ H p = some (.tup [.int lo, .int hi]) := by
  induction h with
  | nil => cases m
  | @cons p d lo' hi' kvs l a r ih =>
    rcases List.mem_cons.mp m with z | z
    · cases z
      exact ⟨p, valV_pos rfl, a⟩
    · have nd2 := List.nodup_cons.mp nd
      have hdc : d ≠ c := fun q => nd2.1 (by
        have := List.mem_map_of_mem (f := fun x : Nat × Int × Int => x.1) z
        rw [q]
        exact this)
      obtain ⟨p', h1, h2⟩ := ih nd2.2 z
      refine ⟨p', ?_, h2⟩
      rw [valV_neg (fun q => hdc (sS_inj (Sum.inr.inj q)))]
      exact h1
def spanL (es : List (Nat × Int)) (rc : Option (Nat × Int × Int)) : List (Nat × Int × Int) := es.map (fun p => (p.1, p.2, p.2)) ++ rc.toList
theorem spanL_keys (es : List (Nat × Int)) : (es.map (fun p => (p.1, p.2, p.2))).map (·.1) = es.map (·.1) := by
  rw [List.map_map]
  rfl
theorem spanL_nd {cols : List Nat} {es : List (Nat × Int)} {rc : Option (Nat × Int × Int)} (h : QOk cols es rc) : ((spanL es rc).map (·.1)).Nodup := by
  have h1 : (es.map (·.1)).Nodup := h.up.imp fun {a b} q => by
    have : a < b := q
    omega
  unfold spanL
  rw [List.map_append, spanL_keys]
  cases rc with
  | none => simpa using h1
  | some t =>
    obtain ⟨c, lo, hi⟩ := t
    have := (h.rc c lo hi rfl).2.1
    show (es.map (·.1) ++ [c]).Nodup
    refine List.nodup_append.mpr ⟨h1, by simp, fun a ha b hb z => ?_⟩
    rw [List.mem_singleton.mp hb] at z
    rw [z] at ha
    exact this ha
/-! ### what fits -/
def rowAt (cols : List Nat) (row : List Int) (c : Nat) : Int := row.getD (cols.idxOf c) 0
theorem row_at {cols : List Nat} {row : List Int} {c : Nat} (hl : row.length = cols.length) (h : c ∈ cols) : (row.map V.int)[cols.idxOf c]? = some (.int (rowAt cols row c)) := by
  have hi : cols.idxOf c < row.length := by
    rw [hl]
    exact List.idxOf_lt_length_of_mem h
  unfold rowAt
  rw [List.getElem?_map, List.getElem?_eq_getElem hi, List.getD_eq_getElem?_getD, List.getElem?_eq_getElem hi]
  rfl
/-! ### data with lists -/
mutual
inductive Ft (H : Hp) : V → PyData → Prop
  | non : Ft H .non .none
  | bl (b : Bool) : Ft H (.bl b) (.bool b)
  | int (i : Int) : Ft H (.int i) (.int i)
  | str (x : Str) : Ft H (.str x) (.str x)
  | lst {a : Addr} {xs : List V} {ds : List PyData} : H a = some (.lst xs) → FtA H xs ds → Ft H (.ref a) (.list ds)
  | tup {a : Addr} {xs : List V} {ds : List PyData} : H a = some (.tup xs) → FtA H xs ds → Ft H (.ref a) (.tuple ds)
inductive FtA (H : Hp) : List V → List PyData → Prop
  | nil : FtA H [] []
  | cons {v : V} {vs : List V} {d : PyData} {ds : List PyData} : Ft H v d → FtA H vs ds → FtA H (v :: vs) (d :: ds)
end
mutual
theorem Ft.mono {H H' : Hp} (k : Same H H') : ∀ (d : PyData) (v : V), Ft H v d → Ft H' v d
  | .none, _, .non => .non
  | .bool _, _, .bl b => .bl b
  | .int _, _, .int i => .int i
  | .str _, _, .str x => .str x
  | .list ds, _, .lst h a => .lst (k _ _ h) (FtA.mono k ds _ a)
  | .tuple ds, _, .tup h a => .tup (k _ _ h) (FtA.mono k ds _ a)
theorem FtA.mono {H H' : Hp} (k : Same H H') : ∀ (ds : List PyData) (vs : List V), FtA H vs ds → FtA H' vs ds
  | [], _, .nil => .nil
  | d :: ds, _, .cons h a => .cons (Ft.mono k d _ h) (FtA.mono k ds _ a)
end
mutual
theorem Fz.ft {H : Hp} : ∀ (d : PyData) (v : V), Fz H v d → Ft H v d
  | .none, _, .non => .non
  | .bool _, _, .bl b => .bl b
  | .int _, _, .int i => .int i
  | .str _, _, .str x => .str x
  | .tuple ds, _, .tup h a => .tup h (FzA.ft ds _ a)
theorem FzA.ft {H : Hp} : ∀ (ds : List PyData) (vs : List V), FzA H vs ds → FtA H vs ds
  | [], _, .nil => .nil
  | d :: ds, _, .cons h a => .cons (Fz.ft d _ h) (FzA.ft ds _ a)
end
theorem FtA.len : ∀ {H : Hp} {vs : List V} {ds : List PyData}, FtA H vs ds → vs.length = ds.length
  | _, _, _, .nil => rfl
  | _, _, _, .cons _ a => by
    rw [List.length_cons, List.length_cons, FtA.len a]
theorem FtA.getV : ∀ {H : Hp} {vs : List V} {ds : List PyData} {i : Nat} {v : V}, FtA H vs ds → vs[i]? = some v → ∃ d, ds[i]? = some d ∧ Ft H v d
  | _, _, _, _, _, .nil, h => by simp at h
  | _, _, _, 0, _, .cons a _, h => ⟨_, rfl, Option.some.inj h ▸ a⟩
  | _, _, _, i + 1, _, .cons _ a, h => FtA.getV (i := i) a h
theorem FtA.ofInts : ∀ {H : Hp} (ns : List Int), FtA H (ns.map V.int) (ns.map PyData.int)
  | _, [] => .nil
  | _, n :: ns => .cons (.int n) (FtA.ofInts ns)
mutual
def wd : PyData → Nat
  | .list xs => max xs.length (wdA xs)
  | .tuple xs => max xs.length (wdA xs)
  | _ => 0
def wdA : List PyData → Nat
  | [] => 0
  | x :: xs => max (wd x) (wdA xs)
end
/-! ### what isinstance tells of data -/
def tyN : PyData → String
  | .none => "NoneType"
  | .bool _ => "bool"
  | .int _ => "int"
  | .str _ => "str"
  | .list _ => "list"
  | .tuple _ => "tuple"
  | .dict _ => "dict"
def isTp : PyData → Bool
  | .tuple _ => true
  | _ => false
def isBl : PyData → Bool
  | .bool _ => true
  | _ => false
def isSt : PyData → Bool
  | .str _ => true
  | _ => false
theorem ty_ft {K : PySem.W.Frag} {H : Hp} {v : V} {d : PyData} (h : Ft H v d) : TyX K H v (.type (tyN d)) := by
  cases h with
  | non => exact .base .non
  | bl b => exact .base (.bl b)
  | int i => exact .base (.int i)
  | str x => exact .base (.str x)
  | lst h _ => exact .base (.lst h)
  | tup h _ => exact .base (.tup h)
theorem kit_tp {K : PySem.W.Frag} (d : PyData) : PySem.W.kitOne K (.type (tyN d)) (.type "tuple") = some (isTp d) := by
  cases d <;> exact kit_ty (by kernel_rfl)
theorem kit_bl {K : PySem.W.Frag} (d : PyData) : PySem.W.kitOne K (.type (tyN d)) (.type "bool") = some (isBl d) := by
  cases d <;> exact kit_ty (by kernel_rfl)
theorem kit_st {K : PySem.W.Frag} (d : PyData) : PySem.W.kitOne K (.type (tyN d)) (.type "str") = some (isSt d) := by
  cases d <;> exact kit_ty (by kernel_rfl)
theorem depA_ints : ∀ ns : List Int, PyData.depthAll (ns.map PyData.int) = 0
  | [] => rfl
  | n :: ns => by
    show max (PyData.depth (.int n)) (PyData.depthAll (ns.map PyData.int)) = 0
    rw [depA_ints ns]
    rfl
theorem dep_ints (ns : List Int) : PyData.depth (.list (ns.map PyData.int)) = 1 := by
  show PyData.depthAll (ns.map PyData.int) + 1 = 1
  rw [depA_ints]
end My

set_option Elab.async false
set_option linter.all false
set_option maxRecDepth 100000
set_option maxHeartbeats 1000000
namespace My
open PySem PySem.Spec PyProof.Rows L2
/-! ### lists of numbers compared -/
theorem dp_ints {K : PySem.W.Frag} {H : Hp} : ∀ ns : List Int, DpAll K H (ns.map V.int) (ns.map PyData.int)
  | [] => .nil
  | n :: ns => .cons (.int n) (dp_ints ns)
theorem can_ints : ∀ ns : List Int, PyData.canLayAll0 (ns.map PyData.int) = true
  | [] => rfl
  | n :: ns => by
    show (PyData.canLay0 (.int n) && PyData.canLayAll0 (ns.map PyData.int)) = true
    rw [can_ints ns]
    rfl
theorem shaped_ints (ns : List Int) : SeqAt.shaped (.list (ns.map PyData.int)) = true := by
  unfold SeqAt.shaped
  show (PyData.canLayAll0 (ns.map PyData.int) && decide (PyData.depth (.list (ns.map PyData.int)) ≤ 64)) = true
  rw [can_ints, dep_ints]
  rfl
/-! ### questions and what fits -/
theorem QOk.sub {cols : List Nat} {es es' : List (Nat × Int)} {rc : Option (Nat × Int × Int)} (h : QOk cols es rc) (s : es'.Sublist es) : QOk cols es' none :=
  ⟨h.up.sublist (s.map _), fun p hp => h.ok p (s.subset hp), Nat.le_trans s.length_le h.len, fun _ _ _ z => nomatch z⟩
theorem QOk.reach {cols : List Nat} {es : List (Nat × Int)} {rc : Option (Nat × Int × Int)} (h : QOk cols es rc) {c : Nat} {lo hi : Int} (h1 : c ∈ cols) (h2 : c ∉ es.map (·.1)) (h3 : 0 ≤ lo) (h4 : lo ≤ hi) (h5 : hi < 1000) : QOk cols es (some (c, lo, hi)) :=
  ⟨h.up, h.ok, h.len, fun c' lo' hi' z => by
    have z2 := Option.some.inj z
    have e1 : c = c' := congrArg (·.1) z2
    have e2 : lo = lo' := congrArg (·.2.1) z2
    have e3 : hi = hi' := congrArg (·.2.2) z2
    rw [← e1, ← e2, ← e3]
    exact ⟨h1, h2, h3, h4, h5⟩⟩
end My

set_option Elab.async false
set_option linter.all false
set_option maxRecDepth 100000
set_option maxHeartbeats 2000000
namespace My
open PySem PySem.Spec PyProof.Rows L2
/-! ### generator expressions whose element changes nothing -/
/-- the element at a place of the walked thing: what it gives, from any state in which what stood still stands -/
def EltQ (X : Cx) (σ : L2.St) (G : Hp) (P : Addr) (scope : Scope) (x : Str) (elt : Expr) (Pf F : Nat → Value → Prop) : Prop :=
  ∀ (pins : List (Addr × Obj)) (u1 : Shared), Inv X pins σ G u1 → ∀ (ce : Env) (B : Around) (E' : Value → Shared → Prop) (i : Nat) (v : Value) (u2 : Shared) (m2 : Str → Option Value), B.handled = none → ce.scope = scope → ce.cells = cloFrom X.env.cells scope.names [] →
    Pf i v → u2.heap.Ns ce.locals m2 → m2 x = some v → (∀ b o, b ≠ P → u1.heap.get? b = some o → u2.heap.get? b = some o) → wpAny (model X.prog X.w) B (eval elt ce) (fun y u3 => F i y ∧ Keeps u2 u3) E' u2
/-- the generator stands, ready to be walked n times -/
def ReadyQ (X : Cx) (pins : List (Addr × Obj)) (σ : L2.St) (G : Hp) (P : Addr) (n : Nat) (F : Nat → Value → Prop) (g : Addr) (u5 : Shared) : Prop :=
  ∃ (fp wr : List Addr) (Gn : Array GenState → Array GenState → Prop) (St : Nat → Shared → Prop),
    WalksS X.prog X.w X.A.in4 g fp wr Gn n F St ∧ St 0 u5 ∧ (∀ i s, St i s → s.TypeIs (.ref g) "generator") ∧ (∀ b ∈ fp, b < u5.heap.objs.size) ∧ g ∈ fp ∧
    ∀ u', Moved wr Gn u5 u' → ∃ G2, GxR.Tabbed P G G2 ∧ Inv X pins σ G2 u'
/-- what a walk over the value v begins with -/
def Src (X : Cx) (pins : List (Addr × Obj)) (σ : L2.St) (G : Hp) (P : Addr) (v : Value) (n : Nat) (Pf : Nat → Value → Prop) : Prop :=
  ∀ (u1 : Shared), Inv X pins σ G u1 → ∀ (Q : Value → Shared → Prop) (E : Value → Shared → Prop), (∀ (o : Obj) (St : Nat → Heap → Prop) (fps : List Addr),
    (∀ A' : Around, A'.handled = none → Walks X.prog X.w A' u1.heap.objs.size (u1.heap.objs.size :: fps) [u1.heap.objs.size] n Pf St) → St 0 (u1.heap.push o) → (∀ b ∈ fps, b < u1.heap.objs.size ∧ b ≠ P) →
    Q (.ref u1.heap.objs.size) { u1 with heap := u1.heap.push o }) → wpAny (model X.prog X.w) X.A (pyIter v) Q E u1
section
variable {X : Cx} {pins : List (Addr × Obj)} {σ : L2.St} {H : Hp} {s : Shared}
theorem src_str {G : Hp} {P : Addr} (a : Str) (t : Tok) : Src X pins σ G P (.str a t) a.cps.size (SignAt a) := by
  intro u1 I Q E h
  refine wpAny_pyIter_str fun o St W hst => ?_
  exact h o St [] W hst (fun b hb => nomatch hb)
/-- what stood stands: a frame knows what it knew -/
theorem grew {s' : Shared} (I : Inv X pins σ H s) (os : s'.os = s.os) (bare : AllBare s'.gens) (kp : ∀ b u, s.heap.get? b = some u → s'.heap.get? b = some u) : Inv X pins σ H s' :=
  I.call' (ch := []) os (Un.kept kp) (I.hok.kept kp) bare fun _ hb => nomatch hb
/-- the code object of a generator expression comes out of its maker's table, or is made and written into it; then the built-ins are looked up -/
theorem gen_code {c P : Addr} {gpos : Pos} {qn : Str} {scope : Scope} {R : Value → Addr → Shared → Prop} (I : Inv X pins σ H s) (TB : LamX.TabB X.base X.mg c P) (hcode : X.env.code = .ref c) (hT : GxR.TabG H P)
    (h : ∀ (code : Value) (H2 : Hp) (s2 : Shared), GxR.Tabbed P H H2 → Inv X pins σ H2 s2 → (∀ b u, b ≠ P → s.heap.get? b = some u → s2.heap.get? b = some u) → s.heap.objs.size ≤ s2.heap.objs.size → R code builtinsNs s2) :
    wpAny (model X.prog X.w) X.A (genexprCode X.env gpos qn scope) (fun code s3 => wpAny (model X.prog X.w) X.A (builtinsFor X.env.globals X.env.builtins) (R code) X.xe s3) X.xe s := by
  obtain ⟨ps, hP, tri⟩ := hT
  have rawP := I.hok P _ hP
  have hd : PySem.W.CodeHd s.heap c P := TB.code.keeps I.bk
  have go : ∀ (code : Value) (g : Heap) (tk : Nat) (more : Array Value), Heap.ExtBut P s.heap g → s.heap.objs.size ≤ g.objs.size → g.get? P = some { cls := .none, data := .fields (ps ++ more) } → TriplesOk (ps ++ more).toList →
      wpAny (model X.prog X.w) X.A (builtinsFor X.env.globals X.env.builtins) (R code) X.xe { s with heap := g, toks := tk } := fun code g tk more ext le tab tri' => by
    have J : Inv X pins σ (upd H P (.tbl (ps ++ more))) { s with heap := g, toks := tk } := GxR.inv_tab (g' := s.gens) (d' := s.drawn) I hP ext tab I.bare
    obtain ⟨bm, ob, b1, b2, _, _, b5, b6, b7, b8⟩ := TB.bm
    refine wpAny_builtinsFor (m := X.mg) ?_ b1 b2 (J.bk _ _ b5) b6 b7 b8 (h code _ _ ⟨⟨_, upd_same, tri'⟩, fun b ne => upd_ne ne⟩ J ext le)
    rw [J.ok.glob]
    exact J.mod.glob.keeps J.bk
  match hf : codeAmong gpos ps.toList with
  | some cv => exact wpAny_genexprCode_hit hcode (hd.code rawP tri) hf (go cv s.heap s.toks #[] (Heap.ExtBut.refl _ _) (Nat.le_refl _) (by rw [Array.append_empty]; exact rawP) (by rw [Array.append_empty]; exact tri))
  | none =>
    refine wpAny_genexprCodeX hcode (hd.code rawP tri) (hd.tab rawP) hf fun c' g tk ext ge lt isC _ isT _ => go _ g tk _ ext (Nat.le_trans ge (Nat.le_of_lt lt)) isT.2 ?_
    obtain ⟨_, _, _, _, _, _, _, _, _, _, _, _, _, _, _, _, _, _, _, z, _⟩ := isC
    exact z
/-- the generator (elt for x in iter), its element changing nothing -/
theorem gen_q {c P : Addr} {elt iter : Expr} {x : Str} {px gpos : Pos} {scope : Scope} {te : TE} {k : Nat} {Q' : Value → Shared → Prop} {R : V → Hp → Nat → (Nat → Value → Prop) → Prop} {R0 : V → Hp → Prop}
    (hr : Room k X.A) (TB : LamX.TabB X.base X.mg c P) (hcode : X.env.code = .ref c) (S : GxR.GenS X.env scope x) (hi : PE X iter te)
    (hs : ∀ v, genFold iter X.env v = pure v) (I : Inv X pins σ H s)
    (h : te σ H R0) (hc : ∀ v G, R0 v G → ∃ (n : Nat) (Pf F : Nat → Value → Prop), (∀ u, RelV v u → Src X pins σ G P u n Pf) ∧ GxR.TabG G P ∧ EltQ X σ G P scope x elt Pf F ∧ R v G n F)
    (hQ : ∀ v G n F g u5, R v G n F → ReadyQ X pins σ G P n F g u5 → Q' (.ref g) u5) :
    wpAny (model X.prog X.w) X.A (eval (.GeneratorExp elt [⟨.Name x px, iter, [], 0⟩] scope gpos) X.env) Q' X.xe s := by
  have deep : X.A.depth < recursionLimit := by
    have := hr.dp
    omega
  refine wpAny_GeneratorExp_walksQ hr.hd S.co (closure_ok S.free) S.cell S.dot S.loc S.kind deep (thn (hi.run pins s σ H _ I h) fun xv u1 ⟨v, G, I1, rv, h0⟩ => ?_) hs
  obtain ⟨n, Pf, F, src, hT, elq, hR⟩ := hc v G h0
  refine src xv rv u1 I1 _ _ fun o St fps W st0 below => ?_
  -- the walked thing's iterator o at i0; the table at P is older
  generalize hi0 : u1.heap.objs.size = i0 at W below ⊢
  have older : P ≠ i0 := fun z => by
    obtain ⟨ps, e, _⟩ := hT
    rw [I1.hok.fresh (Nat.le_of_eq (hi0.trans z.symm))] at e
    cases e
  have Io : Inv X pins σ G { u1 with heap := u1.heap.push o } := grew I1 rfl I1.bare fun b u e => Heap.get?_push_of_some _ e
  refine ⟨Io.nolimit, gen_code Io TB hcode hT fun code G2 s4 tab I4 kp le => ?_⟩
  have lt4 : i0 < s4.heap.objs.size := Nat.lt_of_lt_of_le (by rw [← hi0, Heap.size_push]; exact Nat.lt_succ_self _) le
  have kp1 : ∀ b u, b ≠ P → u1.heap.get? b = some u → s4.heap.get? b = some u := fun b u ne e => kp b u ne (Heap.get?_push_of_some _ e)
  have fo : FpOk X pins G2 i0 := I1.fpOk (Nat.le_of_eq hi0) ((tab.2 i0 older.symm).trans (I1.hok.fresh (Nat.le_of_eq hi0)))
  refine ⟨i0, i0 :: fps, [i0], n, Pf, St, fun _ => true, F, rfl, W, (W X.A hr.hd).frame _ _ _ st0 fun b hb u e => kp b u ?_ e, fun b hb => ?_, I4.nolimit, fun z => ?_, fun g keep => ⟨?_, fun A' E' i v s₂ m₂ hA hv _ hn hm stay => ?_⟩, fun g h5 tk5 gs bare above size5 stay W5 at5 => ?_⟩
  · exact (List.mem_cons.mp hb).elim (fun z q => older (q.symm.trans z)) fun z => (below b z).2
  · exact (List.mem_cons.mp hb).elim (fun z => z ▸ lt4) fun z => Nat.lt_trans (below b z).1 lt4
  · obtain ⟨_, ns, _⟩ := I1.nolimit
    exact Nat.ne_of_lt (hi0 ▸ ns.lt) (List.mem_singleton.mp z)
  · intro A' E' i v s₂ m₂ _ _ _ _ _
    rw [List.forIn_nil]
    exact wpAny_pure ⟨rfl, GxR.keeps_refl _⟩
  · refine elq pins u1 I1 _ A' E' i v s₂ m₂ hA rfl rfl hv hn hm fun b u ne e => ?_
    have here := kp1 b u ne e
    exact stay b (List.mem_range.mpr (Heap.lt_size here)) (fun z => Nat.ne_of_lt (hi0 ▸ Heap.lt_size e) (List.mem_singleton.mp z)) u (keep b u here)
  · rw [show passing (fun _ => true) n 0 = List.range n from GxR.passing_true n] at W5
    rw [List.length_range] at W5
    have place : ∀ {i : Nat} {y : Value}, (∃ j, (List.range n)[i]? = some j ∧ F j y) → F i y := fun ⟨j, e, fj⟩ => by
      obtain ⟨_, q⟩ := List.getElem?_eq_some_iff.mp e
      rw [List.getElem_range] at q
      rw [q]
      exact fj
    have W6 : WalksS X.prog X.w X.A.in4 g (g :: s4.heap.objs.size :: List.range s4.heap.objs.size) [s4.heap.objs.size, i0] (GenOnlyQ s4.gens.size) n F _ := { W5 with item := fun i s Q E lt st k => W5.item i s Q E lt st fun y s' z => k y s' (place z) }
    refine hQ v G n F g _ hR ⟨_, _, _, _, W6, at5, fun i s st => Heap.IsGen.typeIs st.1, fun b hb => ?_, List.mem_cons_self, fun u' mv => ⟨G2, tab, ?_⟩⟩
    · show b < h5.objs.size
      rw [show h5.objs.size = g + 1 from size5]
      rcases List.mem_cons.mp hb with z | z
      · exact z ▸ Nat.lt_succ_self g
      · refine Nat.lt_succ_of_lt ((List.mem_cons.mp z).elim (fun e => e ▸ above) fun e => Nat.lt_trans (List.mem_range.mp e) above)
    · have J := past (t' := s4.toks) (h' := u'.heap) I4 fo fun b u ne e => mv.heap b u (fun z => (List.mem_cons.mp z).elim (fun q => Nat.ne_of_lt (Heap.lt_size e) q) fun q => ne (List.mem_singleton.mp q)) (stay b u e)
      exact grew J mv.os (AllBare.movedS (I4.bare.push bare) mv) fun _ _ e => e
/-! tuple(elt for x in text): numbers -/
def tTupG (P : Addr) (te : TE) (D : V → L2.St → Hp → List V → Prop) : TE := fun σ H Q => te σ H fun v G => ∃ xs : List V, D v σ G xs ∧ GxR.TabG G P ∧ ∀ G2, GxR.Tabbed P G G2 → ∀ p, G2 p = none → Q (.ref p) (upd G2 p (.tup xs))
theorem vals_of_items : ∀ (xs : List V) (us : List Value), xs.length = us.length → (∀ (j : Nat) (x : V) (u : Value), xs[j]? = some x → us[j]? = some u → RelV x u) → Vals xs us
  | [], [], _, _ => .nil
  | x :: xs, u :: us, hl, hh => .cons (hh 0 x u rfl rfl) (vals_of_items xs us (Nat.succ.inj hl) fun j y w h1 h2 => hh (j + 1) y w h1 h2)
theorem pe_tupG {c P : Addr} {elt iter : Expr} {x : Str} {px p pos gpos : Pos} {scope : Scope} {te : TE} {k : Nat} {D : V → L2.St → Hp → List V → Prop}
    (hr : Room k X.A) (hg : Gl X "tuple") (hm : X.mg "tuple" = none) (TB : LamX.TabB X.base X.mg c P) (hcode : X.env.code = .ref c) (S : GxR.GenS X.env scope x) (hi : PE X iter te)
    (hD : ∀ (pins : List (Addr × Obj)) (σ : L2.St) (G : Hp) (v : V) (xs : List V), D v σ G xs → xs.length ≤ sizeLine ∧ ∃ (Pf F : Nat → Value → Prop), (∀ u, RelV v u → Src X pins σ G P u xs.length Pf) ∧ EltQ X σ G P scope x elt Pf F ∧ ∀ (i : Nat) (y : Value) (z : V), xs[i]? = some z → F i y → RelV z y)
    (hs : ∀ v, genFold iter X.env v = pure v := by intro _; rfl)
    (he : starEach [.GeneratorExp elt [⟨.Name x px, iter, [], 0⟩] scope gpos] X.env = (false, eval (.GeneratorExp elt [⟨.Name x px, iter, [], 0⟩] scope gpos) X.env) :: starEach [] X.env := by rfl) :
    PE X (.Call (.Name "tuple" p) [.GeneratorExp elt [⟨.Name x px, iter, [], 0⟩] scope gpos] [] pos) (tTupG P te D) := by
  refine ⟨fun pins s σ H Q I h => ?_⟩
  refine Call_ (ld_blt I hg hm boot_tuple (PyProof.Rows.callWith_type1 ?_ he))
  rw [he]
  refine Calls.spliced_cons (gen_q (R := fun v G n F => ∃ xs : List V, D v σ G xs ∧ xs.length = n ∧ xs.length ≤ sizeLine ∧ (∀ (i : Nat) (y : Value) (z : V), xs[i]? = some z → F i y → RelV z y) ∧ ∀ G2, GxR.Tabbed P G G2 → ∀ p, G2 p = none → Q (.ref p) (upd G2 p (.tup xs))) hr TB hcode S hi hs I h (fun v G h0 => ?_) fun v G n F g u5 hR hG => ?_)
  · obtain ⟨xs, hd, hT, q⟩ := h0
    obtain ⟨hz, Pf, F, hsrc, hel, hF⟩ := hD pins σ G v xs hd
    exact ⟨xs.length, Pf, F, hsrc, hT, hel, xs, hd, rfl, hz, hF, q⟩
  · obtain ⟨xs, hd, hn, hz, hF, q⟩ := hR
    obtain ⟨fp, wr, Gn, St, W, hst, hty, hfp, hgf, hI⟩ := hG
    refine Calls.spliced_nil ?_
    refine call_tuple_gen W.in4_3 hty hst hfp hgf (fun u' acc mv hit => ?_) (by rw [← hn]; exact hz)
    obtain ⟨G2, hTb, J⟩ := hI u' mv
    have hv : Vals xs acc.toList := vals_of_items _ _ (by rw [show acc.toList.length = acc.size from Array.length_toList, hit.1, hn]) fun j z y h1 h2 => hF j y z h1 (hit.2 j y (by rw [← Array.getElem?_toList]; exact h2))
    have J2 : Inv X pins σ (upd G2 u'.heap.objs.size (.tup xs)) { u' with heap := u'.heap.push { cls := .type "tuple", data := .seq acc } } :=
      J.laid (t' := u'.toks) (fun b o e => Heap.get?_push_of_some _ e) (Nat.le_refl _) (show ObjOk X.prog X.w _ _ _ (.tup xs) from ⟨hz, acc.toList, hv, by rw [Array.toArray_toList]; exact IsTup.new _ _⟩)
    exact ⟨.ref u'.heap.objs.size, _, J2, rfl, q G2 hTb _ (J.hok.fresh (Nat.le_refl _))⟩
/-! all(elt for x in ..) -/
/-! ### what a captured name holds -/
theorem clo_look {cells : List (Str × Addr)} {names : List (Str × NameKind)} {y : Str} {c : Addr} (hy : (y, NameKind.free) ∈ names) (hc : cells.lookup y = some c) : (cloFrom cells names []).lookup y = some c := by
  obtain ⟨c', e⟩ := mem_lookup (cloFrom_has (acc := []) (cells := cells) hy)
  have hm : (y, c') ∈ cloFrom cells names [] := by
    have : ∀ {l : List (Str × Addr)} {n : Str} {d : Addr}, l.lookup n = some d → (n, d) ∈ l := by
      intro l
      induction l with
      | nil =>
        intro n d h
        cases h
      | cons p l ih =>
        intro n d h
        rw [List.lookup_cons] at h
        cases hb : n == p.1 with
        | true =>
          rw [hb] at h
          have e1 : n = p.1 := by simpa using hb
          have e2 : p.2 = d := Option.some.inj h
          rw [e1, ← e2]
          exact List.mem_cons_self ..
        | false =>
          rw [hb] at h
          exact List.mem_cons_of_mem _ (ih h)
    exact this e
  rcases cloFrom_mem hm with z | ⟨_, z⟩
  · cases z
  · rw [e, z, hc]
    rfl
theorem capt {G : Hp} {u1 : Shared} {i : Nat} {y : Str} {v : V} {scope : Scope} (I : Inv X pins σ G u1) (hN : X.N[i]? = some y) (hv : σ[i]? = some (some v)) (hk : X.env.scope.names.lookup y = some .cell) (hy : (y, NameKind.free) ∈ scope.names) :
    ∃ u c, RelV v u ∧ (cloFrom X.env.cells scope.names []).lookup y = some c ∧ u1.heap.IsCell c (some u) := by
  obtain ⟨m, hm, hl⟩ := I.loc
  obtain ⟨u, ru, lk⟩ := hl i y v hN hv (.inr (.inl hk))
  rcases lk with ⟨k1, _⟩ | ⟨_, c, hc, hcell⟩
  · have : X.env.kindOf y = some .cell := hk
    rw [this] at k1
    cases k1
  · exact ⟨u, c, ru, clo_look hy hc, hcell⟩
theorem cell_kept {G : Hp} {P c : Addr} {u1 u2 : Shared} {u : Value} (I : Inv X pins σ G u1) (hT : GxR.TabG G P) (hc : u1.heap.IsCell c (some u)) (hk : ∀ b o, b ≠ P → u1.heap.get? b = some o → u2.heap.get? b = some o) : u2.heap.IsCell c (some u) := by
  obtain ⟨o, ho, hd⟩ := hc
  refine ⟨o, hk c o (fun z => ?_) ho, hd⟩
  obtain ⟨ps, hP, _⟩ := hT
  have h1 : u1.heap.get? P = some { cls := .none, data := .fields ps } := I.hok P _ hP
  rw [z, h1] at ho
  cases ho
  cases hd
/-! x in y, y a captured text -/
/-! r[y.index(x)], r a captured tuple of numbers, y a captured text -/
theorem elt_row {G : Hp} {P ra : Addr} {scope : Scope} {x y rn : Str} {p1 p2 p3 p4 p5 p6 : Pos} {i j : Nat} {a : Str} {cols : List Nat} {row : List Int} (hT : GxR.TabG G P) (hN : X.N[i]? = some y) (hv : σ[i]? = some (some (tx cols))) (hk : X.env.scope.names.lookup y = some .cell)
    (hN2 : X.N[j]? = some rn) (hv2 : σ[j]? = some (some (.ref ra))) (hk2 : X.env.scope.names.lookup rn = some .cell) (hra : G ra = some (.tup (row.map V.int))) (hrl : row.length = cols.length) (hac : ∀ c ∈ a.cps.toList, c ∈ cols)
    (hf : scope.kind = .function) (hx : scope.names.lookup x = some .local) (hy : (y, NameKind.free) ∈ scope.names) (hyl : scope.names.lookup y = some .free) (hr : (rn, NameKind.free) ∈ scope.names) (hrf : scope.names.lookup rn = some .free)
    (hline : (p3.endLine == p5.line) = true) (hd1 : (x == ("__debug__" : Str)) = false := by decide) (hd2 : (y == ("__debug__" : Str)) = false := by decide) (hd3 : (y == ("__classdict__" : Str)) = false := by decide) (hd4 : (rn == ("__debug__" : Str)) = false := by decide) (hd5 : (rn == ("__classdict__" : Str)) = false := by decide) :
    EltQ X σ G P scope x (.Subscript (.Name rn p1) (.Call (.Attribute (.Name y p2) "index" p3) [.Name x p4] [] p5) p6) (SignAt a) (fun l w => ∃ c t, a.cps[l]? = some c ∧ w = .int (rowAt cols row c) t) := by
  intro pins u1 I ce B E' l v u2 m2 hB hs hcl hP hn hm hk3
  obtain ⟨c, t, hc, rfl⟩ := hP
  obtain ⟨uy, cl, ru, hl, hcell⟩ := capt I hN hv hk hy
  obtain ⟨t2, rfl⟩ := ru
  obtain ⟨ur, cl2, ru2, hl2, hcell2⟩ := capt I hN2 hv2 hk2 hr
  cases ru2
  have hcc : c ∈ cols := hac c (by
    have : a.cps.toList[l]? = some c := by rw [Array.getElem?_toList]; exact hc
    exact List.mem_of_getElem? this)
  obtain ⟨orest, hocc⟩ := ix_one hcc
  have hat := row_at hrl hcc
  obtain ⟨its, rv, pl, hz⟩ := I.tuple (show SqT X.K G ra (row.map V.int) from .inl (.inl hra))
  obtain ⟨w, hw, rw'⟩ := rv.get hat
  obtain ⟨tw, rfl⟩ := rw'
  have pl2 : u2.heap.IsTuple ra its.toArray := by
    obtain ⟨o, ho, r1, r2⟩ := pl
    refine ⟨o, hk3 ra o (fun z => ?_) ho, r1, r2⟩
    obtain ⟨ps, hPp, _⟩ := hT
    rw [z, hPp] at hra
    cases hra
  have hidx : cols.idxOf c < its.length := (List.getElem?_eq_some_iff.mp hw).1
  have kf : ce.scope.kind = .function := by rw [hs]; exact hf
  refine PyProof.Rows.Subscript_ ?_
  refine wpAny_Name (wpAny_loadName_free kf (show ce.scope.names.lookup rn = some .free by rw [hs]; exact hrf) (by rw [hcl]; exact hl2) (cell_kept I hT hcell2 hk3) ?_ hd5) hd4
  refine wpAny_Call_method_late (by rfl) (by rfl) hline rfl ?_
  refine wpAny_Name (wpAny_loadName_free kf (show ce.scope.names.lookup y = some .free by rw [hs]; exact hyl) (by rw [hcl]; exact hl) (cell_kept I hT hcell hk3) ?_ hd3) hd2
  refine ⟨"str", "str.index", PySem.F.plainAttrs_str, PySem.F.slot_str_index, PySem.F.type_str_index, typeIs_str _ _ _, (fun _ z => nomatch z), ?_⟩
  refine Calls.callWith_builtin (by rfl) (Calls.evalArgs_plain ?_)
  refine Calls.spliced_cons (wpAny_Name (wpAny_loadName_local kf (show ce.scope.names.lookup x = some .local by rw [hs]; exact hx) hn hm ?_) hd1)
  refine Calls.spliced_nil ?_
  refine PySem.SC.index hocc ?_
  have hsz : its.length ≤ sizeLine := by
    have := rv.length
    rw [← this]
    exact hz
  have h63 := line63
  refine subscriptTail_builtinR (x := .int (rowAt cols row c) tw) (s := { u2 with toks := u2.toks + 1 }) pl2.typeIs slot_tuple_getitem.lookup ?_ (by rfl)
  refine getItem_tuple (j := cols.idxOf c) (s := { u2 with toks := u2.toks + 1 }) pl2 (by omega) (by omega) ?_ (by simpa using hw) ⟨rfl, ⟨c, tw, hc, rfl⟩, GxR.keeps_tok _ _⟩
  rw [List.size_toArray]
  exact PySem.seqIndex_of (by omega) (by omega)
end
end My

set_option Elab.async false
set_option linter.all false
set_option maxRecDepth 100000
set_option maxHeartbeats 2000000
namespace My
open PySem PySem.Spec PyProof.Rows L2
section
variable {X : Cx} {pins : List (Addr × Obj)} {σ : L2.St} {H : Hp} {s : Shared}
/-! d[x][n], d a captured dict of pairs of numbers -/
theorem elt_want {G : Hp} {P d : Addr} {scope : Scope} {x dn : Str} {p1 p2 p3 p4 p5 : Pos} {i kd : Nat} {n : Int} {a : Str} {kvs : List (Key × V)} {f : Nat → Int} (hT : GxR.TabG G P) (hN : X.N[i]? = some dn) (hv : σ[i]? = some (some (.ref d))) (hk : X.env.scope.names.lookup dn = some .cell)
    (hd : G d = some (.dK kvs)) (hn01 : n = 0 ∨ n = 1) (hac : ∀ c ∈ a.cps.toList, ∃ (p : Addr) (lo hi : Int), valV kvs (Sum.inr (sS c)) = some (.ref p) ∧ G p = some (.tup [.int lo, .int hi]) ∧ f c = (if n = 0 then lo else hi))
    (hf : scope.kind = .function) (hx : scope.names.lookup x = some .local) (hy : (dn, NameKind.free) ∈ scope.names) (hyl : scope.names.lookup dn = some .free)
    (hd1 : (x == ("__debug__" : Str)) = false := by decide) (hd2 : (dn == ("__debug__" : Str)) = false := by decide) (hd3 : (dn == ("__classdict__" : Str)) = false := by decide) :
    EltQ X σ G P scope x (.Subscript (.Subscript (.Name dn p1) (.Name x p2) p3) (.Constant (.int n) kd p4) p5) (SignAt a) (fun l w => ∃ c t, a.cps[l]? = some c ∧ w = .int (f c) t) := by
  intro pins u1 I ce B E' l v u2 m2 hB hs hcl hP hn hm hk3
  obtain ⟨c, t, hc, rfl⟩ := hP
  obtain ⟨ud, cl, ru, hl, hcell⟩ := capt I hN hv hk hy
  cases ru
  obtain ⟨p, lo, hi, hval, hp, hfc⟩ := hac c (by
    have : a.cps.toList[l]? = some c := by rw [Array.getElem?_toList]; exact hc
    exact List.mem_of_getElem? this)
  have neP : ∀ {b : Addr} {o : HO}, G b = some o → (∀ q, o ≠ .tbl q) → b ≠ P := fun {b o} hb ho z => by
    obtain ⟨ps, hPp, _⟩ := hT
    rw [z, hPp] at hb
    exact ho ps (Option.some.inj hb).symm
  obtain ⟨hz, hds, vs, rel, dd⟩ := dk_of I.hok hd
  have hndP : d ≠ P := neP hd (fun q z => nomatch z)
  have dd2 : u2.heap.DictOf (mixKind X.prog X.w) d vs := by
    exact dd.at fun o ho => hk3 d o hndP ho
  obtain ⟨wv, hw, rwv⟩ := RelO.some_of (v := .ref p) (o := valueAt vs (Sum.inr (sS c))) (by rw [← hval]; exact rel.val _)
  cases rwv
  obtain ⟨its, rv, pl, hz2⟩ := I.tuple (show SqT X.K G p [.int lo, .int hi] from .inl (.inl hp))
  have hnpP : p ≠ P := neP hp (fun q z => nomatch z)
  have pl2 : u2.heap.IsTuple p its.toArray := by
    obtain ⟨o, ho, r⟩ := pl
    exact ⟨o, hk3 p o hnpP ho, r⟩
  have kf : ce.scope.kind = .function := by rw [hs]; exact hf
  refine PyProof.Rows.Subscript_ ?_
  refine subD_of PySem.F.slot_dict_getitem.lookup (fun _ _ => rfl) ?_
  refine wpAny_Name (wpAny_loadName_free kf (show ce.scope.names.lookup dn = some .free by rw [hs]; exact hyl) (by rw [hcl]; exact hl) (cell_kept I hT hcell hk3) ?_ hd3) hd2
  refine wpAny_Name (wpAny_loadName_local kf (show ce.scope.names.lookup x = some .local by rw [hs]; exact hx) hn hm ?_) hd1
  refine ⟨dd2.typeIs, wpAny_getItem_of (k := Sum.inr (sS c)) (kV_is (k := Sum.inr (sS c)) ⟨t, rfl⟩) dd2.mapOf hw ?_⟩
  refine wpAny_Constant_int ?_
  have hl2 : its.length = 2 := rv.length.symm
  have two : ∃ (j : Nat) (tw : Tok), j < 2 ∧ n = (j : Int) ∧ its[j]? = some (.int (f c) tw) := by
    rcases hn01 with z | z
    · obtain ⟨w, hw0, rw0⟩ := rv.get (i := 0) rfl
      obtain ⟨tw, rfl⟩ := rw0
      exact ⟨0, tw, by decide, z, by rw [hw0, hfc, if_pos z]⟩
    · obtain ⟨w, hw0, rw0⟩ := rv.get (i := 1) rfl
      obtain ⟨tw, rfl⟩ := rw0
      exact ⟨1, tw, by decide, z, by rw [hw0, hfc, if_neg (by rw [z]; decide)]⟩
  obtain ⟨j, tw, hj2, hnj, hitj⟩ := two
  refine subscriptTail_builtinR (x := .int (f c) tw) pl2.typeIs slot_tuple_getitem.lookup ?_ (by rfl)
  refine getItem_tuple (j := j) pl2 (by omega) (by omega) ?_ (by simpa using hitj) ⟨rfl, ⟨c, tw, hc, rfl⟩, GxR.keeps_tok _ _⟩
  rw [List.size_toArray, hl2, hnj]
  exact PySem.seqIndex_of (by omega) (by omega)
end
end My

set_option Elab.async false
set_option linter.all false
set_option maxRecDepth 100000
set_option maxHeartbeats 2000000
namespace My
open PySem PySem.Spec PyProof.Rows L2
/-! ### tables of code objects: they may grow, all else stays -/
def TG (Ps : List Addr) (H : Hp) : Prop := ∀ P ∈ Ps, GxR.TabG H P
def Sx (Ps : List Addr) (H H' : Hp) : Prop := ∀ b o, b ∉ Ps → H b = some o → H' b = some o
theorem Sx.rfl' {Ps : List Addr} {H : Hp} : Sx Ps H H := fun _ _ _ h => h
theorem Sx.trans {Ps : List Addr} {H H1 H2 : Hp} (a : Sx Ps H H1) (b : Sx Ps H1 H2) : Sx Ps H H2 := fun c o n h => b c o n (a c o n h)
theorem Same.sx {Ps : List Addr} {H H' : Hp} (s : Same H H') : Sx Ps H H' := fun b o _ h => s b o h
theorem TG.same {Ps : List Addr} {H H' : Hp} (t : TG Ps H) (s : Same H H') : TG Ps H' := fun P hP => by
  obtain ⟨ps, h, r⟩ := t P hP
  exact ⟨ps, s _ _ h, r⟩
theorem TG.not {Ps : List Addr} {H : Hp} {b : Addr} {o : HO} (t : TG Ps H) (h : H b = some o) (ho : ∀ q, o ≠ .tbl q) : b ∉ Ps := fun hb => by
  obtain ⟨ps, h2, _⟩ := t b hb
  rw [h2] at h
  exact ho ps (Option.some.inj h).symm
theorem TG.kp {Ps : List Addr} {H H' : Hp} {r : Addr} {xs : List V} (t : TG Ps H) (hr : H r = some (.lst xs)) (k : Kp r H H') : TG Ps H' := fun P hP => by
  obtain ⟨ps, h, q⟩ := t P hP
  refine ⟨ps, k _ _ (fun z => ?_) h, q⟩
  rw [z, hr] at h
  cases h
theorem TG.new {Ps : List Addr} {H : Hp} {p : Addr} {o : HO} (t : TG Ps H) (n : H p = none) : TG Ps (upd H p o) := t.same (Same.new (Same.refl H) n)
theorem Sx.kt {Ps : List Addr} {H H' : Hp} (t : TG Ps H) (s : Sx Ps H H') : Kt H H' := fun b xs h => s b _ (t.not h fun q z => nomatch z) h
theorem Sx.lst {Ps : List Addr} {H H' : Hp} {b : Addr} {xs : List V} (t : TG Ps H) (s : Sx Ps H H') (h : H b = some (.lst xs)) : H' b = some (.lst xs) := s b _ (t.not h fun q z => nomatch z) h
theorem Sx.dct {Ps : List Addr} {H H' : Hp} {b : Addr} {xs : List (Key × V)} (t : TG Ps H) (s : Sx Ps H H') (h : H b = some (.dK xs)) : H' b = some (.dK xs) := s b _ (t.not h fun q z => nomatch z) h
theorem Sx.new {Ps : List Addr} {H H1 : Hp} {p : Addr} {o : HO} (s : Sx Ps H H1) (n : H1 p = none) : Sx Ps H (upd H1 p o) := fun b x nb h => keep_new (s b x nb h) n
theorem Sx.mut {Ps : List Addr} {H H1 : Hp} {p : Addr} {o : HO} (s : Sx Ps H H1) (n : H p = none) : Sx Ps H (upd H1 p o) := fun b x nb h => keep_ne (s b x nb h) (ne_of_none h n)
theorem Sx.free {Ps : List Addr} {H H' : Hp} {p : Addr} (t : TG Ps H') (s : Sx Ps H H') (h : H' p = none) : H p = none := by
  cases q : H p with
  | none => rfl
  | some o =>
    by_cases hp : p ∈ Ps
    · obtain ⟨ps, h2, _⟩ := t p hp
      rw [h] at h2
      cases h2
    · rw [s p o hp q] at h
      cases h
theorem Sx.seqL {K : PySem.W.Frag} {Ps : List Addr} {H H' : Hp} {a : Addr} {xs : List V} (t : TG Ps H) (s : Sx Ps H H') (h : SqL K H a xs) : SqL K H' a xs := by
  rcases h with (h | ⟨o, h⟩) | h
  · exact .inl (.inl (s.lst t h))
  · exact .inl (.inr ⟨o, s _ _ (t.not h fun q z => nomatch z) h⟩)
  · exact .inr h
/-- one table of them has grown -/
theorem Tabbed.sx {Ps : List Addr} {P : Addr} {H H' : Hp} (hP : P ∈ Ps) (t : GxR.Tabbed P H H') : Sx Ps H H' := fun b o nb h => by
  rw [t.2 b fun z => nb (z ▸ hP)]
  exact h
theorem Tabbed.tg {Ps : List Addr} {P : Addr} {H H' : Hp} (g : TG Ps H) (t : GxR.Tabbed P H H') : TG Ps H' := fun P' hP' => by
  by_cases e : P' = P
  · rw [e]
    exact t.1
  · obtain ⟨ps, h, q⟩ := g P' hP'
    exact ⟨ps, (t.2 P' e).trans h, q⟩
/-! ### a def whose code object is told -/
def FunC (K : PySem.W.Frag) (x qual : Str) (st : Stmt) (f : Addr) (fd : FuncData) (c : Addr) : Prop :=
  ∃ (oc : Value) (od : Option Addr) (kV doc pm : Value) (an : Option Addr) (ct : Value) (osl : Array (Option Value)), fd = PySem.W.fnOf x qual (defArgs st) (defBody st) (defScope st) .none kV doc pm an (.ref c) ct ∧ K.lookup f = some ⟨oc, od, .func fd, osl⟩ ∧ PySem.W.codeIn K (.ref c) qual = true
theorem FunC.ok {P : Program} {w : World} {K : PySem.W.Frag} {mg : Str → Option Value} {base : Heap} {x qual : Str} {st : Stmt} {f c : Addr} {fd : FuncData} {N ps : List Str} {k : Nat} {sp : Sp} (F : FunC K x qual st f fd c) (S : FnScope N ps (defScope st)) (len : ∀ vs H Q E, sp vs H Q E → vs.length = ps.length)
    (hbody : ∀ (A : Around) (outer : List Env) (s : Shared) (H : Hp) (vs : List V) (Q : VK) (E : XK), Room k (A.deeper (envOfC qual (defScope st) s.heap.objs.size f (.ref c))) → sp vs H Q E →
      ∃ t, PSs (cxOf CX0 P w K mg base N qual (defScope st) f (.ref c) A outer s H E).nox (defBody st) t ∧ t { nx := fun _ H' => Q .non H', rt := Q } (start N vs) H) : FnOk P w K mg base CX0 (k + 1) f fd ps sp := by
  obtain ⟨oc, od, kV, doc, pm, an, ct, osl, rfl, lk, hcd⟩ := F
  refine fn_of lk hcd S len fun A outer s H vs Q E hr hsp => ?_
  obtain ⟨t, h, q⟩ := hbody A outer s H vs Q E hr hsp
  exact ⟨t, h.nox, q⟩
theorem FunC.fn {K : PySem.W.Frag} {x qual : Str} {st : Stmt} {f c : Addr} {fd : FuncData} (F : FunC K x qual st f fd c) (k : PySem.W.keepIn K (.ref f) = true) : Fun K x qual st f fd := by
  obtain ⟨oc, od, kV, doc, pm, an, ct, osl, e, lk, hcd⟩ := F
  exact ⟨⟨oc, od, kV, doc, pm, an, .ref c, ct, osl, e, lk, hcd⟩, k⟩
/-- the generator expression's scope within a def's -/
def genC (sc scope : Scope) (x : Str) : Bool :=
  (match scope.kind with | .function => true | _ => false) && !scope.isCoroutine && (scope.names.all fun y => match y.2 with | .cell => false | .free => (match sc.names.lookup y.1 with | some .cell => true | _ => false) | _ => true) &&
    (match scope.names.lookup (".0" : Str) with | some .local => true | _ => false) && (match scope.names.lookup x with | some .local => true | _ => false)
theorem genS_by {sc scope : Scope} {x : Str} {env : Env} {n : Nat} (h : genC sc scope x = true) (hc : env.cells = cellsFrom n sc.names []) : GxR.GenS env scope x := by
  unfold genC at h
  simp only [Bool.and_eq_true] at h
  obtain ⟨⟨⟨⟨h1, h2⟩, h3⟩, h4⟩, h5⟩ := h
  rw [List.all_eq_true] at h3
  refine ⟨?_, ?_, fun y hy z => ?_, ?_, ?_, fun y hy z => ?_⟩
  · revert h1
    cases scope.kind <;> simp
  · simpa using h2
  · have := h3 y hy
    rw [z] at this
    cases this
  · revert h4
    cases scope.names.lookup (".0" : Str) with
    | none => simp
    | some k => cases k <;> simp
  · revert h5
    cases scope.names.lookup x with
    | none => simp
    | some k => cases k <;> simp
  · have q := h3 y hy
    rw [z] at q
    have q2 : sc.names.lookup y.1 = some .cell := by
      revert q
      cases sc.names.lookup y.1 with
      | none => simp
      | some k => cases k <;> simp
    have := PySem.W.cellsFrom_some sc.names n [] (.inl q2)
    rw [hc]
    exact Option.isSome_iff_exists.mp this
/-! ### the generator expressions that we met -/
def DRow (P : Addr) (i j : Nat) : V → L2.St → Hp → List V → Prop := fun v σ G xs => GxR.TabG G P ∧ ∃ (a : Str) (cols : List Nat) (ra : Addr) (row : List Int), v = .str a ∧ a.length ≤ sizeLine ∧ σ[i]? = some (some (tx cols)) ∧ σ[j]? = some (some (.ref ra)) ∧ G ra = some (.tup (row.map V.int)) ∧ row.length = cols.length ∧ (∀ c ∈ a.cps.toList, c ∈ cols) ∧ xs = a.cps.toList.map fun c => V.int (rowAt cols row c)
theorem hd_row {X : Cx} {P : Addr} {scope : Scope} {x y rn : Str} {p1 p2 p3 p4 p5 p6 : Pos} {i j : Nat} (hN : X.N[i]? = some y) (hk : X.env.scope.names.lookup y = some .cell) (hN2 : X.N[j]? = some rn) (hk2 : X.env.scope.names.lookup rn = some .cell)
    (hf : scope.kind = .function) (hx : scope.names.lookup x = some .local) (hyl : scope.names.lookup y = some .free) (hrf : scope.names.lookup rn = some .free) (hy : (y, NameKind.free) ∈ scope.names) (hr : (rn, NameKind.free) ∈ scope.names) (hline : (p3.endLine == p5.line) = true)
    (hd1 : (x == ("__debug__" : Str)) = false := by decide) (hd2 : (y == ("__debug__" : Str)) = false := by decide) (hd3 : (y == ("__classdict__" : Str)) = false := by decide) (hd4 : (rn == ("__debug__" : Str)) = false := by decide) (hd5 : (rn == ("__classdict__" : Str)) = false := by decide) :
    ∀ (pins : List (Addr × Obj)) (σ : L2.St) (G : Hp) (v : V) (xs : List V), DRow P i j v σ G xs → xs.length ≤ sizeLine ∧ ∃ (Pf F : Nat → Value → Prop), (∀ u, RelV v u → Src X pins σ G P u xs.length Pf) ∧
      EltQ X σ G P scope x (.Subscript (.Name rn p1) (.Call (.Attribute (.Name y p2) "index" p3) [.Name x p4] [] p5) p6) Pf F ∧ ∀ (l : Nat) (y : Value) (z : V), xs[l]? = some z → F l y → RelV z y := by
  intro pins σ G v xs h
  obtain ⟨hT, a, cols, ra, row, rfl, hz, hv, hv2, hra, hrl, hac, rfl⟩ := h
  have hl : (a.cps.toList.map fun c => V.int (rowAt cols row c)).length = a.cps.size := by rw [List.length_map]; exact Array.length_toList
  refine ⟨by rw [hl]; exact hz, _, _, fun u ru => ?_, elt_row hT hN hv hk hN2 hv2 hk2 hra hrl hac hf hx hy hyl hr hrf hline hd1 hd2 hd3 hd4 hd5, fun l y z h1 h2 => ?_⟩
  · obtain ⟨t, rfl⟩ := ru
    rw [hl]
    exact src_str a t
  · obtain ⟨c, t, hc, rfl⟩ := h2
    rw [List.getElem?_map, Array.getElem?_toList, hc] at h1
    cases h1
    exact ⟨t, rfl⟩
def DWant (P : Addr) (i : Nat) (n : Int) : V → L2.St → Hp → List V → Prop := fun v σ G xs => GxR.TabG G P ∧ ∃ (a : Str) (d : Addr) (kvs : List (Key × V)) (f : Nat → Int), v = .str a ∧ a.length ≤ sizeLine ∧ σ[i]? = some (some (.ref d)) ∧ G d = some (.dK kvs) ∧
  (∀ c ∈ a.cps.toList, ∃ (p : Addr) (lo hi : Int), valV kvs (Sum.inr (sS c)) = some (.ref p) ∧ G p = some (.tup [.int lo, .int hi]) ∧ f c = (if n = 0 then lo else hi)) ∧ xs = a.cps.toList.map fun c => V.int (f c)
theorem hd_want {X : Cx} {P : Addr} {scope : Scope} {x dn : Str} {p1 p2 p3 p4 p5 : Pos} {i kd : Nat} {n : Int} (hn01 : n = 0 ∨ n = 1) (hN : X.N[i]? = some dn) (hk : X.env.scope.names.lookup dn = some .cell)
    (hf : scope.kind = .function) (hx : scope.names.lookup x = some .local) (hyl : scope.names.lookup dn = some .free) (hy : (dn, NameKind.free) ∈ scope.names)
    (hd1 : (x == ("__debug__" : Str)) = false := by decide) (hd2 : (dn == ("__debug__" : Str)) = false := by decide) (hd3 : (dn == ("__classdict__" : Str)) = false := by decide) :
    ∀ (pins : List (Addr × Obj)) (σ : L2.St) (G : Hp) (v : V) (xs : List V), DWant P i n v σ G xs → xs.length ≤ sizeLine ∧ ∃ (Pf F : Nat → Value → Prop), (∀ u, RelV v u → Src X pins σ G P u xs.length Pf) ∧
      EltQ X σ G P scope x (.Subscript (.Subscript (.Name dn p1) (.Name x p2) p3) (.Constant (.int n) kd p4) p5) Pf F ∧ ∀ (l : Nat) (y : Value) (z : V), xs[l]? = some z → F l y → RelV z y := by
  intro pins σ G v xs h
  obtain ⟨hT, a, d, kvs, f, rfl, hz, hv, hd, hac, rfl⟩ := h
  have hl : (a.cps.toList.map fun c => V.int (f c)).length = a.cps.size := by rw [List.length_map]; exact Array.length_toList
  refine ⟨by rw [hl]; exact hz, _, _, fun u ru => ?_, elt_want hT hN hv hk hd hn01 hac hf hx hy hyl hd1 hd2 hd3, fun l y z h1 h2 => ?_⟩
  · obtain ⟨t, rfl⟩ := ru
    rw [hl]
    exact src_str a t
  · obtain ⟨c, t, hc, rfl⟩ := h2
    rw [List.getElem?_map, Array.getElem?_toList, hc] at h1
    cases h1
    exact ⟨t, rfl⟩
/-! ### the end: the tables of all defs are empty -/
end My

set_option Elab.async false
set_option linter.all false
set_option maxRecDepth 100000
set_option maxHeartbeats 2000000
namespace My
open PySem PySem.Spec PyProof.Rows L2
/-! ### texts by their codes -/
theorem inV_signs (c : Nat) : ∀ l : List Nat, inV (sg c) (l.map sg) = decide (c ∈ l)
  | [] => rfl
  | d :: l => by
    have ih := inV_signs c l
    show (((sS d) == (sS c)) || inV (sg c) (l.map sg)) = decide (c ∈ d :: l)
    rw [ih]
    by_cases e : d = c
    · rw [e]
      simp
    · have e2 : ((sS d) == (sS c)) = false := by
        rw [Bool.eq_false_iff]
        intro z
        exact e (sS_inj (by simpa using z))
      have e3 : ¬ c = d := fun z => e z.symm
      rw [e2]
      simp [e3]
theorem flat_signs (l : List Nat) : (l.map sg).all flatV = true := by
  rw [List.all_map, List.all_eq_true]
  intro c _
  rfl
theorem cut_take (l : List Nat) (k : Nat) : cutS ⟨l.toArray⟩ none (some (k : Int)) = ⟨(l.take k).toArray⟩ := by
  unfold cutS
  rw [HT.sIx_none, HT.sIx_nat]
  show (⟨((l.toArray.toList.drop 0).take (min k l.toArray.size - 0)).toArray⟩ : Str) = _
  have e1 : l.toArray.toList = l := by simp
  have e2 : l.toArray.size = l.length := by simp
  rw [e1, e2, List.drop_zero, Nat.sub_zero]
  congr 2
  rw [List.take_eq_take_iff]
  omega
theorem cut_one (l : List Nat) (k : Nat) (hk : k ≤ l.length) : cutS ⟨l.toArray⟩ (some (k : Int)) (some ((k : Int) + 1)) = ⟨((l.drop k).take 1).toArray⟩ := by
  unfold cutS
  have e0 : ((k : Int) + 1) = ((k + 1 : Nat) : Int) := by omega
  rw [e0, HT.sIx_nat, HT.sIx_nat]
  show (⟨((l.toArray.toList.drop (min k l.toArray.size)).take (min (k + 1) l.toArray.size - min k l.toArray.size)).toArray⟩ : Str) = _
  have e1 : l.toArray.toList = l := by simp
  have e2 : l.toArray.size = l.length := by simp
  rw [e1, e2, Nat.min_eq_left hk]
  congr 2
  rw [List.take_eq_take_iff, List.length_drop]
  omega
theorem tx_inj {a b : List Nat} (h : tx a = tx b) : a = b := by
  have h2 : (⟨a.toArray⟩ : Str) = ⟨b.toArray⟩ := V.str.inj h
  have h3 : a.toArray = b.toArray := congrArg Str.cps h2
  simpa using h3
/-! ### the letters that a question uses -/
def eqPart (one : List Nat) (es : List (Nat × Int)) : List Nat := one.takeWhile fun c => decide (c ∈ es.map (·.1))
def usedM (one : List Nat) (es : List (Nat × Int)) (rc : Option (Nat × Int × Int)) : List Nat :=
  match rc with
  | none => eqPart one es
  | some (c, _, _) => if (one.drop (eqPart one es).length).take 1 = [c] then one.take ((eqPart one es).length + 1) else eqPart one es
theorem eqPart_take (one : List Nat) (es : List (Nat × Int)) : eqPart one es = one.take (eqPart one es).length := by
  unfold eqPart
  exact List.prefix_iff_eq_take.mp (List.takeWhile_prefix _)
theorem eqPart_le (one : List Nat) (es : List (Nat × Int)) : (eqPart one es).length ≤ one.length := (List.takeWhile_prefix _).length_le
theorem take_while_at {α : Type} (p : α → Bool) : ∀ (l : List α) (k : Nat), k ≤ l.length → (∀ i (h : i < l.length), i < k → p l[i] = true) → (∀ (h : k < l.length), p l[k] = false) → (l.takeWhile p).length = k
  | [], k, hk, _, _ => by
    have : k = 0 := by
      have : k ≤ 0 := hk
      omega
    rw [this]
    rfl
  | a :: l, 0, _, _, h => by
    have := h (by simp)
    rw [List.takeWhile_cons, show p a = false from this]
    rfl
  | a :: l, k + 1, hk, h1, h2 => by
    have e := h1 0 (by simp) (by omega)
    rw [List.takeWhile_cons, show p a = true from e]
    have ih := take_while_at p l k (by have : k + 1 ≤ l.length + 1 := hk; omega) (fun i hi hik => h1 (i + 1) (by simpa using hi) (by omega)) (fun h => h2 (by simpa using h))
    show (a :: l.takeWhile p).length = k + 1
    rw [List.length_cons, ih]
section
variable (K : PySem.W.Frag) {X : Cx}
theorem ltTK (hu : X.A.units < cLine) (hK : X.K = K := by rfl) : OpR X (compareOp .Lt) (rLtT K) := by
  subst hK
  exact op_ltT hu
theorem leTK (hu : X.A.units < cLine) (hK : X.K = K := by rfl) : OpR X (compareOp .LtE) (rLeT K) := by
  subst hK
  exact op_leT hu
end
/-! ### the bounds that a question asks of a letter -/
def spanOf (es : List (Nat × Int)) (rc : Option (Nat × Int × Int)) (c : Nat) : Int × Int := match (spanL es rc).find? (fun t => decide (t.1 = c)) with
  | some t => t.2
  | none => (0, 0)
theorem spanOf_mem {es : List (Nat × Int)} {rc : Option (Nat × Int × Int)} {c : Nat} {lo hi : Int} (nd : ((spanL es rc).map (·.1)).Nodup) (h : (c, lo, hi) ∈ spanL es rc) : spanOf es rc c = (lo, hi) := by
  unfold spanOf
  generalize spanL es rc = l at nd h
  induction l with
  | nil => cases h
  | cons t l ih =>
    rw [List.find?_cons]
    by_cases e : t.1 = c
    · rw [decide_eq_true e]
      rcases List.mem_cons.mp h with z | z
      · rw [← z]
      · have := (List.nodup_cons.mp nd).1
        exfalso
        apply this
        show t.1 ∈ _
        rw [e]
        exact List.mem_map_of_mem (f := fun t : Nat × Int × Int => t.1) z
    · rw [decide_eq_false e]
      rcases List.mem_cons.mp h with z | z
      · exfalso
        apply e
        rw [← z]
      · exact ih (List.nodup_cons.mp nd).2 z
theorem mem_tw {α : Type} (p : α → Bool) : ∀ (l : List α) (a : α), a ∈ l.takeWhile p → p a = true
  | [], _, h => by cases h
  | b :: l, a, h => by
    rw [List.takeWhile_cons] at h
    by_cases e : p b = true
    · rw [if_pos e] at h
      rcases List.mem_cons.mp h with z | z
      · rw [z]
        exact e
      · exact mem_tw p l a z
    · rw [if_neg e] at h
      cases h
theorem used_span {one : List Nat} {es : List (Nat × Int)} {rc : Option (Nat × Int × Int)} {c : Nat} (h : c ∈ usedM one es rc) : ∃ lo hi, (c, lo, hi) ∈ spanL es rc := by
  have eqp : ∀ c ∈ eqPart one es, ∃ lo hi, (c, lo, hi) ∈ spanL es rc := fun c hc => by
    have hm : c ∈ es.map (·.1) := by
      unfold eqPart at hc
      have := mem_tw _ _ _ hc
      exact of_decide_eq_true this
    obtain ⟨p, hp, rfl⟩ := List.mem_map.mp hm
    exact ⟨p.2, p.2, List.mem_append_left _ (List.mem_map_of_mem (f := fun p : Nat × Int => (p.1, p.2, p.2)) hp)⟩
  cases rc with
  | none => exact eqp c h
  | some t =>
    obtain ⟨d, lo, hi⟩ := t
    have h2 : c ∈ (if (one.drop (eqPart one es).length).take 1 = [d] then one.take ((eqPart one es).length + 1) else eqPart one es) := h
    by_cases e : (one.drop (eqPart one es).length).take 1 = [d]
    · rw [if_pos e, List.take_add, ← eqPart_take, e] at h2
      rcases List.mem_append.mp h2 with z | z
      · exact eqp c z
      · rw [List.mem_singleton.mp z]
        exact ⟨lo, hi, List.mem_append_right _ (by simp)⟩
    · rw [if_neg e] at h2
      exact eqp c h2
theorem used_sub {one : List Nat} {es : List (Nat × Int)} {rc : Option (Nat × Int × Int)} : ∃ k, usedM one es rc = one.take k ∧ k ≤ one.length + 1 := by
  have hl := eqPart_le one es
  cases rc with
  | none => exact ⟨_, eqPart_take one es, by omega⟩
  | some t =>
    obtain ⟨d, lo, hi⟩ := t
    show ∃ k, (if (one.drop (eqPart one es).length).take 1 = [d] then one.take ((eqPart one es).length + 1) else eqPart one es) = one.take k ∧ _
    by_cases e : (one.drop (eqPart one es).length).take 1 = [d]
    · rw [if_pos e]
      exact ⟨_, rfl, by omega⟩
    · rw [if_neg e]
      exact ⟨_, eqPart_take one es, by omega⟩
theorem used_in {one : List Nat} {es : List (Nat × Int)} {rc : Option (Nat × Int × Int)} {c : Nat} (h : c ∈ usedM one es rc) : c ∈ one := by
  obtain ⟨k, e, _⟩ := used_sub (one := one) (es := es) (rc := rc)
  rw [e] at h
  exact List.mem_of_mem_take h
theorem used_len (one : List Nat) (es : List (Nat × Int)) (rc : Option (Nat × Int × Int)) : (usedM one es rc).length ≤ one.length := by
  obtain ⟨k, e, _⟩ := used_sub (one := one) (es := es) (rc := rc)
  rw [e, List.length_take]
  exact Nat.min_le_right _ _
theorem TG.mut {Ps : List Addr} {H : Hp} {p : Addr} {xs : List V} {o : HO} (t : TG Ps H) (h : H p = some (.lst xs)) : TG Ps (upd H p o) := fun P hP => by
  obtain ⟨ps, h2, q⟩ := t P hP
  refine ⟨ps, ?_, q⟩
  rw [upd_ne (fun z => ?_)]
  · exact h2
  · rw [z, h] at h2
    cases h2
theorem row_at_fz {H : Hp} {p : Addr} {row : List Int} (h : H p = some (.tup (row.map V.int))) : Fz H (.ref p) (rowD row) := .tup h FzA.ofInts
/-! ### stretches -/
def keyM (cols : List Nat) (row : List Int) (ls : List Nat) : List Int := ls.map (rowAt cols row)
def leK (ns ms : List Int) : Bool := Ob.lexAt (fun j => decide (ns.getD j 0 = ms.getD j 0)) (fun j => decide (ns.getD j 0 ≤ ms.getD j 0)) (decide (ns.length ≤ ms.length)) 0 (min ns.length ms.length)
def loM (es : List (Nat × Int)) (rc : Option (Nat × Int × Int)) (u : List Nat) : List Int := u.map fun c => (spanOf es rc c).1
def hiM (es : List (Nat × Int)) (rc : Option (Nat × Int × Int)) (u : List Nat) : List Int := u.map fun c => (spanOf es rc c).2
def aheadM (cols : List Nat) (rows : List (List Int)) (one : List Nat) (es : List (Nat × Int)) (rc : Option (Nat × Int × Int)) : Nat := (rows.filter fun row => HT.lexLt (keyM cols row (usedM one es rc)) (loM es rc (usedM one es rc))).length
def behindM (cols : List Nat) (rows : List (List Int)) (one : List Nat) (es : List (Nat × Int)) (rc : Option (Nat × Int × Int)) : Nat := (rows.filter fun row => leK (keyM cols row (usedM one es rc)) (hiM es rc (usedM one es rc))).length
end My

set_option Elab.async false
set_option linter.all false
set_option maxRecDepth 100000
set_option maxHeartbeats 2000000
namespace My
open PySem PySem.Spec PyProof.Rows L2
/-! ### tuples whose own object is told: without a dict of its own -/
def rTupF (K : PySem.W.Frag) : List V → Hp → VK → Prop := fun xs H Q => ∃ (p : Addr) (ys : List V), xs = [.ref p] ∧ SqL K H p ys ∧ ∀ (l : Addr) (o : Obj), H l = none → o.dict = none → Q (.ref l) (upd H l (.frz o (.tup ys)))
def rDictF (K : PySem.W.Frag) : List V → Hp → VK → Prop := fun xs H Q => ∃ (a : Addr) (o : Obj) (ps : List Addr) (kvs : List (Key × V)), xs = [.ref a] ∧ o.dict = none ∧ H a = some (.frz o (.tup (ps.map V.ref))) ∧ Paired (fun p kv => SqT K H p [kV kv.1, kv.2]) ps kvs ∧ ∀ p, H p = none → Q (.ref p) (upd H p (.dK (mergeK [] kvs)))
section
variable (K : PySem.W.Frag) {X : Cx}
theorem cTupF (hK : X.K = K := by rfl) : CallR X (.type "tuple") (rTupF K) := by
  subst hK
  intro pins s σ H xs us Q I r h
  obtain ⟨p, ys, rfl, hq, q⟩ := h
  obtain ⟨u, rfl, rx⟩ := vals1 r
  cases rx
  obtain ⟨its, rv, pl, hz⟩ := I.list hq
  have hlen := rv.length
  refine call_tuple_list pl.isList (fun h2 kp => ?_) (by rw [List.size_toArray]; omega)
  have I1 : Inv X pins σ H { s with heap := h2 } := I.kept (t' := s.toks) kp
  have new : ObjOk X.prog X.w (upd H h2.objs.size (.frz { cls := .type "tuple", data := .seq its.toArray } (.tup ys))) (h2.push { cls := .type "tuple", data := .seq its.toArray }) h2.objs.size (.frz { cls := .type "tuple", data := .seq its.toArray } (.tup ys)) := ⟨Heap.get?_push_size _ rfl, hz, its, rv, IsTup.new _ _⟩
  have I2 := I1.laid (t' := s.toks) (fun b o e => Heap.get?_push_of_some _ e) (Nat.le_refl _) new
  exact ⟨.ref h2.objs.size, _, I2, rfl, q _ _ (I1.hok.fresh (Nat.le_refl _)) rfl⟩
theorem cDictF (hK : X.K = K := by rfl) (hcalm : X.calm = true := by rfl) : CallR X (.type "dict") (rDictF K) := by
  subst hK
  intro pins s σ H xs us Q I r h
  obtain ⟨a, o, ps, kvs, rfl, hod, ha, hp, q⟩ := h
  obtain ⟨u, rfl, rx⟩ := vals1 r
  cases rx
  obtain ⟨ho, hz, its, rv, oc, hoc, hcl, n, hdat⟩ := I.hok a _ ha
  rw [ho] at hoc
  cases hoc
  have ei := refs_at rv
  subst ei
  rw [List.length_map] at hz
  obtain ⟨prs, rel, hl, hpr⟩ := L2.pairs_of I hp
  have hlt : ∀ j, j < prs.length → j < ps.length := fun j hj => by omega
  -- the keys as they lie there
  have hall : ∀ j (hj : j < prs.length), ∃ (u : Value), IsTup s.heap (ps.getD j 0) #[u, prs[j].2] ∧ keyIs prs[j].1 u = true := fun j hj => by
    obtain ⟨b, u, e1, e2, e3⟩ := hpr j prs[j] (List.getElem?_eq_getElem hj)
    refine ⟨u, ?_, e3⟩
    rw [List.getD_eq_getElem?_getD, e1]
    exact e2
  let us : List Value := (List.range prs.length).map fun j => if hj : j < prs.length then (hall j hj).choose else .none
  have hus : us.length = prs.length := by simp [us]
  have huj : ∀ j (hj : j < prs.length), us[j]? = some (hall j hj).choose := fun j hj => by
    simp only [us, List.getElem?_map, List.getElem?_range hj, Option.map_some, dif_pos hj]
  let zs : List (Value × Value) := (List.range prs.length).map fun j => (us.getD j .none, (prs.map (·.2)).getD j .none)
  have hzl : zs.length = prs.length := by simp [zs]
  have hzj : ∀ j (hj : j < prs.length), zs[j]? = some ((hall j hj).choose, prs[j].2) := fun j hj => by
    simp only [zs, List.getElem?_map, List.getElem?_range hj, Option.map_some, List.getD_eq_getElem?_getD, huj j hj, List.getElem?_eq_getElem hj, Option.getD_some]
  refine PySem.call_dict_pairs (knd := mixKind X.prog X.w) (kvs := prs) (PairArg.tuple a (ps.map Value.ref).toArray (fun j => ps.getD j 0) zs) (I.ok.hd hcalm) ⟨⟨o, n, ho, hcl, hod, hdat⟩, ?_, fun j k v e => ?_⟩ ⟨hzl.symm, fun j k v e => ?_⟩ (by rw [hzl, hl]; exact hz) fun h2 tk hd2 kp => ?_
  · simp [hzl, hl]
  · have hj : j < prs.length := by
      have := (List.getElem?_eq_some_iff.mp e).1
      omega
    rw [hzj j hj] at e
    cases e
    refine ⟨?_, .inl (hall j hj).choose_spec.1⟩
    have hj2 := hlt j hj
    simp [hj2]
  · have e0 : zs[j]? = some (k, v) := e
    have hj : j < prs.length := by
      have := (List.getElem?_eq_some_iff.mp e0).1
      omega
    rw [hzj j hj] at e0
    cases e0
    exact ⟨prs[j].1, List.getElem?_eq_getElem hj, (hall j hj).choose_spec.2⟩
  · have hm : (s.heap.objs.size == sysModules) = false := beq_eq_false_iff_ne.mpr (Nat.ne_of_gt I.big)
    have hlen : (mergeK [] kvs).length ≤ sizeLine := by
      have z := length_mergeK kvs []
      rw [List.length_nil, Nat.zero_add, rel.length, hl] at z
      omega
    have new : ObjOk X.prog X.w (upd H s.heap.objs.size (.dK (mergeK [] kvs))) h2 s.heap.objs.size (.dK (mergeK [] kvs)) := ⟨hlen, hm, merged [] prs, KV.merge rel .nil, hd2⟩
    have I2 := I.laid (t' := tk) (fun b u e => kp b u (fun z => nomatch z) e) (Nat.le_refl _) new
    exact ⟨.ref s.heap.objs.size, _, I2, rfl, q _ (I.hok.fresh (Nat.le_refl _))⟩
end
theorem app_txt (a b : List Nat) : ((⟨a.toArray⟩ : Str) ++ (⟨b.toArray⟩ : Str)) = ⟨(a ++ b).toArray⟩ := by
  show (⟨a.toArray ++ b.toArray⟩ : Str) = _
  rw [List.append_toArray]
/-! ### questions: their equals are such a tuple -/
def KT (H H' : Hp) : Prop := Kt H H' ∧ ∀ b o xs, H b = some (.frz o (.tup xs)) → H' b = some (.frz o (.tup xs))
theorem KT.rfl' {H : Hp} : KT H H := ⟨Kt.rfl', fun _ _ _ h => h⟩
theorem KT.trans {H H1 H2 : Hp} (a : KT H H1) (b : KT H1 H2) : KT H H2 := ⟨a.1.trans b.1, fun c o xs h => b.2 c o xs (a.2 c o xs h)⟩
theorem Same.kT {H H' : Hp} (s : Same H H') : KT H H' := ⟨Same.kt s, fun b o xs h => s b _ h⟩
theorem Kp.kT {r : Addr} {H H' : Hp} {xs : List V} (k : Kp r H H') (hr : H r = some (.lst xs)) : KT H H' := ⟨k.kt hr, fun b o ys h => k b _ (fun z => by
  rw [z, hr] at h
  cases h) h⟩
theorem Sx.kT {Ps : List Addr} {H H' : Hp} (t : TG Ps H) (s : Sx Ps H H') : KT H H' := ⟨s.kt t, fun b o xs h => s b _ (t.not h fun q z => nomatch z) h⟩
theorem KT.new {H : Hp} {p : Addr} {o : HO} (n : H p = none) : KT H (upd H p o) := ⟨Kt.new n, fun b u xs h => keep_new h n⟩
theorem KT.lst {H : Hp} {p : Addr} {xs : List V} {o : HO} (n : H p = some (.lst xs)) : KT H (upd H p o) := ⟨Kt.lst n, fun b u ys h => keep_ne h fun z => by
  rw [z, n] at h
  cases h⟩
def EZ (H : Hp) (ev : V) (es : List (Nat × Int)) : Prop := ∃ (ea : Addr) (o : Obj) (ps : List V), ev = .ref ea ∧ o.dict = none ∧ H ea = some (.frz o (.tup ps)) ∧ FzA H ps (es.map eqD)
def QZ (H : Hp) (qv : V) (es : List (Nat × Int)) (rc : Option (Nat × Int × Int)) : Prop := ∃ (qa : Addr) (ev y : V), qv = .ref qa ∧ H qa = some (.tup [ev, y]) ∧ EZ H ev es ∧ Fz H y (rchD rc)
theorem EZ.kT {H H' : Hp} {ev : V} {es : List (Nat × Int)} (h : EZ H ev es) (k : KT H H') : EZ H' ev es := by
  obtain ⟨ea, o, ps, rfl, h1, h2, h3⟩ := h
  exact ⟨ea, o, ps, rfl, h1, k.2 _ _ _ h2, h3.kt k.1⟩
theorem QZ.kT {H H' : Hp} {qv : V} {es : List (Nat × Int)} {rc : Option (Nat × Int × Int)} (h : QZ H qv es rc) (k : KT H H') : QZ H' qv es rc := by
  obtain ⟨qa, ev, y, rfl, h1, h2, h3⟩ := h
  exact ⟨qa, ev, y, rfl, k.1 _ _ h1, h2.kT k, h3.kt k.1⟩
theorem EZ.made {H : Hp} {te : Addr} {o : Obj} {ps : List V} {es : List (Nat × Int)} (n : H te = none) (ho : o.dict = none) (f : FzA H ps (es.map eqD)) : EZ (upd H te (.frz o (.tup ps))) (.ref te) es := ⟨te, o, ps, rfl, ho, upd_same, f.kt (.new n)⟩
theorem QZ.made {H : Hp} {v : Addr} {ev y : V} {es : List (Nat × Int)} {rc : Option (Nat × Int × Int)} (n : H v = none) (e : EZ H ev es) (f : Fz H y (rchD rc)) : QZ (upd H v (.tup [ev, y])) (.ref v) es rc := ⟨v, ev, y, rfl, upd_same, e.kT (.new n), f.kt (.new n)⟩
end My

set_option Elab.async false
set_option linter.all false
set_option maxRecDepth 100000
set_option maxHeartbeats 2000000
namespace My
open PySem PySem.Spec PyProof.Rows L2
section
variable (K : PySem.W.Frag) {X : Cx}
theorem slTK (hK : X.K = K := by rfl) : SlR X (rSlT K) := by
  subst hK
  exact sl_tup
end
/-! ### the order of keys, by a sign -/
theorem lexAt_shift {e r : Nat → Bool} {z : Bool} : ∀ (k i : Nat), Ob.lexAt e r z (i + 1) k = Ob.lexAt (fun j => e (j + 1)) (fun j => r (j + 1)) z i k
  | 0, i => rfl
  | k + 1, i => by
    show (if e (i + 1) = true then Ob.lexAt e r z (i + 1 + 1) k else r (i + 1)) = (if e (i + 1) = true then Ob.lexAt (fun j => e (j + 1)) (fun j => r (j + 1)) z (i + 1) k else r (i + 1))
    rw [lexAt_shift k (i + 1)]
theorem leK_cons (a b : Int) (as bs : List Int) : leK (a :: as) (b :: bs) = if a = b then leK as bs else decide (a ≤ b) := by
  unfold leK
  have e : min (a :: as).length (b :: bs).length = min as.length bs.length + 1 := by
    rw [List.length_cons, List.length_cons]
    omega
  rw [e, Ob.lexAt_succ, lexAt_shift]
  simp only [List.getD_cons_zero, List.getD_cons_succ, List.length_cons, Nat.add_le_add_iff_right, decide_eq_true_eq]
def sgn (k lo hi : Int) : Int := (if decide (hi < k) = true then 1 else 0) - (if decide (k < lo) = true then 1 else 0)
def signF (k lo hi : Nat → Int) (u : List Nat) (s : Int) : Int := u.foldl (fun s c => if s = 0 then sgn (k c) (lo c) (hi c) else s) s
theorem signF_stay (k lo hi : Nat → Int) : ∀ (u : List Nat) (s : Int), s ≠ 0 → signF k lo hi u s = s
  | [], s, _ => rfl
  | c :: u, s, h => by
    show signF k lo hi u (if s = 0 then sgn (k c) (lo c) (hi c) else s) = s
    rw [if_neg h]
    exact signF_stay k lo hi u s h
def Thin (lo hi : Nat → Int) : List Nat → Prop
  | [] => True
  | c :: r => lo c ≤ hi c ∧ (r ≠ [] → lo c = hi c) ∧ Thin lo hi r
theorem Thin.all {lo hi : Nat → Int} : ∀ {l : List Nat}, (∀ c ∈ l, lo c = hi c) → Thin lo hi l
  | [], _ => trivial
  | c :: l, h => ⟨by rw [h c (by simp)]; exact Int.le_refl _, fun _ => h c (by simp), Thin.all fun d hd => h d (by simp [hd])⟩
theorem Thin.app {lo hi : Nat → Int} {d : Nat} (hd : lo d ≤ hi d) : ∀ {l : List Nat}, (∀ c ∈ l, lo c = hi c) → Thin lo hi (l ++ [d])
  | [], _ => ⟨hd, fun z => absurd rfl z, trivial⟩
  | c :: l, h => ⟨by rw [h c (by simp)]; exact Int.le_refl _, fun _ => h c (by simp), Thin.app hd fun e he => h e (by simp [he])⟩
theorem sign_lex (k lo hi : Nat → Int) : ∀ (u : List Nat), Thin lo hi u → HT.lexLt (u.map k) (u.map lo) = decide (signF k lo hi u 0 < 0) ∧ leK (u.map k) (u.map hi) = decide (signF k lo hi u 0 < 1)
  | [], _ => ⟨rfl, rfl⟩
  | c :: u, h => by
    obtain ⟨h1, h2, h3⟩ := h
    have ih := sign_lex k lo hi u h3
    rw [List.map_cons, List.map_cons, List.map_cons, HT.lexLt_cons, leK_cons]
    show _ = decide (signF k lo hi u (if (0 : Int) = 0 then sgn (k c) (lo c) (hi c) else 0) < 0) ∧ _ = decide (signF k lo hi u (if (0 : Int) = 0 then sgn (k c) (lo c) (hi c) else 0) < 1)
    rw [if_pos rfl]
    rcases Int.lt_or_le (k c) (lo c) with e | e
    · have es : sgn (k c) (lo c) (hi c) = -1 := by
        unfold sgn
        rw [decide_eq_false (show ¬ hi c < k c by omega), decide_eq_true e]
        rfl
      rw [es, signF_stay _ _ _ _ _ (by decide), if_neg (show ¬ k c = lo c by omega), if_neg (show ¬ k c = hi c by omega), decide_eq_true e, decide_eq_true (show k c ≤ hi c by omega)]
      exact ⟨rfl, rfl⟩
    · rcases Int.lt_or_le (hi c) (k c) with f | f
      · have es : sgn (k c) (lo c) (hi c) = 1 := by
          unfold sgn
          rw [decide_eq_false (show ¬ k c < lo c by omega), decide_eq_true f]
          rfl
        rw [es, signF_stay _ _ _ _ _ (by decide), if_neg (show ¬ k c = lo c by omega), if_neg (show ¬ k c = hi c by omega), decide_eq_false (show ¬ k c < lo c by omega), decide_eq_false (show ¬ k c ≤ hi c by omega)]
        exact ⟨rfl, rfl⟩
      · have es : sgn (k c) (lo c) (hi c) = 0 := by
          unfold sgn
          rw [decide_eq_false (show ¬ k c < lo c by omega), decide_eq_false (show ¬ hi c < k c by omega)]
          rfl
        rw [es]
        by_cases hu : u = []
        · subst hu
          show (if k c = lo c then false else decide (k c < lo c)) = false ∧ (if k c = hi c then true else decide (k c ≤ hi c)) = true
          rw [decide_eq_false (show ¬ k c < lo c by omega), decide_eq_true f]
          exact ⟨by split <;> rfl, by split <;> rfl⟩
        · have e2 := h2 hu
          rw [if_pos (show k c = lo c by omega), if_pos (show k c = hi c by omega)]
          exact ih
def signM (cols : List Nat) (row : List Int) (es : List (Nat × Int)) (rc : Option (Nat × Int × Int)) (u : List Nat) : Int := signF (rowAt cols row) (fun c => (spanOf es rc c).1) (fun c => (spanOf es rc c).2) u 0
theorem span_eq {cols : List Nat} {es : List (Nat × Int)} {rc : Option (Nat × Int × Int)} (hok : QOk cols es rc) {c : Nat} {v : Int} (h : (c, v) ∈ es) : spanOf es rc c = (v, v) := spanOf_mem (spanL_nd hok) (List.mem_append_left _ (List.mem_map_of_mem (f := fun p : Nat × Int => (p.1, p.2, p.2)) h))
theorem span_rc {cols : List Nat} {es : List (Nat × Int)} {c : Nat} {lo hi : Int} (hok : QOk cols es (some (c, lo, hi))) : spanOf es (some (c, lo, hi)) c = (lo, hi) := spanOf_mem (spanL_nd hok) (List.mem_append_right _ (by simp))
theorem used_thin {cols one : List Nat} {es : List (Nat × Int)} {rc : Option (Nat × Int × Int)} (hok : QOk cols es rc) : Thin (fun c => (spanOf es rc c).1) (fun c => (spanOf es rc c).2) (usedM one es rc) := by
  have eqp : ∀ c ∈ eqPart one es, (spanOf es rc c).1 = (spanOf es rc c).2 := fun c hc => by
    have hm0 := mem_tw (fun c => decide (c ∈ es.map fun p : Nat × Int => p.1)) one c hc
    have hm : c ∈ es.map (·.1) := of_decide_eq_true hm0
    obtain ⟨p, hp, rfl⟩ := List.mem_map.mp hm
    rw [span_eq hok (c := p.1) (v := p.2) hp]
  cases rc with
  | none => exact Thin.all eqp
  | some t =>
    obtain ⟨d, lo, hi⟩ := t
    show Thin _ _ (if (one.drop (eqPart one es).length).take 1 = [d] then one.take ((eqPart one es).length + 1) else eqPart one es)
    by_cases e : (one.drop (eqPart one es).length).take 1 = [d]
    · rw [if_pos e, List.take_add, ← eqPart_take, e]
      refine Thin.app ?_ eqp
      show (spanOf es (some (d, lo, hi)) d).1 ≤ (spanOf es (some (d, lo, hi)) d).2
      rw [span_rc hok]
      exact (hok.rc d lo hi rfl).2.2.2.1
    · rw [if_neg e]
      exact Thin.all eqp
theorem val_at (c : Nat) : ∀ es : List (Nat × Int), c ∈ es.map (·.1) → ∃ v, (c, v) ∈ es ∧ valV (es.map kvI) (Sum.inr (sS c)) = some (.int v)
  | [], h => by cases h
  | e :: es, h => by
    by_cases z : e.1 = c
    · refine ⟨e.2, by rw [← z]; simp, ?_⟩
      rw [List.map_cons, valV_pos (by show Sum.inr (sS e.1) = Sum.inr (sS c); rw [z])]
    · have h2 : c ∈ es.map (·.1) := by
        rcases List.mem_cons.mp h with y | y
        · exact absurd y.symm z
        · exact y
      obtain ⟨v, h3, h4⟩ := val_at c es h2
      refine ⟨v, List.mem_cons_of_mem _ h3, ?_⟩
      rw [List.map_cons, valV_neg (fun y => z ?_)]
      · exact h4
      · exact sS_inj (Sum.inr.inj y)
theorem used_rc {one : List Nat} {es : List (Nat × Int)} {rc : Option (Nat × Int × Int)} {c : Nat} (h : c ∈ usedM one es rc) (n : c ∉ es.map (·.1)) : ∃ lo hi, rc = some (c, lo, hi) := by
  obtain ⟨lo, hi, hm⟩ := used_span h
  rcases List.mem_append.mp hm with z | z
  · obtain ⟨p, hp, e⟩ := List.mem_map.mp z
    have e1 : p.1 = c := congrArg (·.1) e
    exact absurd (e1 ▸ List.mem_map_of_mem (f := fun p : Nat × Int => p.1) hp) n
  · exact ⟨lo, hi, by simpa using z⟩
theorem ahead_sign {cols : List Nat} {rows : List (List Int)} {one : List Nat} {es : List (Nat × Int)} {rc : Option (Nat × Int × Int)} (hok : QOk cols es rc) : aheadM cols rows one es rc = (rows.filter fun row => decide (signM cols row es rc (usedM one es rc) < 0)).length := by
  unfold aheadM
  congr 2
  funext row
  exact (sign_lex (rowAt cols row) (fun c => (spanOf es rc c).1) (fun c => (spanOf es rc c).2) _ (used_thin hok)).1
theorem behind_sign {cols : List Nat} {rows : List (List Int)} {one : List Nat} {es : List (Nat × Int)} {rc : Option (Nat × Int × Int)} (hok : QOk cols es rc) : behindM cols rows one es rc = (rows.filter fun row => decide (signM cols row es rc (usedM one es rc) < 1)).length := by
  unfold behindM
  congr 2
  funext row
  exact (sign_lex (rowAt cols row) (fun c => (spanOf es rc c).1) (fun c => (spanOf es rc c).2) _ (used_thin hok)).2
end My

set_option Elab.async false
set_option linter.all false
set_option maxRecDepth 100000
set_option maxHeartbeats 2000000
namespace My
open PySem PySem.Spec PyProof.Rows L2
section
variable (K : PySem.W.Frag) {X : Cx}
end
/-! ### what a stretch of the sorted rows holds -/
def below (cols : List Nat) (rows : List (List Int)) (es : List (Nat × Int)) (rc : Option (Nat × Int × Int)) (u : List Nat) (n : Int) (o : Nat) : Bool := decide (signM cols (rows.getD o []) es rc u < n)
end My

set_option Elab.async false
set_option linter.all false
set_option maxRecDepth 100000
set_option maxHeartbeats 2000000
namespace My
open PySem PySem.Spec PyProof.Rows L2
/-! ### a walk over a dict's keys, texts of one sign -/
section
variable {X : Cx} {pins : List (Addr × Obj)} {σ : L2.St}
end
theorem SpA.keys {H : Hp} {kvs : List (Key × V)} {l : List (Nat × Int × Int)} (h : SpA H kvs l) : kvs.map (·.1) = (l.map (·.1)).map fun c => (Sum.inr (sS c) : Key) := by
  induction h with
  | nil => rfl
  | cons _ _ ih =>
    rw [List.map_cons, List.map_cons, List.map_cons, ih]
end My

set_option Elab.async false
set_option linter.all false
set_option maxRecDepth 100000
set_option maxHeartbeats 2000000
namespace My
open PySem PySem.Spec PyProof.Rows L2
section
variable (K : PySem.W.Frag) {X : Cx}
theorem paStarK {e : Expr} {te : TE} {es : List Expr} {t : TA} {p : Pos} (he : PE X e te) (hr : PA X es t) (hK : X.K = K := by rfl) (hs : starEach (.Starred e p :: es) X.env = (true, eval e X.env) :: starEach es X.env := by rfl) : PA X (.Starred e p :: es) (StX.tStar K te t) := by
  subst hK
  exact StX.pa_star he hr hs
/-! ### the least of a list -/
def minM (n : Int) (ns : List Int) : Int := ns.foldl min n
theorem minM_spec : ∀ (ns : List Int) (n : Int), (minM n ns = n ∨ minM n ns ∈ ns) ∧ minM n ns ≤ n ∧ ∀ y ∈ ns, minM n ns ≤ y
  | [], n => ⟨.inl rfl, Int.le_refl _, fun y h => nomatch h⟩
  | m :: ns, n => by
    obtain ⟨h1, h2, h3⟩ := minM_spec ns (min n m)
    have e : minM n (m :: ns) = minM (min n m) ns := rfl
    rw [e]
    refine ⟨?_, by omega, fun y hy => ?_⟩
    · rcases h1 with z | z
      · rw [z]
        by_cases c : n ≤ m
        · exact .inl (by omega)
        · exact .inr (by rw [show min n m = m by omega]; exact List.mem_cons_self ..)
      · exact .inr (List.mem_cons_of_mem _ z)
    · rcases List.mem_cons.mp hy with z | z
      · omega
      · exact h3 y z
theorem minM_of {n m : Int} {ns : List Int} (h : m ∈ n :: ns) (hl : ∀ y ∈ n :: ns, m ≤ y) : m = minM n ns := by
  obtain ⟨h1, h2, h3⟩ := minM_spec ns n
  have a1 : m ≤ minM n ns := by
    rcases h1 with z | z
    · rw [z]
      exact hl n (by simp)
    · exact hl _ (by simp [z])
  have a2 : minM n ns ≤ m := by
    rcases List.mem_cons.mp h with z | z
    · omega
    · exact h3 m z
  omega
def rMinM (K : PySem.W.Frag) : List V → Hp → VK → Prop := fun vs H Q => ∃ (a : Addr) (n : Int) (ns : List Int), vs = [.ref a] ∧ SqL K H a ((n :: ns).map V.int) ∧ Q (.int (minM n ns)) H
theorem minK (hc : X.calm = true := by rfl) (hK : X.K = K := by rfl) : CallR X (.builtin "min") (rMinM K) := by
  subst hK
  intro pins s σ H xs us Q I r h
  obtain ⟨a, n, ns, rfl, hs, q⟩ := h
  refine cr_min hc pins s σ H _ us Q I r ⟨a, n :: ns, rfl, hs, by simp, fun m hm hl => ?_⟩
  rw [minM_of hm hl]
  exact q
end
/-! ### keys of a merged dict -/
/-! ### choices: texts in a row -/
abbrev txS (l : List Nat) : Str := ⟨l.toArray⟩
theorem txS_inj {a b : List Nat} (h : txS a = txS b) : a = b := tx_inj (congrArg V.str h)
/-! ### prices -/
def priceM (cols : List Nat) (rows : List (List Int)) (o : List Nat) (es : List (Nat × Int)) (rc : Option (Nat × Int × Int)) : Int := (behindM cols rows o es rc : Int) - (aheadM cols rows o es rc : Int) + 1
def priceByM (cols : List Nat) (rows : List (List Int)) (ov : Option (List Nat)) (es : List (Nat × Int)) (rc : Option (Nat × Int × Int)) : Int := match ov with
  | none => (rows.length : Int)
  | some o => priceM cols rows o es rc
def priceOfM (cols : List Nat) (rows : List (List Int)) (ch : List (List Nat)) (es : List (Nat × Int)) (rc : Option (Nat × Int × Int)) : Int := minM (rows.length : Int) (ch.map fun o => priceM cols rows o es rc)
def oV : Option (List Nat) → V
  | none => .non
  | some o => tx o
end My

set_option Elab.async false
set_option linter.all false
set_option maxRecDepth 100000
set_option maxHeartbeats 2000000
namespace My
open PySem PySem.Spec PyProof.Rows L2
/-! ### sorted again -/
/-! ### rows of lists of numbers -/
mutual
theorem Ft.dp {K : PySem.W.Frag} {H : Hp} : ∀ (d : PyData) (v : V), Ft H v d → Dp K H v d
  | .none, _, .non => .non
  | .bool _, _, .bl b => .bl b
  | .int _, _, .int i => .int i
  | .str _, _, .str z => .str z
  | .list ds, _, .lst h a => .lst (.inl (.inl h)) (FtA.dp ds _ a)
  | .tuple ds, _, .tup h a => .tup (.inl (.inl h)) (FtA.dp ds _ a)
theorem FtA.dp {K : PySem.W.Frag} {H : Hp} : ∀ (ds : List PyData) (vs : List V), FtA H vs ds → DpAll K H vs ds
  | [], _, .nil => .nil
  | d :: ds, _, .cons h a => .cons (Ft.dp d _ h) (FtA.dp ds _ a)
end
theorem FtA.snoc {H : Hp} : ∀ {vs : List V} {ds : List PyData} {v : V} {d : PyData}, FtA H vs ds → Ft H v d → FtA H (vs ++ [v]) (ds ++ [d])
  | _, _, _, _, .nil, h => .cons h .nil
  | _, _, _, _, .cons a r, h => .cons a (r.snoc h)
end My
namespace My
open PySem PySem.Spec PyProof.Rows L2
end My

set_option Elab.async false
set_option linter.all false
set_option maxRecDepth 100000
set_option maxHeartbeats 2000000
namespace My
open PySem PySem.Spec PyProof.Rows L2
/-! ### generator expressions whose element calls defs -/
/-- the context of a generator expression's own frame -/
abbrev gxC (X : Cx) (A : Around) (s : Shared) (H : Hp) (cenv : Env) (fp : List Addr) (pn : List (Addr × Obj)) : Cx :=
  { X with A := A, s_0 := s, H_0 := H, env := cenv, outer := X.stack, stack := cenv :: X.stack, ex := fp, fn := fun _ => false, pn := pn, xe := fun _ _ => False }
theorem over_gen {A : Around} {elt : Expr} {gs : List Comprehension} {scope : Scope} {pos : Pos} {it acc : Value} {env : Env} : A.over (.compLoop (.GeneratorExp elt gs scope pos) 0 it acc env) [] = A.deeper env := rfl
section
variable {X : Cx} {pins : List (Addr × Obj)} {σ : L2.St} {H : Hp} {s : Shared}
/-- what its consumer wrote at S while it slept -/
theorem woke {S : Addr} {o o' : Obj} {pins0 : List (Addr × Obj)} {s' : Shared} (I : Inv X ((S, o) :: pins0) σ H s) (h0 : X.s_0.heap.objs.size ≤ S) (hc : ∀ x c, X.env.cells.lookup x = some c → c ≠ S) (hpn : ∀ p ∈ X.pn ++ pins0, p.1 ≠ S)
    (os : s'.os = s.os) (bare : AllBare s'.gens) (keep : ∀ b u, b ≠ S → s.heap.get? b = some u → s'.heap.get? b = some u) (own : s'.heap.get? S = some o') (hd : ∀ v, o'.data ≠ .cell v) : Inv X ((S, o') :: pins0) σ H s' := by
  obtain ⟨p1, p2, p3, p4, p5⟩ := I.pin (S, o) (List.mem_append_right _ List.mem_cons_self)
  have I0 : Inv X pins0 σ H s := I.pins_of fun p hp => I.pin p (List.mem_append_right _ (List.mem_cons_of_mem _ hp))
  have J : Inv X pins0 σ H { s with heap := s'.heap, toks := s.toks } := I0.turned (t' := s.toks) keep p2 p3 (.inr h0) hc hpn
  have J2 : Inv X pins0 σ H s' := J.call' (ch := []) os (Un.kept fun b o e => e) J.hok bare (fun b hb => absurd hb (by simp))
  refine J2.pins_of fun p hp => ?_
  rcases List.mem_cons.mp hp with z | z
  · rw [z]
    exact ⟨own, p2, p3, p4, hd⟩
  · exact J2.pin p (List.mem_append_right _ z)
/-- a scope without cells makes none -/
theorem none_made : ∀ {names : List (Str × NameKind)}, (∀ y ∈ names, y.2 ≠ .cell) → (∀ n acc, cellsFrom n names acc = acc) ∧ ∀ h, pushCells h names = h
  | [], _ => ⟨fun _ _ => rfl, fun _ => rfl⟩
  | y :: r, no => by
    have hy : (y.2 == NameKind.cell) = false := beq_eq_false_iff_ne.mpr (no y List.mem_cons_self)
    have ⟨p, q⟩ := none_made (names := r) fun z hz => no z (List.mem_cons_of_mem y hz)
    exact ⟨fun n acc => by rw [cellsFrom, hy]; exact p n acc, fun h => by rw [pushCells, hy]; exact q h⟩
/-- names keep their places when only their kinds change -/
theorem lookup_kinds {f : Str × NameKind → Str × NameKind} (same : ∀ p, (f p).1 = p.1) {x : Str} {k : NameKind} : ∀ {names : List (Str × NameKind)}, names.lookup x = some k → (names.map f).lookup x = some (f (x, k)).2
  | [], e => nomatch e
  | (n, j) :: r, e => by
    rw [List.map_cons, show f (n, j) = (n, (f (n, j)).2) from Prod.ext (same _) rfl]
    cases hx : x == n with
    | true =>
      rw [List.lookup_cons, hx] at e ⊢
      obtain rfl : j = k := Option.some.inj e
      rw [eq_of_beq hx]
    | false =>
      rw [List.lookup_cons, hx] at e ⊢
      exact lookup_kinds same e
/-- a free name stays free or is a cell in the block's scope -/
theorem relab_free {env : Env} {scope : Scope} {x : Str} (e : scope.names.lookup x = some .free) : (relabel scope env).names.lookup x = some .cell ∨ (relabel scope env).names.lookup x = some .free := by
  unfold relabel
  rw [lookup_kinds (fun p => ?_) e]
  · dsimp only
    split
    · exact .inl rfl
    · exact .inr rfl
  · dsimp only
    split <;> rfl
/-- the generator's frame as it begins: what a block's frame would know, with the iterator under its own name -/
theorem gx_start {scope : Scope} {own : List (Str × Nat)} {fp : List Addr} {A : Around} {code : Value} {it : Value} {h' : Heap} {go : Obj} {G : Array GenState} {tk : Nat} (I : Inv X pins σ H s) (ok : BlkOk X.N X.env.scope scope own) (hcell : ∀ y ∈ scope.names, y.2 ≠ .cell) (hN : X.N.Nodup)
    (hfp : ∀ b ∈ fp, FpOk X pins H b ∧ b < s.heap.objs.size) (hA : A.handled = none) (hfr : A.frames = some X.stack) (hn : h'.Ns s.heap.objs.size (fun y => if y = ".0" then some it else none))
    (hs : Heap.SameBut s.heap.objs.size (s.heap.push { cls := .type "frame", data := .dict #[] }) h') (hG : AllBare G) (hgp : (h'.push go).get? h'.objs.size = some go) (hgd : ∀ v, go.data ≠ .cell v) :
    Inv (gxC X (A.deeper (genEnv scope (cloFrom X.env.cells scope.names []) s.heap.objs.size code builtinsNs X.env)) s H (genEnv scope (cloFrom X.env.cells scope.names []) s.heap.objs.size code builtinsNs X.env) fp [(h'.objs.size, go)]) [] (wipe σ (own.map (·.2))) H
      { s with gens := G, toks := tk, heap := h'.push go } := by
  have J := block_start I ok hN hfp
  rw [(none_made hcell).1, (none_made hcell).2] at J
  have lt : s.heap.objs.size < h'.objs.size := hn.lt
  have kp : ∀ b o, s.heap.get? b = some o → (h'.push go).get? b = some o := fun b o e => Heap.get?_push_of_some _ (hs.extBut b o (Nat.ne_of_lt (Heap.lt_size e)) (Heap.get?_push_of_some _ e))
  have cells : ∀ {c : Addr} {v : Option Value}, (s.heap.push { cls := .type "dict", data := .dict #[] }).IsCell c v → (h'.push go).IsCell c v := by
    rintro c v ⟨o, e, d⟩
    have ne : c ≠ s.heap.objs.size := fun z => by
      rw [z, Heap.get?_push_size _ rfl] at e
      rw [← Option.some.inj e] at d
      cases d
    exact ⟨o, kp c o (Heap.get?_push_ne _ _ _ ne ▸ e), d⟩
  have outside : ∀ {y : Str}, scope.names.lookup y = some .cell ∨ scope.names.lookup y = some .free → (relabel scope X.env).names.lookup y = some .cell ∨ (relabel scope X.env).names.lookup y = some .free := fun z => z.elim (fun e => absurd rfl (hcell _ (PySem.mem_of_lookup e))) relab_free
  refine { ok := { mod := J.ok.mod, kind := ok.kind, glob := J.ok.glob, blt := rfl, above := Nat.le_refl _, inj := J.ok.inj, has := fun y z => J.ok.has y (outside z), cab := (fun _ _ z => nomatch z), hd := fun _ => hA, frames := Around.frames_deeper hfr, stk := .inr ⟨rfl, rfl⟩,
                   exf := J.ok.exf, bs := J.ok.bs, bsz := J.ok.bsz, noex := J.ok.noex, exfs := J.ok.exfs, funs := J.ok.funs, frf := J.ok.frf }
           os := rfl, bare := hG, base := Un.kept kp, loc := ⟨_, hn.push go, fun i y v hy hv vis => ?_⟩, cell := fun y c e => (J.cell y c e).imp fun _ => cells, free := J.free, freeC := J.freeC, pin := ?_, hok := I.hok.kept kp, len := J.len }
  · obtain ⟨m, hm, all⟩ := J.loc
    have blank : m y = none := hm.agree (Heap.Ns.new s.heap (.type "dict")) y
    have get := all i y v hy hv
    rcases vis with l | l
    · have l2 : (relabel scope X.env).names.lookup y = some .local := lookup_relabel_local l
      obtain ⟨u, _, z | z⟩ := get (.inl l2)
      · rw [blank] at z
        exact nomatch z.2
      · rcases z.1 with z | z <;> exact nomatch l2.symm.trans z
    · obtain ⟨u, r, z | ⟨_, c, e, k⟩⟩ := get (.inr (outside l))
      · rw [blank] at z
        exact nomatch z.2
      · exact ⟨u, r, .inr ⟨l, c, e, cells k⟩⟩
  · intro p hp
    obtain rfl : p = (h'.objs.size, go) := by simpa using hp
    refine ⟨hgp, I.hok.fresh (Nat.le_of_lt lt), Nat.ne_of_gt lt, fun z => ?_, hgd⟩
    rcases List.mem_cons.mp (I.stkSub _ z) with e | e
    · exact Nat.lt_irrefl _ (Nat.lt_trans lt (show h'.objs.size < _ from (show h'.objs.size = X.env.locals from e) ▸ I.lt))
    · exact I.nofs (Nat.le_of_lt lt) e
end
end My

set_option Elab.async false
set_option linter.all false
set_option maxRecDepth 100000
set_option maxHeartbeats 2000000
namespace My
open PySem PySem.Spec PyProof.Rows L2
/-- where such a generator stands: i items are out; S: what its consumer keeps -/
structure GxAt (X : Cx) (fp : List Addr) (tn : Nat → Heap → Prop) (σ0 : L2.St) (W : Nat → Hp → Prop) (S : Addr) (i : Nat) (o : Obj) (H : Hp) (s : Shared) : Prop where
  inv : Inv X [(S, o)] σ0 H s
  st : tn i s.heap
  nfp : ∀ b ∈ fp, H b = none
  w : W i H
/-- the consumer wrote at S alone -/
structure Wrote (S : Addr) (s s' : Shared) (o' : Obj) : Prop where
  os : s'.os = s.os
  bare : AllBare s'.gens
  keep : ∀ b u, b ≠ S → s.heap.get? b = some u → s'.heap.get? b = some u
  own : s'.heap.get? S = some o'
  nc : ∀ v, o'.data ≠ .cell v
def gxY (X : Cx) (fp : List Addr) (tn : Nat → Heap → Prop) (σ0 : L2.St) (W : Nat → Hp → Prop) (S : Addr) (n : Nat) (F : Nat → V) : Protocol := fun m s₀ v s kap =>
  ∃ i o H, m + i + 1 = n ∧ RelV (F i) v ∧ s₀.heap.get? S = some o ∧ GxAt X fp tn σ0 W S (i + 1) o H s ∧ ∀ s'' o', Wrote S s s'' o' → kap (.send .none) s''
def gxP (X : Cx) (σ0 : L2.St) (W : Nat → Hp → Prop) (S : Addr) (n : Nat) : Nat → Shared → Shared → Prop := fun m s₀ s₁ => m = 0 ∧ ∃ o H, Inv X [(S, o)] σ0 H s₁ ∧ W n H
section
variable {X : Cx}
/-- one item's reading -/
def gxStep (J : It) (g : L2.TG) (te : TE) (vs : List Nat) (σ0 : L2.St) (W : Nat → Hp → Prop) (n : Nat) (F : Nat → V) : Prop :=
  ∀ i H, W i H → (i < n → J.go i H ∧ ∀ x H', J.yld i H x H' → g x σ0 H' fun σ2 H2 => wipe σ2 vs = σ0 ∧ te σ2 H2 fun y H3 => y = F i ∧ W (i + 1) H3) ∧ (i = n → J.stop i H)
theorem gx_loop {A : Around} {elt tg iter : Expr} {scope : Scope} {pos : Pos} {J : It} {fp : List Addr} {it : Addr} {tn : Nat → Heap → Prop} {g : L2.TG} {te : TE} {vs : List Nat} {σ0 : L2.St} {W : Nat → Hp → Prop} {n : Nat} {F : Nat → V} {S : Addr}
    (hA : A.deeper X.env = X.A) (T : Turn X.prog X.w X.K tg J fp it tn) (hc : X.calm = true) (hex : X.ex = fp) (hSf : S ∉ fp) (hpf : ∀ p ∈ X.pn, p.1 ∉ fp) (hxe : ∀ e s, X.xe e s → False) (hco : X.env.scope.isCoroutine = false)
    (h0 : X.s_0.heap.objs.size ≤ S) (hcs : ∀ x c, X.env.cells.lookup x = some c → c ≠ S) (hpS : ∀ p ∈ X.pn, p.1 ≠ S)
    (pg : PG X tg g) (pe : PE X elt te) (step : gxStep J g te vs σ0 W n F) :
    ∀ (k i : Nat) (s₀ s : Shared) (o : Obj) (H : Hp), i + k = n → s₀.heap.get? S = some o → GxAt X fp tn σ0 W S i o H s →
      Seg (model X.prog X.w) A (fun m s₀ r s₁ => r = .ok .next ∧ gxP X σ0 W S n m s₀ s₁) (gxY X fp tn σ0 W S n F) k s₀
        (.compLoop (.GeneratorExp elt [⟨tg, iter, [], 0⟩] scope pos) 0 (.ref it) .none X.env)
        ((model X.prog X.w).den (.compLoop (.GeneratorExp elt [⟨tg, iter, [], 0⟩] scope pos) 0 (.ref it) .none X.env)) [] s := by
  have stat : ∀ {o : Obj} {σ' : L2.St} {H' : Hp} {s' : Shared}, Inv X [(S, o)] σ' H' s' → (∀ b ∈ fp, H' b = none) → ∀ b ∈ fp, FpOk X [(S, o)] H' b := fun {o σ' H' s'} I' hn b hb =>
    ⟨hn b hb, (I'.ok.exf b (hex ▸ hb)).1, I'.ok.exfs b (hex ▸ hb), .inl (hex ▸ hb), fun x c e => (I'.ok.exf b (hex ▸ hb)).2 x c e, fun p hp z => by
      rcases List.mem_append.mp hp with q | q
      · exact hpf p q (z ▸ hb)
      · have e : p = (S, o) := by simpa using q
        rw [e] at z
        exact hSf (by rw [show S = b from z]; exact hb)⟩
  intro k
  induction k with
  | zero =>
    intro i s₀ s o H hk hs0 G
    have hin : i = n := by omega
    subst hin
    show Seg _ A _ _ _ s₀ _ ((compTurn (.GeneratorExp elt [⟨tg, iter, [], 0⟩] scope pos) 0 (.ref it) .none X.env).onRaise (leaving X.env)) [] s
    rw [compTurn_gen, Sem.onRaise_eq_wrap]
    refine seg_bind_wrap (wpAny_standAt ?_)
    refine seg_bind_wrap ?_
    rw [over_gen, hA]
    refine thnF (T.done X rfl rfl rfl hc i [(S, o)] s σ0 H (fun _ _ => False) G.inv (stat G.inv G.nfp) G.st ((step i H G.w).2 rfl)) fun r s6 ⟨hr, I6⟩ => ?_
    subst hr
    exact seg_end (.ok .next) ⟨rfl, rfl, o, H, I6, G.w⟩
  | succ k ih =>
    intro i s₀ s o H hk hs0 G
    have hlt : i < n := by omega
    obtain ⟨go, st⟩ := (step i H G.w).1 hlt
    show Seg _ A _ _ _ s₀ _ ((compTurn (.GeneratorExp elt [⟨tg, iter, [], 0⟩] scope pos) 0 (.ref it) .none X.env).onRaise (leaving X.env)) [] s
    rw [compTurn_gen, Sem.onRaise_eq_wrap]
    refine seg_bind_wrap (wpAny_standAt ?_)
    refine seg_bind_wrap ?_
    rw [over_gen, hA]
    refine thnF (T.item X rfl rfl rfl hc i [(S, o)] s σ0 H (fun _ _ => False) G.inv (stat G.inv G.nfp) G.st go) fun r s6 ⟨u, hr, h6⟩ => ?_
    subst hr
    refine seg_bind_wrap ?_
    rw [over_gen, hA]
    refine thnF h6 fun _ s7 ⟨x, H7, I7, r7, y7, st7, n7⟩ => ?_
    have I7' := I7.pinned (stat I7 n7) (T.obj _ _ st7)
    refine seg_bind_wrap ?_
    rw [over_gen, hA]
    refine wpAny_mono (pg.run _ s7 _ H7 x u _ I7' r7 (st x H7 y7)) (fun _ s8 h8 => ?_) (fun e s' z => (hxe e s' z).elim)
    obtain ⟨σ8, H8, I8, hw8, q8⟩ := h8
    refine seg_bind_wrap (wpAny_tests_nil ?_)
    simp only [if_true]
    have hy : ∀ v, yieldOut X.env v = yieldValue v := fun v => by simp only [yieldOut, hco, Bool.false_eq_true, if_false]
    simp only [hy]
    rw [Sem.bind_eq_wrap', Sem.bind_eq_wrap', Sem.wrap_wrap, Sem.wrap_wrap]
    refine seg_wrap ?_
    rw [over_gen, hA]
    refine wpAny_mono (pe.run _ s8 σ8 H8 _ I8 q8) (fun yv s10 h10 => ?_) (fun e s' z => (hxe e s' z).elim)
    obtain ⟨y, H10, I10, r10, ey, w10⟩ := h10
    have pin' : ∀ b ∈ fp, ∀ ob, s7.heap.get? b = some ob → s10.heap.get? b = some ob ∧ H10 b = none := fun b hb ob e =>
      let z := I10.pin (b, ob) (List.mem_append_right _ (List.mem_append_right _ (mem_pinsAt hb e)))
      ⟨z.1, z.2.1⟩
    have hl : σ0.length = σ8.length := by rw [← hw8, wipe_length]
    have I11 : Inv X [(S, o)] σ0 H10 s10 := (I10.unpinned (pins := [(S, o)])).weak hl fun j v e => by
      rw [← hw8] at e
      exact (wipe_some e).1
    have G11 : GxAt X fp tn σ0 W S (i + 1) o H10 s10 := ⟨I11, T.keep _ _ _ st7 fun b hb ob e => (pin' b hb ob e).1, fun b hb => by
      obtain ⟨ob, e, _⟩ := T.obj _ _ st7 b hb
      exact (pin' b hb ob e).2, w10⟩
    refine seg_at (seg_yield rfl rfl rfl ⟨i, o, H10, by omega, by rw [← ey]; exact r10, hs0, G11, fun s'' o' z => ?_⟩)
    refine seg_again rfl (ih (i + 1) s'' s'' o' H10 (by omega) z.own ⟨woke G11.inv h0 hcs (fun p hp => hpS p (by simpa using hp)) z.os z.bare z.keep z.own z.nc, T.keep _ _ _ G11.st fun b hb ob e => z.keep b ob (fun q => hSf (q ▸ hb)) e, G11.nfp, G11.w⟩)
/-- from its beginning -/
theorem gx_begin {A : Around} {elt tg iter : Expr} {scope : Scope} {pos : Pos} {J : It} {fp : List Addr} {it : Addr} {tn : Nat → Heap → Prop} {R : GenEnd} {Y : Protocol} {k : Nat} {s₀ s : Shared} (T : Turn X.prog X.w X.K tg J fp it tn) (st : tn 0 s.heap)
    (loop : Seg (model X.prog X.w) A R Y k s₀ (.compLoop (.GeneratorExp elt [⟨tg, iter, [], 0⟩] scope pos) 0 (.ref it) .none X.env)
        ((model X.prog X.w).den (.compLoop (.GeneratorExp elt [⟨tg, iter, [], 0⟩] scope pos) 0 (.ref it) .none X.env)) [] s) :
    Seg (model X.prog X.w) A R Y k s₀ (.compStart (.GeneratorExp elt [⟨tg, iter, [], 0⟩] scope pos) 0 (.ref it) .none X.env)
        ((model X.prog X.w).den (.compStart (.GeneratorExp elt [⟨tg, iter, [], 0⟩] scope pos) 0 (.ref it) .none X.env)) [] s := by
  show Seg _ A _ _ _ s₀ _ ((compStart (.GeneratorExp elt [⟨tg, iter, [], 0⟩] scope pos) 0 (.ref it) .none X.env).onRaise (leaving X.env)) [] s
  unfold compStart
  rw [Sem.onRaise_eq_wrap]
  show Seg _ A _ _ _ s₀ _ ((ask >>= _).wrap _ _ _ _) [] s
  refine seg_bind_wrap (wpAny_askSetting ?_)
  split
  · exact seg_again rfl loop
  · refine seg_bind_wrap (wpAny_rule ?_)
    show Seg _ A _ _ _ s₀ _ ((standAt iter.pos >>= _).wrap _ _ _ _) [] s
    exact seg_bind_wrap (wpAny_standAt (seg_bind_wrap (T.self _ 0 s _ _ st (seg_again rfl loop))))
end
end My

set_option Elab.async false
set_option linter.all false
set_option maxRecDepth 100000
set_option maxHeartbeats 2000000
namespace My
open PySem PySem.Spec PyProof.Rows L2
section
variable {X : Cx}
/-- what sum() walks: the generator at a sleeps, k items are still to come -/
structure GxSt (X : Cx) (A : Around) (fp : List Addr) (tn : Nat → Heap → Prop) (σ0 : L2.St) (W : Nat → Hp → Prop) (S : Addr) (n : Nat) (F : Nat → V) (a : Addr) (g k : Nat) (s : Shared) : Prop where
  gen : s.heap.IsGen a g
  lim : s.heap.NoLimit
  bare : AllBare s.gens
  go : ∃ gs, s.gens[g]? = some gs ∧ ∀ s'' o', Wrote S s s'' o' → gs.Goes (model X.prog X.w) A (fun m s₀ r s₁ => r = .ok .next ∧ gxP X σ0 W S n m s₀ s₁) (gxY X fp tn σ0 W S n F) k (.send .none) s''
theorem sum_loopC {A : Around} {fp : List Addr} {tn : Nat → Heap → Prop} {σ0 : L2.St} {W : Nat → Hp → Prop} {S : Addr} {n : Nat} {val : Nat → Int} {a : Addr} {g : Nat} {go : Obj} {R : Result → Shared → Prop}
    (hh : A.handled = none) (hd : A.depth < recursionLimit) (hSa : S ≠ a) (hSc : S ≠ cStatics) (hpn : (a, go) ∈ X.pn) (hgo : ∀ h : Heap, h.get? a = some go → h.IsGen a g)
    (hfit : ∀ j, j < n → InLong (val j) ∧ InLong (preSum val (j + 1)))
    (hR : ∀ s' t' o H, Inv X [(S, o)] σ0 H s' → W n H → R (.ok (.ret (.int (preSum val n) t'))) s') :
    ∀ (k i : Nat) (s : Shared) (tA : Tok) (c : Nat), i + k = n → GxSt X A.in1.in1 fp tn σ0 W S n (fun i => .int (val i)) a g k s → s.heap.get? S = some { cls := .type "list", dict := none, data := .seq #[.int (preSum val i) tA] c, slots := #[] } →
      codeAny (model X.prog X.w) A (.builtin "sum.loop" ⟨[.ref a, .ref S, rawInt 0, rawInt 0], []⟩) R s := by
  intro k
  induction k with
  | zero =>
    intro i s tA c hk Z hS
    have hin : i = n := by omega
    subst hin
    obtain ⟨hg, hl, hb, gs, hgs, hgoes⟩ := Z
    refine codeAny_builtin F.entry_sum_loop ?_
    rw [Around.under_plainId F.plain_sum_loop _]
    show wpAny _ A.in1 (seqItems? (.ref S) >>= _) _ _ s
    refine wpAny_bind (wpAny_seqItems hS rfl ?_)
    show wpAny _ A.in1 (tryCatch (pyNext (.ref a)) _ >>= _) _ _ s
    refine wpAny_bind (wpAny_tryCatch (wpAny_pyNext_genexpQ (A := A.in1) hh hl hd hg hgs (hgoes (s.setGen g .running) _ ⟨rfl, allBare_setGen hb rfl, fun b u _ e => e, hS, fun v z => by cases z⟩) (fun v s₁ gs' hbare hv => ?_) fun s₁ hp h' hk' => ?_))
    · obtain ⟨i', o, H, _, _, _, G, hkap⟩ := hv
      obtain ⟨p1, _, _, _, p5⟩ := G.inv.pin (S, o) (List.mem_append_right _ List.mem_cons_self)
      exact (hkap s₁ o ⟨rfl, G.inv.bare, fun b u _ e => e, p1, p5⟩).elim
    · obtain ⟨_, o, H, I, w⟩ := hp
      refine wpAny_pure (hR _ tA o H ?_ w)
      exact I.call' (ch := []) rfl (Un.kept hk') (I.hok.kept hk') (allBare_setGen I.bare rfl) (fun b hb => absurd hb (by simp))
  | succ k ih =>
    intro i s tA c hk Z hS
    have hlt : i < n := by omega
    obtain ⟨hg, hl, hb, gs, hgs, hgoes⟩ := Z
    have hgl : g < s.gens.size := (Array.getElem?_eq_some_iff.mp hgs).1
    refine codeAny_builtin F.entry_sum_loop ?_
    rw [Around.under_plainId F.plain_sum_loop _]
    show wpAny _ A.in1 (seqItems? (.ref S) >>= _) _ _ s
    refine wpAny_bind (wpAny_seqItems hS rfl ?_)
    show wpAny _ A.in1 (tryCatch (pyNext (.ref a)) _ >>= _) _ _ s
    refine wpAny_bind (wpAny_tryCatch (GenW.wpAny_gsz (n := g + 1) hgl (wpAny_pyNext_genexpQ (A := A.in1) hh hl hd hg hgs (hgoes (s.setGen g .running) _ ⟨rfl, allBare_setGen hb rfl, fun b u _ e => e, hS, fun v z => by cases z⟩) (fun v s₁ gs' hbare hv => ?_) fun s₁ hp h' hk' => ?_)))
    · intro hsz
      obtain ⟨i', o, H, hi', hrel, hs0, G, hkap⟩ := hv
      have ei : i' = i := by omega
      subst ei
      obtain ⟨t, rfl⟩ : ∃ t, v = .int (val i') t := hrel
      have eo : o = { cls := .type "list", dict := none, data := .seq #[.int (preSum val i') tA] c, slots := #[] } := by
        have h1 : s.heap.get? S = some o := hs0
        rw [hS] at h1
        exact (Option.some.inj h1).symm
      obtain ⟨p1, _, _, _, p5⟩ := G.inv.pin (S, o) (List.mem_append_right _ List.mem_cons_self)
      have hS' : s₁.heap.get? S = some { cls := .type "list", dict := none, data := .seq #[.int (preSum val i') tA] c, slots := #[] } := by rw [← eo]; exact p1
      obtain ⟨⟨f1, f2⟩, f3, f4⟩ := hfit i' hlt
      have hc : ((decide (-(2 ^ 63) ≤ val i') && decide (val i' < 2 ^ 63)) && (decide (-(2 ^ 63) ≤ preSum val i' + val i') && decide (preSum val i' + val i' < 2 ^ 63))) = true := by
        simp only [preSum] at f3 f4
        simp only [Bool.and_eq_true, decide_eq_true_eq]
        exact ⟨⟨f1, f2⟩, f3, f4⟩
      show wpAny _ A.in1 (if (_ : Bool) = true then (mkInt (preSum val i' + val i') >>= _) else _) _ _ _
      split
      · refine wpAny_bind (wpAny_mkInt ?_)
        show wpAny _ A.in1 (updateSeq S (fun _ => #[.int (preSum val i' + val i') s₁.toks]) >>= _) _ _ _
        refine wpAny_bind ?_
        have hsz1 : g < s₁.gens.size := by
          have q : (s₁.setGen g gs').gens.size = s₁.gens.size := GenW.setGen_size _ _ _
          have hsz' : g + 1 ≤ (s₁.setGen g gs').gens.size := hsz
          omega
        have keep3 : ∀ (f : Obj → Obj) (b : Addr) (u : Obj), b ≠ S → s₁.heap.get? b = some u → (s₁.heap.update S f).get? b = some u := fun f b u hbS e => (Heap.get?_update_other _ _ (Ne.symm hbS)).trans e
        refine wpAny_updateSeq (s := { s₁.setGen g gs' with toks := s₁.toks + 1 }) hS' rfl (wpAny_pure ⟨plainId_quiet F.plain_sum_loop _, ih (i' + 1) _ s₁.toks _ (by omega) ⟨?_, ?_, ?_, gs', ?_, fun s'' o'' z => ?_⟩ (Heap.get?_update_self _ hS' rfl)⟩)
        · exact hgo _ (keep3 _ a go (Ne.symm hSa) (G.inv.pin (a, go) (List.mem_append_left _ hpn)).1)
        · obtain ⟨mc, hns, hnn⟩ := G.inv.nolimit
          exact ⟨mc, hns.at' fun o e => keep3 _ _ o (Ne.symm hSc) e, hnn⟩
        · exact allBare_setGen (s := s₁) G.inv.bare hbare
        · exact setGen_at (s := s₁) hsz1
        · exact hkap s'' o'' ⟨z.os, z.bare, fun b u hbS e => z.keep b u hbS (keep3 _ b u hbS e), z.own, z.nc⟩
      · rename_i hneg
        exact absurd hc hneg
    · exact absurd hp.1 (Nat.succ_ne_zero k)
end
end My

set_option Elab.async false
set_option linter.all false
set_option maxRecDepth 100000
set_option maxHeartbeats 2000000
namespace My
open PySem PySem.Spec PyProof.Rows L2
section
variable {X : Cx} {pins : List (Addr × Obj)} {σ : L2.St} {H : Hp} {s : Shared}
/-- the generator expression's scope -/
structure GxS (X : Cx) (scope : Scope) (own : List (Str × Nat)) : Prop where
  blk : BlkOk X.N X.env.scope scope own
  co : scope.isCoroutine = false
  cell : ∀ y ∈ scope.names, y.2 ≠ .cell
  dot : scope.names.lookup (".0" : Str) = some NameKind.local
/-- the generator at a, as it was made -/
def GxNew (X : Cx) (pins : List (Addr × Obj)) (σ : L2.St) (elt tg iter : Expr) (scope : Scope) (pos : Pos) (own : List (Str × Nat)) (J : It) (H2 : Hp) (a : Addr) (s5 : Shared) : Prop :=
  ∃ (s4 : Shared) (code : Value) (cenv : Env) (fp : List Addr) (it : Addr) (tn : Nat → Heap → Prop) (go : Obj),
    cenv = genEnv scope (cloFrom X.env.cells scope.names []) s4.heap.objs.size code builtinsNs X.env ∧ Inv X pins σ H2 s4 ∧ (∀ b ∈ fp, FpOk X pins H2 b ∧ b < s4.heap.objs.size) ∧ Turn X.prog X.w X.K tg J fp it tn ∧ tn 0 s5.heap ∧
    s5.gens = s4.gens.push (.fresh (.compStart (.GeneratorExp elt [⟨tg, iter, [], 0⟩] scope pos) 0 (.ref it) .none cenv)) ∧ (∀ h : Heap, h.get? a = some go → h.IsGen a s4.gens.size) ∧ s5.heap.get? a = some go ∧ s4.heap.objs.size < a ∧
    (∀ A : Around, A.handled = none → A.frames = some X.stack → Inv (gxC X (A.deeper cenv) s4 H2 cenv fp [(a, go)]) [] (wipe σ (own.map (·.2))) H2 s5)
theorem gx_make {c P : Addr} {elt tg iter : Expr} {gpos : Pos} {scope : Scope} {own : List (Str × Nat)} {wi : TI} {k : Nat} {Q' : Value → Shared → Prop} {R : It → Hp → Prop}
    (hr : Room k X.A) (TB : LamX.TabB X.base X.mg c P) (hcode : X.env.code = .ref c) (S : GxS X scope own) (hN : X.N.Nodup) (hi : PI X tg iter wi)
    (hs : ∀ v, genFold iter X.env v = pure v) (I : Inv X pins σ H s) (h : wi σ H fun J H1 => GxR.TabG H1 P ∧ R J H1)
    (hQ : ∀ J H1 H2 a s5, R J H1 → GxR.Tabbed P H1 H2 → GxNew X pins σ elt tg iter scope gpos own J H2 a s5 → Q' (.ref a) s5) :
    wpAny (model X.prog X.w) X.A (eval (.GeneratorExp elt [⟨tg, iter, [], 0⟩] scope gpos) X.env) Q' X.xe s := by
  have caught : ∀ y ∈ scope.names, y.2 = .free → ∃ c, X.env.cells.lookup y.1 = some c := fun y hy e => I.ok.has _ (S.blk.free y hy e)
  have deep : X.A.depth < recursionLimit := by
    have := hr.dp
    omega
  refine wpAny_GeneratorExp_make S.co (closure_ok caught) S.cell S.dot S.blk.kind deep (thn (hi.run pins s σ H _ I h) fun xv s1 hx => thn hx fun itv s2 h2 => ?_) hs
  obtain ⟨it, fp, tn, J, H1, rfl, I2, T, st2, f2, hT, hR⟩ := h2
  refine ⟨I2.nolimit, gen_code I2 TB hcode hT fun code H2 s4 tab I4 kp _ h' hn' hs' => ?_⟩
  have apart : ∀ b ∈ fp, b ≠ P := fun b hb z => by
    obtain ⟨_, e, _⟩ := hT
    rw [← z, (f2 b hb).1] at e
    cases e
  have kp5 : ∀ (go : Obj) b u, s4.heap.get? b = some u → (h'.push go).get? b = some u := fun go b u e => Heap.get?_push_of_some _ (hs'.extBut b u (Nat.ne_of_lt (Heap.lt_size e)) (Heap.get?_push_of_some _ e))
  have f4 : ∀ b ∈ fp, FpOk X pins H2 b ∧ b < s4.heap.objs.size := fun b hb => by
    obtain ⟨o, e, _⟩ := T.obj _ _ st2 b hb
    exact ⟨⟨(tab.2 b (apart b hb)).trans (f2 b hb).1, (f2 b hb).2⟩, Heap.lt_size (kp b o (apart b hb) e)⟩
  generalize hgo : ({ cls := .type "generator", data := .fields #[.int s4.gens.size 0, .str "<genexpr>" (s4.toks + 1), .str (X.env.qual ++ "<genexpr>") (s4.toks + 1 + 1)] } : Obj) = go
  have hgp : (h'.push go).get? h'.objs.size = some go := Heap.get?_push_size _ (by rw [← hgo]; rfl)
  have hgd : ∀ v, go.data ≠ .cell v := fun v z => by
    rw [← hgo] at z
    cases z
  exact hQ J H1 H2 h'.objs.size _ hR tab ⟨s4, code, _, fp, it, tn, go, rfl, I4, f4, T, T.keep _ _ _ st2 fun b hb u e => kp5 go b u (kp b u (apart b hb) e), rfl, fun hh e => ⟨go, _, _, e, by rw [← hgo], by rw [← hgo], by rw [← hgo]⟩, hgp, hn'.lt,
    fun A hA hfr => gx_start I4 S.blk S.cell hN f4 hA hfr hn' hs' (I4.bare.push rfl) hgp hgd⟩
/-- sum(elt for target in iter) of numbers -/
def tSumC (P : Addr) (wi : TI) (g : L2.TG) (te : TE) (vs : List Nat) : TE := fun σ H Q => wi σ H fun J H1 => GxR.TabG H1 P ∧ ∀ H2, GxR.Tabbed P H1 H2 →
  ∃ (n : Nat) (val : Nat → Int) (W : Nat → Hp → Prop), (∀ j, j < n → InLong (val j) ∧ InLong (preSum val (j + 1))) ∧ W 0 H2 ∧ gxStep J g te vs (wipe σ vs) W n (fun i => .int (val i)) ∧ ∀ H3, W n H3 → Q (.int (preSum val n)) H3
theorem pe_sumC {c P : Addr} {elt tg iter : Expr} {p pos gpos : Pos} {scope : Scope} {own : List (Str × Nat)} {wi : TI} {g : L2.TG} {te : TE} {k : Nat}
    (hr : Room (k + 3) X.A) (hg : Gl X "sum") (hm : X.mg "sum" = none) (TB : LamX.TabB X.base X.mg c P) (hcode : X.env.code = .ref c) (S : GxS X scope own) (hN : X.N.Nodup) (hc : X.calm = true) (hi : PI X tg iter wi)
    (pg : ∀ (A : Around) (s : Shared) (H : Hp) (C : Addr) (cl : List (Str × Addr)) (code : Value) (fp : List Addr) (pn : List (Addr × Obj)), PG (gxC X A s H (genEnv scope cl C code builtinsNs X.env) fp pn) tg g)
    (pe : ∀ (A : Around) (s : Shared) (H : Hp) (C : Addr) (cl : List (Str × Addr)) (code : Value) (fp : List Addr) (pn : List (Addr × Obj)), Room k A → PE (gxC X A s H (genEnv scope cl C code builtinsNs X.env) fp pn) elt te)
    (hb : bootBuiltins "sum" = some (.builtin "sum") := by decide +kernel) (hs : ∀ v, genFold iter X.env v = pure v := by intro _; rfl)
    (he : starEach [.GeneratorExp elt [⟨tg, iter, [], 0⟩] scope gpos] X.env = (false, eval (.GeneratorExp elt [⟨tg, iter, [], 0⟩] scope gpos) X.env) :: starEach [] X.env := by rfl) :
    PE X (.Call (.Name "sum" p) [.GeneratorExp elt [⟨tg, iter, [], 0⟩] scope gpos] [] pos) (tSumC P wi g te (own.map (·.2))) := by
  refine ⟨fun pins s σ H Q I h => ?_⟩
  refine wpAny_Call_Name_kw (ld_blt I hg hm hb (PyProof.Rows.callWith_builtin1 ?_ he (by rfl)))
  rw [he]
  refine Calls.spliced_cons (gx_make hr TB hcode S hN hi hs I h fun J H1 H2 a s5 hR hTb hG => ?_)
  refine Calls.spliced_nil ?_
  obtain ⟨n, val, W, hfit, w0, step, hend⟩ := hR H2 hTb
  obtain ⟨s4, code, cenv, fp, it, tn, go, ec, I4, f4, T, st5, egs, hgen, hga, hlt, hInv⟩ := hG
  have I5 := hInv X.A.in1.in1 hr.hd I4.ok.frames
  have hroom : Room k (X.A.in1.in1.deeper cenv) := hr.in1.in1.deeper cenv
  have pg' := pg (X.A.in1.in1.deeper cenv) s4 H2 s4.heap.objs.size (cloFrom X.env.cells scope.names []) code fp [(a, go)]
  have pe' := pe (X.A.in1.in1.deeper cenv) s4 H2 s4.heap.objs.size (cloFrom X.env.cells scope.names []) code fp [(a, go)] hroom
  rw [← ec] at pg' pe'
  have hgen5 : s5.heap.IsGen a s4.gens.size := hgen _ hga
  refine call_function_tree F.kind_sum F.plain_sum F.entry_sum (F.args_sum1 _) ?_
  unfold Builtin.«sum»
  simp only [List.length_cons, List.length_nil]
  rw [if_neg (by decide)]
  refine wpAny_bind (wpAny_of_eq (show Builtin.Builtins.bindParams "sum" ["start"] 0 { } = pure [none] from rfl) ?_)
  refine wpAny_bind (wpAny_pyIter_gen hgen5 ?_)
  refine wpAny_bind (wpAny_mkInt ?_)
  refine wpAny_bind (wpAny_pure ?_)
  simp only [List.forIn_cons, List.forIn_nil]
  refine wpAny_bind (wpAny_bind (wpAny_bind (wpAny_isInstance (T := "int") (b := false) (typeIs_int _ _ _) PySem.sub_int_str ?_)))
  simp only [Bool.false_eq_true, if_false]
  refine wpAny_pure (wpAny_bind (wpAny_bind (wpAny_isInstance (T := "int") (b := false) (typeIs_int _ _ _) PySem.sub_int_bytes ?_)))
  simp only [Bool.false_eq_true, if_false]
  refine wpAny_pure (wpAny_bind (wpAny_bind (wpAny_isInstance (T := "int") (b := false) (typeIs_int _ _ _) PySem.sub_int_bytearray ?_)))
  simp only [Bool.false_eq_true, if_false]
  refine wpAny_pure (wpAny_pure ?_)
  refine wpAny_bind (wpAny_newObj_type ?_)
  have hSo : ∀ o : Obj, o.isFreed = false → (s5.heap.push o).get? s5.heap.objs.size = some o := fun o ho => Heap.get?_push_size _ ho
  have kp : ∀ (o : Obj) b u, s5.heap.get? b = some u → (s5.heap.push o).get? b = some u := fun o b u e => Heap.get?_push_of_some _ e
  have hla : a < s5.heap.objs.size := Heap.lt_size hga
  have hcs5 : cStatics < s5.heap.objs.size := by
    obtain ⟨mc, hns, _⟩ := I5.nolimit
    exact hns.lt
  have F5 : FpOk (gxC X (X.A.in1.in1.deeper cenv) s4 H2 cenv fp [(a, go)]) [] H2 s5.heap.objs.size := I5.fpOk (Nat.le_refl _) (I5.hok.fresh (Nat.le_refl _))
  have hSf : s5.heap.objs.size ∉ fp := fun hb => by
    obtain ⟨o, e, _⟩ := T.obj _ _ st5 _ hb
    exact Nat.lt_irrefl _ (Heap.lt_size e)
  have hpf : ∀ p ∈ [(a, go)], p.1 ∉ fp := fun p hp hb => by
    rw [List.mem_singleton.mp hp] at hb
    exact Nat.lt_irrefl _ (Nat.lt_trans (f4 a hb).2 hlt)
  have h04 : s4.heap.objs.size ≤ s5.heap.objs.size := Nat.le_of_lt (Nat.lt_trans hlt hla)
  refine wpAny_pure ⟨plainId_quiet F.plain_sum_loop _, sum_loopC (X := gxC X (X.A.in1.in1.deeper cenv) s4 H2 cenv fp [(a, go)]) (A := X.A) (fp := fp) (tn := tn) (σ0 := wipe σ (own.map (·.2))) (W := W) (S := s5.heap.objs.size) (n := n) (val := val) (a := a) (g := s4.gens.size) (go := go)
    hr.hd (by have := hr.dp; omega) (Nat.ne_of_gt hla) (Nat.ne_of_gt hcs5) (List.mem_singleton.mpr rfl) hgen hfit (fun s' t' o H3 I' w' => ?_) n 0 _ s5.toks 0 (Nat.zero_add n) ⟨?_, ?_, ?_, .fresh (.compStart (.GeneratorExp elt [⟨tg, iter, [], 0⟩] scope gpos) 0 (.ref it) .none cenv), ?_, fun s'' o' z => ⟨rfl, ?_⟩⟩ (hSo _ rfl)⟩
  · refine ⟨.int (preSum val n), H3, ?_, ⟨t', rfl⟩, hend H3 w'⟩
    exact I4.call' (ch := fp) I'.os I'.base I'.hok I'.bare fun b hb => ⟨(f4 b hb).1.2.2.2.1, (f4 b hb).1.2.1, (f4 b hb).1.2.2.2.2.1, (f4 b hb).1.2.2.2.2.2⟩
  · exact hgen _ (kp _ _ _ hga)
  · exact I5.nolimit.keeps (kp _)
  · exact I5.bare
  · show s5.gens[s4.gens.size]? = _
    rw [egs]
    exact Array.getElem?_push_size ..
  · have Iz : Inv (gxC X (X.A.in1.in1.deeper cenv) s4 H2 cenv fp [(a, go)]) [(s5.heap.objs.size, o')] (wipe σ (own.map (·.2))) H2 s'' := by
      have kz : ∀ b u, s5.heap.get? b = some u → s''.heap.get? b = some u := fun b u e => z.keep b u (Nat.ne_of_lt (Heap.lt_size e)) (kp _ b u e)
      have J2 := I5.call' (s' := s'') (ch := []) z.os (Un.kept kz) (I5.hok.kept kz) z.bare (fun b hb => absurd hb (by simp))
      refine J2.pins_of fun p hp => ?_
      rw [List.mem_singleton.mp hp]
      exact ⟨z.own, F5.1, F5.2.1, F5.2.2.1, z.nc⟩
    have stz : tn 0 s''.heap := T.keep _ _ _ st5 fun b hb u e => z.keep b u (fun q => hSf (q ▸ hb)) (kp _ b u e)
    refine gx_begin (X := gxC X (X.A.in1.in1.deeper cenv) s4 H2 cenv fp [(a, go)]) T stz (gx_loop (X := gxC X (X.A.in1.in1.deeper cenv) s4 H2 cenv fp [(a, go)]) rfl T hc rfl hSf hpf (fun _ _ q => q) (by rw [ec]; exact S.co) h04 F5.2.2.2.2.1 (fun p hp q => ?_) pg' pe' step n 0 s'' s'' o' H2 (Nat.zero_add n) z.own ⟨Iz, stz, fun b hb => (f4 b hb).1.1, w0⟩)
    have hp' : p = (a, go) := List.mem_singleton.mp hp
    rw [hp'] at q
    exact Nat.ne_of_lt hla q
end
end My

set_option Elab.async false
set_option linter.all false
set_option maxRecDepth 100000
set_option maxHeartbeats 2000000
namespace My
open PySem PySem.Spec PyProof.Rows L2
def gxCk (scope : Scope) : Bool := !scope.isCoroutine && (scope.names.all fun y => match y.2 with | .cell => false | _ => true) && (match scope.names.lookup (".0" : Str) with | some .local => true | _ => false)
theorem gxS_by {X : Cx} {scope : Scope} {own : List (Str × Nat)} (b : BlkOk X.N X.env.scope scope own) (h : gxCk scope = true) : GxS X scope own := by
  unfold gxCk at h
  simp only [Bool.and_eq_true] at h
  obtain ⟨⟨h1, h2⟩, h3⟩ := h
  rw [List.all_eq_true] at h2
  refine ⟨b, by simpa using h1, fun y hy z => ?_, ?_⟩
  · have q := h2 y hy
    rw [z] at q
    cases q
  · revert h3
    cases scope.names.lookup (".0" : Str) with
    | none => simp
    | some k => cases k <;> simp
theorem sum_step {J : It} {n : Nat} {G : Hp → Prop} {Y : Nat → Hp → V → Hp → Prop} (w : Walk J n G Y) {g : L2.TG} {te : TE} {vs : List Nat} {σ0 : L2.St} {val : Nat → Int} {Pv : Nat → Hp → Prop}
    (hG : ∀ i H, i ≤ n → Pv i H → G H) (hs : ∀ i x H H', i < n → Pv i H → Y i H x H' → g x σ0 H' fun σ2 H2 => wipe σ2 vs = σ0 ∧ te σ2 H2 fun y H3 => y = .int (val i) ∧ i + 1 ≤ n ∧ Pv (i + 1) H3) :
    gxStep J g te vs σ0 (fun i H => i ≤ n ∧ Pv i H) n (fun i => .int (val i)) := fun i H hW => ⟨fun hi => ⟨w.goes i H hi (hG i H hW.1 hW.2), fun x H' y => hs i x H H' hi hW.2 (w.yields i H x H' hi (hG i H hW.1 hW.2) y)⟩, fun e => by
    subst e
    exact w.stops H (hG i H hW.1 hW.2)⟩
/-! sums -/
def atL (l : List Int) (i : Nat) : Int := l.getD i 0
theorem pre_take (l : List Int) : ∀ n, n ≤ l.length → preSum (atL l) n = (l.take n).sum
  | 0, _ => rfl
  | n + 1, h => by
    have h' : n < l.length := h
    show preSum (atL l) n + atL l n = _
    rw [pre_take l n (Nat.le_of_lt h'), List.take_succ_eq_append_getElem h', List.sum_append]
    show _ = _ + (l[n] + 0)
    unfold atL
    rw [List.getD_eq_getElem?_getD, List.getElem?_eq_getElem h', Int.add_zero]
    rfl
theorem sum_bound {B : Int} : ∀ (l : List Int), (∀ x ∈ l, -B ≤ x ∧ x ≤ B) → -(B * l.length) ≤ l.sum ∧ l.sum ≤ B * l.length
  | [], _ => by simp
  | x :: l, h => by
    obtain ⟨h1, h2⟩ := sum_bound l fun y hy => h y (List.mem_cons_of_mem _ hy)
    obtain ⟨h3, h4⟩ := h x (List.mem_cons_self ..)
    rw [List.sum_cons, List.length_cons, Int.natCast_succ, Int.mul_add, Int.mul_one]
    omega
theorem fit_of {l : List Int} (hl : l.length ≤ 1000) (h : ∀ x ∈ l, -1000000000 ≤ x ∧ x ≤ 1000000000) : ∀ j, j < l.length → InLong (atL l j) ∧ InLong (preSum (atL l) (j + 1)) := fun j hj => by
  have h1 : atL l j ∈ l := by
    unfold atL
    rw [List.getD_eq_getElem?_getD, List.getElem?_eq_getElem hj]
    exact List.getElem_mem hj
  obtain ⟨a1, a2⟩ := h _ h1
  obtain ⟨b1, b2⟩ := sum_bound (B := 1000000000) (l.take (j + 1)) fun x hx => h x (List.mem_of_mem_take hx)
  rw [← pre_take l (j + 1) hj] at b1 b2
  have b3 : (l.take (j + 1)).length ≤ 1000 := by
    rw [List.length_take]
    omega
  unfold InLong
  constructor <;> constructor <;> omega
theorem at_map {α : Type} {f : α → Int} {l : List α} {i : Nat} {a : α} (h : l[i]? = some a) : atL (l.map f) i = f a := by
  unfold atL
  rw [List.getD_eq_getElem?_getD, List.getElem?_map, h]
  rfl
theorem price_bound {cols : List Nat} {rows : List (List Int)} {ch : List (List Nat)} {es : List (Nat × Int)} {rc : Option (Nat × Int × Int)} (hr : rows.length ≤ 100) : -100 ≤ priceOfM cols rows ch es rc ∧ priceOfM cols rows ch es rc ≤ 100 := by
  obtain ⟨h1, h2, h3⟩ := minM_spec (ch.map fun o => priceM cols rows o es rc) (rows.length : Int)
  unfold priceOfM
  refine ⟨?_, by omega⟩
  rcases h1 with e | e
  · rw [e]
    omega
  · obtain ⟨o, _, e2⟩ := List.mem_map.mp e
    rw [← e2]
    have : aheadM cols rows o es rc ≤ rows.length := List.length_filter_le _ _
    unfold priceM
    omega
/-! works -/
structure Ask where
  es : List (Nat × Int)
  rc : Option (Nat × Int × Int)
  often : Int
def AskZ (H : Hp) (v : V) (a : Ask) : Prop := ∃ (p : Addr) (qv : V), v = .ref p ∧ H p = some (.tup [qv, .int a.often]) ∧ QZ H qv a.es a.rc
theorem AskZ.kT {H H' : Hp} {v : V} {a : Ask} (h : AskZ H v a) (k : KT H H') : AskZ H' v a := by
  obtain ⟨p, qv, rfl, h1, h2⟩ := h
  exact ⟨p, qv, rfl, k.1 _ _ h1, h2.kT k⟩
inductive AsksZ (H : Hp) : List V → List Ask → Prop
  | nil : AsksZ H [] []
  | cons {v : V} {a : Ask} {vs : List V} {as : List Ask} : AskZ H v a → AsksZ H vs as → AsksZ H (v :: vs) (a :: as)
theorem AsksZ.kT {H H' : Hp} {vs : List V} {as : List Ask} (h : AsksZ H vs as) (k : KT H H') : AsksZ H' vs as := by
  induction h with
  | nil => exact .nil
  | cons a _ ih => exact .cons (a.kT k) ih
theorem AsksZ.len {H : Hp} {vs : List V} {as : List Ask} (h : AsksZ H vs as) : vs.length = as.length := by
  induction h with
  | nil => rfl
  | cons _ _ ih => rw [List.length_cons, List.length_cons, ih]
theorem AsksZ.snoc {H : Hp} {vs : List V} {as : List Ask} {v : V} {a : Ask} (h : AsksZ H vs as) (x : AskZ H v a) : AsksZ H (vs ++ [v]) (as ++ [a]) := by
  induction h with
  | nil => exact .cons x .nil
  | cons b _ ih => exact .cons b ih
theorem AsksZ.get {H : Hp} {vs : List V} {as : List Ask} (h : AsksZ H vs as) : ∀ {i : Nat} {v : V}, vs[i]? = some v → ∃ a, as[i]? = some a ∧ AskZ H v a := by
  induction h with
  | nil =>
    intro i v e
    cases e
  | cons b _ ih =>
    intro i v e
    cases i with
    | zero =>
      cases e
      exact ⟨_, rfl, b⟩
    | succ i => exact ih (i := i) e
def WorkZ (H : Hp) (v : V) (cols : List Nat) (rows : List (List Int)) (as : List Ask) (chg : Int) : Prop :=
  ∃ (wa : Addr) (tv : V) (aa : Addr) (vs : List V), v = .ref wa ∧ H wa = some (.tup [tv, .ref aa, .int chg]) ∧ Fz H tv (tabD cols rows) ∧ H aa = some (.tup vs) ∧ AsksZ H vs as
theorem WorkZ.kT {H H' : Hp} {v : V} {cols : List Nat} {rows : List (List Int)} {as : List Ask} {chg : Int} (h : WorkZ H v cols rows as chg) (k : KT H H') : WorkZ H' v cols rows as chg := by
  obtain ⟨wa, tv, aa, vs, rfl, h1, h2, h3, h4⟩ := h
  exact ⟨wa, tv, aa, vs, rfl, k.1 _ _ h1, h2.kt k.1, k.1 _ _ h3, h4.kT k⟩
structure AsksOk (cols : List Nat) (as : List Ask) : Prop where
  len : as.length ≤ 5
  ok : ∀ a ∈ as, QOk cols a.es a.rc ∧ 1 ≤ a.often ∧ a.often ≤ 1001000
def keepM (chg : Int) (ch : List (List Nat)) : Int := chg * (ch.map fun o => (o.length : Int) + 1).sum
def askedM (cols : List Nat) (rows : List (List Int)) (ch : List (List Nat)) (as : List Ask) : Int := (as.map fun a => a.often * priceOfM cols rows ch a.es a.rc).sum
def workM (cols : List Nat) (rows : List (List Int)) (ch : List (List Nat)) (as : List Ask) (chg : Int) : Int := askedM cols rows ch as + keepM chg ch
theorem sum_snoc {α : Type} (f : α → Int) (l : List α) (i : Nat) (hi : i < l.length) : ((l.take (i + 1)).map f).sum = ((l.take i).map f).sum + f l[i] := by
  rw [List.take_succ_eq_append_getElem hi, List.map_append, List.sum_append]
  show _ + (f l[i] + 0) = _
  rw [Int.add_zero]
theorem keep_mul (chg : Int) : ∀ ch : List (List Nat), (ch.map fun o => chg * (1 + (o.length : Int))).sum = keepM chg ch
  | [] => by simp [keepM]
  | o :: ch => by
    have ih := keep_mul chg ch
    unfold keepM at ih ⊢
    rw [List.map_cons, List.sum_cons, List.map_cons, List.sum_cons, ih, Int.add_comm 1, ← Int.mul_add]
end My

set_option Elab.async false
set_option linter.all false
set_option maxRecDepth 100000
set_option maxHeartbeats 2000000
namespace My
open PySem PySem.Spec PyProof.Rows L2
/-! ### slices of a tuple of its own, sorted(tuple of texts) -/
theorem AsksZ.take {H : Hp} {vs : List V} {as : List Ask} (h : AsksZ H vs as) : ∀ n, AsksZ H (vs.take n) (as.take n) := by
  induction h with
  | nil => exact fun n => by rw [List.take_nil, List.take_nil]; exact .nil
  | cons a _ ih =>
    intro n
    cases n with
    | zero => exact .nil
    | succ n => exact .cons a (ih n)
theorem AsksZ.drop {H : Hp} {vs : List V} {as : List Ask} (h : AsksZ H vs as) : ∀ n, AsksZ H (vs.drop n) (as.drop n) := by
  induction h with
  | nil => exact fun n => by rw [List.drop_nil, List.drop_nil]; exact .nil
  | cons a r ih =>
    intro n
    cases n with
    | zero => exact .cons a r
    | succ n => exact ih n
theorem AsksOk.take {cols : List Nat} {as : List Ask} (h : AsksOk cols as) (n : Nat) : AsksOk cols (as.take n) := ⟨by rw [List.length_take]; have := h.len; omega, fun a ha => h.ok a (List.mem_of_mem_take ha)⟩
theorem AsksOk.drop {cols : List Nat} {as : List Ask} (h : AsksOk cols as) (n : Nat) : AsksOk cols (as.drop n) := ⟨by rw [List.length_drop]; have := h.len; omega, fun a ha => h.ok a (List.mem_of_mem_drop ha)⟩
def strD (o : List Nat) : PyData := .str (txS o)
/-! ### prices of more lists -/
theorem priceOf_le {cols : List Nat} {rows : List (List Int)} {ch ch' : List (List Nat)} {es : List (Nat × Int)} {rc : Option (Nat × Int × Int)} (h : ∀ o ∈ ch, ∃ o' ∈ ch', priceM cols rows o' es rc ≤ priceM cols rows o es rc) : priceOfM cols rows ch' es rc ≤ priceOfM cols rows ch es rc := by
  obtain ⟨h1, _, _⟩ := minM_spec (ch.map fun o => priceM cols rows o es rc) (rows.length : Int)
  obtain ⟨_, g2, g3⟩ := minM_spec (ch'.map fun o => priceM cols rows o es rc) (rows.length : Int)
  unfold priceOfM
  rcases h1 with z | z
  · rw [z]
    exact g2
  · obtain ⟨o, ho, e⟩ := List.mem_map.mp z
    obtain ⟨o', ho', hle⟩ := h o ho
    have := g3 _ (List.mem_map_of_mem ho')
    rw [← e]
    exact Int.le_trans this hle
theorem sum_le {α : Type} {f g : α → Int} : ∀ l : List α, (∀ x ∈ l, f x ≤ g x) → (l.map f).sum ≤ (l.map g).sum
  | [], _ => Int.le_refl _
  | a :: l, h => by
    have h1 := sum_le l fun x hx => h x (List.mem_cons_of_mem _ hx)
    have h2 := h a (List.mem_cons_self ..)
    rw [List.map_cons, List.sum_cons, List.map_cons, List.sum_cons]
    omega
theorem asked_le {cols : List Nat} {rows : List (List Int)} {ch ch' : List (List Nat)} {as : List Ask} (hok : AsksOk cols as) (h : ∀ a ∈ as, ∀ o ∈ ch, ∃ o' ∈ ch', priceM cols rows o' a.es a.rc ≤ priceM cols rows o a.es a.rc) : askedM cols rows ch' as ≤ askedM cols rows ch as :=
  sum_le as fun a ha => Int.mul_le_mul_of_nonneg_left (priceOf_le (h a ha)) (by have := (hok.ok a ha).2.1; omega)
theorem perm_sum : ∀ {l l' : List Int}, l.Perm l' → l.sum = l'.sum := by
  intro l l' h
  induction h with
  | nil => rfl
  | cons x _ ih => rw [List.sum_cons, List.sum_cons, ih]
  | swap x y l =>
    rw [List.sum_cons, List.sum_cons, List.sum_cons, List.sum_cons]
    omega
  | trans _ _ h1 h2 => rw [h1, h2]
end My

set_option Elab.async false
set_option linter.all false
set_option maxRecDepth 100000
set_option maxHeartbeats 2000000
namespace My
open PySem PySem.Spec PyProof.Rows L2
/-! ### a promise where no repr is under way -/
structure FnG (P : Program) (w : World) (K : PySem.W.Frag) (mg : Str → Option Value) (base : Heap) (k : Nat) (f : Addr) (fd : FuncData) (ps : List Str) (sp : Sp) : Prop where
  ln : ∀ vs H Q E, sp vs H Q E → vs.length = ps.length
  go : ∀ (A : Around), A.guards = some [] → Room k A → ∀ (outer : List Env) (s : Shared) (H : Hp) (args : Args) (us : List Value) (vs : List V) (Q : VK) (E : XK), Env0 P w K mg base A outer s H → BindsTo s fd args (ps.zip us) → Vals vs us → sp vs H Q E → codeAny (model P w) A (.call (.ref f) args) (CR CX0 outer P w H s Q E) s
theorem okG {P : Program} {w : World} {K : PySem.W.Frag} {mg : Str → Option Value} {base : Heap} {x qual : Str} {st : Stmt} {f : Addr} {fd : FuncData} {N ps : List Str} {k : Nat} {sp : Sp} (F : Fun K x qual st f fd) (S : FnScope N ps (defScope st)) (ln : ∀ vs H Q E, sp vs H Q E → vs.length = ps.length)
    (body : ∀ (cdv : Value) (A : Around) (outer : List Env) (s : Shared) (H : Hp) (vs : List V) (Q : VK) (E : XK), A.guards = some [] → Room k (A.deeper (envOfC qual (defScope st) s.heap.objs.size f cdv)) → sp vs H Q E →
      ∃ t, PSs (cxOf CX0 P w K mg base N qual (defScope st) f cdv A outer s H E).nox (defBody st) t ∧ t { nx := fun _ G => Q .non G, rt := Q } (start N vs) H) : FnG P w K mg base (k + 1) f fd ps sp := by
  obtain ⟨oc, od, kV, dcv, pm, an, cdv, ct, osl, rfl, look, hcode⟩ := F.ex
  refine ⟨ln, fun A hgd hr outer s H args us vs Q E e0 hbd rel hsp => ?_⟩
  obtain ⟨t, ht, hq⟩ := body cdv A outer s H vs Q E hgd (hr.deeper _) hsp
  have inK : K.In s.heap := e0.mod.kin.keeps fun c o z => (e0.bs c o z).1
  have nlm : s.heap.NoLimit := e0.mod.nolimit.keeps fun c o z => (e0.bs c o z).1
  refine codeAny_call_function hr.depth (inK _ _ look) rfl S.co S.gen rfl (PySem.W.codeRec_of inK hcode) (hbd _ _ _ _ (wpAny_newFunctionEnv_cells S.kind (fun y hy => ?_) fun env he s1 begun => ?_))
  · rcases S.par y.1 (List.of_mem_zip (show (y.1, y.2) ∈ ps.zip us from hy)).1 with z | z
    · exact .inl z
    · exact .inr ⟨z, PySem.W.cellsFrom_some _ _ _ (.inl z)⟩
  subst he
  refine ⟨nlm.keeps begun.toInCall.keep, codeAny_func (wpAny_mono (ht.nox.run [] s1 _ H _ (inv_start S hr.hd e0 (ln _ _ _ _ hsp) rel begun) hq) (fun fl s' hs => ?_) fun e s' hs => hs)⟩
  cases fl with
  | ret u =>
    obtain ⟨v, σ', G, J, rv, qv⟩ := hs
    exact ⟨v, G, J.os, J.bare, J.base, J.hok, rv, qv⟩
  | next =>
    obtain ⟨σ', G, J, qv⟩ := hs
    exact ⟨V.non, G, J.os, J.bare, J.base, J.hok, rfl, qv⟩
  | brk =>
    obtain ⟨_, _, _, z⟩ := hs
    exact False.elim z
  | cont =>
    obtain ⟨_, _, _, z⟩ := hs
    exact False.elim z
/-! ### repr of data -/
structure Sh (n m : Nat) (d : PyData) : Prop where
  ok : d.showable = true
  nd : d.hasDict = false
  sh : d.leavesShort 100 = true
  dp : d.depth ≤ n
  wt : d.weight ≤ m
  ly : d.canLay0 = true
theorem Sh.mono {n n' m m' : Nat} {d : PyData} (h : Sh n m d) (h1 : n ≤ n') (h2 : m ≤ m') : Sh n' m' d := ⟨h.ok, h.nd, h.sh, Nat.le_trans h.dp h1, Nat.le_trans h.wt h2, h.ly⟩
theorem Sh.none {n m : Nat} : Sh n m .none := ⟨rfl, rfl, rfl, Nat.zero_le _, Nat.zero_le _, rfl⟩
theorem Sh.bool {n m : Nat} (b : Bool) : Sh n m (.bool b) := ⟨rfl, rfl, rfl, Nat.zero_le _, Nat.zero_le _, rfl⟩
theorem Sh.str {n m : Nat} {l : List Nat} (h : ∀ c ∈ l, c < 1000) (hl : l.length ≤ m) : Sh n m (.str (txS l)) := by
  refine ⟨rfl, rfl, ?_, Nat.zero_le _, ?_, ?_⟩
  · have e : l.toArray.toList = l := by simp
    simp only [PyData.leavesShort, List.all_eq_true, decide_eq_true_eq]
    intro c hc
    have := h c hc
    omega
  · show l.toArray.size ≤ m
    simpa using hl
  · show (txS l).cps.all (· < 0x110000) = true
    rw [Array.all_eq_true']
    intro c hc
    have hc2 : c ∈ l := by simpa using hc
    have := h c hc2
    exact decide_eq_true (by omega)
theorem log2_small {i : Int} (h : i.natAbs < 10 ^ 60) : i.natAbs.log2 < 200 := by
  by_cases e : i.natAbs = 0
  · rw [e]
    decide
  · rw [Nat.log2_lt e]
    exact Nat.lt_of_lt_of_le h (by decide)
theorem Sh.int {n m : Nat} {i : Int} (h : i.natAbs < 10 ^ 60) (hm : 200 ≤ m) : Sh n m (.int i) := by
  have h1 := log2_small h
  refine ⟨?_, rfl, ?_, Nat.zero_le _, ?_, rfl⟩
  · simp only [PyData.showable, decide_eq_true_eq]
    omega
  · simp only [PyData.leavesShort, decide_eq_true_eq]
    show (Str.ofString (toString i)).length ≤ 100
    have h2 := int_text_length_le10 (a := i) (k := 60) (by decide) h
    rw [PySem.ofString_length]
    omega
  · simp only [PyData.weight]
    split <;> omega
theorem sh_all {n m : Nat} : ∀ {xs : List PyData}, (∀ x ∈ xs, Sh n m x) → PyData.showableAll xs = true ∧ PyData.hasDictAll xs = false ∧ PyData.leavesShortAll 100 xs = true ∧ PyData.depthAll xs ≤ n ∧ PyData.weightAll xs ≤ (m + 1) * xs.length ∧ PyData.canLayAll0 xs = true
  | [], _ => ⟨rfl, rfl, rfl, Nat.zero_le _, Nat.zero_le _, rfl⟩
  | x :: xs, h => by
    obtain ⟨a1, a2, a3, a4, a5, a6⟩ := sh_all (xs := xs) fun y hy => h y (List.mem_cons_of_mem _ hy)
    have b := h x (List.mem_cons_self ..)
    refine ⟨by simp only [PyData.showableAll, b.ok, a1, Bool.and_self], by simp only [PyData.hasDictAll, b.nd, a2, Bool.or_self], by simp only [PyData.leavesShortAll, b.sh, a3, Bool.and_self], ?_, ?_, by simp only [PyData.canLayAll0, b.ly, a6, Bool.and_self]⟩
    · have := b.dp
      simp only [PyData.depthAll]
      omega
    · have := b.wt
      simp only [PyData.weightAll, List.length_cons, Nat.mul_add, Nat.mul_one]
      omega
theorem Sh.lst {n m : Nat} {xs : List PyData} (h : ∀ x ∈ xs, Sh n m x) : Sh (n + 1) ((m + 1) * xs.length) (.list xs) := by
  obtain ⟨a1, a2, a3, a4, a5, a6⟩ := sh_all h
  exact ⟨a1, a2, a3, Nat.succ_le_succ a4, a5, a6⟩
theorem Sh.tup {n m : Nat} {xs : List PyData} (h : ∀ x ∈ xs, Sh n m x) : Sh (n + 1) ((m + 1) * xs.length) (.tuple xs) := by
  obtain ⟨a1, a2, a3, a4, a5, a6⟩ := sh_all h
  exact ⟨a1, a2, a3, Nat.succ_le_succ a4, a5, a6⟩
theorem Sh.fits {d : PyData} (h : Sh 20 100000 d) : d.shown.length ≤ sizeLine := by
  have h1 := PyData.shown_le 100 (by decide) d h.sh
  have h2 := h.wt
  rw [sizeLine_eq]
  omega
def rRepr (K : PySem.W.Frag) : List V → Hp → VK → Prop := fun xs H Q => ∃ (v : V) (d : PyData), xs = [v] ∧ Dp K H v d ∧ Sh 20 100000 d ∧ Q (.str d.shown) H
theorem cReprK (K : PySem.W.Frag) {X : Cx} {k : Nat} (hgd : X.A.guards = some []) (hr : Room k X.A) (hK : X.K = K := by rfl) : CallR X (.builtin "repr") (rRepr K) := by
  subst hK
  intro pins s σ H xs us Q I r h
  obtain ⟨v, d, rfl, hd, hs, q⟩ := h
  obtain ⟨u, rfl, rx⟩ := vals1 r
  obtain ⟨as, rd⟩ := Dp.reads I _ _ _ hd rx
  have hz := hs.fits
  cases u with
  | ref a =>
    refine repr_of_reads' rd hs.ok (PyData.noDict_hsm hs.nd) hgd ?_ (fun _ _ e => e) (fun h' u tk hk => ⟨.str d.shown, H, I.kept hk, ⟨_, rfl⟩, q⟩) hz
    have h1 := hs.dp
    have h2 := hr.un
    omega
  | none =>
    cases rd
    exact PySem.P.repr_of_none ⟨.str _, H, I.tok _, ⟨_, rfl⟩, q⟩
  | bool b =>
    cases rd
    exact PySem.P.repr_of_bool ⟨.str _, H, I.tok _, ⟨_, rfl⟩, q⟩
  | int i t =>
    cases rd
    refine PySem.P.repr_of_int ?_ ⟨.str _, H, I.tok _, ⟨_, rfl⟩, q⟩
    have := hs.ok
    simpa only [PyData.showable, decide_eq_true_eq] using this
  | str x t =>
    cases rd
    exact PySem.P.repr_of_str ⟨.str _, H, I.tok _, ⟨_, rfl⟩, q⟩ hz
  | _ => cases rd
/-! ### the law's own call -/
section
variable {P : Program} {w : World} {K : PySem.W.Frag} {mg mb : Str → Option Value} {cs : List (Addr × Addr)} {a : Addr} {vs : List Value} {ns : List Int} {s : Shared} {H : Hp}
/-- told of at the beginning: the script, where it is no part of what is written, and the tables of code -/
structure Begun (P : Program) (w : World) (K : PySem.W.Frag) (cs : List (Addr × Addr)) (a : Addr) (vs : List Value) (ns : List Int) (s : Shared) (H : Hp) : Prop where
  tb : ∀ p ∈ cs, H p.2 = some (.tbl #[])
  only : ∀ b u, H b = some u → (b ∈ cs.map (·.2) ∧ u = .tbl #[]) ∨ (b = a ∧ K.lookup a = Option.none ∧ u = .frz { cls := .type "list", data := .seq vs.toArray } (.lst (ns.map V.int)))
  sc : SqL K H a (ns.map V.int)
  hok : HOk P w H s.heap
open Classical in
theorem begun (inK : K.In s.heap) (hT : ∀ p ∈ cs, s.heap.get? p.2 = some { cls := .none, data := .fields #[] }) (ha : s.heap.get? a = some { cls := .type "list", data := .seq vs.toArray }) (hi : IntsAre vs ns) (hl : ns.length ≤ sizeLine) : ∃ H, Begun P w K cs a vs ns s H := by
  have tabs : ∀ b, b ∈ cs.map (·.2) → s.heap.get? b = some { cls := .none, data := .fields #[] } := fun b z => by
    obtain ⟨p, hp, rfl⟩ := List.mem_map.mp z
    exact hT p hp
  have far : a ∉ cs.map (·.2) := fun z => by
    have z1 := (tabs a z).symm.trans ha
    cases congrArg Obj.data (Option.some.inj z1)
  refine ⟨fun b => if b ∈ cs.map (·.2) then some (.tbl #[]) else if b = a ∧ K.lookup a = Option.none then some (.frz { cls := .type "list", data := .seq vs.toArray } (.lst (ns.map V.int))) else Option.none, fun p hp => if_pos (List.mem_map.mpr ⟨p, hp, rfl⟩), fun b u hu => ?_, ?_, fun b u hu => ?_⟩
  · split at hu
    · rename_i z
      exact .inl ⟨z, (Option.some.inj hu).symm⟩
    · split at hu
      · rename_i z
        exact .inr ⟨z.1, z.2, (Option.some.inj hu).symm⟩
      · cases hu
  · cases hk : K.lookup a with
    | some o =>
      have z := (inK a o hk).symm.trans ha
      cases z
      exact .inr ⟨_, vs.toArray, _, hk, rfl, rfl, rfl, by rw [List.size_toArray, hi.length]; exact hl, by simpa using vals_ints hi⟩
    | none => exact .inl (.inr ⟨{ cls := .type "list", data := .seq vs.toArray }, (if_neg far).trans (if_pos ⟨rfl, rfl⟩)⟩)
  · split at hu
    · rename_i z
      cases hu
      exact tabs b z
    · split at hu
      · rename_i z
        cases hu
        rw [z.1]
        exact ⟨ha, by rw [List.length_map]; exact hl, vs, _, vals_ints hi, ha⟩
      · cases hu
/-- what is no list and no empty table is not told of -/
theorem Begun.bare (B : Begun P w K cs a vs ns s H) {b : Addr} {o : Obj} (hT : ∀ p ∈ cs, s.heap.get? p.2 = some { cls := .none, data := .fields #[] }) (ha : s.heap.get? a = some { cls := .type "list", data := .seq vs.toArray }) (e : s.heap.get? b = some o) (h1 : ∀ us n, o.data ≠ .seq us n) (h2 : o.data ≠ .fields #[]) : (hidT s.heap H).get? b = some o := by
  refine hidT_get e ?_
  cases hb : H b with
  | none => rfl
  | some u =>
    rcases B.only b u hb with ⟨z, _⟩ | ⟨z, _⟩
    · obtain ⟨p, hp, rfl⟩ := List.mem_map.mp z
      have z1 := Option.some.inj ((hT p hp).symm.trans e)
      exact absurd (congrArg Obj.data z1).symm h2
    · subst z
      have z1 := Option.some.inj (ha.symm.trans e)
      exact absurd (congrArg Obj.data z1).symm (h1 _ _)
/-- the law's call -/
theorem callG {k : Nat} {fa : Addr} {fd : FuncData} {x : Str} {sp : Sp} (inK : K.In s.heap) (hns : s.heap.Ns mainGlobals mg) (hb : s.heap.Ns builtinsNs mb) (hbb : ∀ y : Str, y ≠ "__name__" → mb y = bootBuiltins y) (hlim : s.heap.NoLimit) (hg : s.gens = #[])
    (hT : ∀ p ∈ cs, s.heap.get? p.2 = some { cls := .none, data := .fields #[] }) (nT : ∀ p ∈ cs, K.lookup p.2 = Option.none) (C : ∀ p ∈ cs, PySem.W.CodeHd s.heap p.1 p.2)
    (hbm : ∃ (m : Addr) (o : Obj), mg "__builtins__" = some (.ref m) ∧ m ≠ builtinsNs ∧ s.heap.get? m = some o ∧ o.cls = .type "module" ∧ o.dict = some builtinsNs ∧ o.data = .plain)
    (ha : s.heap.get? a = some { cls := .type "list", data := .seq vs.toArray }) (hi : IntsAre vs ns) (hl : ns.length ≤ sizeLine) (hr : Room k callerA)
    (F : ∀ base : Heap, K.In base → base.Ns mainGlobals mg → (∀ p ∈ cs, LamX.TabB base mg p.1 p.2) → FnG P w K mg base k fa fd [x] sp) (hbind : ∀ (t : Shared) (u : Value), BindsTo t fd ⟨[u], []⟩ [(x, u)])
    (hsp : ∀ G : Hp, (∀ p ∈ cs, G p.2 = some (.tbl #[])) → SqL K G a (ns.map V.int) → sp [.ref a] G (fun v _ => v = .bl true) fun _ _ _ => False) :
    codeAny (model P w) callerA (.call (.ref fa) ⟨[.ref a], []⟩) (fun r t => r = .ok (.ret (.bool true)) ∧ OldK s.heap t.heap ∧ t.os = s.os ∧ AllBare t.gens) s := by
  obtain ⟨H, B⟩ := begun (P := P) (w := w) inK hT ha hi hl
  have stays : ∀ {b : Addr} {o : Obj}, s.heap.get? b = some o → (∀ us n, o.data ≠ .seq us n) → o.data ≠ .fields #[] → (hidT s.heap H).get? b = some o := fun e h1 h2 => B.bare hT ha e h1 h2
  have names : ∀ {b : Addr} {m : Str → Option Value}, s.heap.Ns b m → (hidT s.heap H).Ns b m := fun ⟨o, es, ep, e, d, r⟩ => ⟨o, es, ep, stays e (fun us n z => by rw [d] at z; cases z) (fun z => by rw [d] at z; cases z), d, r⟩
  have inB : K.In (hidT s.heap H) := fun b o e => hidT_get (inK b o e) (by
    cases hbb : H b with
    | none => rfl
    | some u =>
      exfalso
      rcases B.only b u hbb with ⟨z, _⟩ | ⟨z, z2, _⟩
      · obtain ⟨p, hp, rfl⟩ := List.mem_map.mp z
        cases (nT p hp).symm.trans e
      · subst z
        cases z2.symm.trans e)
  have TB : ∀ p ∈ cs, LamX.TabB (hidT s.heap H) mg p.1 p.2 := fun p hp => by
    have hTp := hT p hp
    refine ⟨?_, ?_, fun z => ?_⟩
    · obtain ⟨o, us, fl, tf, fg, tg, inF, tx, tt, e1, r1, r2, r3, r4⟩ := C p hp
      exact ⟨o, us, fl, tf, fg, tg, inF, tx, tt, stays e1 (fun us n z => by rw [r2] at z; cases z) (fun z => by
        rw [r2] at z
        cases z
        simp at r3), r1, r2, r3, r4⟩
    · obtain ⟨m, o, b1, b2, b3, b4, b5, b6⟩ := hbm
      refine ⟨m, o, b1, b2, fun z => ?_, fun z => ?_, stays b3 (fun us n z => by rw [b6] at z; cases z) (fun z => by rw [b6] at z; cases z), b4, b5, b6⟩
      · obtain ⟨o2, es, ep, e, d, _⟩ := hns
        rw [z] at b3
        cases e.symm.trans b3
        rw [d] at b6
        cases b6
      · rw [z] at b3
        cases hTp.symm.trans b3
        cases b6
    · obtain ⟨o2, es, ep, e, d, _⟩ := hns
      rw [z] at e
      cases hTp.symm.trans e
      cases d
  have hM : L2.Mod K mg (hidT s.heap H) := ⟨inB, names hns, ⟨mb, names hb, hbb⟩, let ⟨mc, h1, h2⟩ := hlim; ⟨mc, names h1, h2⟩⟩
  have e0 : Env0 P w K mg (hidT s.heap H) callerA [] s H := ⟨rfl, hM, fun b o e => of_hidT e, Nat.le_of_eq (hidT_size _ _), trivial, fun b z => absurd z List.not_mem_nil, B.hok, .of_eq hg⟩
  refine codeAny_mono ((F _ inB (names hns) TB).go callerA rfl hr [] s H ⟨[.ref a], []⟩ [.ref a] [.ref a] _ _ e0 (hbind s (.ref a)) (.cons rfl .nil) (hsp H B.tb B.sc)) fun r t h => ?_
  cases r with
  | error e => exact False.elim h
  | ok fl =>
    cases fl with
    | ret u =>
      obtain ⟨v, G, hos, hbare, un, hokG, rel, hv⟩ := h
      have hv2 : v = .bl true := hv
      subst hv2
      obtain rfl : u = Value.bool true := rel
      have more : ∀ p ∈ cs, ∃ m : Array Value, t.heap.get? p.2 = some { cls := .none, data := .fields m } := fun p hp => by
        obtain ⟨m, z⟩ := un.tbls p.2 #[] (B.tb p hp)
        exact ⟨_, hokG p.2 _ z⟩
      have rest : ∀ b o, b ∉ cs.map (·.2) → s.heap.get? b = some o → t.heap.get? b = some o := fun b o nb e => by
        cases hbH : H b with
        | none => exact un.keep b o e hbH (fun z => absurd z List.not_mem_nil) List.not_mem_nil
        | some y =>
          rcases B.only b y hbH with ⟨z, _⟩ | ⟨_, _, rfl⟩
          · exact absurd z nb
          · obtain ⟨g1, _⟩ := B.hok b _ hbH
            obtain ⟨g2, _⟩ := hokG b _ (un.frzs b _ _ hbH)
            cases g1.symm.trans e
            exact g2
      refine ⟨rfl, ⟨fun b o e => ?_, fun b o e => ?_⟩, hos, hbare⟩
      · by_cases z : b ∈ cs.map (·.2)
        · obtain ⟨p, hp, rfl⟩ := List.mem_map.mp z
          obtain ⟨m, hm⟩ := more p hp
          cases (hT p hp).symm.trans e
          exact .inr (.inl ⟨((C p hp).tab (hT p hp)).isCodeTable, rfl, #[], m, rfl, by rw [Array.empty_append]; exact hm⟩)
        · exact .inl (rest b o z e)
      · by_cases z : b ∈ cs.map (·.2)
        · obtain ⟨p, hp, rfl⟩ := List.mem_map.mp z
          obtain ⟨m, hm⟩ := more p hp
          exact ⟨_, hm⟩
        · exact ⟨o, rest b o z e⟩
    | _ => exact False.elim h
end
/-- what is known of the law at the head's heap -/
def LawAtG (l : PySem.W.OpenLaw) (w : World) (K : PySem.W.Frag) (k n : Nat) (x : Str) (mg : Str → Option Value) (fa : Addr) (h : Heap) : Prop :=
  ∃ (fd : FuncData) (cs : List (Addr × Addr)) (sp : Sp), (∀ p ∈ cs, h.get? p.2 = some { cls := .none, data := .fields #[] }) ∧ (∀ p ∈ cs, K.lookup p.2 = none) ∧ (∀ p ∈ cs, PySem.W.CodeHd h p.1 p.2) ∧ (∀ (t : Shared) (u : Value), BindsTo t fd ⟨[u], []⟩ [(x, u)]) ∧
    (∀ (G : Hp) (sc : Addr) (ns : List Int), ns.length ≤ n → (∀ z ∈ ns, Builtin.Int.intBits z ≤ 1048576) → (∀ p ∈ cs, G p.2 = some (.tbl #[])) → SqL K G sc (ns.map V.int) → sp [.ref sc] G (fun v _ => v = .bl true) fun _ _ _ => False) ∧
    ∀ base : Heap, K.In base → base.Ns mainGlobals mg → (∀ p ∈ cs, LamX.TabB base mg p.1 p.2) → FnG l.prog w K mg base k fa fd [x] sp
end My

set_option Elab.async false
set_option linter.all false
set_option maxRecDepth 100000
set_option maxHeartbeats 2000000
namespace My
open PySem PySem.Spec PyProof.Rows L2
/-! ### all(elt for target in iter), any(..), the element of any kind -/
section
variable {X : Cx}
theorem repin {A : Around} {s s' : Shared} {H H' : Hp} {cenv : Env} {fp : List Addr} {pn pins : List (Addr × Obj)} {σ : L2.St} (I : Inv (gxC X A s H cenv fp pn) pins σ H' s') : Inv (gxC X A s H cenv fp []) (pn ++ pins) σ H' s' :=
  ⟨⟨I.ok.mod, I.ok.kind, I.ok.glob, I.ok.blt, I.ok.above, I.ok.inj, I.ok.has, I.ok.cab, I.ok.hd, I.ok.frames, I.ok.stk, I.ok.exf, I.ok.bs, I.ok.bsz, I.ok.noex, I.ok.exfs, I.ok.funs, I.ok.frf⟩, I.os, I.bare, I.base, I.loc, I.cell, I.free, I.freeC, I.pin, I.hok, I.len⟩
theorem all_loopC {A : Around} {fp : List Addr} {tn : Nat → Heap → Prop} {σ0 : L2.St} {W : Nat → Hp → Prop} {n : Nat} {tr : Nat → Bool} {a : Addr} {g : Nat} {go : Obj} {R : Result → Shared → Prop}
    (hh : A.handled = none) (hd : A.depth < recursionLimit) (hgo : ∀ h : Heap, h.get? a = some go → h.IsGen a g) (hnc : ∀ v, go.data ≠ .cell v)
    (hR1 : ∀ s' o H, (∀ j, j < n → tr j = true) → Inv X [(a, o)] σ0 H s' → W n H → R (.ok (.ret (.bool true))) s')
    (hR0 : ∀ s' o H j, j < n → tr j = false → (∀ i, i < j → tr i = true) → Inv X [(a, o)] σ0 H s' → W (j + 1) H → R (.ok (.ret (.bool false))) s') :
    ∀ (k i : Nat) (s : Shared), i + k = n → (∀ j, j < i → tr j = true) → GxSt X A.in1.in1 fp tn σ0 W a n (fun i => .bl (tr i)) a g k s → s.heap.get? a = some go →
      codeAny (model X.prog X.w) A (.builtin "all.loop" ⟨[.ref a], []⟩) R s := by
  intro k
  induction k with
  | zero =>
    intro i s hk hall Z hS
    have hin : i = n := by omega
    subst hin
    obtain ⟨hg, hl, hb, gs, hgs, hgoes⟩ := Z
    refine codeAny_builtin F.entry_all_loop ?_
    rw [Around.under_plainId F.plain_all_loop _]
    show wpAny _ A.in1 (pyNext (.ref a) >>= _) _ _ s
    refine wpAny_bind (wpAny_pyNext_genexpQ (A := A.in1) hh hl hd hg hgs (hgoes (s.setGen g .running) _ ⟨rfl, allBare_setGen hb rfl, fun b u _ e => e, hS, hnc⟩) (fun v s₁ gs' hbare hv => ?_) fun s₁ hp h' hk' => ?_)
    · obtain ⟨i', o, H, _, _, _, G, hkap⟩ := hv
      obtain ⟨p1, _, _, _, p5⟩ := G.inv.pin (a, o) (List.mem_append_right _ List.mem_cons_self)
      exact (hkap s₁ o ⟨rfl, G.inv.bare, fun b u _ e => e, p1, p5⟩).elim
    · obtain ⟨_, o, H, I, w⟩ := hp
      refine wpAny_bind (wpAny_rule (wpAny_pure (hR1 _ o H hall ?_ w)))
      exact I.call' (ch := []) rfl (Un.kept hk') (I.hok.kept hk') (allBare_setGen I.bare rfl) (fun b hb => absurd hb (by simp))
  | succ k ih =>
    intro i s hk hall Z hS
    have hlt : i < n := by omega
    obtain ⟨hg, hl, hb, gs, hgs, hgoes⟩ := Z
    have hgl : g < s.gens.size := (Array.getElem?_eq_some_iff.mp hgs).1
    refine codeAny_builtin F.entry_all_loop ?_
    rw [Around.under_plainId F.plain_all_loop _]
    show wpAny _ A.in1 (pyNext (.ref a) >>= _) _ _ s
    refine wpAny_bind (GenW.wpAny_gsz (n := g + 1) hgl (wpAny_pyNext_genexpQ (A := A.in1) hh hl hd hg hgs (hgoes (s.setGen g .running) _ ⟨rfl, allBare_setGen hb rfl, fun b u _ e => e, hS, hnc⟩) (fun v s₁ gs' hbare hv => ?_) fun s₁ hp h' hk' => ?_))
    · intro hsz
      obtain ⟨i', o, H, hi', hrel, hs0, G, hkap⟩ := hv
      have ei : i' = i := by omega
      subst ei
      obtain rfl : v = .bool (tr i') := hrel
      have eo : o = go := by
        have h1 : s.heap.get? a = some o := hs0
        rw [hS] at h1
        exact (Option.some.inj h1).symm
      subst eo
      obtain ⟨p1, _, _, _, p5⟩ := G.inv.pin (a, o) (List.mem_append_right _ List.mem_cons_self)
      refine wpAny_bind (wpAny_holding (wpAny_truthy_bool (wpAny_bind (wpAny_letGo ?_))))
      cases hb : tr i' with
      | true =>
        simp only [if_true]
        have hsz1 : g < s₁.gens.size := by
          have q : (s₁.setGen g gs').gens.size = s₁.gens.size := GenW.setGen_size _ _ _
          have hsz' : g + 1 ≤ (s₁.setGen g gs').gens.size := hsz
          omega
        refine wpAny_pure ⟨plainId_quiet F.plain_all_loop _, ih (i' + 1) _ (by omega) (fun j hj => ?_) ⟨hgo _ p1, G.inv.nolimit, allBare_setGen (s := s₁) G.inv.bare hbare, gs', setGen_at (s := s₁) hsz1, fun s'' o'' z => ?_⟩ p1⟩
        · by_cases e : j = i'
          · rw [e]
            exact hb
          · exact hall j (by omega)
        · exact hkap s'' o'' ⟨z.os, z.bare, z.keep, z.own, z.nc⟩
      | false =>
        simp only [Bool.false_eq_true, if_false]
        refine wpAny_bind (wpAny_rule (wpAny_pure (hR0 _ o H i' hlt hb hall ?_ G.w)))
        exact G.inv.call' (ch := []) rfl (Un.kept fun b u e => e) G.inv.hok (allBare_setGen G.inv.bare hbare) (fun b hb => absurd hb (by simp))
    · exact absurd hp.1 (Nat.succ_ne_zero k)
/-- all(..) -/
def tAllC (P : Addr) (wi : TI) (g : L2.TG) (te : TE) (vs : List Nat) : TE := fun σ H Q => wi σ H fun J H1 => GxR.TabG H1 P ∧ ∀ H2, GxR.Tabbed P H1 H2 →
  ∃ (n : Nat) (tr : Nat → Bool) (W : Nat → Hp → Prop), W 0 H2 ∧ gxStep J g te vs (wipe σ vs) W n (fun i => .bl (tr i)) ∧ (∀ H3, W n H3 → (∀ j, j < n → tr j = true) → Q (.bl true) H3) ∧ ∀ j H3, j < n → tr j = false → (∀ i, i < j → tr i = true) → W (j + 1) H3 → Q (.bl false) H3
theorem pe_allC {c P : Addr} {elt tg iter : Expr} {p pos gpos : Pos} {scope : Scope} {own : List (Str × Nat)} {wi : TI} {g : L2.TG} {te : TE} {k : Nat}
    (hr : Room (k + 3) X.A) (hg : Gl X "all") (hm : X.mg "all" = none) (TB : LamX.TabB X.base X.mg c P) (hcode : X.env.code = .ref c) (S : GxS X scope own) (hN : X.N.Nodup) (hc : X.calm = true) (hi : PI X tg iter wi)
    (pg : ∀ (A : Around) (s : Shared) (H : Hp) (C : Addr) (cl : List (Str × Addr)) (code : Value) (fp : List Addr) (pn : List (Addr × Obj)), PG (gxC X A s H (genEnv scope cl C code builtinsNs X.env) fp pn) tg g)
    (pe : ∀ (A : Around) (s : Shared) (H : Hp) (C : Addr) (cl : List (Str × Addr)) (code : Value) (fp : List Addr) (pn : List (Addr × Obj)), Room k A → PE (gxC X A s H (genEnv scope cl C code builtinsNs X.env) fp pn) elt te)
    (hb : bootBuiltins "all" = some (.builtin "all") := by decide +kernel) (hs : ∀ v, genFold iter X.env v = pure v := by intro _; rfl)
    (he : starEach [.GeneratorExp elt [⟨tg, iter, [], 0⟩] scope gpos] X.env = (false, eval (.GeneratorExp elt [⟨tg, iter, [], 0⟩] scope gpos) X.env) :: starEach [] X.env := by rfl) :
    PE X (.Call (.Name "all" p) [.GeneratorExp elt [⟨tg, iter, [], 0⟩] scope gpos] [] pos) (tAllC P wi g te (own.map (·.2))) := by
  refine ⟨fun pins s σ H Q I h => ?_⟩
  refine wpAny_Call_Name_kw (ld_blt I hg hm hb (PyProof.Rows.callWith_builtin1 ?_ he (by rfl)))
  rw [he]
  refine Calls.spliced_cons (gx_make hr TB hcode S hN hi hs I h fun J H1 H2 a s5 hR hTb hG => ?_)
  refine Calls.spliced_nil ?_
  obtain ⟨n, tr, W, w0, step, hend1, hend0⟩ := hR H2 hTb
  obtain ⟨s4, code, cenv, fp, it, tn, go, ec, I4, f4, T, st5, egs, hgen, hga, hlt, hInv⟩ := hG
  have I5 := repin (hInv X.A.in1.in1 hr.hd I4.ok.frames)
  have hroom : Room k (X.A.in1.in1.deeper cenv) := hr.in1.in1.deeper cenv
  have pg' := pg (X.A.in1.in1.deeper cenv) s4 H2 s4.heap.objs.size (cloFrom X.env.cells scope.names []) code fp []
  have pe' := pe (X.A.in1.in1.deeper cenv) s4 H2 s4.heap.objs.size (cloFrom X.env.cells scope.names []) code fp [] hroom
  rw [← ec] at pg' pe'
  have hgen5 : s5.heap.IsGen a s4.gens.size := hgen _ hga
  obtain ⟨_, ga, gb, gc, hnc⟩ := I5.pin (a, go) (by simp)
  have haf : a ∉ fp := fun hb => Nat.lt_irrefl _ (Nat.lt_trans (f4 a hb).2 hlt)
  have hcl : ∀ x c, cenv.cells.lookup x = some c → c ≠ a := fun x c e z => by
    obtain ⟨v, o, e1, e2⟩ := I5.cell x c e
    rw [z, hga] at e1
    cases e1
    exact hnc _ e2
  refine call_function_tree F.kind_all F.plain_all F.entry_all (F.args_all1 _) ?_
  unfold Builtin.«all»
  refine wpAny_bind (m := oneArg "all" _) (wpAny_pure ?_)
  refine wpAny_bind (wpAny_pyIter_gen hgen5 ?_)
  refine wpAny_pure ⟨plainId_quiet F.plain_all_loop _, all_loopC (X := gxC X (X.A.in1.in1.deeper cenv) s4 H2 cenv fp []) (A := X.A) (fp := fp) (tn := tn) (σ0 := wipe σ (own.map (·.2))) (W := W) (n := n) (tr := tr) (a := a) (g := s4.gens.size) (go := go)
    hr.hd (by have := hr.dp; omega) hgen hnc (fun s' o H3 hdone I' w' => ?_) (fun s' o H3 j hj hsj hal I' w' => ?_) n 0 _ (Nat.zero_add n) (fun j hj => absurd hj (Nat.not_lt_zero j)) ⟨hgen5, I5.nolimit, I5.bare, .fresh (.compStart (.GeneratorExp elt [⟨tg, iter, [], 0⟩] scope gpos) 0 (.ref it) .none cenv), ?_, fun s'' o' z => ⟨rfl, ?_⟩⟩ hga⟩
  · refine ⟨.bl true, H3, ?_, rfl, hend1 H3 w' hdone⟩
    exact I4.call' (ch := fp) I'.os I'.base I'.hok I'.bare fun b hb => ⟨(f4 b hb).1.2.2.2.1, (f4 b hb).1.2.1, (f4 b hb).1.2.2.2.2.1, (f4 b hb).1.2.2.2.2.2⟩
  · refine ⟨.bl false, H3, ?_, rfl, hend0 j H3 hj hsj hal w'⟩
    exact I4.call' (ch := fp) I'.os I'.base I'.hok I'.bare fun b hb => ⟨(f4 b hb).1.2.2.2.1, (f4 b hb).1.2.1, (f4 b hb).1.2.2.2.2.1, (f4 b hb).1.2.2.2.2.2⟩
  · show s5.gens[s4.gens.size]? = _
    rw [egs]
    exact Array.getElem?_push_size ..
  · have Iz : Inv (gxC X (X.A.in1.in1.deeper cenv) s4 H2 cenv fp []) [(a, o')] (wipe σ (own.map (·.2))) H2 s'' := woke I5 (Nat.le_of_lt hlt) hcl (fun p hp => absurd hp (by simp)) z.os z.bare z.keep z.own z.nc
    have stz : tn 0 s''.heap := T.keep _ _ _ st5 fun b hb u e => z.keep b u (fun q => haf (q ▸ hb)) e
    exact gx_begin (X := gxC X (X.A.in1.in1.deeper cenv) s4 H2 cenv fp []) T stz (gx_loop (X := gxC X (X.A.in1.in1.deeper cenv) s4 H2 cenv fp []) rfl T hc rfl haf (fun p hp => absurd hp List.not_mem_nil) (fun _ _ q => q) (by rw [ec]; exact S.co) (Nat.le_of_lt hlt) hcl (fun p hp => absurd hp List.not_mem_nil) pg' pe' step n 0 s'' s'' o' H2 (Nat.zero_add n) z.own ⟨Iz, stz, fun b hb => (f4 b hb).1.1, w0⟩)
end
end My

set_option Elab.async false
set_option linter.all false
set_option maxRecDepth 100000
set_option maxHeartbeats 2000000
namespace My
open PySem PySem.Spec PyProof.Rows L2
theorem gx_step {J : It} {n : Nat} {G : Hp → Prop} {Y : Nat → Hp → V → Hp → Prop} (w : Walk J n G Y) {g : L2.TG} {te : TE} {vs : List Nat} {σ0 : L2.St} {F : Nat → V} {Pv : Nat → Hp → Prop}
    (hG : ∀ i H, i ≤ n → Pv i H → G H) (hs : ∀ i x H H', i < n → Pv i H → Y i H x H' → g x σ0 H' fun σ2 H2 => wipe σ2 vs = σ0 ∧ te σ2 H2 fun y H3 => y = F i ∧ i + 1 ≤ n ∧ Pv (i + 1) H3) :
    gxStep J g te vs σ0 (fun i H => i ≤ n ∧ Pv i H) n F := fun i H hW => ⟨fun hi => ⟨w.goes i H hi (hG i H hW.1 hW.2), fun x H' y => hs i x H H' hi hW.2 (w.yields i H x H' hi (hG i H hW.1 hW.2) y)⟩, fun e => by
    subst e
    exact w.stops H (hG i H hW.1 hW.2)⟩
/-! ### data that lies away from some places -/
def hidS (L : List Addr) (H : Hp) : Hp := fun b => if b ∈ L then none else H b
theorem hid_some {L : List Addr} {H : Hp} {b : Addr} {o : HO} : hidS L H b = some o ↔ b ∉ L ∧ H b = some o := by
  unfold hidS
  split
  · rename_i h
    exact ⟨(fun z => nomatch z), (fun z => absurd h z.1)⟩
  · rename_i h
    exact ⟨fun z => ⟨h, z⟩, fun z => z.2⟩
abbrev Fl (L : List Addr) (H : Hp) (v : V) (d : PyData) : Prop := Ft (hidS L H) v d
abbrev FlA (L : List Addr) (H : Hp) (vs : List V) (ds : List PyData) : Prop := FtA (hidS L H) vs ds
theorem hid_same {L : List Addr} {H : Hp} : Same (hidS L H) H := fun _ _ e => (hid_some.mp e).2
theorem hid_keep {L : List Addr} {H H' : Hp} (k : ∀ b o, b ∉ L → H b = some o → H' b = some o) : Same (hidS L H) (hidS L H') := fun b o e => hid_some.mpr ⟨(hid_some.mp e).1, k b o (hid_some.mp e).1 (hid_some.mp e).2⟩
theorem hid_sub {L L' : List Addr} {H : Hp} (h : ∀ b ∈ L', b ∈ L) : Same (hidS L H) (hidS L' H) := fun b o e => hid_some.mpr ⟨fun z => (hid_some.mp e).1 (h b z), (hid_some.mp e).2⟩
theorem Fl.to {L : List Addr} {H : Hp} {v : V} {d : PyData} (h : Fl L H v d) : Ft H v d := Ft.mono hid_same _ _ h
theorem FlA.to {L : List Addr} {H : Hp} {vs : List V} {ds : List PyData} (h : FlA L H vs ds) : FtA H vs ds := FtA.mono hid_same _ _ h
theorem Fl.keep {L : List Addr} {H H' : Hp} {v : V} {d : PyData} (h : Fl L H v d) (k : ∀ b o, b ∉ L → H b = some o → H' b = some o) : Fl L H' v d := Ft.mono (hid_keep k) _ _ h
theorem FlA.keep {L : List Addr} {H H' : Hp} {vs : List V} {ds : List PyData} (h : FlA L H vs ds) (k : ∀ b o, b ∉ L → H b = some o → H' b = some o) : FlA L H' vs ds := FtA.mono (hid_keep k) _ _ h
theorem Fl.sub {L L' : List Addr} {H : Hp} {v : V} {d : PyData} (h : Fl L H v d) (hs : ∀ b ∈ L', b ∈ L) : Fl L' H v d := Ft.mono (hid_sub hs) _ _ h
theorem FlA.sub {L L' : List Addr} {H : Hp} {vs : List V} {ds : List PyData} (h : FlA L H vs ds) (hs : ∀ b ∈ L', b ∈ L) : FlA L' H vs ds := FtA.mono (hid_sub hs) _ _ h
theorem Fl.same {L : List Addr} {H H' : Hp} {v : V} {d : PyData} (h : Fl L H v d) (k : Same H H') : Fl L H' v d := h.keep fun b o _ e => k b o e
theorem FlA.same {L : List Addr} {H H' : Hp} {vs : List V} {ds : List PyData} (h : FlA L H vs ds) (k : Same H H') : FlA L H' vs ds := h.keep fun b o _ e => k b o e
theorem Fl.sx {Ps L : List Addr} {H H' : Hp} {v : V} {d : PyData} (h : Fl L H v d) (k : Sx Ps H H') (hs : ∀ b ∈ Ps, b ∈ L) : Fl L H' v d := h.keep fun b o nb e => k b o (fun z => nb (hs b z)) e
theorem FlA.sx {Ps L : List Addr} {H H' : Hp} {vs : List V} {ds : List PyData} (h : FlA L H vs ds) (k : Sx Ps H H') (hs : ∀ b ∈ Ps, b ∈ L) : FlA L H' vs ds := h.keep fun b o nb e => k b o (fun z => nb (hs b z)) e
theorem Fl.kp {r : Addr} {L : List Addr} {H H' : Hp} {v : V} {d : PyData} (h : Fl L H v d) (k : Kp r H H') (hs : r ∈ L) : Fl L H' v d := h.keep fun b o nb e => k b o (fun z => nb (z ▸ hs)) e
theorem FlA.kp {r : Addr} {L : List Addr} {H H' : Hp} {vs : List V} {ds : List PyData} (h : FlA L H vs ds) (k : Kp r H H') (hs : r ∈ L) : FlA L H' vs ds := h.keep fun b o nb e => k b o (fun z => nb (z ▸ hs)) e
theorem Fl.tup {L : List Addr} {H : Hp} {p : Addr} {xs : List V} {ds : List PyData} (n : p ∉ L) (h : H p = some (.tup xs)) (a : FlA L H xs ds) : Fl L H (.ref p) (.tuple ds) := Ft.tup (hid_some.mpr ⟨n, h⟩) a
theorem Fl.lst {L : List Addr} {H : Hp} {p : Addr} {xs : List V} {ds : List PyData} (n : p ∉ L) (h : H p = some (.lst xs)) (a : FlA L H xs ds) : Fl L H (.ref p) (.list ds) := Ft.lst (hid_some.mpr ⟨n, h⟩) a
theorem Fl.isStr {L : List Addr} {H : Hp} {v : V} {z : Str} (h : Fl L H v (.str z)) : v = .str z := by
  cases h
  rfl
theorem Fl.isInt {L : List Addr} {H : Hp} {v : V} {i : Int} (h : Fl L H v (.int i)) : v = .int i := by
  cases h
  rfl
theorem FlA.one {L : List Addr} {H : Hp} {vs : List V} {a : PyData} (h : FlA L H vs [a]) : ∃ x, vs = [x] ∧ Fl L H x a := by
  cases h with
  | cons f g =>
    cases g
    exact ⟨_, rfl, f⟩
theorem FlA.two {L : List Addr} {H : Hp} {vs : List V} {a b : PyData} (h : FlA L H vs [a, b]) : ∃ x y, vs = [x, y] ∧ Fl L H x a ∧ Fl L H y b := by
  cases h with
  | cons f g =>
    obtain ⟨y, rfl, fy⟩ := FlA.one g
    exact ⟨_, y, rfl, f, fy⟩
theorem FlA.three {L : List Addr} {H : Hp} {vs : List V} {a b c : PyData} (h : FlA L H vs [a, b, c]) : ∃ x y z, vs = [x, y, z] ∧ Fl L H x a ∧ Fl L H y b ∧ Fl L H z c := by
  cases h with
  | cons f g =>
    obtain ⟨y, z, rfl, fy, fz⟩ := FlA.two g
    exact ⟨_, y, z, rfl, f, fy, fz⟩
theorem FlA.at {L : List Addr} {H : Hp} {vs : List V} {ds : List PyData} (h : FlA L H vs ds) {i : Int} (h0 : 0 ≤ i) (h1 : i < ds.length) : ∃ v d, atI vs i = some v ∧ ds[i.toNat]? = some d ∧ Fl L H v d := by
  have hl := FtA.len h
  have hi : i.toNat < vs.length := by omega
  obtain ⟨d, e, f⟩ := FtA.getV h (List.getElem?_eq_getElem hi)
  refine ⟨_, d, ?_, e, f⟩
  have e2 := atI_nat (List.getElem?_eq_getElem hi)
  rw [show ((i.toNat : Nat) : Int) = i by omega] at e2
  exact e2
theorem FlA.app {L : List Addr} {H : Hp} : ∀ {vs us : List V} {ds es : List PyData}, FlA L H vs ds → FlA L H us es → FlA L H (vs ++ us) (ds ++ es)
  | _, _, _, _, .nil, h => h
  | _, _, _, _, .cons a r, h => .cons a (FlA.app r h)
theorem FlA.take {L : List Addr} {H : Hp} : ∀ (n : Nat) {vs : List V} {ds : List PyData}, FlA L H vs ds → FlA L H (vs.take n) (ds.take n)
  | 0, _, _, _ => .nil
  | _ + 1, _, _, .nil => .nil
  | n + 1, _, _, .cons a r => .cons a (FlA.take n r)
theorem FlA.drop {L : List Addr} {H : Hp} : ∀ (n : Nat) {vs : List V} {ds : List PyData}, FlA L H vs ds → FlA L H (vs.drop n) (ds.drop n)
  | 0, _, _, h => h
  | _ + 1, _, _, .nil => .nil
  | n + 1, _, _, .cons _ r => FlA.drop n r
/-! ### what isinstance tells of data, more -/
/-! ### questions, of any data -/
end My
namespace My
open PySem PySem.Spec PyProof.Rows L2
theorem Sh.len {n m : Nat} {z : Str} (h : Sh n m (.str z)) (hm : m ≤ 100000) : z.length ≤ sizeLine := by
  have h1 : z.cps.size ≤ m := h.wt
  have h2 : z.length = z.cps.size := rfl
  rw [sizeLine_eq, h2]
  omega
/-- a frozen thing among data away from places that hold no tuple -/
theorem Fz.fl {L : List Addr} {H : Hp} (hL : ∀ b ∈ L, ∀ xs, H b ≠ some (.tup xs)) : ∀ {d : PyData} {v : V}, Fz H v d → Fl L H v d := by
  have key : ∀ n, ∀ (d : PyData) (v : V), d.depth < n → Fz H v d → Fl L H v d := by
    intro n
    induction n with
    | zero => exact fun d v h => absurd h (Nat.not_lt_zero _)
    | succ n ih =>
      intro d v hd f
      have all : ∀ (ds : List PyData) (vs : List V), PyData.depthAll ds < n → FzA H vs ds → FlA L H vs ds := by
        intro ds
        induction ds with
        | nil =>
          intro vs _ g
          cases g
          exact .nil
        | cons d ds ih2 =>
          intro vs hn g
          simp only [PyData.depthAll] at hn
          cases g with
          | cons a r => exact .cons (ih d _ (by omega) a) (ih2 _ (by omega) r)
      cases f with
      | non => exact .non
      | bl b => exact .bl b
      | int i => exact .int i
      | str x => exact .str x
      | tup h a =>
        have h4 : PyData.depthAll _ + 1 < n + 1 := hd
        exact Fl.tup (fun z => hL _ z _ h) h (all _ _ (by omega) a)
  exact fun {d v} f => key (d.depth + 1) d v (Nat.lt_succ_self _) f
end My

set_option Elab.async false
set_option linter.all false
set_option maxRecDepth 100000
set_option maxHeartbeats 2000000
namespace My
open PySem PySem.Spec PyProof.Rows L2 HT
/-! ### t[::-1] of a tuple -/
section
variable {X : Cx}
end
end My
namespace My
open PySem PySem.Spec PyProof.Rows L2
/-! ### tuple + tuple, both of one's own -/
def rCatW (K : PySem.W.Frag) : R2 := fun x y H Q => ∃ (a b : Addr) (xs ys : List V), x = .ref a ∧ y = .ref b ∧ H a = some (.tup xs) ∧ H b = some (.tup ys) ∧ xs.length + ys.length ≤ sizeLine ∧ ∀ (p : Addr) (H' : Hp), Same H H' → (H p = none ∨ p = a ∨ p = b) → H' p = some (.tup (xs ++ ys)) → Q (.ref p) H'
theorem catWK (K : PySem.W.Frag) {X : Cx} (hK : X.K = K := by rfl) : OpR X (binaryOp .Add) (rCatW K) := by
  subst hK
  intro pins s σ H x y v u Q I rx ry h
  obtain ⟨a, b, xs, ys, rfl, rfl, ha, hb, hz, q⟩ := h
  exact op_catA pins s σ H _ _ v u Q I rx ry ⟨a, b, xs, ys, rfl, rfl, .inl (.inl ha), .inl (.inl hb), hz, (fun e => q b H (Same.refl H) (.inr (.inr rfl)) (by rw [e, List.nil_append]; exact hb)), (fun _ e => q a H (Same.refl H) (.inr (.inl rfl)) (by rw [e, List.append_nil]; exact ha)), (fun _ _ p np => q p _ (Same.new (Same.refl H) np) (.inl np) upd_same)⟩
def rSlW (K : PySem.W.Frag) : V → Option Int → Option Int → Hp → VK → Prop := fun x lo hi H Q => ∃ (a : Addr) (xs : List V), x = .ref a ∧ H a = some (.tup xs) ∧ ∀ (p : Addr) (H' : Hp), Same H H' → (H p = none ∨ p = a) → H' p = some (.tup (cutV xs lo hi)) → Q (.ref p) H'
theorem slWK (K : PySem.W.Frag) {X : Cx} (hK : X.K = K := by rfl) : SlR X (rSlW K) := by
  subst hK
  intro pins s σ H x v vl vu lo hi sl Q I rx hs pl pu h
  obtain ⟨a, xs, rfl, ha, q⟩ := h
  refine sl_tupA pins s σ H _ v vl vu lo hi sl Q I rx hs pl pu ⟨a, xs, rfl, .inl (.inl ha), fun hw => q a H (Same.refl H) (.inr rfl) ?_, fun _ p np => q p _ (Same.new (Same.refl H) np) (.inl np) upd_same⟩
  rw [ha]
  unfold cutV
  rw [hw.1, hw.2, List.drop_zero, Nat.sub_zero, List.take_length]
/-! ### some data -/
def Th (L : List Addr) (H : Hp) (n m : Nat) (v : V) : Prop := ∃ d, Fl L H v d ∧ Sh n m d ∧ wd d ≤ m
theorem Th.mono {L : List Addr} {H : Hp} {n n' m m' : Nat} {v : V} (h : Th L H n m v) (h1 : n ≤ n') (h2 : m ≤ m') : Th L H n' m' v := by
  obtain ⟨d, f, s, w⟩ := h
  exact ⟨d, f, s.mono h1 h2, Nat.le_trans w h2⟩
theorem Th.keep {L : List Addr} {H H' : Hp} {n m : Nat} {v : V} (h : Th L H n m v) (k : ∀ b o, b ∉ L → H b = some o → H' b = some o) : Th L H' n m v := by
  obtain ⟨d, f, s, w⟩ := h
  exact ⟨d, f.keep k, s, w⟩
theorem Th.same {L : List Addr} {H H' : Hp} {n m : Nat} {v : V} (h : Th L H n m v) (k : Same H H') : Th L H' n m v := h.keep fun b o _ e => k b o e
theorem Th.kp {r : Addr} {L : List Addr} {H H' : Hp} {n m : Nat} {v : V} (h : Th L H n m v) (k : Kp r H H') (hr : r ∈ L) : Th L H' n m v := h.keep fun b o nb e => k b o (fun z => nb (z ▸ hr)) e
theorem Th.sx {Ps L : List Addr} {H H' : Hp} {n m : Nat} {v : V} (h : Th L H n m v) (k : Sx Ps H H') (hs : ∀ b ∈ Ps, b ∈ L) : Th L H' n m v := h.keep fun b o nb e => k b o (fun z => nb (hs b z)) e
theorem Th.non {L : List Addr} {H : Hp} {n m : Nat} : Th L H n m .non := ⟨.none, .non, Sh.none, Nat.zero_le _⟩
theorem Th.bl {L : List Addr} {H : Hp} {n m : Nat} (b : Bool) : Th L H n m (.bl b) := ⟨.bool b, .bl b, Sh.bool b, Nat.zero_le _⟩
theorem Th.int {L : List Addr} {H : Hp} {n m : Nat} {i : Int} (h : i.natAbs < 10 ^ 60) (hm : 200 ≤ m) : Th L H n m (.int i) := ⟨.int i, .int i, Sh.int h hm, Nat.zero_le _⟩
theorem Th.tx {L : List Addr} {H : Hp} {n m : Nat} {l : List Nat} (h : ∀ c ∈ l, c < 1000) (hl : l.length ≤ m) : Th L H n m (tx l) := ⟨.str (txS l), .str _, Sh.str h hl, Nat.zero_le _⟩
theorem th_all {L : List Addr} {H : Hp} {n m : Nat} : ∀ {vs : List V}, (∀ v ∈ vs, Th L H n m v) → ∃ ds, FlA L H vs ds ∧ (∀ d ∈ ds, Sh n m d) ∧ wdA ds ≤ m
  | [], _ => ⟨[], .nil, (fun d h => nomatch h), Nat.zero_le _⟩
  | v :: vs, h => by
    obtain ⟨d, f, s, w⟩ := h v (List.mem_cons_self ..)
    obtain ⟨ds, fs, ss, ws⟩ := th_all (vs := vs) fun u hu => h u (List.mem_cons_of_mem _ hu)
    refine ⟨d :: ds, .cons f fs, fun e he => ?_, ?_⟩
    · rcases List.mem_cons.mp he with z | z
      · rw [z]
        exact s
      · exact ss e z
    · show max (wd d) (wdA ds) ≤ m
      omega
theorem wd_fit {m k w : Nat} (h : w ≤ m) (h0 : k = 0 → w = 0) : max k w ≤ (m + 1) * k := by
  cases k with
  | zero =>
    rw [h0 rfl]
    exact Nat.le_refl _
  | succ k =>
    have e : (m + 1) * (k + 1) = m * k + m + (k + 1) := by
      rw [Nat.add_mul, Nat.one_mul, Nat.mul_add, Nat.mul_one]
    omega
theorem Th.tup {L : List Addr} {H : Hp} {n m : Nat} {p : Addr} {vs : List V} (np : p ∉ L) (hp : H p = some (.tup vs)) (h : ∀ v ∈ vs, Th L H n m v) : Th L H (n + 1) ((m + 1) * vs.length) (.ref p) := by
  obtain ⟨ds, fs, ss, ws⟩ := th_all h
  have hl := FtA.len fs
  refine ⟨.tuple ds, Fl.tup np hp fs, hl ▸ Sh.tup ss, ?_⟩
  rw [hl]
  exact wd_fit ws fun z => by
    rw [List.length_eq_zero_iff.mp z]
    rfl
theorem Th.lst {L : List Addr} {H : Hp} {n m : Nat} {p : Addr} {vs : List V} (np : p ∉ L) (hp : H p = some (.lst vs)) (h : ∀ v ∈ vs, Th L H n m v) : Th L H (n + 1) ((m + 1) * vs.length) (.ref p) := by
  obtain ⟨ds, fs, ss, ws⟩ := th_all h
  have hl := FtA.len fs
  refine ⟨.list ds, Fl.lst np hp fs, hl ▸ Sh.lst ss, ?_⟩
  rw [hl]
  exact wd_fit ws fun z => by
    rw [List.length_eq_zero_iff.mp z]
    rfl
theorem at_mem {vs : List V} {i : Int} (h0 : 0 ≤ i) (h1 : i < vs.length) : ∃ v ∈ vs, atI vs i = some v := by
  have hi : i.toNat < vs.length := by omega
  refine ⟨vs[i.toNat], List.getElem_mem hi, ?_⟩
  have e2 := atI_nat (List.getElem?_eq_getElem hi)
  rw [show ((i.toNat : Nat) : Int) = i by omega] at e2
  exact e2
theorem all1 {α : Type} {p : α → Prop} {a : α} (ha : p a) : ∀ x ∈ [a], p x := fun x h => by
  rw [List.mem_singleton.mp h]
  exact ha
theorem allC {α : Type} {p : α → Prop} {a : α} {l : List α} (ha : p a) (hl : ∀ x ∈ l, p x) : ∀ x ∈ a :: l, p x := fun x h => by
  rcases List.mem_cons.mp h with z | z
  · rw [z]
    exact ha
  · exact hl x z
theorem all0 {α : Type} {p : α → Prop} : ∀ x ∈ ([] : List α), p x := fun x h => nomatch h
theorem allApp {α : Type} {p : α → Prop} {l k : List α} (hl : ∀ x ∈ l, p x) (hk : ∀ x ∈ k, p x) : ∀ x ∈ l ++ k, p x := fun x h => by
  rcases List.mem_append.mp h with z | z
  · exact hl x z
  · exact hk x z
end My
namespace My
open PySem PySem.Spec PyProof.Rows L2
end My
namespace My
open PySem PySem.Spec PyProof.Rows L2
theorem new_all {L : List Addr} {H : Hp} {p : Addr} {o : HO} (h : ∀ b ∈ L, H b ≠ none) : ∀ b ∈ L, (upd H p o) b ≠ none := fun b hb => by
  by_cases e : b = p
  · rw [e, upd_same]
    simp
  · rw [upd_ne e]
    exact h b hb
theorem same_all {L : List Addr} {H H' : Hp} (h : ∀ b ∈ L, H b ≠ none) (s : Same H H') : ∀ b ∈ L, H' b ≠ none := fun b hb => by
  cases e : H b with
  | none => exact absurd e (h b hb)
  | some o =>
    rw [s b o e]
    simp
theorem ne_in {L : List Addr} {p r : Addr} (h : p ∉ L) (hr : r ∈ L) : p ≠ r := fun z => h (z ▸ hr)
theorem Th.at {L : List Addr} {H : Hp} {n m : Nat} {vs : List V} (h : ∀ v ∈ vs, Th L H n m v) {i : Int} (h0 : 0 ≤ i) (h1 : i < vs.length) : ∃ v, atI vs i = some v ∧ Th L H n m v := by
  obtain ⟨v, hv, e⟩ := at_mem h0 h1
  exact ⟨v, e, h v hv⟩
end My
namespace My
open PySem PySem.Spec PyProof.Rows L2
theorem th_cat {L : List Addr} {H : Hp} {n m : Nat} {l k : List Nat} (h : ∀ c ∈ l ++ k, c < 1000) (hl : (l ++ k).length ≤ m) : Th L H n m (.str ((⟨l.toArray⟩ : Str) ++ ⟨k.toArray⟩)) := by
  have e : ((⟨l.toArray⟩ : Str) ++ (⟨k.toArray⟩ : Str)) = ⟨(l ++ k).toArray⟩ := by
    show (⟨l.toArray ++ k.toArray⟩ : Str) = _
    simp
  rw [e]
  exact Th.tx h hl
end My

set_option Elab.async false
set_option linter.all false
set_option maxRecDepth 100000
set_option maxHeartbeats 2000000
namespace My
open PySem PySem.Spec PyProof.Rows L2
/-- away from L all is kept -/
def Kx (L : List Addr) (H H' : Hp) : Prop := ∀ b o, b ∉ L → H b = some o → H' b = some o
theorem Kx.rfl' {L : List Addr} {H : Hp} : Kx L H H := fun _ _ _ h => h
theorem Kx.trans {L : List Addr} {H H1 H2 : Hp} (a : Kx L H H1) (b : Kx L H1 H2) : Kx L H H2 := fun c o n h => b c o n (a c o n h)
theorem Kx.same {L : List Addr} {H H' : Hp} (a : Same H H') : Kx L H H' := fun c o _ h => a c o h
theorem Kx.kp {r : Addr} {L : List Addr} {H H' : Hp} (a : Kp r H H') (h : r ∈ L) : Kx L H H' := fun c o n e => a c o (fun z => n (z ▸ h)) e
theorem Kx.sx {Ps L : List Addr} {H H' : Hp} (a : Sx Ps H H') (h : ∀ b ∈ Ps, b ∈ L) : Kx L H H' := fun c o n e => a c o (fun z => n (h c z)) e
end My
namespace My
open PySem PySem.Spec PyProof.Rows L2
theorem held_all {r : Addr} {Ps : List Addr} {H : Hp} {o : HO} (h : H r = some o) (tg : TG Ps H) : ∀ b ∈ r :: Ps, H b ≠ none := fun b hb => by
  rcases List.mem_cons.mp hb with z | z
  · rw [z, h]
    simp
  · obtain ⟨ps, hp, _⟩ := tg b z
    rw [hp]
    simp
theorem fresh_same {L : List Addr} {H : Hp} {D : Addr} {o : HO} (n : H D = none) : Same (hidS L H) (hidS (D :: L) (upd H D o)) := fun b x e => by
  obtain ⟨h1, h2⟩ := hid_some.mp e
  have hb : b ≠ D := ne_of_none h2 n
  exact hid_some.mpr ⟨fun z => (List.mem_cons.mp z).elim hb h1, keep_ne h2 hb⟩
theorem Th.fresh {L : List Addr} {H : Hp} {D : Addr} {o : HO} {n m : Nat} {v : V} (h : Th L H n m v) (nD : H D = none) : Th (D :: L) (upd H D o) n m v := by
  obtain ⟨d, f, s, w⟩ := h
  exact ⟨d, Ft.mono (fresh_same nD) _ _ f, s, w⟩
theorem Th.kx {L : List Addr} {H H' : Hp} {n m : Nat} {v : V} (h : Th L H n m v) (k : Kx L H H') : Th L H' n m v := h.keep k
theorem cons_all {L : List Addr} {D : Addr} {H : Hp} {o : HO} (h : H D = some o) (hl : ∀ b ∈ L, H b ≠ none) : ∀ b ∈ D :: L, H b ≠ none := allC (by rw [h]; simp) hl
end My

set_option Elab.async false
set_option linter.all false
set_option maxRecDepth 100000
set_option maxHeartbeats 2000000
namespace My
open PySem PySem.Spec PyProof.Rows L2
/-! ### lists of columns, of any data -/
theorem cat_tx (l k : List Nat) : V.str ((⟨l.toArray⟩ : Str) ++ ⟨k.toArray⟩) = tx (l ++ k) := by
  show V.str ⟨l.toArray ++ k.toArray⟩ = V.str ⟨(l ++ k).toArray⟩
  simp
theorem eqv_ints_nil (ns : List Int) : PyData.eqv (.list (ns.map PyData.int)) (.list []) = ns.isEmpty := by
  cases ns with
  | nil => rfl
  | cons a ns => rfl
end My

set_option Elab.async false
set_option linter.all false
set_option maxRecDepth 100000
set_option maxHeartbeats 2000000
namespace My
open PySem PySem.Spec PyProof.Rows L2
/-! ### calls of defs that are promised where no repr is under way -/
/-! ### tables, of any data -/
theorem Sh.intS {n m : Nat} {i : Int} (h : i.natAbs < 1024) (hm : 10 ≤ m) : Sh n m (.int i) := by
  have h0 : Sh n 200 (.int i) := Sh.int (Nat.lt_of_lt_of_le h (by decide)) (Nat.le_refl _)
  refine ⟨h0.ok, h0.nd, h0.sh, h0.dp, ?_, h0.ly⟩
  have h1 : i.natAbs.log2 < 10 := by
    by_cases e : i.natAbs = 0
    · rw [e]
      decide
    · rw [Nat.log2_lt e]
      exact h
  simp only [PyData.weight]
  split <;> omega
theorem Th.intS {L : List Addr} {H : Hp} {n m : Nat} {i : Int} (h : i.natAbs < 1024) (hm : 10 ≤ m) : Th L H n m (.int i) := ⟨.int i, .int i, Sh.intS h hm, Nat.zero_le _⟩
theorem Sh.codes {n m : Nat} {l : List Nat} (h : Sh n m (.str (txS l))) : ∀ c ∈ l, c < 0x110000 := fun c hc => by
  have h1 : (txS l).cps.all (· < 0x110000) = true := h.ly
  rw [Array.all_eq_true'] at h1
  exact of_decide_eq_true (h1 c (by simpa using hc))
end My
namespace My
open PySem PySem.Spec PyProof.Rows L2
end My

set_option Elab.async false
set_option linter.all false
set_option maxRecDepth 100000
set_option maxHeartbeats 2000000
namespace My
open PySem PySem.Spec PyProof.Rows L2
end My
namespace My
open PySem PySem.Spec PyProof.Rows L2
theorem th3 {L : List Addr} {H : Hp} {p : Addr} {v u x : V} (np : p ∉ L) (hp : H p = some (.tup ([v, u] ++ [x]))) (hv : Th L H 2 1000 v) (hu : Th L H 3 61000 u) (hx : Th L H 0 10 x) : Th L H 4 89000 (.ref p) := by
  obtain ⟨e, g, t, y⟩ := hv
  obtain ⟨d, f, s, w⟩ := hu
  obtain ⟨c, k, z, j⟩ := hx
  have h1 := s.dp
  have h2 := t.dp
  have h3 := s.wt
  have h4 := t.wt
  have h5 := z.dp
  have h6 := z.wt
  refine ⟨.tuple [e, d, c], Fl.tup np hp (.cons g (.cons f (.cons k .nil))), ⟨?_, ?_, ?_, ?_, ?_, ?_⟩, ?_⟩
  · simp [PyData.showable, PyData.showableAll, s.ok, t.ok, z.ok]
  · simp [PyData.hasDict, PyData.hasDictAll, s.nd, t.nd, z.nd]
  · simp [PyData.leavesShort, PyData.leavesShortAll, s.sh, t.sh, z.sh]
  · simp only [PyData.depth, PyData.depthAll]
    omega
  · simp only [PyData.weight, PyData.weightAll]
    omega
  · simp [PyData.canLay0, PyData.canLayAll0, s.ly, t.ly, z.ly]
  · show max 3 (max (wd e) (max (wd d) (max (wd c) 0))) ≤ 89000
    omega
end My

set_option Elab.async false
set_option linter.all false
set_option maxRecDepth 100000
set_option maxHeartbeats 2000000
namespace My
open PySem PySem.Spec PyProof.Rows L2
/-! ### what is a need -/
theorem Sh.lim {n m : Nat} {l : List Nat} (h : Sh n m (.str (txS l))) : ∀ c ∈ l, c < 0x110000 := fun c hc => by
  have e1 : (txS l).cps.all (· < 0x110000) = true := h.ly
  rw [Array.all_eq_true'] at e1
  exact of_decide_eq_true (e1 c (by simpa using hc))
end My

set_option Elab.async false
set_option linter.all false
set_option maxRecDepth 100000
set_option maxHeartbeats 2000000
namespace My
open PySem PySem.Spec PyProof.Rows L2
/-! ### sorted texts -/
/-! ### used beginnings -/
/-! ### lists cut -/
/-! ### texts in lists -/
theorem inV_texts (o : List Nat) : ∀ l : List (List Nat), inV (tx o) (l.map tx) = decide (o ∈ l)
  | [] => rfl
  | a :: l => by
    have ih := inV_texts o l
    show ((txS a == txS o) || inV (tx o) (l.map tx)) = decide (o ∈ a :: l)
    rw [ih]
    by_cases e : a = o
    · rw [e]
      simp
    · have e2 : (txS a == txS o) = false := by
        rw [Bool.eq_false_iff]
        intro z
        exact e (txS_inj (by simpa using z))
      have e3 : ¬ o = a := fun z => e z.symm
      rw [e2]
      simp [e3]
theorem flat_texts (l : List (List Nat)) : (l.map tx).all flatV = true := by
  rw [List.all_eq_true]
  intro v hv
  obtain ⟨c, _, rfl⟩ := List.mem_map.mp hv
  rfl
end My

set_option Elab.async false
set_option linter.all false
set_option maxRecDepth 100000
set_option maxHeartbeats 2000000
namespace My
open PySem PySem.Spec PyProof.Rows L2
/-! ### tuples of texts as data -/
theorem depA_texts : ∀ fs : List (List Nat), PyData.depthAll (fs.map strD) = 0
  | [] => rfl
  | o :: fs => by
    show max (PyData.depth (strD o)) (PyData.depthAll (fs.map strD)) = 0
    rw [depA_texts fs]
    rfl
end My

set_option Elab.async false
set_option linter.all false
set_option maxRecDepth 100000
set_option maxHeartbeats 2000000
namespace My
open PySem PySem.Spec PyProof.Rows L2
/-! ### needs, one ahead of the other -/
abbrev Nd2 := List Nat × List Nat
/-! whether one list may serve both -/
/-! ### pairs, one right ahead of the other -/
end My

set_option Elab.async false
set_option linter.all false
set_option maxRecDepth 100000
set_option maxHeartbeats 2000000
namespace My
open PySem PySem.Spec PyProof.Rows L2
/-! ### needs as data -/
theorem lay_txt {l : List Nat} (h : ∀ c ∈ l, c ≤ 122) : PyData.canLay0 (.str (txS l)) = true := by
  show (txS l).cps.all (· < 0x110000) = true
  rw [Array.all_eq_true']
  intro c hc
  have := h c (by simpa using hc)
  exact decide_eq_true (by omega)
/-! ### dicts by numbers -/
theorem putK_mem {kvs : List (Key × V)} {k : Key} {v : V} {q : Key × V} (h : q ∈ putK kvs k v) : q = (k, v) ∨ (q ∈ kvs ∧ q.1 ≠ k) := by
  unfold putK at h
  split at h
  · obtain ⟨r, hr, e⟩ := List.mem_map.mp h
    by_cases z : r.1 = k
    · rw [if_pos z] at e
      exact .inl (by rw [← e, z])
    · rw [if_neg z] at e
      exact .inr (by rw [← e]; exact ⟨hr, z⟩)
  · rename_i hn
    rcases List.mem_append.mp h with z | z
    · refine .inr ⟨z, fun y => hn ?_⟩
      rw [List.any_eq_true]
      exact ⟨q, z, decide_eq_true y⟩
    · exact .inl (List.mem_singleton.mp z)
end My

set_option Elab.async false
set_option linter.all false
set_option maxRecDepth 100000
set_option maxHeartbeats 2000000
namespace My
open PySem PySem.Spec PyProof.Rows L2
/-! ### needs in a list; what stays -/
theorem Sx.more {L L' : List Addr} {H H' : Hp} (s : Sx L H H') (h : ∀ b ∈ L, b ∈ L') : Sx L' H H' := fun b o nb e => s b o (fun z => nb (h b z)) e
theorem Sx.cons {L : List Addr} {H H' : Hp} (s : Sx L H H') (a : Addr) : Sx (a :: L) H H' := s.more fun b h => List.mem_cons_of_mem _ h
theorem TG.upd {Ps : List Addr} {H : Hp} {a : Addr} {o : HO} (t : TG Ps H) (h : a ∉ Ps) : TG Ps (L2.upd H a o) := fun P hP => by
  obtain ⟨ps, h1, r⟩ := t P hP
  exact ⟨ps, keep_ne h1 fun z => h (z ▸ hP), r⟩
end My

set_option Elab.async false
set_option linter.all false
set_option maxRecDepth 100000
set_option maxHeartbeats 2000000
namespace My
open PySem PySem.Spec PyProof.Rows L2
/-! ### chains -/
/-! ### the first of like ones -/
def ixN (p : Nd2) : List Nd2 → Nat
  | [] => 0
  | q :: l => if q = p then 0 else ixN p l + 1
/-! ### the fewest lists -/
/-! ### the list for a chain, bounds -/
end My

set_option Elab.async false
set_option linter.all false
set_option maxRecDepth 100000
set_option maxHeartbeats 2000000
namespace My
open PySem PySem.Spec PyProof.Rows L2
theorem dp_texts {K : PySem.W.Frag} {H : Hp} : ∀ ls : List (List Nat), DpAll K H (ls.map tx) (ls.map strD)
  | [] => .nil
  | l :: ls => .cons (.str _) (dp_texts ls)
theorem lay_texts : ∀ {ls : List (List Nat)}, (∀ l ∈ ls, ∀ c ∈ l, c ≤ 122) → PyData.canLayAll0 (ls.map strD) = true
  | [], _ => by simp [PyData.canLayAll0]
  | l :: ls, h => by
    rw [List.map_cons]
    show (PyData.canLay0 (strD l) && PyData.canLayAll0 (ls.map strD)) = true
    rw [show PyData.canLay0 (strD l) = true from lay_txt (h l (by simp)), lay_texts fun q hq => h q (by simp [hq])]
    rfl
theorem shaped_texts {ls : List (List Nat)} (h : ∀ l ∈ ls, ∀ c ∈ l, c ≤ 122) : SeqAt.shaped (.list (ls.map strD)) = true := by
  unfold SeqAt.shaped
  have h1 : PyData.canLay0 (.list (ls.map strD)) = true := lay_texts h
  have h2 := depA_texts ls
  rw [h1, Bool.true_and]
  refine decide_eq_true ?_
  simp only [PyData.depth]
  omega
end My

set_option Elab.async false
set_option linter.all false
set_option maxRecDepth 100000
set_option maxHeartbeats 2000000
namespace My
/-! ### all lists of some columns; what a list costs hangs on its used letters alone -/
/-- the lists with k letters, as they are made: each list with one letter less, and behind it each letter that it lacks -/
def longM (cols : List Nat) : Nat → List (List Nat)
  | 0 => [[]]
  | k + 1 => (longM cols k).flatMap fun o => (cols.filter fun c => decide (c ∉ o)).map fun c => o ++ [c]
def listsM (cols : List Nat) (n : Nat) : List (List Nat) := (List.range n).flatMap fun k => longM cols (k + 1)
theorem nodup_snoc {o : List Nat} {c : Nat} : (o ++ [c]).Nodup ↔ o.Nodup ∧ c ∉ o := by
  rw [List.nodup_append]
  constructor
  · rintro ⟨a, _, d⟩
    exact ⟨a, fun z => d c z c (List.mem_singleton.mpr rfl) rfl⟩
  · rintro ⟨a, n⟩
    refine ⟨a, by simp, fun x hx y hy e => n ?_⟩
    rw [← List.mem_singleton.mp hy, ← e]
    exact hx
theorem long_mem {cols : List Nat} : ∀ {k : Nat} {o : List Nat}, o ∈ longM cols k ↔ o.length = k ∧ o.Nodup ∧ ∀ c ∈ o, c ∈ cols
  | 0, o => by
    show o ∈ [[]] ↔ _
    rw [List.mem_singleton]
    constructor
    · rintro rfl
      exact ⟨rfl, .nil, fun c h => nomatch h⟩
    · rintro ⟨e, _⟩
      exact List.length_eq_zero_iff.mp e
  | k + 1, o => by
    show o ∈ (longM cols k).flatMap _ ↔ _
    rw [List.mem_flatMap]
    constructor
    · rintro ⟨p, hp, ho⟩
      obtain ⟨c, hc, rfl⟩ := List.mem_map.mp ho
      obtain ⟨hc1, hc2⟩ := List.mem_filter.mp hc
      obtain ⟨l, nd, sub⟩ := long_mem.mp hp
      refine ⟨by rw [List.length_append, l]; rfl, nodup_snoc.mpr ⟨nd, of_decide_eq_true hc2⟩, fun d hd => ?_⟩
      rcases List.mem_append.mp hd with z | z
      · exact sub d z
      · rw [List.mem_singleton.mp z]
        exact hc1
    · rintro ⟨l, nd, sub⟩
      have ne : o ≠ [] := fun z => by rw [z] at l; cases l
      have e : o.dropLast ++ [o.getLast ne] = o := List.dropLast_concat_getLast ne
      rw [← e] at nd sub
      obtain ⟨nd1, nd2⟩ := nodup_snoc.mp nd
      refine ⟨o.dropLast, long_mem.mpr ⟨by rw [List.length_dropLast, l]; rfl, nd1, fun d hd => sub d (List.mem_append_left _ hd)⟩, List.mem_map.mpr ⟨o.getLast ne, List.mem_filter.mpr ⟨sub _ (List.mem_append_right _ (List.mem_singleton.mpr rfl)), decide_eq_true nd2⟩, e⟩⟩
theorem lists_mem {cols : List Nat} {n : Nat} {o : List Nat} : o ∈ listsM cols n ↔ o ≠ [] ∧ o.length ≤ n ∧ o.Nodup ∧ ∀ c ∈ o, c ∈ cols := by
  unfold listsM
  rw [List.mem_flatMap]
  constructor
  · rintro ⟨k, hk, ho⟩
    obtain ⟨l, r⟩ := long_mem.mp ho
    have := List.mem_range.mp hk
    exact ⟨(fun z => by rw [z] at l; exact nomatch l), (by omega), r⟩
  · rintro ⟨ne, le, r⟩
    have pos : 0 < o.length := List.length_pos_iff.mpr ne
    exact ⟨o.length - 1, List.mem_range.mpr (by omega), long_mem.mpr ⟨by omega, r⟩⟩
theorem price_alike {cols : List Nat} {rows : List (List Int)} {o o' : List Nat} {es : List (Nat × Int)} {rc : Option (Nat × Int × Int)} (h : usedM o es rc = usedM o' es rc) : priceM cols rows o es rc = priceM cols rows o' es rc := by
  unfold priceM aheadM behindM
  rw [h]
/-! ### chosen by and by: the order in which lists were chosen is one that the search meets -/
section
variable (sv most : List (List Nat) → Int) (choice : List (List Nat)) (many : Nat)
variable {sv most choice many}
end
/-- what the asks cost hangs on which lists are chosen, not on their order -/
theorem asked_alike {cols : List Nat} {rows : List (List Int)} {as : List Ask} {ch ch' : List (List Nat)} (hok : AsksOk cols as) (h : ∀ o, o ∈ ch ↔ o ∈ ch') : askedM cols rows ch as = askedM cols rows ch' as :=
  Int.le_antisymm (asked_le hok fun _ _ o ho => ⟨o, (h o).mpr ho, Int.le_refl _⟩) (asked_le hok fun _ _ o ho => ⟨o, (h o).mp ho, Int.le_refl _⟩)
end My

set_option Elab.async false
set_option linter.all false
set_option maxRecDepth 100000
set_option maxHeartbeats 2000000
namespace My
open PySem PySem.Spec PyProof.Rows L2
/-! ### min(list, key=function): the first item whose key is least -/
/-- the frame X while a built-in that it called runs; nothing is let out -/
abbrev inB (X : Cx) : Cx := { X with A := X.A.in1, xe := fun _ _ => False }
section
variable {X : Cx} {pins : List (Addr × Obj)} {σ : L2.St} {H : Hp} {s : Shared}
end
section
variable {Y : Cx} {pn : List (Addr × Obj)} {σ : L2.St} {a it S : Addr} {items : Array Value} {c i : Nat} {H : Hp} {s : Shared}
end
section
variable {Y : Cx} {A : Around} {pn : List (Addr × Obj)} {σ : L2.St} {a it S f : Addr} {xs : List V} {kr : V → Hp → VK → Prop} {r : R2} {W : Nat → V → V → Hp → Prop}
end
section
variable {X : Cx} {pn : List (Addr × Obj)} {σ : L2.St} {a f : Addr} {xs : List V} {kr : V → Hp → VK → Prop} {r : R2} {W : Nat → V → V → Hp → Prop}
end
end My

set_option Elab.async false
set_option linter.all false
set_option maxRecDepth 100000
set_option maxHeartbeats 2000000
namespace My
open PySem PySem.Spec PyProof.Rows L2
/-! ### for x, y, z in zip(a, b, c) over three lists -/
/-- the new objects of zip(a, b, c) over the heap h, the last one first -/
abbrev liO (l : Addr) : Obj := { cls := .type "list_iterator", data := .fields #[.ref l, .int 0 0] }
abbrev tuO (a b c : Value) : Obj := { cls := .type "tuple", data := .seq #[a, b, c] }
abbrev grown3 (h : Heap) (a b c : Addr) : Heap :=
  let n := h.objs.size
  (((((h.push (liO a)).push (liO b)).push (liO c)).push (tuO (.ref n) (.ref (n + 1)) (.ref (n + 2)))).push (tuO .none .none .none)).push { cls := .type "zip", data := .fields #[.none, .bool false, .bool false, .ref (n + 3), .ref (n + 4)] }
theorem zip3_new (a b c : Addr) (xs ys zs : Array Value) :
    Meets (Builtin.«zip.__new__» ⟨[.type "zip", .ref a, .ref b, .ref c], []⟩) (fun _ R s => s.heap.IsList a xs ∧ s.heap.IsList b ys ∧ s.heap.IsList c zs ∧ R (.ok (.ret (.ref (s.heap.objs.size + 5)))) { s with heap := grown3 s.heap a b c }) :=
  .of_wp fun prog w A R s h => by
    obtain ⟨hp, g, d, tk, os⟩ := s
    obtain ⟨la, lb, lc, h⟩ := h
    have isZ := sub_zip
    have at1 : Heap.IsList (Shared.heap ⟨hp, g, d, tk, os⟩) a xs := la
    have at2 : Heap.IsList (Shared.heap ⟨hp.push (liO a), g, d, tk, os⟩) b ys := Heap.IsList.push lb _
    have at3 : Heap.IsList (Shared.heap ⟨(hp.push (liO a)).push (liO b), g, d, tk, os⟩) c zs := Heap.IsList.push (Heap.IsList.push lc _) _
    simp only [grown3] at h
    have e1 : (hp.push (liO a)).objs.size = hp.objs.size + 1 := Heap.size_push ..
    have e2 : ((hp.push (liO a)).push (liO b)).objs.size = hp.objs.size + 2 := by rw [Heap.size_push, e1]
    have e3 : (((hp.push (liO a)).push (liO b)).push (liO c)).objs.size = hp.objs.size + 3 := by rw [Heap.size_push, e2]
    have e4 : ∀ o, ((((hp.push (liO a)).push (liO b)).push (liO c)).push o).objs.size = hp.objs.size + 4 := fun o => by rw [Heap.size_push, e3]
    have e5 : ∀ o o', (((((hp.push (liO a)).push (liO b)).push (liO c)).push o).push o').objs.size = hp.objs.size + 5 := fun o o' => by rw [Heap.size_push, e4]
    wp_walk using wpAny_pyIter_list at1, wpAny_pyIter_list at2, wpAny_pyIter_list at3
    refine ⟨_, rfl, ?_⟩
    simp only [liO, tuO] at *
    simp only [e1, e2, e3, e4, e5]
    exact h
end My

set_option Elab.async false
set_option linter.all false
set_option maxRecDepth 100000
set_option maxHeartbeats 2000000
namespace My
open PySem PySem.Spec PyProof.Rows L2
/-- the cells of a walk over zip(a, b, c) -/
structure Z3 where
  z : Addr
  TI : Addr
  TO : Addr
  i : Addr
  j : Addr
  k : Addr
abbrev Z3.fp (Z : Z3) : List Addr := [Z.z, Z.TI, Z.TO, Z.i, Z.j, Z.k]
abbrev Z3.wr (Z : Z3) : List Addr := [Z.z, Z.TO, Z.i, Z.j, Z.k]
theorem wr_fp {Z : Z3} {x : Addr} (h : x ∈ [Z.z, Z.TO, Z.i, Z.j, Z.k]) : x ∈ Z.fp := by
  simp only [List.mem_cons, List.not_mem_nil, or_false] at h
  rcases h with e | e | e | e | e <;> simp [e]
/-- m turns of it are over -/
structure Z3At (Z : Z3) (a b c : Addr) (m : Nat) (h : Heap) : Prop where
  zip : IsZip h Z.z Z.TI Z.TO .none
  its : IsTupOf3 h Z.TI (.ref Z.i) (.ref Z.j) (.ref Z.k)
  out : ∃ u v w, IsTupOf3 h Z.TO u v w
  i : h.IsListIter Z.i a m
  j : h.IsListIter Z.j b m
  k : h.IsListIter Z.k c m
theorem IsListIter.ob {h : Heap} {i l : Addr} {n : Nat} (s : h.IsListIter i l n) : ∃ o, h.get? i = some o ∧ ∀ v, o.data ≠ .cell v := by
  obtain ⟨o, e, _, d⟩ := s
  exact ⟨o, e, fun v z => by rw [d] at z; cases z⟩
theorem Z3At.obj {Z : Z3} {a b c : Addr} {m : Nat} {h : Heap} (s : Z3At Z a b c m h) : ∀ x ∈ Z.fp, ∃ o, h.get? x = some o ∧ ∀ v, o.data ≠ .cell v := fun x hx => by
  simp only [List.mem_cons, List.not_mem_nil, or_false] at hx
  obtain ⟨_, _, _, so⟩ := s.out
  rcases hx with e | e | e | e | e | e <;> rw [e]
  · exact ⟨_, s.zip, fun v z => nomatch z⟩
  · exact ⟨_, s.its, fun v z => nomatch z⟩
  · exact ⟨_, so, fun v z => nomatch z⟩
  · exact IsListIter.ob s.i
  · exact IsListIter.ob s.j
  · exact IsListIter.ob s.k
theorem Z3At.keep {Z : Z3} {a b c : Addr} {m : Nat} {h h' : Heap} (s : Z3At Z a b c m h) (kp : ∀ x ∈ Z.fp, ∀ o, h.get? x = some o → h'.get? x = some o) : Z3At Z a b c m h' := by
  obtain ⟨u, v, w, so⟩ := s.out
  exact ⟨kp _ (by simp) _ s.zip, kp _ (by simp) _ s.its, ⟨u, v, w, kp _ (by simp) _ so⟩, s.i.at (kp _ (by simp)), s.j.at (kp _ (by simp)), s.k.at (kp _ (by simp))⟩
/-- the lists as they stand at each turn, their items in a new tuple -/
def It3 (K : PySem.W.Frag) (a b c : Addr) : It :=
  ⟨fun i H => ∃ (xs ys zs : List V) (x y z : V), SqL K H a xs ∧ SqL K H b ys ∧ SqL K H c zs ∧ xs[i]? = some x ∧ ys[i]? = some y ∧ zs[i]? = some z,
    fun i H v H' => ∃ (T : Addr) (x y z : V), v = .ref T ∧ H T = none ∧ H' = upd H T (.tup [x, y, z]) ∧ (∀ xs, SqL K H a xs → xs[i]? = some x) ∧ (∀ ys, SqL K H b ys → ys[i]? = some y) ∧ ∀ zs, SqL K H c zs → zs[i]? = some z,
    fun i H => ∃ xs ys zs : List V, SqL K H a xs ∧ SqL K H b ys ∧ SqL K H c zs ∧ xs.length = i ∧ ys.length = i ∧ zs.length = i⟩
/-- the library's walk over lists that stand still, at one heap -/
def walk3 {P : Program} {w : World} {A : Around} (hA : A.handled = none) {Z : Z3} {a b c : Addr} (S : ZipSep3 Z.z Z.TI Z.TO Z.i Z.j Z.k [Z.i, a] [Z.j, b] [Z.k, c]) (ne : a ≠ Z.i ∧ b ≠ Z.j ∧ c ≠ Z.k) (xs ys zs : Array Value) :=
  WalksT.zipD3 (A := A) S (Draws.list (prog := P) (w := w) (A := A.in1) hA Z.i a ne.1 xs) (Draws.list (prog := P) (w := w) (A := A.in1) hA Z.j b ne.2.1 ys) (Draws.list (prog := P) (w := w) (A := A.in1) hA Z.k c ne.2.2 zs)
theorem vals3 {x y z : V} {u v w : Value} (a : RelV x u) (b : RelV y v) (c : RelV z w) : Vals [x, y, z] [u, v, w] := .cons a (.cons b (.cons c .nil))
theorem turn_zip3 {P : Program} {w : World} {K : PySem.W.Frag} {elts : List Expr} {kk : Nat} {tpos : Pos} {Z : Z3} {a b c : Addr} (S : ZipSep3 Z.z Z.TI Z.TO Z.i Z.j Z.k [Z.i, a] [Z.j, b] [Z.k, c]) (ne : a ≠ Z.i ∧ b ≠ Z.j ∧ c ≠ Z.k) :
    Turn P w K (.Tuple elts kk tpos) (It3 K a b c) Z.fp Z.z (Z3At Z a b c) where
  mem := List.mem_cons_self
  obj := fun _ _ st => st.obj
  keep := fun _ _ _ st kp => st.keep kp
  item := by
    rintro X rfl rfl rfl hc i pins s σ H E I free st ⟨xs, ys, zs, x, y, z, qx, qy, qz, hx, hy, hz⟩
    obtain ⟨us, ru, lu, _⟩ := I.list qx
    obtain ⟨vs, rv, lv, _⟩ := I.list qy
    obtain ⟨ws, rw', lw, _⟩ := I.list qz
    obtain ⟨u, hu, ru1⟩ := ru.get hx
    obtain ⟨v, hv, rv1⟩ := rv.get hy
    obtain ⟨w, hw, rw1⟩ := rw'.get hz
    have W := walk3 (P := X.prog) (w := X.w) (A := X.A) (I.ok.hd hc) S ne us.toArray vs.toArray ws.toArray
    have lt : i < min (min us.toArray.size vs.toArray.size) ws.toArray.size := by
      have h1 := (List.getElem?_eq_some_iff.mp hu).1
      have h2 := (List.getElem?_eq_some_iff.mp hv).1
      have h3 := (List.getElem?_eq_some_iff.mp hw).1
      simp only [List.size_toArray]
      omega
    refine W.item i s _ E lt ⟨st.zip, st.its, st.out, ⟨st.i, lu.isList⟩, ⟨st.j, lv.isList⟩, ⟨st.k, lw.isList⟩⟩ fun T vals h' tk pt late tup mid kp => ?_
    refine ⟨.ref T, rfl, W.go elts kk tpos i T { s with heap := h', toks := tk } _ E mid fun h2 st2 kp2 => ?_⟩
    have tup2 : h2.IsTuple T vals := tup.at fun o e => kp2 _ _ (W.apart _ _ _ mid) e
    obtain ⟨u', v', w', hu', hv', hw', rfl⟩ := pt
    obtain rfl : u = u' := by simpa [hu] using hu'
    obtain rfl : v = v' := by simpa [hv] using hv'
    obtain rfl : w = w' := by simpa [hw] using hw'
    obtain ⟨s1, s2, s3, s4, s5, s6⟩ := st2
    have all : ∀ d o, d ∉ Z.fp → s.heap.get? d = some o → h2.get? d = some o := fun d o n e => kp2 d o (fun z => n (wr_fp z)) (kp d o (fun z => n (wr_fp z)) e)
    have new : ObjOk X.prog X.w (upd H T (.tup [x, y, z])) h2 T (.tup [x, y, z]) := ⟨by show 3 ≤ sizeLine; decide, [u, v, w], vals3 ru1 rv1 rw1, tup2⟩
    have J : Inv X pins σ (upd H T (.tup [x, y, z])) { s with heap := h2, toks := tk } := I.turnedNew (ch := Z.fp) all free late new
    exact ⟨.ref T, _, J, rfl, ⟨T, x, y, z, rfl, I.hok.fresh late, rfl, fun l q => by rw [I.list_inj q qx]; exact hx, fun l q => by rw [I.list_inj q qy]; exact hy, fun l q => by rw [I.list_inj q qz]; exact hz⟩, ⟨s1, s2, s3, s4.1, s5.1, s6.1⟩, fun d hd => by
      obtain ⟨o, e, _⟩ := st.obj d hd
      rw [upd_ne (Nat.ne_of_lt (Nat.lt_of_lt_of_le (Heap.lt_size e) late))]
      exact (free d hd).1⟩
  done := by
    rintro X rfl rfl rfl hc i pins s σ H E I free st ⟨xs, ys, zs, qx, qy, qz, hx, hy, hz⟩
    obtain ⟨us, ru, lu, _⟩ := I.list qx
    obtain ⟨vs, rv, lv, _⟩ := I.list qy
    obtain ⟨ws, rw', lw, _⟩ := I.list qz
    have W := walk3 (P := X.prog) (w := X.w) (A := X.A) (I.ok.hd hc) S ne us.toArray vs.toArray ws.toArray
    have e : min (min us.toArray.size vs.toArray.size) ws.toArray.size = i := by
      have h1 := ru.length
      have h2 := rv.length
      have h3 := rw'.length
      simp only [List.size_toArray]
      omega
    refine W.done s _ E (e.symm ▸ ⟨st.zip, st.its, st.out, ⟨st.i, lu.isList⟩, ⟨st.j, lv.isList⟩, ⟨st.k, lw.isList⟩⟩) fun h' tk kp => ⟨rfl, I.turnedL (ch := Z.fp) (fun d o n q => kp d o (fun z => n (wr_fp z)) q) free⟩
  self := fun _ _ _ _ _ st h => wpAny_pyIter_zip st.zip h
end My

set_option Elab.async false
set_option linter.all false
set_option maxRecDepth 100000
set_option maxHeartbeats 2000000
namespace My
open PySem PySem.Spec PyProof.Rows L2
theorem zip3_type (a b c : Value) : checkTypeCall "zip" ⟨[a, b, c], []⟩ = pure () := by kernel_rfl
theorem zip3_check (a b c : Value) : checkBuiltinCall "zip.__new__" ⟨[.type "zip", a, b, c], []⟩ = pure () := by kernel_rfl
theorem init4 (a b c d : Value) : argsOk "object.__init__" ⟨[a, b, c, d], []⟩ := by
  unfold argsOk
  rw [signature?_of (id := "object.__init__") (n := ['_', '_', 't', 'i', 'n', 'i', '_', '_']) (o := ['t', 'c', 'e', 'j', 'b', 'o']) (by kernel_rfl) F.owner_object]
  kernel_rfl
section
variable {prog : Program} {w : World} {A : Around} {E : Value → Shared → Prop} {s : Shared} {a b c : Addr} {xs ys zs : Array Value}
/-- the cells of zip(a, b, c) made at a heap of n objects -/
abbrev cells3 (n : Nat) : Z3 := ⟨n + 5, n + 3, n + 4, n, n + 1, n + 2⟩
theorem call_zip3 {Q : Value → Shared → Prop} (la : s.heap.IsList a xs) (lb : s.heap.IsList b ys) (lc : s.heap.IsList c zs)
    (h : ∀ h', Z3At (cells3 s.heap.objs.size) a b c 0 h' → (∀ d o, s.heap.get? d = some o → h'.get? d = some o) → Q (.ref (s.heap.objs.size + 5)) { s with heap := h' }) :
    wpAny (model prog w) A (call (.type "zip") [.ref a, .ref b, .ref c]) Q E s := by
  refine callType_new F.called_zip (by decide) (zip3_type _ _ _) (zip3_check _ _ _) (fun obj => init4 obj _ _ _) F.entry_zip_new (zip3_new a b c xs ys zs) ⟨la, lb, lc, ?_⟩
  generalize hh : s.heap = h0 at h ⊢
  generalize hn : h0.objs.size = n at h ⊢
  have up : ∀ {h : Heap} {o o' : Obj} {x : Addr}, h.get? x = some o → (h.push o').get? x = some o := fun e => Heap.get?_push_of_some _ e
  have top : ∀ {h : Heap} {o : Obj} {x : Addr}, h.objs.size = x → o.isFreed = false → (h.push o).get? x = some o := fun e f => e ▸ Heap.get?_push_size _ f
  have sz : ∀ {h : Heap} {o : Obj} {k : Nat}, h.objs.size = k → (h.push o).objs.size = k + 1 := fun e => by rw [Heap.size_push, e]
  have z1 := sz (o := liO a) hn
  have z2 := sz (o := liO b) z1
  have z3 := sz (o := liO c) z2
  have z4 := sz (o := tuO (.ref n) (.ref (n + 1)) (.ref (n + 2))) z3
  have z5 := sz (o := tuO .none .none .none) z4
  have eg : grown3 h0 a b c = (((((h0.push (liO a)).push (liO b)).push (liO c)).push (tuO (.ref n) (.ref (n + 1)) (.ref (n + 2)))).push (tuO .none .none .none)).push { cls := .type "zip", data := .fields #[.none, .bool false, .bool false, .ref (n + 3), .ref (n + 4)] } := by
    simp only [grown3, hn]
  rw [eg]
  refine ⟨⟨_, top z5 rfl, rfl⟩, h _ ⟨top z5 rfl, up (up (top z3 rfl)), ⟨_, _, _, up (top z4 rfl)⟩, ⟨_, up (up (up (up (up (top hn rfl))))), rfl, rfl⟩, ⟨_, up (up (up (up (top z1 rfl)))), rfl, rfl⟩, ⟨_, up (up (up (top z2 rfl))), rfl, rfl⟩⟩ fun d o e => up (up (up (up (up (up e)))))⟩
end
theorem apart3 {n a b c : Nat} (la : a < n) (lb : b < n) (lc : c < n) : ZipSep3 (n + 5) (n + 3) (n + 4) n (n + 1) (n + 2) [n, a] [n + 1, b] [n + 2, c] := by
  constructor <;> first
    | (intro e; have e' : (_ : Nat) = _ := e; omega)
    | (intro e; simp only [List.mem_cons, List.not_mem_nil, or_false] at e; rcases e with e | e <;> (have e' : (_ : Nat) = _ := e; omega))
    | simp
def iZip3 (K : PySem.W.Frag) (ta : TA) : TI := fun σ H R => ta σ H fun vs H1 => ∃ (a b c : Addr) (xs ys zs : List V), vs = [.ref a, .ref b, .ref c] ∧ SqL K H1 a xs ∧ SqL K H1 b ys ∧ SqL K H1 c zs ∧ R (It3 K a b c) H1
theorem pi_zip3 {X : Cx} {e e2 e3 : Expr} {ta : TA} {p pos tpos : Pos} {elts : List Expr} {kk : Nat} (K : PySem.W.Frag) (hg : Gl X "zip") (hm : X.mg "zip" = none) (ha : PA X [e, e2, e3] ta) (hK : X.K = K := by rfl)
    (hs : starEach [e, e2, e3] X.env = (false, eval e X.env) :: starEach [e2, e3] X.env := by rfl) (hpl : (backTo pos (starEach [e2, e3] X.env)).any (·.1) = false := by rfl) :
    PI X (.Tuple elts kk tpos) (.Call (.Name "zip" p) [e, e2, e3] [] pos) (iZip3 K ta) := by
  subst hK
  constructor
  intro pins s σ H R I h
  refine Call_ (ld_blt I hg hm PyProof.Rows.boot_zip (PyProof.Rows.callWith_type1 (thn (ha.run pos pins s σ H _ I h) fun us s1 h1 => ?_) hs hpl))
  obtain ⟨vs, H1, I1, r1, a, b, c, xs, ys, zs, rfl, qx, qy, qz, q⟩ := h1
  obtain ⟨its, _, la, _⟩ := I1.list qx
  obtain ⟨its2, _, lb, _⟩ := I1.list qy
  obtain ⟨its3, _, lc, _⟩ := I1.list qz
  match us, r1 with
  | [_, _, _], .cons rfl (.cons rfl (.cons rfl .nil)) =>
    refine call_zip3 la.isList lb.isList lc.isList fun h' at0 kp => wpAny_pyIter_zip at0.zip ?_
    refine ⟨_, _, _, _, H1, rfl, I1.kept (t' := s1.toks) kp, turn_zip3 (Z := cells3 s1.heap.objs.size) (apart3 la.lt lb.lt lc.lt) ⟨Nat.ne_of_lt la.lt, Nat.ne_of_lt (Nat.lt_succ_of_lt lb.lt), Nat.ne_of_lt (Nat.lt_succ_of_lt (Nat.lt_succ_of_lt lc.lt))⟩, at0, fun d hd => ?_, q⟩
    have late : s1.heap.objs.size ≤ d := by
      simp only [List.mem_cons, List.not_mem_nil, or_false] at hd
      rcases hd with z | z | z | z | z | z <;> (rw [z]; first | exact Nat.le_add_right _ _ | exact Nat.le_refl _)
    exact I1.fpOk late (I1.hok.fresh late)
end My

set_option Elab.async false
set_option linter.all false
set_option maxRecDepth 100000
set_option maxHeartbeats 2000000
namespace My
open PySem PySem.Spec PyProof.Rows L2
open NdefX (NScope nscB nscope_by)
/-! ### what is told of a lambda's text -/
/-- the turns of a walk, whatever one turn asks -/
theorem turns {J : It} {n : Nat} {G : Hp → Prop} {Y : Nat → Hp → V → Hp → Prop} (w : Walk J n G Y) {Qd : Hp → Prop} {B : (Hp → Prop) → V → Hp → Prop} {H1 : Hp} (Pv : Nat → Hp → Prop) (h0 : Pv 0 H1) (hG : ∀ i H, i ≤ n → Pv i H → G H)
    (hs : ∀ i x H H', i < n → Pv i H → Y i H x H' → B (Pv (i + 1)) x H') (hd : ∀ H, Pv n H → Qd H) :
    ∃ W : Nat → Nat → Hp → Prop, (∃ m, W 0 m H1) ∧ ∀ i m H, W i m H → (J.stop i H ∧ Qd H) ∨ (J.go i H ∧ ∃ Nx : Hp → Prop, (∀ H', Nx H' → ∃ m', m' < m ∧ W (i + 1) m' H') ∧ ∀ x H', J.yld i H x H' → B Nx x H') := by
  refine ⟨fun i m H => i + m = n ∧ Pv i H, ⟨n, Nat.zero_add n, h0⟩, fun i m H ⟨e, p⟩ => ?_⟩
  have le : i ≤ n := by omega
  cases m with
  | zero =>
    obtain rfl : i = n := e
    exact .inl ⟨w.stops H (hG _ H le p), hd H p⟩
  | succ m => exact .inr ⟨w.goes i H (by omega) (hG _ H le p), Pv (i + 1), fun H' q => ⟨m, Nat.lt_succ_self m, by omega, q⟩, fun x H' y => hs i x H H' (by omega) p (w.yields i H x H' (by omega) (hG _ H le p) y)⟩
/-! ### how many lists there are -/
theorem long_len (cols : List Nat) : ∀ k, (longM cols k).length ≤ cols.length ^ k
  | 0 => Nat.le_refl _
  | k + 1 => by
    have ih := long_len cols k
    show ((longM cols k).flatMap _).length ≤ _
    have key : ∀ l : List (List Nat), (l.flatMap fun o => (cols.filter fun c => decide (c ∉ o)).map fun c => o ++ [c]).length ≤ l.length * cols.length := by
      intro l
      induction l with
      | nil => simp
      | cons o l ih2 =>
        rw [List.flatMap_cons, List.length_append, List.length_map, List.length_cons, Nat.succ_mul]
        have := List.length_filter_le (fun c => decide (c ∉ o)) cols
        omega
    rw [Nat.pow_succ]
    exact Nat.le_trans (key _) (Nat.mul_le_mul_right _ ih)
theorem long_small {cols : List Nat} {k : Nat} (h : cols.length ≤ 6) (hk : k ≤ 6) : (longM cols k).length ≤ 46656 :=
  Nat.le_trans (long_len cols k) (Nat.le_trans (Nat.pow_le_pow_left h k) (Nat.le_trans (Nat.pow_le_pow_right (by decide) hk) (by decide)))
theorem lists_succ (cols : List Nat) (n : Nat) : listsM cols (n + 1) = listsM cols n ++ longM cols (n + 1) := by
  unfold listsM
  rw [List.range_succ, List.flatMap_append]
  simp
theorem lists_small {cols : List Nat} (h : cols.length ≤ 6) : ∀ {n : Nat}, n ≤ 6 → (listsM cols n).length ≤ n * 46656
  | 0, _ => by
    show ([] : List (List Nat)).length ≤ _
    simp
  | n + 1, hn => by
    have ih := lists_small h (n := n) (by omega)
    have h1 := long_small (k := n + 1) h hn
    rw [lists_succ, List.length_append]
    omega
/-- one turn of the inner walk -/
theorem flat_snoc {α β : Type} (f : α → List β) (l : List α) (i : Nat) (a : α) (h : l[i]? = some a) : (l.take (i + 1)).flatMap f = (l.take i).flatMap f ++ f a := by
  obtain ⟨lt, e⟩ := List.getElem?_eq_some_iff.mp h
  rw [List.take_succ_eq_append_getElem lt, List.flatMap_append, e]
  simp
theorem flat_take {α β : Type} (f : α → List β) (l : List α) (n : Nat) : ((l.take n).flatMap f).length ≤ (l.flatMap f).length := by
  conv => rhs; rw [← List.take_append_drop n l, List.flatMap_append, List.length_append]
  exact Nat.le_add_right _ _
theorem filter_snoc {α : Type} (p : α → Bool) (l : List α) (i : Nat) (a : α) (h : l[i]? = some a) : (l.take (i + 1)).filter p = (l.take i).filter p ++ (if p a = true then [a] else []) := by
  obtain ⟨lt, e⟩ := List.getElem?_eq_some_iff.mp h
  rw [List.take_succ_eq_append_getElem lt, List.filter_append, e]
  congr 1
  by_cases q : p a = true <;> simp [q]
end My

set_option Elab.async false
set_option linter.all false
set_option maxRecDepth 100000
set_option maxHeartbeats 2000000
namespace My
open PySem PySem.Spec PyProof.Rows L2
/-! ### walks over what is a list or a tuple; the turns of a zip of three -/
/-- a list or a tuple of these -/
def SqA (K : PySem.W.Frag) (H : Hp) (a : Addr) (xs : List V) : Prop := SqL K H a xs ∨ SqT K H a xs
theorem SqA.same {K : PySem.W.Frag} {H H' : Hp} {a : Addr} {xs : List V} (h : SqA K H a xs) (s : Same H H') : SqA K H' a xs := h.imp (fun z => s.seq z) fun z => z.imp (fun y => y.imp (fun e => s _ _ e) fun ⟨o, e⟩ => ⟨o, s _ _ e⟩) id
def iSeq (K : PySem.W.Frag) (te : TE) : TI := fun σ H R => te σ H fun x H1 => ∃ (a : Addr) (xs : List V), x = .ref a ∧ SqA K H1 a xs ∧ ∀ (J : It) (G : Hp → Prop), Walk J xs.length G (YAt xs) → (∀ H', Same H1 H' → G H') → R J H1
section
variable {X : Cx}
theorem pi_seq {tg e : Expr} {te : TE} (K : PySem.W.Frag) (he : PE X e te) (hK : X.K = K := by rfl) : PI X tg e (iSeq K te) := by
  subst hK
  constructor
  intro pins s σ H R I h
  refine thn (he.run pins s σ H _ I h) fun v s1 h1 => ?_
  obtain ⟨x, H1, I1, r1, a, xs, rfl, h2, q⟩ := h1
  obtain rfl : v = .ref a := r1
  have fresh : ∀ b ∈ [s1.heap.objs.size], FpOk X pins H1 b := fun b hb => by
    rw [List.mem_singleton.mp hb]
    exact I1.fpOk (Nat.le_refl _) (I1.hok.fresh (Nat.le_refl _))
  have I2 : ∀ o, Inv X pins σ H1 { s1 with heap := s1.heap.push o } := fun o => grew I1 rfl I1.bare fun b u e => Heap.get?_push_of_some _ e
  rcases h2 with hq | hq
  · obtain ⟨its, _, l, _⟩ := I1.list hq
    have q := q (Itl X.K a) _ walk_list fun H' s => s.seq hq
    exact wpAny_pyIter_list l.isList ⟨_, _, _, _, H1, rfl, I2 _, turn_list a _, ⟨_, Heap.get?_push_size _ rfl, rfl, rfl⟩, fresh, q⟩
  · obtain ⟨its, _, l, _⟩ := I1.tuple hq
    have q := q (Itt X.K a) _ walk_tup fun H' s => (SqA.same (.inr hq) s).elim (fun z => hq.imp (fun y => y.imp (fun e => s _ _ e) fun ⟨o, e⟩ => ⟨o, s _ _ e⟩) id) id
    exact wpAny_pyIter_tuple (show s1.heap.IsTuple a its.toArray from l) ⟨_, _, _, _, H1, rfl, I2 _, turn_tuple a _, ⟨_, Heap.get?_push_size _ rfl, rfl, rfl⟩, fresh, q⟩
end
theorem fldK {X : Cx} {e : Expr} {f : Str} {pos : Pos} {ta : TE} (K : PySem.W.Frag) (he : PE X e ta) (hb : attributeBase e f X.env (eval e X.env) = eval e X.env) (hK : X.K = K := by rfl) : PE X (.Attribute e f pos) (tFld K ta f) := hK ▸ pe_fld he hb
theorem walk_zip3 {K : PySem.W.Frag} {a b c : Addr} {xs ys zs : List V} (e1 : ys.length = xs.length) (e2 : zs.length = xs.length) : Walk (It3 K a b c) xs.length (fun H => SqL K H a xs ∧ SqL K H b ys ∧ SqL K H c zs)
    (fun i H v H' => ∃ (T : Addr) (x y z : V), v = .ref T ∧ H T = none ∧ H' = upd H T (.tup [x, y, z]) ∧ xs[i]? = some x ∧ ys[i]? = some y ∧ zs[i]? = some z) := by
  refine ⟨fun i H hi q => ?_, fun H q => ⟨xs, ys, zs, q.1, q.2.1, q.2.2, rfl, e1, e2⟩, fun i H v H' hi q y => ?_⟩
  · exact ⟨xs, ys, zs, xs[i], ys[i]'(by omega), zs[i]'(by omega), q.1, q.2.1, q.2.2, List.getElem?_eq_getElem _, List.getElem?_eq_getElem _, List.getElem?_eq_getElem _⟩
  · obtain ⟨T, x, y', z, h1, h2, h3, h4, h5, h6⟩ := y
    exact ⟨T, x, y', z, h1, h2, h3, h4 _ q.1, h5 _ q.2.1, h6 _ q.2.2⟩
/-- all but tables stays -/
theorem Sx.ext {Ps : List Addr} {H H' : Hp} (t : TG Ps H) (s : Sx Ps H H') : LamX.ExtN H H' := fun b o h n => s b o (t.not h n) h
theorem TG.free {Ps : List Addr} {H : Hp} {p : Addr} (t : TG Ps H) (h : H p = none) : p ∉ Ps := fun hp => by
  obtain ⟨ps, h2, _⟩ := t p hp
  rw [h] at h2
  cases h2
theorem TG.put {Ps : List Addr} {H : Hp} {p : Addr} {o : HO} (t : TG Ps H) (h : p ∉ Ps) : TG Ps (L2.upd H p o) := fun q hq => by
  obtain ⟨ps, a, b⟩ := t q hq
  exact ⟨ps, keep_ne a (fun z : q = p => h (by rw [← z]; exact hq)), b⟩
end My

set_option Elab.async false
set_option linter.all false
set_option maxRecDepth 100000
set_option maxHeartbeats 2000000
namespace My
open PySem PySem.Spec PyProof.Rows L2
/-! ### what a choice saves; the most that one more list saves -/
/-- prices of all asks by each list, in a dict -/
structure ByL (cols : List Nat) (rows : List (List Int)) (as : List Ask) (H : Hp) (kvs : List (Key × V)) : Prop where
  keys : kvs.map (·.1) = (listsM cols cols.length).map fun o => (Sum.inr (txS o) : Key)
  vals : ∀ o ∈ listsM cols cols.length, ∃ pa, valV kvs (Sum.inr (txS o)) = some (.ref pa) ∧ H pa = some (.lst ((as.map fun a => priceM cols rows o a.es a.rc).map V.int))
theorem ByL.kept {cols : List Nat} {rows : List (List Int)} {as : List Ask} {H H' : Hp} {kvs : List (Key × V)} (h : ByL cols rows as H kvs) (k : ∀ b xs, H b = some (.lst xs) → H' b = some (.lst xs)) : ByL cols rows as H' kvs :=
  ⟨h.keys, fun o ho => let ⟨pa, e1, e2⟩ := h.vals o ho; ⟨pa, e1, k _ _ e2⟩⟩
theorem Rd.same {H H' : Hp} {a : Addr} {u : HO} (h : Rd H a u) (s : Same H H') : Rd H' a u := h.imp (fun e => s _ _ e) fun ⟨o, e⟩ => ⟨o, s _ _ e⟩
/-! ### the search for an order, one step -/
section
variable {sv most : List (List Nat) → Int} {ch : List (List Nat)} {many d : Nat} {ahead : List (List Nat)}
end
end My

set_option Elab.async false
set_option linter.all false
set_option maxRecDepth 100000
set_option maxHeartbeats 2000000
namespace My
open PySem PySem.Spec PyProof.Rows L2
/-! ### no list twice; dict(..) and sorted(..) of a choice; the dict of prices as it is filled -/
theorem long_nodup {cols : List Nat} (hc : cols.Nodup) : ∀ k, (longM cols k).Nodup
  | 0 => by simp [longM]
  | k + 1 => by
    show ((longM cols k).flatMap _).Nodup
    unfold List.Nodup
    rw [List.pairwise_flatMap]
    refine ⟨fun o ho => ?_, (long_nodup hc k).imp fun {a b} ne x hx y hy e => ?_⟩
    · rw [List.pairwise_map]
      exact (hc.filter _).imp fun {a b} ne e => ne (List.singleton_inj.mp (List.append_cancel_left e))
    · obtain ⟨c, _, rfl⟩ := List.mem_map.mp hx
      obtain ⟨d, _, rfl⟩ := List.mem_map.mp hy
      exact ne (List.append_inj_left' e rfl)
theorem lists_nodup {cols : List Nat} (hc : cols.Nodup) (n : Nat) : (listsM cols n).Nodup := by
  unfold listsM List.Nodup
  rw [List.pairwise_flatMap]
  refine ⟨fun k _ => long_nodup hc _, List.nodup_range.imp fun {a b} ne x hx y hy e => ?_⟩
  have h1 := (long_mem.mp hx).1
  have h2 := (long_mem.mp hy).1
  rw [e] at h1
  omega
/-- as long as not all lists are in it -/
structure ByQ (cols : List Nat) (rows : List (List Int)) (as : List Ask) (os : List (List Nat)) (H : Hp) (kvs : List (Key × V)) : Prop where
  keys : kvs.map (·.1) = os.map fun o => (Sum.inr (txS o) : Key)
  vals : ∀ o ∈ os, ∃ pa, valV kvs (Sum.inr (txS o)) = some (.ref pa) ∧ H pa = some (.lst ((as.map fun a => priceM cols rows o a.es a.rc).map V.int))
theorem ByQ.nil {cols : List Nat} {rows : List (List Int)} {as : List Ask} {H : Hp} : ByQ cols rows as [] H [] := ⟨rfl, fun _ h => nomatch h⟩
theorem ByQ.kept {cols : List Nat} {rows : List (List Int)} {as : List Ask} {os : List (List Nat)} {H H' : Hp} {kvs : List (Key × V)} (h : ByQ cols rows as os H kvs) (k : ∀ b xs, H b = some (.lst xs) → H' b = some (.lst xs)) : ByQ cols rows as os H' kvs :=
  ⟨h.keys, fun o ho => let ⟨pa, e1, e2⟩ := h.vals o ho; ⟨pa, e1, k _ _ e2⟩⟩
theorem ByQ.all {cols : List Nat} {rows : List (List Int)} {as : List Ask} {H : Hp} {kvs : List (Key × V)} (h : ByQ cols rows as (listsM cols cols.length) H kvs) : ByL cols rows as H kvs := ⟨h.keys, h.vals⟩
theorem ByQ.len {cols : List Nat} {rows : List (List Int)} {as : List Ask} {os : List (List Nat)} {H : Hp} {kvs : List (Key × V)} (h : ByQ cols rows as os H kvs) : kvs.length = os.length := by
  have := congrArg List.length h.keys
  rw [List.length_map, List.length_map] at this
  exact this
theorem valV_none {kvs : List (Key × V)} {k : Key} (h : k ∉ kvs.map (·.1)) : valV kvs k = none := by
  unfold valV
  rw [List.find?_eq_none.mpr fun kv hkv e => h (List.mem_map.mpr ⟨kv, hkv, of_decide_eq_true e⟩)]
  rfl
theorem ByQ.put {cols : List Nat} {rows : List (List Int)} {as : List Ask} {os : List (List Nat)} {o : List Nat} {H : Hp} {kvs : List (Key × V)} {pa : Addr} (h : ByQ cols rows as os H kvs) (no : o ∉ os) (hp : H pa = some (.lst ((as.map fun a => priceM cols rows o a.es a.rc).map V.int))) : ByQ cols rows as (os ++ [o]) H (putK kvs (Sum.inr (txS o)) (.ref pa)) := by
  have inj : ∀ {a b : List Nat}, (Sum.inr (txS a) : Key) = Sum.inr (txS b) → a = b := fun e => by
    have := congrArg (fun z : Str => z.cps.toList) (Sum.inr.inj e)
    simpa using this
  have none : valV kvs (Sum.inr (txS o)) = none := valV_none (by
    rw [h.keys]
    intro z
    obtain ⟨x, hx, e⟩ := List.mem_map.mp z
    exact no (inj e ▸ hx))
  rw [putK_new _ none]
  refine ⟨?_, fun x hx => ?_⟩
  · rw [List.map_append, List.map_append, h.keys]
    rfl
  · rcases List.mem_append.mp hx with z | z
    · obtain ⟨pa', e1, e2⟩ := h.vals x z
      refine ⟨pa', ?_, e2⟩
      rw [valV_snoc _ _ _ _ none, if_neg fun e => no ((inj e : x = o) ▸ z)]
      exact e1
    · refine ⟨pa, ?_, ?_⟩
      · rw [valV_snoc _ _ _ _ none, if_pos (by rw [List.mem_singleton.mp z])]
      · rw [List.mem_singleton.mp z]
        exact hp
end My

set_option Elab.async false
set_option linter.all false
set_option maxRecDepth 100000
set_option maxHeartbeats 2000000
namespace My
open PySem PySem.Spec PyProof.Rows L2
/-! ### how much less lists save that are chosen one by one -/
section
variable {cols : List Nat} {rows : List (List Int)}
theorem price_alike2 {ch ch' : List (List Nat)} {es : List (Nat × Int)} {rc : Option (Nat × Int × Int)} (h : ∀ o, o ∈ ch ↔ o ∈ ch') : priceOfM cols rows ch es rc = priceOfM cols rows ch' es rc :=
  Int.le_antisymm (priceOf_le fun o ho => ⟨o, (h o).mpr ho, Int.le_refl _⟩) (priceOf_le fun o ho => ⟨o, (h o).mp ho, Int.le_refl _⟩)
end
end My

set_option Elab.async false
set_option linter.all false
set_option maxRecDepth 100000
set_option maxHeartbeats 2000000
namespace My
open PySem PySem.Spec PyProof.Rows L2
/-! ### the cheapest choice of so many letters: what the search has to show (mathematics for k20 to k29) -/
def lettersM (ch : List (List Nat)) : Nat := (ch.map List.length).sum
theorem letters_app (a b : List (List Nat)) : lettersM (a ++ b) = lettersM a + lettersM b := by
  unfold lettersM
  rw [List.map_append, List.sum_append]
theorem nat_perm_sum : ∀ {l l' : List Nat}, l.Perm l' → l.sum = l'.sum := by
  intro l l' h
  induction h with
  | nil => rfl
  | cons x _ ih => rw [List.sum_cons, List.sum_cons, ih]
  | swap x y l =>
    simp only [List.sum_cons]
    omega
  | trans _ _ a b => exact a.trans b
theorem letters_perm {a b : List (List Nat)} (p : a.Perm b) : lettersM a = lettersM b := nat_perm_sum (p.map _)
theorem letters_mem {a : List (List Nat)} {o : List Nat} (h : o ∈ a) : o.length ≤ lettersM a := by
  induction a with
  | nil => cases h
  | cons x a ih =>
    have e : lettersM (x :: a) = x.length + lettersM a := rfl
    rw [e]
    rcases List.mem_cons.mp h with z | z
    · rw [z]
      omega
    · have := ih z
      omega
section
variable {cols : List Nat} {rows : List (List Int)} {as : List Ask} {chg : Int}
theorem keep_app (a b : List (List Nat)) : keepM chg (a ++ b) = keepM chg a + keepM chg b := by
  unfold keepM
  rw [List.map_append, List.sum_append, Int.mul_add]
theorem keep_pos (hg : 0 ≤ chg) (a : List (List Nat)) : 0 ≤ keepM chg a := by
  refine Int.mul_nonneg hg ?_
  induction a with
  | nil => exact Int.le_refl _
  | cons o a ih =>
    rw [List.map_cons, List.sum_cons]
    omega
theorem asked_perm {a b : List (List Nat)} (p : a.Perm b) : askedM cols rows a as = askedM cols rows b as := by
  unfold askedM
  refine congrArg List.sum (List.map_congr_left fun x _ => ?_)
  rw [price_alike2 fun o => p.mem_iff]
theorem work_perm {a b : List (List Nat)} (p : a.Perm b) : workM cols rows a as chg = workM cols rows b as chg := by
  unfold workM
  rw [asked_perm p]
  unfold keepM
  rw [perm_sum (p.map _)]
/-- what no choice that goes on so can be cheaper than -/
theorem floor_le (hok : AsksOk cols as) (hg : 0 ≤ chg) {ins near T : List (List Nat)} (h : ∀ o ∈ T, o ∈ near) : askedM cols rows (ins ++ near) as + keepM chg ins ≤ workM cols rows (ins ++ T) as chg := by
  have h1 : askedM cols rows (ins ++ near) as ≤ askedM cols rows (ins ++ T) as := asked_le hok fun _ _ o ho => ⟨o, (List.mem_append.mp ho).elim (fun z => List.mem_append_left _ z) fun z => List.mem_append_right _ (h o z), Int.le_refl _⟩
  have h2 := keep_pos hg T
  unfold workM
  rw [keep_app]
  omega
variable {room : Nat} {b : Int} {ins free : List (List Nat)}
/-- one list reads no more than another, with no more letters -/
def Outdoes (cols : List Nat) (rows : List (List Int)) (as : List Ask) (one other : List Nat) : Prop := one.length ≤ other.length ∧ ∀ a ∈ as, priceM cols rows one a.es a.rc ≤ priceM cols rows other a.es a.rc
end
end My

set_option Elab.async false
set_option linter.all false
set_option maxRecDepth 100000
set_option maxHeartbeats 2000000
namespace My
open PySem PySem.Spec PyProof.Rows L2
/-! ### defs whose facts are told by names -/
abbrev DefAt (K : PySem.W.Frag) (p : He.Defn) (x qual : Str) (st : Stmt) (fd : FuncData) : Prop := FunD K x qual (defArgs st) (defBody st) (defScope st) [] [] (He.fAd K p) fd
theorem DefAt.fn {K : PySem.W.Frag} {p : He.Defn} {x qual : Str} {st : Stmt} {fd : FuncData} (D : DefAt K p x qual st fd) : Fun K x qual st (He.fAd K p) fd := by
  obtain ⟨⟨oc, od, dV, kV, doc, pm, an, cd, ct, sl, e, l, c, dfl, _⟩, kp⟩ := D
  rcases dfl with ⟨_, rfl⟩ | ⟨ne, _⟩
  · exact ⟨⟨oc, od, kV, doc, pm, an, cd, ct, sl, e, l, c⟩, kp⟩
  · exact absurd rfl ne
theorem DefAt.fc {K : PySem.W.Frag} {p : He.Defn} {x qual : Str} {st : Stmt} {fd : FuncData} (D : DefAt K p x qual st fd) : FunC K x qual st (He.fAd K p) fd (He.codeOf K p) := by
  obtain ⟨⟨oc, od, dV, kV, doc, pm, an, cd, ct, sl, e, l, c, dfl, _⟩, kp⟩ := D
  obtain ⟨c', rfl⟩ := He.codeIn_ref c
  rcases dfl with ⟨_, rfl⟩ | ⟨ne, _⟩
  · have ec : He.codeOf K p = c' := He.codeOf_eq l (by rw [e])
    rw [ec]
    exact ⟨oc, od, kV, doc, pm, an, ct, sl, e, l, c⟩
  · exact absurd rfl ne
end My

set_option Elab.async false
set_option linter.all false
set_option maxRecDepth 100000
set_option maxHeartbeats 2000000
namespace My
open PySem PySem.Spec PyProof.Rows L2
/-! ### how many lists; the stairs -/
theorem out_count {cols o : List Nat} (hc : cols.Nodup) (ho : o.Nodup) (sub : ∀ c ∈ o, c ∈ cols) : (cols.filter fun c => decide (c ∉ o)).length + o.length = cols.length := by
  have pm : (cols.filter fun c => decide (c ∈ o)).Perm o := (List.perm_ext_iff_of_nodup (hc.filter _) ho).mpr fun c => by
    rw [List.mem_filter, decide_eq_true_eq]
    exact ⟨fun h => h.2, fun h => ⟨sub c h, h⟩⟩
  rw [← pm.length_eq]
  clear pm hc ho sub
  induction cols with
  | nil => rfl
  | cons c cols ih =>
    by_cases h : c ∈ o
    · rw [List.filter_cons_of_neg (by simpa using h), List.filter_cons_of_pos (by simpa using h), List.length_cons, List.length_cons]
      omega
    · rw [List.filter_cons_of_pos (by simpa using h), List.filter_cons_of_neg (by simpa using h), List.length_cons, List.length_cons]
      omega
theorem long_count {cols : List Nat} (hc : cols.Nodup) (k : Nat) : (longM cols (k + 1)).length = (longM cols k).length * (cols.length - k) := by
  have key : ∀ ls : List (List Nat), (∀ o ∈ ls, o ∈ longM cols k) → (ls.flatMap fun o => (cols.filter fun c => decide (c ∉ o)).map fun c => o ++ [c]).length = ls.length * (cols.length - k) := fun ls => by
    induction ls with
    | nil =>
      intro _
      simp
    | cons o ls ih =>
      intro h
      obtain ⟨l, nd, sub⟩ := long_mem.mp (h o List.mem_cons_self)
      have e := out_count hc nd sub
      rw [List.flatMap_cons, List.length_append, ih fun x hx => h x (List.mem_cons_of_mem _ hx), List.length_map, List.length_cons, Nat.succ_mul]
      omega
  exact key _ fun _ h => h
theorem lists_four {cols : List Nat} (hc : cols.Nodup) (h : cols.length ≤ 4) : (listsM cols cols.length).length ≤ 64 := by
  have c0 : (longM cols 0).length = 1 := rfl
  have c1 := long_count hc 0
  have c2 := long_count hc 1
  have c3 := long_count hc 2
  have c4 := long_count hc 3
  have e0 : (listsM cols 0).length = 0 := rfl
  have s1 := congrArg List.length (lists_succ cols 0)
  have s2 := congrArg List.length (lists_succ cols 1)
  have s3 := congrArg List.length (lists_succ cols 2)
  have s4 := congrArg List.length (lists_succ cols 3)
  rw [List.length_append] at s1 s2 s3 s4
  simp only [Nat.zero_add, Nat.reduceAdd] at s1 s2 s3 s4 c1 c2 c3 c4
  have : cols.length = 0 ∨ cols.length = 1 ∨ cols.length = 2 ∨ cols.length = 3 ∨ cols.length = 4 := by omega
  rcases this with z | z | z | z | z <;> rw [z] at c1 c2 c3 c4 ⊢ <;> simp only [c0, Nat.sub_self, Nat.reduceSub, Nat.reduceMul] at c1 c2 c3 c4 <;> simp only [c1, Nat.reduceMul, Nat.zero_mul] at c2 <;> simp only [c2, Nat.reduceMul, Nat.zero_mul] at c3 <;> simp only [c3, Nat.reduceMul, Nat.zero_mul] at c4 <;> omega
end My

set_option Elab.async false
set_option linter.all false
set_option maxRecDepth 100000
set_option maxHeartbeats 2000000
namespace My
open PySem PySem.Spec PyProof.Rows L2
/-! ### "".join of texts in a comprehension; choices as tuples -/
theorem join_texts : ∀ os : List (List Nat), Txt.join (Str.ofString "") (os.map txS) = txS os.flatten := by
  intro os
  show PySem.Builtin.Str.glued (Str.ofString "") (os.map txS) = _
  rw [PySem.StrLaws.glued_eq_join]
  induction os with
  | nil => rfl
  | cons c l ih =>
    cases l with
    | nil =>
      show txS c = txS (c ++ [])
      rw [List.append_nil]
    | cons d l =>
      show txS c ++ Str.ofString "" ++ Str.join (Str.ofString "") ((d :: l).map txS) = _
      rw [ih]
      show (⟨(c.toArray ++ (Str.ofString "").cps) ++ ((d :: l).flatten).toArray⟩ : Str) = ⟨(c ++ (d :: l).flatten).toArray⟩
      rw [str_empty]
      simp
theorem flat_letters (os : List (List Nat)) : os.flatten.length = lettersM os := by
  unfold lettersM
  rw [List.length_flatten]
theorem join_len (os : List (List Nat)) : (Txt.join (Str.ofString "") (os.map txS)).length = lettersM os := by
  rw [join_texts, ← flat_letters]
  show os.flatten.toArray.size = _
  simp
theorem sum_texts (os : List (List Nat)) : ((os.map txS).map (·.length)).sum = lettersM os := by
  unfold lettersM
  rw [List.map_map]
  congr 1
theorem letters_most {n m : Nat} : ∀ {os : List (List Nat)}, os.length ≤ n → (∀ o ∈ os, o.length ≤ m) → lettersM os ≤ n * m
  | [], _, _ => Nat.zero_le _
  | o :: os, h, hm => by
    have ih := letters_most (n := n - 1) (os := os) (by rw [List.length_cons] at h; omega) fun x hx => hm x (List.mem_cons_of_mem _ hx)
    have h1 := hm o List.mem_cons_self
    have e : lettersM (o :: os) = o.length + lettersM os := rfl
    obtain ⟨k, rfl⟩ : ∃ k, n = k + 1 := ⟨n - 1, by rw [List.length_cons] at h; omega⟩
    rw [Nat.add_sub_cancel] at ih
    rw [e, Nat.add_mul]
    omega
end My

set_option Elab.async false
set_option linter.all false
set_option maxRecDepth 100000
set_option maxHeartbeats 2000000
namespace My
open PySem PySem.Spec PyProof.Rows L2
/-! ### a dict of lists of numbers by texts, made of pairs -/
theorem key_inj {a b : List Nat} (e : (Sum.inr (txS a) : Key) = Sum.inr (txS b)) : a = b := by
  have := congrArg (fun z : Str => z.cps.toList) (Sum.inr.inj e)
  simpa using this
end My

set_option Elab.async false
set_option linter.all false
set_option maxRecDepth 100000
set_option maxHeartbeats 2000000
namespace My
open PySem PySem.Spec PyProof.Rows L2
/-! ### things looked at: == of data of any depth with shallow data; any thing in a list of texts -/
def rEqS (K : PySem.W.Frag) : R2 := fun x y H Q => ∃ d e, Dp K H x d ∧ Dp K H y e ∧ d.canLay0 = true ∧ e.canLay0 = true ∧ e.depth ≤ 64 ∧ Q (.bl (PyData.eqv d e)) H
theorem eqSK (K : PySem.W.Frag) {X : Cx} (hu : X.A.units + 64 < cLine) (hK : X.K = K := by rfl) : OpR X (compareOp .Eq) (rEqS K) := by
  subst hK
  intro pins s σ H x y v u Q I rx ry h
  obtain ⟨d, e, hd, he, cd, ce, de, q⟩ := h
  obtain ⟨as, ra⟩ := Dp.reads I d x v hd rx
  obtain ⟨bs, rb⟩ := Dp.reads I e y u he ry
  exact SeqAt.compareEq_reads ra rb cd ce (by
    have := Nat.min_le_right d.depth e.depth
    omega) ⟨.bl _, H, I, rfl, q⟩
/-- a flat thing or a list or a tuple, in a list of texts -/
def rInT (K : PySem.W.Frag) : R2 := fun x y H Q => ∃ (p : Addr) (os : List (List Nat)), y = .ref p ∧ SqL K H p (os.map tx) ∧ ((flatV x = true ∧ Q (.bl (inV x (os.map tx))) H) ∨ ∃ a xs, x = .ref a ∧ (SqL K H a xs ∨ SqT K H a xs) ∧ Q (.bl false) H)
theorem inTK (K : PySem.W.Frag) {X : Cx} (hu : X.A.units + 64 < cLine) (hK : X.K = K := by rfl) : OpR X (compareOp .In) (rInT K) := by
  subst hK
  intro pins s σ H x y v u Q I rx ry h
  obtain ⟨p, os, rfl, hq, h⟩ := h
  have fl : (os.map tx).all flatV = true := by
    rw [List.all_eq_true]
    intro v hv
    obtain ⟨c, _, rfl⟩ := List.mem_map.mp hv
    rfl
  rcases h with ⟨fx, q⟩ | ⟨a, xs, rfl, ha, q⟩
  · exact op_in_seq pins s σ H x _ v u Q I rx ry ⟨p, os.map tx, rfl, .inl hq, fx, fl, q⟩
  · cases ry
    cases rx
    obtain ⟨its, r, pl, hz⟩ := I.list hq
    have un : X.A.in1.units < cLine := by
      show X.A.units + 1 < cLine
      omega
    have str : ∀ w ∈ its.toArray, ∃ z t, w = Value.str z t := fun w hw => by
      obtain ⟨i, hi⟩ := List.getElem?_of_mem (by simpa using hw : w ∈ its)
      obtain ⟨b, hb⟩ : ∃ b, (os.map tx)[i]? = some b := by
        have : i < its.length := (List.getElem?_eq_some_iff.mp hi).1
        rw [← r.length] at this
        exact ⟨_, List.getElem?_eq_getElem this⟩
      obtain ⟨w', hw', rw'⟩ := r.get hb
      rw [hi] at hw'
      cases hw'
      rw [List.getElem?_map] at hb
      obtain ⟨o, _, rfl⟩ := Option.map_eq_some_iff.mp hb
      obtain ⟨t, e⟩ := rw'
      exact ⟨_, t, e⟩
    refine SeqAt.in_listAt (fun _ => false) pl.isList (fun w hw => ?_) ⟨.bl _, H, I, rfl, ?_⟩
    · obtain ⟨z, t, rfl⟩ := str w hw
      rcases ha with ha | ha
      · obtain ⟨_, _, pa, _⟩ := I.list ha
        exact SeqAt.EqAt.str_list z t pa.isList un
      · obtain ⟨_, _, pa, _⟩ := I.tuple ha
        exact SeqAt.EqAt.str_tuple z t pa un
    · have e : its.toArray.any (fun _ => false) = false := by simp
      rw [e]
      exact q
/-! ### data under tables that change -/
mutual
theorem Ft.keepG {H H' : Hp} (k1 : ∀ b xs, H b = some (.tup xs) → H' b = some (.tup xs)) (k2 : ∀ b xs, H b = some (.lst xs) → H' b = some (.lst xs)) : ∀ (d : PyData) (v : V), Ft H v d → Ft H' v d
  | .none, _, .non => .non
  | .bool _, _, .bl b => .bl b
  | .int _, _, .int i => .int i
  | .str _, _, .str x => .str x
  | .list ds, _, .lst h a => .lst (k2 _ _ h) (FtA.keepG k1 k2 ds _ a)
  | .tuple ds, _, .tup h a => .tup (k1 _ _ h) (FtA.keepG k1 k2 ds _ a)
theorem FtA.keepG {H H' : Hp} (k1 : ∀ b xs, H b = some (.tup xs) → H' b = some (.tup xs)) (k2 : ∀ b xs, H b = some (.lst xs) → H' b = some (.lst xs)) : ∀ (ds : List PyData) (vs : List V), FtA H vs ds → FtA H' vs ds
  | [], _, .nil => .nil
  | d :: ds, _, .cons h a => .cons (Ft.keepG k1 k2 d _ h) (FtA.keepG k1 k2 ds _ a)
end
theorem Ft.sx {Ps : List Addr} {H H' : Hp} {d : PyData} {v : V} (h : Ft H v d) (t : TG Ps H) (s : Sx Ps H H') : Ft H' v d := Ft.keepG (s.kt t) (fun _ _ e => s.lst t e) d v h
theorem Ft.same {H H' : Hp} {d : PyData} {v : V} (h : Ft H v d) (s : Same H H') : Ft H' v d := Ft.mono s d v h
theorem Ft.to {K : PySem.W.Frag} {H : Hp} {v : V} {d : PyData} (h : Ft H v d) : Dp K H v d := Ft.dp d v h
theorem Fz.toFt {H : Hp} {v : V} {d : PyData} (h : Fz H v d) : Ft H v d := Fz.ft d v h
theorem FtA.four {H : Hp} {vs : List V} {a b c d : PyData} (h : FtA H vs [a, b, c, d]) : ∃ x y z u, vs = [x, y, z, u] ∧ Ft H x a ∧ Ft H y b ∧ Ft H z c ∧ Ft H u d := by
  cases h with
  | cons h1 t =>
    cases t with
    | cons h2 t =>
      cases t with
      | cons h3 t =>
        cases t with
        | cons h4 t =>
          cases t
          exact ⟨_, _, _, _, rfl, h1, h2, h3, h4⟩
theorem Ft.open {H : Hp} {v : V} {ds : List PyData} (h : Ft H v (.tuple ds)) : ∃ (a : Addr) (xs : List V), v = .ref a ∧ H a = some (.tup xs) ∧ FtA H xs ds := by
  cases h with
  | tup h a => exact ⟨_, _, rfl, h, a⟩
/-- whether it has the form of a knot with a free list -/
def forkD (free : List (List Nat)) : PyData → Bool
  | .tuple [a, .str o, _, _] => PyData.eqv a (.str ("list" : Str)) && decide (o.cps.toList ∈ free)
  | _ => false
end My

set_option Elab.async false
set_option linter.all false
set_option maxRecDepth 100000
set_option maxHeartbeats 2000000
namespace My
open PySem PySem.Spec PyProof.Rows L2
/-! ### a dict that is locked while it is walked; free lists as the law's own search has them -/
structure Lock (H HL : Hp) (ba : Addr) (od : Obj) (kvs : List (Key × V)) : Prop where
  here : H ba = some (.dK kvs)
  at' : HL ba = some (.frz od (.dK kvs))
  keep : ∀ b o, b ≠ ba → H b = some o → HL b = some o
theorem Lock.mk' {H : Hp} {ba : Addr} {od : Obj} {kvs : List (Key × V)} (h : H ba = some (.dK kvs)) : Lock H (upd H ba (.frz od (.dK kvs))) ba od kvs := ⟨h, upd_same, fun b o n e => keep_ne e n⟩
section
variable {H HL H' : Hp} {ba : Addr} {od : Obj} {kvs : List (Key × V)}
theorem Lock.neL (l : Lock H HL ba od kvs) {b : Addr} {xs : List V} (h : H b = some (.lst xs)) : b ≠ ba := fun z => by
  rw [z, l.here] at h
  cases h
theorem Lock.neT (l : Lock H HL ba od kvs) {b : Addr} {xs : List V} (h : H b = some (.tup xs)) : b ≠ ba := fun z => by
  rw [z, l.here] at h
  cases h
theorem Lock.kt (l : Lock H HL ba od kvs) : KT H HL := ⟨fun b xs e => l.keep _ _ (l.neT e) e, fun b o xs e => l.keep _ _ (fun z => by rw [z, l.here] at e; cases e) e⟩
theorem Lock.lst (l : Lock H HL ba od kvs) {b : Addr} {xs : List V} (h : H b = some (.lst xs)) : HL b = some (.lst xs) := l.keep _ _ (l.neL h) h
theorem Lock.back (l : Lock H HL ba od kvs) (s : Same HL H') : Same H (upd H' ba (.dK kvs)) := fun b o e => by
  by_cases z : b = ba
  · rw [z, l.here] at e
    rw [z, upd_same]
    exact e
  · rw [upd_ne z]
    exact s _ _ (l.keep _ _ z e)
theorem Lock.backK (l : Lock H HL ba od kvs) {r : Addr} (s : Kp r HL H') : Kp r H (upd H' ba (.dK kvs)) := fun b o n e => by
  by_cases z : b = ba
  · rw [z, l.here] at e
    rw [z, upd_same]
    exact e
  · rw [upd_ne z]
    exact s _ _ n (l.keep _ _ z e)
end
/-- the lists that are neither in nor out -/
def freeM (all some out : List (List Nat)) : List (List Nat) := all.filter fun o => !(decide (o ∈ out) || decide (o ∈ some))
theorem free_mem {all some out : List (List Nat)} {o : List Nat} : o ∈ freeM all some out ↔ o ∈ all ∧ o ∉ out ∧ o ∉ some := by
  unfold freeM
  rw [List.mem_filter]
  simp
theorem free_all (all : List (List Nat)) : freeM all [] [] = all := by
  unfold freeM
  exact List.filter_eq_self.mpr fun o _ => by simp
theorem free_with (all some out : List (List Nat)) (one : List Nat) : freeM all (some ++ [one]) out = (freeM all some out).filter fun x => decide (x ≠ one) := by
  unfold freeM
  rw [List.filter_filter]
  refine List.filter_congr fun x _ => ?_
  by_cases h1 : x ∈ out <;> by_cases h2 : x ∈ some <;> by_cases h3 : x = one <;> simp [h1, h2, h3]
theorem free_without {out2 : List Nat → List Nat → Bool} (all some out : List (List Nat)) (one : List Nat) (self : out2 one one = true) : freeM all some (out ++ all.filter fun x => !decide (x ∈ some) && out2 one x) = ((freeM all some out).filter fun x => decide (x ≠ one)).filter fun x => !out2 one x := by
  unfold freeM
  rw [List.filter_filter, List.filter_filter]
  refine List.filter_congr fun x hx => ?_
  by_cases h1 : x ∈ out
  · simp [h1]
  · by_cases h2 : x ∈ some
    · simp [h2]
    · by_cases h3 : x = one
      · rw [h3] at hx h1 h2 ⊢
        simp [self, hx, h2]
      · by_cases h4 : out2 one x = true
        · simp [h1, h2, h3, h4, hx]
        · have h4' : out2 one x = false := by simpa using h4
          simp [h1, h2, h3, h4', hx]
end My

set_option Elab.async false
set_option linter.all false
set_option maxRecDepth 100000
set_option maxHeartbeats 2000000
namespace My
open PySem PySem.Spec PyProof.Rows L2
/-! ### data in a list of data -/
/-! ### questions as data -/
theorem QZ.dp {K : PySem.W.Frag} {H : Hp} {v : V} {es : List (Nat × Int)} {rc : Option (Nat × Int × Int)} (h : QZ H v es rc) : Dp K H v (qD es rc) := by
  obtain ⟨qa, ev, y, rfl, h1, ⟨ea, o, ps, rfl, ho, hea, fps⟩, fy⟩ := h
  exact .tup (.inl (.inl h1)) (.cons (.tup (.inl (.inr ⟨_, hea⟩)) (FzA.dp _ _ fps)) (.cons fy.to .nil))
/-! ### how many rows fit; the lists of a choice -/
end My

set_option Elab.async false
set_option linter.all false
set_option maxRecDepth 100000
set_option maxHeartbeats 2000000
namespace My
open PySem PySem.Spec PyProof.Rows L2
section
variable {X : Cx}
/-- the first of the least ones is one of them, and least -/
theorem least_of {is : List Int} (h : 0 < is.length) : ∃ n, is[argBest (fun i j => decide (is.getD i 0 < is.getD j 0)) (is.length - 1)]? = some n ∧ n ∈ is ∧ ∀ j ∈ is, n ≤ j := by
  have both := argBest_lt (is.getD · 0) (is.length - 1)
  generalize argBest (fun i j => decide (is.getD i 0 < is.getD j 0)) (is.length - 1) = b at both ⊢
  have inside : b < is.length := by have := both.1; omega
  refine ⟨is[b], List.getElem?_eq_getElem inside, List.getElem_mem inside, fun j hj => ?_⟩
  obtain ⟨m, hm, rfl⟩ := List.getElem_of_mem hj
  have le := both.2 m (by omega)
  simpa [List.getD_eq_getElem?_getD, List.getElem?_eq_getElem hm, List.getElem?_eq_getElem inside] using le
end
end My

set_option Elab.async false
set_option linter.all false
set_option maxRecDepth 100000
set_option maxHeartbeats 2000000
namespace My
open PySem PySem.Spec PyProof.Rows L2
/-! ### dicts of numbers whose keys are tuples of any depth -/
section
variable {X : Cx} {pins : List (Addr × Obj)} {σ : L2.St} {H : Hp} {s : Shared}
end
abbrev KvQ := List (NestedKey × Addr × Int)
section
variable {kvs : KvQ} {xs : List (NestedKey × Addr × Value)} {k : NestedKey} {a : Addr} {n : Int} {v : Value}
end
section
variable {X : Cx} {pins : List (Addr × Obj)} {σ : L2.St} {H : Hp} {s : Shared} {d : Addr} {kvs : KvQ} {K : PySem.W.Frag}
/-! #### the operations -/
/-! #### tuple(d.items()) -/
/-- many new objects at once -/
theorem _root_.L2.Inv.many {H' : Hp} {h' : Heap} {tk : Nat} (I : L2.Inv X pins σ H s) (k : ∀ b o, s.heap.get? b = some o → h'.get? b = some o) (sm : Same H H') (low : ∀ b o, s.heap.get? b = some o → H b = none → H' b = none) (new : ∀ b o, H' b = some o → H b = none → ObjOk X.prog X.w H' h' b o) : L2.Inv X pins σ H' { s with heap := h', toks := tk } := by
  refine I.un ⟨fun b o e _ _ _ => k b o e, fun b o e _ _ _ => ⟨o.slots, k b o e⟩, fun b o e n _ => low b o e n, fun b o e _ => ⟨o, k b o e⟩, fun b xs e => sm _ _ e, fun b o u e => sm _ _ e, fun b ps e => ⟨#[], by rw [sm _ _ e]; simp⟩⟩ fun b o e => ?_
  cases z : H b with
  | none => exact new b o e z
  | some o2 =>
    have e2 := sm _ _ z
    rw [e] at e2
    cases e2
    exact (I.hok b _ z).stay (fun c u _ q => k c u q) (fun c q => sm _ _ q) fun c xs q => sm _ _ q
end
end My

set_option Elab.async false
set_option linter.all false
set_option maxRecDepth 100000
set_option maxHeartbeats 2000000
namespace My
open PySem PySem.Spec PyProof.Rows L2
/-! ### questions as keys -/
theorem QZ.ref {H : Hp} {v : V} {es : List (Nat × Int)} {rc : Option (Nat × Int × Int)} (h : QZ H v es rc) : ∃ a, v = .ref a := by
  obtain ⟨qa, ev, y, rfl, _⟩ := h
  exact ⟨qa, rfl⟩
/-! ### what is wanted -/
/-! ### data in a list of data, questions compared -/
end My

set_option Elab.async false
set_option linter.all false
set_option maxRecDepth 100000
set_option maxHeartbeats 4000000
namespace My
open PySem PySem.Spec PyProof.Rows L2
/-! ### the part of a question that a list uses -/
section
variable {cols : List Nat} {rows : List (List Int)} {o : List Nat} {es : List (Nat × Int)} {rc : Option (Nat × Int × Int)}
def esP (es : List (Nat × Int)) (u : List Nat) : List (Nat × Int) := es.filter fun p => decide (p.1 ∈ u)
def rcP : Option (Nat × Int × Int) → List Nat → Option (Nat × Int × Int)
  | none, _ => none
  | some t, u => if t.1 ∈ u then some t else none
theorem rcP_mem {t : Nat × Int × Int} {u : List Nat} : t ∈ (rcP rc u).toList ↔ t ∈ rc.toList ∧ t.1 ∈ u := by
  cases rc with
  | none =>
    constructor
    · intro h
      cases h
    · rintro ⟨h, _⟩
      cases h
  | some s =>
    show t ∈ (if s.1 ∈ u then some s else none).toList ↔ _
    by_cases c : s.1 ∈ u
    · rw [if_pos c]
      constructor
      · intro h
        have : t = s := by simpa using h
        rw [this]
        exact ⟨by simp, c⟩
      · exact fun h => h.1
    · rw [if_neg c]
      constructor
      · intro h
        cases h
      · rintro ⟨h, h2⟩
        have : t = s := by simpa using h
        exact absurd (this ▸ h2) c
theorem QOk.part (h : QOk cols es rc) (u : List Nat) : QOk cols (esP es u) (rcP rc u) := by
  refine ⟨List.Pairwise.sublist (List.filter_sublist.map _) h.up, fun p hp => h.ok p (List.mem_filter.mp hp).1, Nat.le_trans (List.length_filter_le _ _) h.len, fun c lo hi e => ?_⟩
  have m : (c, lo, hi) ∈ (rcP rc u).toList := by rw [e]; simp
  obtain ⟨m1, m2⟩ := rcP_mem.mp m
  have e2 : rc = some (c, lo, hi) := by simpa using m1
  obtain ⟨a, b, r⟩ := h.rc c lo hi e2
  refine ⟨a, fun z => b ?_, r⟩
  obtain ⟨p, hp, e3⟩ := List.mem_map.mp z
  exact List.mem_map.mpr ⟨p, (List.mem_filter.mp hp).1, e3⟩
end
end My

set_option Elab.async false
set_option linter.all false
set_option maxRecDepth 100000
set_option maxHeartbeats 2000000
namespace My
open PySem PySem.Spec PyProof.Rows L2
/-! ### asks by their places -/
/-! ### asks in a list of values -/
theorem AsksZ.set {H : Hp} {vs : List V} {as : List Ask} (h : AsksZ H vs as) {v : V} {a : Ask} (x : AskZ H v a) : ∀ j, AsksZ H (vs.set j v) (as.set j a) := by
  induction h with
  | nil => exact fun _ => .nil
  | cons y r ih =>
    intro j
    cases j with
    | zero => exact .cons x r
    | succ j => exact .cons y (ih j)
theorem AsksZ.erase {H : Hp} {vs : List V} {as : List Ask} (h : AsksZ H vs as) : ∀ j, AsksZ H (vs.eraseIdx j) (as.eraseIdx j) := by
  induction h with
  | nil => exact fun _ => .nil
  | cons y r ih =>
    intro j
    cases j with
    | zero => exact r
    | succ j => exact .cons y (ih j)
/-! ### data whose tuples may be frozen -/
mutual
inductive Fg (H : Hp) : V → PyData → Prop
  | non : Fg H .non .none
  | bl (b : Bool) : Fg H (.bl b) (.bool b)
  | int (i : Int) : Fg H (.int i) (.int i)
  | str (x : Str) : Fg H (.str x) (.str x)
  | lst {a : Addr} {xs : List V} {ds : List PyData} : H a = some (.lst xs) → FgA H xs ds → Fg H (.ref a) (.list ds)
  | tup {a : Addr} {xs : List V} {ds : List PyData} : Rd H a (.tup xs) → FgA H xs ds → Fg H (.ref a) (.tuple ds)
inductive FgA (H : Hp) : List V → List PyData → Prop
  | nil : FgA H [] []
  | cons {v : V} {vs : List V} {d : PyData} {ds : List PyData} : Fg H v d → FgA H vs ds → FgA H (v :: vs) (d :: ds)
end
theorem Rd.mono {H H' : Hp} {a : Addr} {o : HO} (k : Same H H') (h : Rd H a o) : Rd H' a o := by
  rcases h with h | ⟨b, h⟩
  · exact .inl (k _ _ h)
  · exact .inr ⟨b, k _ _ h⟩
mutual
theorem Fg.mono {H H' : Hp} (k : Same H H') : ∀ (d : PyData) (v : V), Fg H v d → Fg H' v d
  | .none, _, .non => .non
  | .bool _, _, .bl b => .bl b
  | .int _, _, .int i => .int i
  | .str _, _, .str x => .str x
  | .list ds, _, .lst h a => .lst (k _ _ h) (FgA.mono k ds _ a)
  | .tuple ds, _, .tup h a => .tup (Rd.mono k h) (FgA.mono k ds _ a)
theorem FgA.mono {H H' : Hp} (k : Same H H') : ∀ (ds : List PyData) (vs : List V), FgA H vs ds → FgA H' vs ds
  | [], _, .nil => .nil
  | d :: ds, _, .cons h a => .cons (Fg.mono k d _ h) (FgA.mono k ds _ a)
end
mutual
theorem Ft.fg {H : Hp} : ∀ (d : PyData) (v : V), Ft H v d → Fg H v d
  | .none, _, .non => .non
  | .bool _, _, .bl b => .bl b
  | .int _, _, .int i => .int i
  | .str _, _, .str x => .str x
  | .list ds, _, .lst h a => .lst h (FtA.fg ds _ a)
  | .tuple ds, _, .tup h a => .tup (.inl h) (FtA.fg ds _ a)
theorem FtA.fg {H : Hp} : ∀ (ds : List PyData) (vs : List V), FtA H vs ds → FgA H vs ds
  | [], _, .nil => .nil
  | d :: ds, _, .cons h a => .cons (Ft.fg d _ h) (FtA.fg ds _ a)
end
theorem FgA.len : ∀ {H : Hp} {vs : List V} {ds : List PyData}, FgA H vs ds → vs.length = ds.length
  | _, _, _, .nil => rfl
  | _, _, _, .cons _ a => congrArg (· + 1) (FgA.len a)
theorem FgA.getV : ∀ {H : Hp} {vs : List V} {ds : List PyData} {i : Nat} {v : V}, FgA H vs ds → vs[i]? = some v → ∃ d, ds[i]? = some d ∧ Fg H v d
  | _, _, _, 0, _, .cons a _, h => ⟨_, rfl, Option.some.inj h ▸ a⟩
  | _, _, _, i + 1, _, .cons _ a, h => FgA.getV (i := i) a h
theorem FzA.fg {H : Hp} {vs : List V} {ds : List PyData} (h : FzA H vs ds) : FgA H vs ds := FtA.fg _ _ (FzA.ft _ _ h)
theorem Fz.fg {H : Hp} {v : V} {d : PyData} (h : Fz H v d) : Fg H v d := Ft.fg _ _ h.toFt
theorem QZ.fg {H : Hp} {v : V} {es : List (Nat × Int)} {rc : Option (Nat × Int × Int)} (h : QZ H v es rc) : Fg H v (qD es rc) := by
  obtain ⟨qa, ev, y, rfl, h1, ⟨ea, o, ps, rfl, _, hea, fps⟩, fy⟩ := h
  exact .tup (.inl h1) (.cons (.tup (.inr ⟨o, hea⟩) fps.fg) (.cons fy.fg .nil))
/-- an ask as data -/
def askG (a : Ask) : PyData := .tuple [qD a.es a.rc, .int a.often]
theorem AsksZ.fg {H : Hp} {vs : List V} {as : List Ask} (h : AsksZ H vs as) : FgA H vs (as.map askG) := by
  induction h with
  | nil => exact .nil
  | cons a _ ih =>
    obtain ⟨p, qv, rfl, h1, h2⟩ := a
    exact .cons (.tup (.inl h1) (.cons h2.fg (.cons (.int _) .nil))) ih
end My

set_option Elab.async false
set_option linter.all false
set_option maxRecDepth 100000
set_option maxHeartbeats 2000000
namespace My
open PySem PySem.Spec PyProof.Rows L2
section
variable {X : Cx}
theorem ints_at : ∀ {us : List Value} {ns : List Int}, IntsAre us ns → us.length = ns.length ∧ ∀ (i : Nat) (v : Value), us[i]? = some v → ∃ t, v = Value.int (ns.getD i 0) t := by
  intro us ns h
  obtain ⟨xs, e⟩ := h.allInts.items
  have hn := h.numsOf
  refine ⟨h.length, fun i v z => ?_⟩
  have e2 : us = (intItems xs).toList := by rw [← e]
  have hz : (intItems xs)[i]? = some v := by rw [← e]; simpa using z
  obtain ⟨t, rfl⟩ := intItems_at hz
  refine ⟨t, ?_⟩
  rw [e2, nums_intItems] at hn
  rw [← hn, numAt_eq]
/-- min(e, default=d) of a list of ints -/
def tMinListD (K : PySem.W.Frag) (td tv : TE) : TE := fun σ H Q => td σ H fun x H1 => ∃ (a : Addr), x = V.ref a ∧
  tv σ H1 fun y H2 => ∃ ns : List Int, SqL K H2 a (ns.map V.int) ∧ ∀ z : V, (ns = [] ∧ z = y) ∨ (∃ m, m ∈ ns ∧ (∀ j ∈ ns, m ≤ j) ∧ z = .int m) → Q z H2
theorem pe_minListD {e ed : Expr} {p pos q1 : Pos} {n1 : Option Str} {td tv : TE} (hc : X.calm = true) (hd : PE X e td) (hv : PE X ed tv) (hg : Gl X "min") (hm : X.mg "min" = none)
    (hb : bootBuiltins "min" = some (.builtin "min") := by decide +kernel)
    (hse : backTo pos (starEach [e] X.env) = (false, eval e X.env) :: backTo pos (starEach [] X.env) := by rfl)
    (hpl : (backTo pos (starEach [e] X.env)).any (·.1) = false := by rfl)
    (hall : (backToKw pos (keywordEach [⟨n1, ed, q1⟩] X.env)).all (·.1.isSome) = true := by rfl)
    (hnone : (backToKw pos (keywordEach [⟨n1, ed, q1⟩] X.env)).any (·.1.isNone) = false := by rfl)
    (hks : (backToKw pos (keywordEach [⟨n1, ed, q1⟩] X.env)).filterMap (·.1) = [Str.ofString "default"] := by rfl) :
    PE X (.Call (.Name "min" p) [e] [⟨n1, ed, q1⟩] pos) (tMinListD X.K td tv) := by
  constructor
  intro pins s σ H Q I hq
  refine wpAny_Call_Name_kw (ld_blt I hg hm hb (PyProof.Rows.callWith_kw ?_ hse hpl hall hnone))
  rw [hse, hks]
  refine Calls.spliced_cons (rest := backTo pos (starEach [] X.env)) (thn (hd.run pins s σ H _ I hq) fun u s1 hh => ?_)
  obtain ⟨x, H1, I1, rx, a, rfl, q⟩ := hh
  cases rx
  refine Calls.spliced_nil ?_
  show wpAny _ _ (evalAll [(do let v ← eval ed X.env; standAt pos; pure v)]) _ _ _
  refine wpAny_evalAll_cons (wpAny_bind (thn (hv.run _ _ σ H1 _ I1 q) fun y s3 hy => wpAny_bind (wpAny_standAt (wpAny_pure (wpAny_evalAll_nil ?_)))))
  obtain ⟨y1, H2, I4, ry, ns, hs, qq⟩ := hy
  have q0 : ns = [] → Q y1 H2 := fun z => qq _ (.inl ⟨z, rfl⟩)
  have q1 : ns ≠ [] → ∀ m, m ∈ ns → (∀ j ∈ ns, m ≤ j) → Q (.int m) H2 := fun _ m h1 h2 => qq _ (.inr ⟨m, h1, h2, rfl⟩)
  show wpAny _ _ (call (.builtin "min") [.ref a] [(Str.ofString "default", y)]) _ _ _
  obtain ⟨its, rv, hl, _⟩ := I4.list hs
  obtain ⟨hlen, num⟩ := ints_at rv.ints
  have hsL := hl.isList
  have numA : ∀ (i : Nat) (v : Value), its.toArray[i]? = some v → ∃ t, v = Value.int (ns.getD i 0) t := fun i v h => num i v (by simpa using h)
  have old : a < s3.heap.objs.size := by
    obtain ⟨o, ho, _⟩ := hsL
    exact Heap.lt_size ho
  have newer : ∀ {b : Addr} {u : Obj}, s3.heap.get? b = some u → b ∉ [s3.heap.objs.size] := fun {b u} e z => by
    have below := Heap.lt_size e
    rw [List.mem_singleton.mp z] at below
    exact Nat.lt_irrefl _ below
  have out : ∀ (it : Obj) {s' : Shared} {v : V} {u : Value}, Moved [s3.heap.objs.size] (fun a b => b = a) { s3 with heap := s3.heap.push it } s' → RelV v u → Q v H2 → EP X pins σ Q u s' := fun it {s' v u} hm rv qv => by
    have J : Inv X pins σ H2 { s3 with heap := s'.heap, toks := s'.toks } := I4.kept fun b u e => hm.heap b u (newer e) (Heap.get?_push_of_some _ e)
    have whole : s' = { s3 with heap := s'.heap, toks := s'.toks } := by
      have g := hm.gens
      have d := hm.drawn
      have o := hm.os
      obtain ⟨hp, gg, dd, tk, os⟩ := s'
      dsimp only at g d o
      rw [g, d, o]
    rw [whole]
    exact ⟨v, H2, J, rv, qv⟩
  refine call_min_walkD (wpAny_pyIter_list hsL ⟨_, _, _, _, _, _, _, s3.heap, _, rfl,
    (Walks.list (A := X.A.in1) (I4.ok.hd hc) s3.heap.objs.size a (Nat.ne_of_lt old) its.toArray).toS, ⟨⟨_, Heap.get?_push_size _ rfl, rfl, rfl⟩, hsL.at fun o e => Heap.get?_push_of_some _ e⟩, fun b hb => ?_, fun b o e => newer e,
    fun b o e => Heap.get?_push_of_some _ e, fun hn s' hm => out _ hm ry (q0 ?_), fun hn => ⟨fun i j vi vj s Q E _ hi hj h => CmpOf.ints_lt (ns.getD · 0) numA i j vi vj s Q E hi hj h, fun v s' hP hm => ?_⟩⟩)
  · simp only [List.mem_cons, List.not_mem_nil, or_false] at hb
    show b < (s3.heap.push _).objs.size
    rw [Heap.size_push]
    rcases hb with z | z <;> rw [z]
    · exact Nat.lt_succ_self _
    · exact Nat.lt_succ_of_lt old
  · have hn2 : its.length = 0 := by simpa using hn
    exact List.eq_nil_of_length_eq_zero (by omega)
  · have hn2 : 0 < its.length := by simpa using hn
    obtain ⟨n, hn3, mem, le⟩ := least_of (show 0 < ns.length by omega)
    have ez : its.toArray.size = ns.length := by simpa using hlen
    rw [ez] at hP
    obtain ⟨t, ev⟩ := numA _ v hP
    have en : ns.getD (argBest (fun i j => decide (ns.getD i 0 < ns.getD j 0)) (ns.length - 1)) 0 = n := (List.getD_eq_getElem?_getD ..).trans (by rw [hn3]; rfl)
    exact out _ (v := .int n) hm ⟨t, by rw [ev, en]⟩ (q1 (fun z => by rw [z] at mem; cases mem) n mem le)
end
end My

set_option Elab.async false
set_option linter.all false
set_option maxRecDepth 100000
set_option maxHeartbeats 2000000
namespace My
open PySem PySem.Spec PyProof.Rows L2
/-- the end of a law that uses repr, where its head is told as facts by names: what F finds at the head's heap (a K there, and LawAtG) is enough for the law's own call -/
theorem walk_ofTsEG {l : PySem.W.OpenLaw} {most k : Nat} {x : Str} {q : Program} {loose : List Str} {d : DefRec} {XP : (Str → Option Value) → Heap → Prop} {YP : World → Heap → Prop}
    (hm : l.most = some most) (line : most ≤ sizeLine) (plain : d.params.defaults = []) (room : Room k callerA)
    (F : ∀ (w : World) (mg : Str → Option Value) (law : Addr) (head : Heap), YP w head → head.Ns mainGlobals mg → mg d.name = some (.ref law) → ∃ K : PySem.W.Frag, K.In head ∧ LawAtG l w K k most x mg law head) : PySem.W.WalkO q loose XP YP l.row.toRowW d [] (fun f vs => PySem.call f vs) :=
  Att.attach_callB hm plain fun w _ _ mg _ law _ _ _ _ script _ cells G told _ _ _ named lies nums len bits gens => by
    obtain ⟨K, inK, fd, cs, sp, tables, apart, heads, binds, asks, keeps⟩ := F w mg law _ told G.T.g named
    refine callG inK G.T.g G.T.b G.T.builtins G.T.nolimit gens tables apart heads G.T.bmain lies nums (Nat.le_trans len line) room keeps binds ?_
    exact fun H tb sc => asks H script cells len bits tb sc
end My

set_option Elab.async false
set_option linter.all false
set_option maxRecDepth 100000
set_option maxHeartbeats 1000000
namespace My
open PySem PySem.Spec PyProof.Rows L2
def topS (i : Nat) : Stmt := PySem.Challenge.pw_stretchkeep_k22_trees_looked_at.main.body.getD i (.Pass ⟨0, 0, 0, 0⟩)
abbrev s_lists_of : Stmt := topS 2
theorem sc_lists_of : FnScope ["columns", "found", "longest", "many", "one", "letter"] ["columns"] (defScope s_lists_of) := ⟨rfl, rfl, rfl, by decide +kernel, rfl, by decide +kernel, by decide +kernel⟩
abbrev s_picked : Stmt := topS 3
theorem sc_picked : FnScope ["columns", "row", "letters"] ["columns", "row", "letters"] (defScope s_picked) := ⟨rfl, rfl, rfl, by decide +kernel, rfl, by decide +kernel, by decide +kernel⟩
abbrev s_letters_of : Stmt := topS 5
theorem sc_letters_of : FnScope ["equals", "letter", "number"] ["equals"] (defScope s_letters_of) := ⟨rfl, rfl, rfl, by decide +kernel, rfl, by decide +kernel, by decide +kernel⟩
abbrev s_spans : Stmt := topS 6
theorem sc_spans : FnScope ["question", "equals", "reach", "letter", "wanted", "low", "high", "number"] ["question"] (defScope s_spans) := ⟨rfl, rfl, rfl, by decide +kernel, rfl, by decide +kernel, by decide +kernel⟩
abbrev s_used : Stmt := topS 8
theorem sc_used : FnScope ["one", "question", "equals", "reach", "letters", "many"] ["one", "question"] (defScope s_used) := ⟨rfl, rfl, rfl, by decide +kernel, rfl, by decide +kernel, by decide +kernel⟩
abbrev s_stretch : Stmt := topS 9
theorem sc_stretch : FnScope ["table", "one", "question", "columns", "rows", "letters", "first", "last", "keys", "ahead", "behind", "wanted", "row", "key"] ["table", "one", "question"] (defScope s_stretch) := ⟨rfl, rfl, rfl, by decide +kernel, rfl, by decide +kernel, by decide +kernel⟩
abbrev s_price_by : Stmt := topS 11
theorem sc_price_by : FnScope ["table", "one", "question", "columns", "rows", "start", "end"] ["table", "one", "question"] (defScope s_price_by) := ⟨rfl, rfl, rfl, by decide +kernel, rfl, by decide +kernel, by decide +kernel⟩
abbrev s_upkeep : Stmt := topS 12
theorem sc_upkeep : FnScope ["changes", "choice", "one"] ["changes", "choice"] (defScope s_upkeep) := ⟨rfl, rfl, rfl, by decide +kernel, rfl, by decide +kernel, by decide +kernel⟩
abbrev s_prices_by : Stmt := topS 14
theorem sc_prices_by : FnScope ["table", "question", "lists", "known", "found", "one", "letters"] ["table", "question", "lists"] (defScope s_prices_by) := ⟨rfl, rfl, rfl, by decide +kernel, rfl, by decide +kernel, by decide +kernel⟩
abbrev s_Sheet___init__ : Stmt := inClass (topS 15) 0
theorem sc_Sheet___init__ : FnScope ["self", "work", "table", "asks", "changes", "question", "often"] ["self", "work"] (defScope s_Sheet___init__) := ⟨rfl, rfl, rfl, by decide +kernel, rfl, by decide +kernel, by decide +kernel⟩
abbrev s_Sheet_asked : Stmt := inClass (topS 15) 1
theorem sc_Sheet_asked : FnScope ["self", "near", "total", "often", "bare", "prices", "one"] ["self", "near"] (defScope s_Sheet_asked) := ⟨rfl, rfl, rfl, by decide +kernel, rfl, by decide +kernel, by decide +kernel⟩
abbrev s_Sheet_cost : Stmt := inClass (topS 15) 2
theorem sc_Sheet_cost : FnScope ["self", "choice"] ["self", "choice"] (defScope s_Sheet_cost) := ⟨rfl, rfl, rfl, by decide +kernel, rfl, by decide +kernel, by decide +kernel⟩
abbrev s_Sheet_outdoes : Stmt := inClass (topS 15) 3
theorem sc_Sheet_outdoes : FnScope ["self", "one", "other", "prices"] ["self", "one", "other"] (defScope s_Sheet_outdoes) := ⟨rfl, rfl, rfl, by decide +kernel, rfl, by decide +kernel, by decide +kernel⟩
abbrev s_left_of : Stmt := topS 17
theorem sc_left_of : FnScope ["room", "inside", "one"] ["room", "inside"] (defScope s_left_of) := ⟨rfl, rfl, rfl, by decide +kernel, rfl, by decide +kernel, by decide +kernel⟩
abbrev s_fitting : Stmt := topS 18
theorem sc_fitting : FnScope ["room", "inside", "free", "left", "one"] ["room", "inside", "free"] (defScope s_fitting) := ⟨rfl, rfl, rfl, by decide +kernel, rfl, by decide +kernel, by decide +kernel⟩
abbrev s_floor : Stmt := topS 19
theorem sc_floor : FnScope ["sheet", "room", "inside", "free", "near"] ["sheet", "room", "inside", "free"] (defScope s_floor) := ⟨rfl, rfl, rfl, by decide +kernel, rfl, by decide +kernel, by decide +kernel⟩
abbrev s_is_fork : Stmt := topS 20
theorem sc_is_fork : FnScope ["free", "thing"] ["free", "thing"] (defScope s_is_fork) := ⟨rfl, rfl, rfl, by decide +kernel, rfl, by decide +kernel, by decide +kernel⟩
abbrev s_shown : Stmt := topS 21
theorem sc_shown : FnScope ["sheet", "room", "number", "thing", "inside", "free", "word", "one", "within", "without", "rest", "kept", "other"] ["sheet", "room", "number", "thing", "inside", "free"] (defScope s_shown) := ⟨rfl, rfl, rfl, by decide +kernel, rfl, by decide +kernel, by decide +kernel⟩
abbrev s_shows : Stmt := topS 22
theorem sc_shows : FnScope ["work", "room", "number", "thing", "sheet"] ["work", "room", "number", "thing"] (defScope s_shows) := ⟨rfl, rfl, rfl, by decide +kernel, rfl, by decide +kernel, by decide +kernel⟩
abbrev s_l_reel : Stmt := topS 24
theorem sc_l_reel : FnScope ["script", "k", "number", "stir", "found", "turn"] ["script", "k"] (defScope s_l_reel) := ⟨rfl, rfl, rfl, by decide +kernel, rfl, by decide +kernel, by decide +kernel⟩
abbrev s_l_pick : Stmt := topS 25
theorem sc_l_pick : FnScope ["reel", "many", "digit"] ["reel", "many"] (defScope s_l_pick) := ⟨rfl, rfl, rfl, by decide +kernel, rfl, by decide +kernel, by decide +kernel⟩
abbrev s_l_columns : Stmt := topS 26
theorem sc_l_columns : FnScope ["reel", "many", "left", "found", "k"] ["reel", "many"] (defScope s_l_columns) := ⟨rfl, rfl, rfl, by decide +kernel, rfl, by decide +kernel, by decide +kernel⟩
abbrev s_l_table : Stmt := topS 27
theorem sc_l_table : FnScope ["reel", "most", "rows", "columns", "tops", "many", "letter", "k", "top"] ["reel", "most", "rows"] (defScope s_l_table) := ⟨rfl, rfl, rfl, by decide +kernel, rfl, by decide +kernel, by decide +kernel⟩
abbrev s_l_near : Stmt := topS 28
theorem sc_l_near : FnScope ["reel", "rows", "at", "row", "way", "number"] ["reel", "rows", "at", "row"] (defScope s_l_near) := ⟨rfl, rfl, rfl, by decide +kernel, rfl, by decide +kernel, by decide +kernel⟩
abbrev s_l_question : Stmt := topS 29
theorem sc_l_question : FnScope ["reel", "table", "columns", "rows", "letter", "row", "equals", "k", "left", "at", "low", "high"] ["reel", "table"] (defScope s_l_question) := ⟨rfl, rfl, rfl, by decide +kernel, rfl, by decide +kernel, by decide +kernel⟩
abbrev s_l_used : Stmt := topS 30
theorem sc_l_used : FnScope ["one", "question", "letter", "letters", "found", "more", "number"] ["one", "question"] (defScope s_l_used) := ⟨rfl, rfl, rfl, by decide +kernel, rfl, by decide +kernel, by decide +kernel⟩
abbrev s_l_stretch : Stmt := topS 31
theorem sc_l_stretch : FnScope ["table", "one", "question", "columns", "rows", "begun", "equals", "start", "end", "row", "sign", "letter", "here", "low", "high"] ["table", "one", "question"] (defScope s_l_stretch) := ⟨rfl, rfl, rfl, by decide +kernel, rfl, by decide +kernel, by decide +kernel⟩
abbrev s_l_price_by : Stmt := topS 32
theorem sc_l_price_by : FnScope ["table", "one", "question", "start", "end"] ["table", "one", "question"] (defScope s_l_price_by) := ⟨rfl, rfl, rfl, by decide +kernel, rfl, by decide +kernel, by decide +kernel⟩
abbrev s_l_work : Stmt := topS 35
theorem sc_l_work : FnScope ["reel", "most", "rows", "many", "table", "asks", "k", "often"] ["reel", "most", "rows", "many"] (defScope s_l_work) := ⟨rfl, rfl, rfl, by decide +kernel, rfl, by decide +kernel, by decide +kernel⟩
abbrev s_l_lists : Stmt := topS 36
theorem sc_l_lists : FnScope ["columns", "found", "row", "turn", "longer", "one", "letter"] ["columns"] (defScope s_l_lists) := ⟨rfl, rfl, rfl, by decide +kernel, rfl, by decide +kernel, by decide +kernel⟩
abbrev s_l_by : Stmt := topS 37
theorem sc_l_by : FnScope ["work", "found", "one", "question", "often"] ["work"] (defScope s_l_by) := ⟨rfl, rfl, rfl, by decide +kernel, rfl, by decide +kernel, by decide +kernel⟩
abbrev s_l_least : Stmt := topS 38
theorem sc_l_least : FnScope ["work", "choice", "by", "total", "at", "question", "often", "one"] ["work", "choice", "by"] (defScope s_l_least) := ⟨rfl, rfl, rfl, by decide +kernel, rfl, by decide +kernel, by decide +kernel⟩
abbrev s_l_outdone : Stmt := topS 39
theorem sc_l_outdone : FnScope ["by", "one", "some", "found", "other", "here", "there"] ["by", "one", "some"] (defScope s_l_outdone) := ⟨rfl, rfl, rfl, by decide +kernel, rfl, by decide +kernel, by decide +kernel⟩
abbrev s_l_floor : Stmt := topS 40
theorem sc_l_floor : FnScope ["work", "most", "some", "out", "by", "left", "more", "one"] ["work", "most", "some", "out", "by"] (defScope s_l_floor) := ⟨rfl, rfl, rfl, by decide +kernel, rfl, by decide +kernel, by decide +kernel⟩
abbrev s_l_goes : Stmt := topS 41
theorem sc_l_goes : FnScope ["work", "most", "number", "tree", "some", "out", "by"] ["work", "most", "number", "tree", "some", "out", "by"] (defScope s_l_goes) := ⟨rfl, rfl, rfl, by decide +kernel, rfl, by decide +kernel, by decide +kernel⟩
abbrev s_l_tree : Stmt := topS 42
theorem sc_l_tree : FnScope ["reel", "by", "some", "out", "deep", "one", "lists", "here"] ["reel", "by", "some", "out", "deep"] (defScope s_l_tree) := ⟨rfl, rfl, rfl, by decide +kernel, rfl, by decide +kernel, by decide +kernel⟩
abbrev s_l_bent : Stmt := topS 43
theorem sc_l_bent : FnScope ["reel", "lists", "tree", "at", "odd", "word", "one", "here", "there", "other", "more"] ["reel", "lists", "tree"] (defScope s_l_bent) := ⟨rfl, rfl, rfl, by decide +kernel, rfl, by decide +kernel, by decide +kernel⟩
abbrev s_l_floors : Stmt := topS 44
theorem sc_l_floors : FnScope ["work", "most", "tree", "some", "out", "by", "found"] ["work", "most", "tree", "some", "out", "by"] (defScope s_l_floors) := ⟨rfl, rfl, rfl, by decide +kernel, rfl, by decide +kernel, by decide +kernel⟩
abbrev s_l_bent_deep : Stmt := topS 45
theorem sc_l_bent_deep : FnScope ["tree", "other", "way", "deep", "at", "bent"] ["tree", "other", "way", "deep"] (defScope s_l_bent_deep) := ⟨rfl, rfl, rfl, by decide +kernel, rfl, by decide +kernel, by decide +kernel⟩
abbrev s_l_bent_more : Stmt := topS 46
theorem sc_l_bent_more : FnScope ["reel", "columns", "tree", "others", "way", "deep", "letter"] ["reel", "columns", "tree"] (defScope s_l_bent_more) := ⟨rfl, rfl, rfl, by decide +kernel, rfl, by decide +kernel, by decide +kernel⟩
abbrev s_law : Stmt := topS 47
theorem sc_law : FnScope ["script", "k", "reel", "work", "most", "by", "deep", "tree", "least", "things", "thing", "kept", "number", "found", "due", "turn"] ["script"] (defScope s_law) := ⟨rfl, rfl, rfl, by decide +kernel, rfl, by decide +kernel, by decide +kernel⟩
structure Ad where
  f_lists_of : Addr
  d_lists_of : FuncData
  f_picked : Addr
  d_picked : FuncData
  c_picked : Addr
  P_picked : Addr
  f_letters_of : Addr
  d_letters_of : FuncData
  f_spans : Addr
  d_spans : FuncData
  f_used : Addr
  d_used : FuncData
  f_stretch : Addr
  d_stretch : FuncData
  c_stretch : Addr
  P_stretch : Addr
  f_price_by : Addr
  d_price_by : FuncData
  f_upkeep : Addr
  d_upkeep : FuncData
  c_upkeep : Addr
  P_upkeep : Addr
  f_prices_by : Addr
  d_prices_by : FuncData
  f_Sheet___init__ : Addr
  d_Sheet___init__ : FuncData
  f_Sheet_asked : Addr
  d_Sheet_asked : FuncData
  f_Sheet_cost : Addr
  d_Sheet_cost : FuncData
  f_Sheet_outdoes : Addr
  d_Sheet_outdoes : FuncData
  c_Sheet_outdoes : Addr
  P_Sheet_outdoes : Addr
  f_left_of : Addr
  d_left_of : FuncData
  c_left_of : Addr
  P_left_of : Addr
  f_fitting : Addr
  d_fitting : FuncData
  f_floor : Addr
  d_floor : FuncData
  f_is_fork : Addr
  d_is_fork : FuncData
  f_shown : Addr
  d_shown : FuncData
  f_shows : Addr
  d_shows : FuncData
  f_l_reel : Addr
  d_l_reel : FuncData
  f_l_pick : Addr
  d_l_pick : FuncData
  f_l_columns : Addr
  d_l_columns : FuncData
  f_l_table : Addr
  d_l_table : FuncData
  f_l_near : Addr
  d_l_near : FuncData
  f_l_question : Addr
  d_l_question : FuncData
  f_l_used : Addr
  d_l_used : FuncData
  f_l_stretch : Addr
  d_l_stretch : FuncData
  f_l_price_by : Addr
  d_l_price_by : FuncData
  f_l_work : Addr
  d_l_work : FuncData
  f_l_lists : Addr
  d_l_lists : FuncData
  f_l_by : Addr
  d_l_by : FuncData
  f_l_least : Addr
  d_l_least : FuncData
  f_l_outdone : Addr
  d_l_outdone : FuncData
  f_l_floor : Addr
  d_l_floor : FuncData
  f_l_goes : Addr
  d_l_goes : FuncData
  f_l_tree : Addr
  d_l_tree : FuncData
  f_l_bent : Addr
  d_l_bent : FuncData
  f_l_floors : Addr
  d_l_floors : FuncData
  f_l_bent_deep : Addr
  d_l_bent_deep : FuncData
  f_l_bent_more : Addr
  d_l_bent_more : FuncData
  f_law : Addr
  d_law : FuncData
  C_Sheet : Addr
abbrev Ad.Ps (Z : Ad) : List Addr := [Z.P_picked, Z.P_stretch, Z.P_upkeep, Z.P_left_of, Z.P_Sheet_outdoes]
structure Tb (base : Heap) (mg : Str → Option Value) (Z : Ad) : Prop where
  t_picked : LamX.TabB base mg Z.c_picked Z.P_picked
  t_stretch : LamX.TabB base mg Z.c_stretch Z.P_stretch
  t_upkeep : LamX.TabB base mg Z.c_upkeep Z.P_upkeep
  t_left_of : LamX.TabB base mg Z.c_left_of Z.P_left_of
  t_Sheet_outdoes : LamX.TabB base mg Z.c_Sheet_outdoes Z.P_Sheet_outdoes
structure Tx (K : PySem.W.Frag) (mg : Str → Option Value) (Z : Ad) : Prop where
  F_lists_of : Fun K "lists_of" "lists_of" s_lists_of Z.f_lists_of Z.d_lists_of
  b_lists_of : Binds K Z.d_lists_of ["columns"] []
  g_lists_of : mg "lists_of" = some (.ref Z.f_lists_of)
  F_picked : Fun K "picked" "picked" s_picked Z.f_picked Z.d_picked
  C_picked : FunC K "picked" "picked" s_picked Z.f_picked Z.d_picked Z.c_picked
  b_picked : Binds K Z.d_picked ["columns", "row", "letters"] []
  g_picked : mg "picked" = some (.ref Z.f_picked)
  F_letters_of : Fun K "letters_of" "letters_of" s_letters_of Z.f_letters_of Z.d_letters_of
  b_letters_of : Binds K Z.d_letters_of ["equals"] []
  g_letters_of : mg "letters_of" = some (.ref Z.f_letters_of)
  F_spans : Fun K "spans" "spans" s_spans Z.f_spans Z.d_spans
  b_spans : Binds K Z.d_spans ["question"] []
  g_spans : mg "spans" = some (.ref Z.f_spans)
  F_used : Fun K "used" "used" s_used Z.f_used Z.d_used
  b_used : Binds K Z.d_used ["one", "question"] []
  g_used : mg "used" = some (.ref Z.f_used)
  F_stretch : Fun K "stretch" "stretch" s_stretch Z.f_stretch Z.d_stretch
  C_stretch : FunC K "stretch" "stretch" s_stretch Z.f_stretch Z.d_stretch Z.c_stretch
  b_stretch : Binds K Z.d_stretch ["table", "one", "question"] []
  g_stretch : mg "stretch" = some (.ref Z.f_stretch)
  F_price_by : Fun K "price_by" "price_by" s_price_by Z.f_price_by Z.d_price_by
  b_price_by : Binds K Z.d_price_by ["table", "one", "question"] []
  g_price_by : mg "price_by" = some (.ref Z.f_price_by)
  F_upkeep : Fun K "upkeep" "upkeep" s_upkeep Z.f_upkeep Z.d_upkeep
  C_upkeep : FunC K "upkeep" "upkeep" s_upkeep Z.f_upkeep Z.d_upkeep Z.c_upkeep
  b_upkeep : Binds K Z.d_upkeep ["changes", "choice"] []
  g_upkeep : mg "upkeep" = some (.ref Z.f_upkeep)
  F_prices_by : Fun K "prices_by" "prices_by" s_prices_by Z.f_prices_by Z.d_prices_by
  b_prices_by : Binds K Z.d_prices_by ["table", "question", "lists"] []
  g_prices_by : mg "prices_by" = some (.ref Z.f_prices_by)
  F_Sheet___init__ : Fun K "__init__" "Sheet.__init__" s_Sheet___init__ Z.f_Sheet___init__ Z.d_Sheet___init__
  b_Sheet___init__ : Binds K Z.d_Sheet___init__ ["self", "work"] []
  mk_Sheet : Mk K Z.C_Sheet Z.f_Sheet___init__
  F_Sheet_asked : Fun K "asked" "Sheet.asked" s_Sheet_asked Z.f_Sheet_asked Z.d_Sheet_asked
  b_Sheet_asked : Binds K Z.d_Sheet_asked ["self", "near"] []
  m_Sheet_asked : Meth K Z.C_Sheet "asked" Z.f_Sheet_asked
  F_Sheet_cost : Fun K "cost" "Sheet.cost" s_Sheet_cost Z.f_Sheet_cost Z.d_Sheet_cost
  b_Sheet_cost : Binds K Z.d_Sheet_cost ["self", "choice"] []
  m_Sheet_cost : Meth K Z.C_Sheet "cost" Z.f_Sheet_cost
  F_Sheet_outdoes : Fun K "outdoes" "Sheet.outdoes" s_Sheet_outdoes Z.f_Sheet_outdoes Z.d_Sheet_outdoes
  C_Sheet_outdoes : FunC K "outdoes" "Sheet.outdoes" s_Sheet_outdoes Z.f_Sheet_outdoes Z.d_Sheet_outdoes Z.c_Sheet_outdoes
  b_Sheet_outdoes : Binds K Z.d_Sheet_outdoes ["self", "one", "other"] []
  m_Sheet_outdoes : Meth K Z.C_Sheet "outdoes" Z.f_Sheet_outdoes
  F_left_of : Fun K "left_of" "left_of" s_left_of Z.f_left_of Z.d_left_of
  C_left_of : FunC K "left_of" "left_of" s_left_of Z.f_left_of Z.d_left_of Z.c_left_of
  b_left_of : Binds K Z.d_left_of ["room", "inside"] []
  g_left_of : mg "left_of" = some (.ref Z.f_left_of)
  F_fitting : Fun K "fitting" "fitting" s_fitting Z.f_fitting Z.d_fitting
  b_fitting : Binds K Z.d_fitting ["room", "inside", "free"] []
  g_fitting : mg "fitting" = some (.ref Z.f_fitting)
  F_floor : Fun K "floor" "floor" s_floor Z.f_floor Z.d_floor
  b_floor : Binds K Z.d_floor ["sheet", "room", "inside", "free"] []
  g_floor : mg "floor" = some (.ref Z.f_floor)
  F_is_fork : Fun K "is_fork" "is_fork" s_is_fork Z.f_is_fork Z.d_is_fork
  b_is_fork : Binds K Z.d_is_fork ["free", "thing"] []
  g_is_fork : mg "is_fork" = some (.ref Z.f_is_fork)
  F_shown : Fun K "shown" "shown" s_shown Z.f_shown Z.d_shown
  b_shown : Binds K Z.d_shown ["sheet", "room", "number", "thing", "inside", "free"] []
  g_shown : mg "shown" = some (.ref Z.f_shown)
  F_shows : Fun K "shows" "shows" s_shows Z.f_shows Z.d_shows
  b_shows : Binds K Z.d_shows ["work", "room", "number", "thing"] []
  g_shows : mg "shows" = some (.ref Z.f_shows)
  F_l_reel : Fun K "_law_reel" "_law_reel" s_l_reel Z.f_l_reel Z.d_l_reel
  b_l_reel : Binds K Z.d_l_reel ["script", "k"] []
  g_l_reel : mg "_law_reel" = some (.ref Z.f_l_reel)
  F_l_pick : Fun K "_law_pick" "_law_pick" s_l_pick Z.f_l_pick Z.d_l_pick
  b_l_pick : Binds K Z.d_l_pick ["reel", "many"] []
  g_l_pick : mg "_law_pick" = some (.ref Z.f_l_pick)
  F_l_columns : Fun K "_law_columns" "_law_columns" s_l_columns Z.f_l_columns Z.d_l_columns
  b_l_columns : Binds K Z.d_l_columns ["reel", "many"] []
  g_l_columns : mg "_law_columns" = some (.ref Z.f_l_columns)
  F_l_table : Fun K "_law_table" "_law_table" s_l_table Z.f_l_table Z.d_l_table
  b_l_table : Binds K Z.d_l_table ["reel", "most", "rows"] []
  g_l_table : mg "_law_table" = some (.ref Z.f_l_table)
  F_l_near : Fun K "_law_near" "_law_near" s_l_near Z.f_l_near Z.d_l_near
  b_l_near : Binds K Z.d_l_near ["reel", "rows", "at", "row"] []
  g_l_near : mg "_law_near" = some (.ref Z.f_l_near)
  F_l_question : Fun K "_law_question" "_law_question" s_l_question Z.f_l_question Z.d_l_question
  b_l_question : Binds K Z.d_l_question ["reel", "table"] []
  g_l_question : mg "_law_question" = some (.ref Z.f_l_question)
  F_l_used : Fun K "_law_used" "_law_used" s_l_used Z.f_l_used Z.d_l_used
  b_l_used : Binds K Z.d_l_used ["one", "question"] []
  g_l_used : mg "_law_used" = some (.ref Z.f_l_used)
  F_l_stretch : Fun K "_law_stretch" "_law_stretch" s_l_stretch Z.f_l_stretch Z.d_l_stretch
  b_l_stretch : Binds K Z.d_l_stretch ["table", "one", "question"] []
  g_l_stretch : mg "_law_stretch" = some (.ref Z.f_l_stretch)
  F_l_price_by : Fun K "_law_price_by" "_law_price_by" s_l_price_by Z.f_l_price_by Z.d_l_price_by
  b_l_price_by : Binds K Z.d_l_price_by ["table", "one", "question"] []
  g_l_price_by : mg "_law_price_by" = some (.ref Z.f_l_price_by)
  F_l_work : Fun K "_law_work" "_law_work" s_l_work Z.f_l_work Z.d_l_work
  b_l_work : Binds K Z.d_l_work ["reel", "most", "rows", "many"] []
  g_l_work : mg "_law_work" = some (.ref Z.f_l_work)
  F_l_lists : Fun K "_law_lists" "_law_lists" s_l_lists Z.f_l_lists Z.d_l_lists
  b_l_lists : Binds K Z.d_l_lists ["columns"] []
  g_l_lists : mg "_law_lists" = some (.ref Z.f_l_lists)
  F_l_by : Fun K "_law_by" "_law_by" s_l_by Z.f_l_by Z.d_l_by
  b_l_by : Binds K Z.d_l_by ["work"] []
  g_l_by : mg "_law_by" = some (.ref Z.f_l_by)
  F_l_least : Fun K "_law_least" "_law_least" s_l_least Z.f_l_least Z.d_l_least
  b_l_least : Binds K Z.d_l_least ["work", "choice", "by"] []
  g_l_least : mg "_law_least" = some (.ref Z.f_l_least)
  F_l_outdone : Fun K "_law_outdone" "_law_outdone" s_l_outdone Z.f_l_outdone Z.d_l_outdone
  b_l_outdone : Binds K Z.d_l_outdone ["by", "one", "some"] []
  g_l_outdone : mg "_law_outdone" = some (.ref Z.f_l_outdone)
  F_l_floor : Fun K "_law_floor" "_law_floor" s_l_floor Z.f_l_floor Z.d_l_floor
  b_l_floor : Binds K Z.d_l_floor ["work", "most", "some", "out", "by"] []
  g_l_floor : mg "_law_floor" = some (.ref Z.f_l_floor)
  F_l_goes : Fun K "_law_goes" "_law_goes" s_l_goes Z.f_l_goes Z.d_l_goes
  b_l_goes : Binds K Z.d_l_goes ["work", "most", "number", "tree", "some", "out", "by"] []
  g_l_goes : mg "_law_goes" = some (.ref Z.f_l_goes)
  F_l_tree : Fun K "_law_tree" "_law_tree" s_l_tree Z.f_l_tree Z.d_l_tree
  b_l_tree : Binds K Z.d_l_tree ["reel", "by", "some", "out", "deep"] []
  g_l_tree : mg "_law_tree" = some (.ref Z.f_l_tree)
  F_l_bent : Fun K "_law_bent" "_law_bent" s_l_bent Z.f_l_bent Z.d_l_bent
  b_l_bent : Binds K Z.d_l_bent ["reel", "lists", "tree"] []
  g_l_bent : mg "_law_bent" = some (.ref Z.f_l_bent)
  F_l_floors : Fun K "_law_floors" "_law_floors" s_l_floors Z.f_l_floors Z.d_l_floors
  b_l_floors : Binds K Z.d_l_floors ["work", "most", "tree", "some", "out", "by"] []
  g_l_floors : mg "_law_floors" = some (.ref Z.f_l_floors)
  F_l_bent_deep : Fun K "_law_bent_deep" "_law_bent_deep" s_l_bent_deep Z.f_l_bent_deep Z.d_l_bent_deep
  b_l_bent_deep : Binds K Z.d_l_bent_deep ["tree", "other", "way", "deep"] []
  g_l_bent_deep : mg "_law_bent_deep" = some (.ref Z.f_l_bent_deep)
  F_l_bent_more : Fun K "_law_bent_more" "_law_bent_more" s_l_bent_more Z.f_l_bent_more Z.d_l_bent_more
  b_l_bent_more : Binds K Z.d_l_bent_more ["reel", "columns", "tree"] []
  g_l_bent_more : mg "_law_bent_more" = some (.ref Z.f_l_bent_more)
  F_law : Fun K "law" "law" s_law Z.f_law Z.d_law
  b_law : Binds K Z.d_law ["script"] []
  g_law : mg "law" = some (.ref Z.f_law)
  cl_Sheet : Cls K Z.C_Sheet
  g_Sheet : mg "Sheet" = some (.ref Z.C_Sheet)
  n_Sheet_changes : NoAttr K Z.C_Sheet "changes"
  n_Sheet_lists : NoAttr K Z.C_Sheet "lists"
  n_Sheet_often : NoAttr K Z.C_Sheet "often"
  n_Sheet_bare : NoAttr K Z.C_Sheet "bare"
  n_Sheet_prices : NoAttr K Z.C_Sheet "prices"
  m_len : mg "len" = none
  m_range : mg "range" = none
  m_list : mg "list" = none
  m_sorted : mg "sorted" = none
  m_tuple : mg "tuple" = none
  m_min : mg "min" = none
  m_max : mg "max" = none
  m_enumerate : mg "enumerate" = none
  m_dict : mg "dict" = none
  m_isinstance : mg "isinstance" = none
  m_zip : mg "zip" = none
  m_int : mg "int" = none
  m_bool : mg "bool" = none
  m_sum : mg "sum" = none
  m_all : mg "all" = none
  m_any : mg "any" = none
  m_str : mg "str" = none
  m_repr : mg "repr" = none
section
variable {P : Program} {w : World} {K : PySem.W.Frag} {mg : Str → Option Value} {base : Heap} {Z : Ad}
/-! ### _law_reel -/
def spReel (K : PySem.W.Frag) : Sp := fun vs H Q _ => ∃ (a : Addr) (ns : List Int) (k : Nat), vs = [.ref a, .int k] ∧ SqL K H a (ns.map V.int) ∧ k < 1000 ∧ ∀ (n : Int) p, H p = none → Q (.ref p) (upd H p (.lst [.int n]))
theorem ok_reel (T : Tx K mg Z) : FnOk P w K mg base CX0 1 Z.f_l_reel Z.d_l_reel ["script", "k"] (spReel K) := by
  refine T.F_l_reel.ok sc_l_reel (fun vs H Q E h => ?_) (fun cdv A outer s H vs Q E hr h => ?_)
  · obtain ⟨a, ns, k, rfl, _⟩ := h
    rfl
  · obtain ⟨a, ns, k, rfl, hS, hk, q⟩ := h
    refine ⟨_, (pss_cons (ps_set (i := 2) sc_l_reel.nd rfl (.inl rfl) (pe_op op_add (pe_op op_mul pe_int (pv 1)) pe_int))
      (pss_mid (ps_if (pt_cmpR op_lt (pv 1) (pe_callB (cLenSq K) (by rfl) T.m_len (by decide +kernel) (pa_cons (pv 0) pa_nil)) (nomark _)) (pss_one (ps_set (i := 2) sc_l_reel.nd rfl (.inl rfl) (pe_ix (ixL K) (pv 0) (pv 1) (fun _ _ => rfl)))) pss_nil)
      (pss_cons (ps_if (pt_cmpR op_eq (pe_op op_mod (pv 2) pe_int) pe_int (nomark _)) (pss_one (ps_ret (pe_lst (pa_cons (pe_op op_fdiv (pv 2) pe_int) pa_nil)))) pss_nil)
      (pss_cons (ps_set (i := 3) sc_l_reel.nd rfl (.inl rfl) (pe_op op_mod (pe_op op_add (pe_op op_add (pe_op op_mul (pe_op op_mod (pv 2) pe_int) pe_int) (pe_op op_mul pe_int (pv 1))) pe_int) pe_int))
      (pss_cons (ps_set (i := 4) sc_l_reel.nd rfl (.inl rfl) pe_int)
      (pss_cons (ps_for PassesOwn.never rfl (pi_range1 (by rfl) T.m_range (pa_cons pe_int pa_nil)) (pg_name (i := 5) sc_l_reel.nd rfl (.inl rfl)) (pss_cons (ps_set (i := 3) sc_l_reel.nd rfl (.inl rfl) (pe_op op_mod (pe_op op_add (pe_op op_add (pe_op op_add (pe_op op_mul (pv 3) (pv 3)) (pe_op op_mul pe_int (pv 3))) (pe_op op_mul pe_int (pv 5))) pe_int) pe_int))
      (pss_one (ps_set (i := 4) sc_l_reel.nd rfl (.inl rfl) (pe_op op_add (pe_op op_mul (pv 4) pe_int) (pv 3))))))
      (pss_one (ps_ret (pe_lst (pa_cons (pv 4) pa_nil)))))))))), ?_⟩
    have b64 : ∀ x : Int, 0 ≤ x → x < 2147483399 → -(2 ^ 64) < x ∧ x < 2 ^ 64 := fun x h0 h1 => ⟨by omega, by omega⟩
    have em : ∀ x : Int, 0 ≤ x % 2147483399 ∧ x % 2147483399 < 2147483399 := fun x => ⟨Int.emod_nonneg _ (by decide), Int.emod_lt_of_pos _ (by decide)⟩
    refine ⟨.int k, rfl, 7, k, rfl, rfl, .inl ⟨by decide, by decide⟩, _, 4, rfl, rfl, ?_⟩
    refine ⟨fun σ H' => ∃ num : Int, σ = [some (.ref a), some (.int k), some (.int num), none, none, none] ∧ H' = H, ?_, ?_⟩
    · refine ⟨.int k, rfl, .ref a, rfl, a, _, rfl, .inl hS, _, _, rfl, rfl, _, rfl, ite2 (fun e => ?_) (fun e => ?_)⟩
      · have e1 : (k : Int) < ((ns.map V.int).length : Nat) := of_decide_eq_true e
        have e2 : k < ns.length := by
          rw [List.length_map] at e1
          omega
        refine ⟨.ref a, rfl, .int k, rfl, a, _, _, .int ns[k], rfl, rfl, hS, atI_nat (by rw [List.getElem?_map, List.getElem?_eq_getElem e2]; rfl), ?_⟩
        exact ⟨_, rfl, rfl⟩
      · exact ⟨_, rfl, rfl⟩
    · intro σ1 H1 hM
      obtain ⟨num, rfl, rfl⟩ := hM
      refine ⟨.int num, rfl, num, 5, rfl, rfl, (by show (0 : Int) < 5; decide), rfl, _, rfl, ite2 (fun e => ?_) (fun e => ?_)⟩
      · refine ⟨.int num, rfl, num, 5, rfl, rfl, ⟨by decide, by decide⟩, (by show 1 ≤ sizeLine; decide), fun p np => ?_⟩
        exact q _ p np
      · refine ⟨.int num, rfl, num, 2147483399, rfl, rfl, (by show (0 : Int) < 2147483399; decide), _, 50021, rfl, rfl, .inl (b64 _ (em _).1 (em _).2), .int k, rfl, 977, k, rfl, rfl, .inl ⟨by decide, by decide⟩, _, _, rfl, rfl, _, 31, rfl, rfl, _, 2147483399, rfl, rfl, (by show (0 : Int) < 2147483399; decide), ?_⟩
        refine ⟨60, rfl, by decide, by decide, for_range (fun i σ H' => ∃ (st fo : Int) (y : Option V), σ = [some (.ref a), some (.int k), some (.int num), some (.int st), some (.int fo), y] ∧ 0 ≤ st ∧ st < 2147483399 ∧ H' = H1) ⟨_, 0, none, rfl, (em _).1, (em _).2, rfl⟩ (fun i σ H' hi hP => ?_) (fun σ H' hP => ?_)⟩
        · obtain ⟨st, fo, y, rfl, s0, s1, rfl⟩ := hP
          refine ⟨.int st, rfl, .int st, rfl, st, st, rfl, rfl, .inl (b64 _ s0 s1), .int st, rfl, 60013, st, rfl, rfl, .inl ⟨by decide, by decide⟩, _, _, rfl, rfl, _, rfl, 29, _, rfl, rfl, .inl ⟨by decide, by decide⟩, _, _, rfl, rfl, _, 5, rfl, rfl, _, 2147483399, rfl, rfl, (by show (0 : Int) < 2147483399; decide), ?_⟩
          refine ⟨.int fo, rfl, fo, 2147483399, rfl, rfl, .inr ⟨by decide, by decide⟩, _, rfl, _, _, rfl, rfl, ?_⟩
          exact ⟨_, _, _, rfl, (em _).1, (em _).2, rfl⟩
        · obtain ⟨st, fo, y, rfl, s0, s1, rfl⟩ := hP
          refine ⟨.int fo, rfl, (by show 1 ≤ sizeLine; decide), fun p np => ?_⟩
          exact q _ p np
/-! ### _law_pick -/
def spPick (K : PySem.W.Frag) : Sp := fun vs H Q _ => ∃ (r : Addr) (n m : Int), vs = [.ref r, .int m] ∧ H r = some (.lst [.int n]) ∧ 0 < m ∧ m < 1073741824 ∧ ∀ (d n' : Int), 0 ≤ d → d < m → Q (.int d) (upd H r (.lst [.int n']))
theorem ok_pick (T : Tx K mg Z) : FnOk P w K mg base CX0 1 Z.f_l_pick Z.d_l_pick ["reel", "many"] (spPick K) := by
  refine T.F_l_pick.ok sc_l_pick (fun vs H Q E h => ?_) (fun cdv A outer s H vs Q E hr h => ?_)
  · obtain ⟨a, n, m, rfl, _⟩ := h
    rfl
  · obtain ⟨r, n, m, rfl, hS, h0, h1, q⟩ := h
    refine ⟨_, (pss_cons (ps_set (i := 2) sc_l_pick.nd rfl (.inl rfl) (pe_op op_mod (pe_ix (ixL K) (pv 0) pe_int (fun _ _ => rfl)) (pv 1)))
      (pss_cons (ps_asg (pe_op op_fdiv (pe_ix (ixL K) (pv 0) pe_int (fun _ _ => rfl)) (pv 1)) (pg_sub (pv 0) pe_int set_list))
      (pss_one (ps_ret (pv 2))))), ?_⟩
    refine ⟨.ref r, rfl, r, [.int n], 0, .int n, rfl, rfl, .inl (.inl hS), rfl, .int m, rfl, n, m, rfl, rfl, h0, ?_⟩
    refine ⟨.ref r, rfl, r, [.int n], 0, .int n, rfl, rfl, .inl (.inl hS), rfl, .int m, rfl, n, m, rfl, rfl, ⟨h0, h1⟩, ?_⟩
    refine ⟨.ref r, rfl, r, [.int n], 0, 0, rfl, rfl, hS, rfl, _, rfl, ?_⟩
    exact q _ _ (Int.emod_nonneg _ (by omega)) (Int.emod_lt_of_pos _ h0)
/-! ### _law_columns -/
def alpha : List Nat := [97, 98, 99, 100, 101, 102, 103, 104, 105, 106, 107, 108, 109, 110, 111, 112, 113, 114, 115, 116, 117, 118, 119, 120, 121, 122]
def spColumns (K : PySem.W.Frag) : Sp := fun vs H Q _ => ∃ (r : Addr) (n : Int) (m : Nat), vs = [.ref r, .int m] ∧ H r = some (.lst [.int n]) ∧ m ≤ 26 ∧ ∀ (l : List Nat) (n' : Int) (H' : Hp), Kp r H H' → H' r = some (.lst [.int n']) → Cols l → l.length = m → Q (tx l) H'
theorem ok_columns (T : Tx K mg Z) : FnOk P w K mg base CX0 2 Z.f_l_columns Z.d_l_columns ["reel", "many"] (spColumns K) := by
  have G_l_pick : FnOk P w K mg base CX0 1 Z.f_l_pick Z.d_l_pick ["reel", "many"] (spPick K) := ok_pick T
  refine T.F_l_columns.ok sc_l_columns (fun vs H Q E h => ?_) (fun cdv A outer s H vs Q E hr h => ?_)
  · obtain ⟨r, n, m, rfl, _⟩ := h
    rfl
  · obtain ⟨r, n, m, rfl, hR, hm, q⟩ := h
    refine ⟨_, (pss_cons (ps_set (i := 2) sc_l_columns.nd rfl (.inl rfl) (pe_callTy call_list_txt (by rfl) T.m_list (by decide +kernel) (pa_cons pe_str pa_nil)))
      (pss_cons (ps_set (i := 3) sc_l_columns.nd rfl (.inl rfl) (pe_lst pa_nil))
      (pss_cons (ps_for PassesOwn.never rfl (pi_range1 (by rfl) T.m_range (pa_cons (pv 1) pa_nil)) (pg_name (i := 4) sc_l_columns.nd rfl (.inl rfl)) (pss_one (ps_expr (bmK K PySem.F.plainAttrs_list PySem.F.slot_list_append PySem.F.type_list_append mt_append (pv 3) (pa_cons (bmK K PySem.F.plainAttrs_list PySem.F.slot_list_pop PySem.F.type_list_pop mt_popAt (pv 2) (pa_cons (pe_call G_l_pick (hr.mono (by omega)) (by rfl) T.g_l_pick T.F_l_pick.kp T.b_l_pick .nil pass0 (pa_cons (pv 0) (pa_cons (pe_callB (cLenSq K) (by rfl) T.m_len (by decide +kernel) (pa_cons (pv 2) pa_nil)) pa_nil))) pa_nil)) pa_nil)))))
      (pss_one (ps_ret (pe_join pe_str (pe_callB cr_sortedS (by rfl) T.m_sorted (by decide +kernel) (pa_cons (pv 3) pa_nil)))))))), ?_⟩
    have ea : (Str.ofString "abcdefghijklmnopqrstuvwxyz").cps.toList = alpha := by decide +kernel
    refine ⟨_, rfl, (by decide +kernel), fun L nL => ?_⟩
    rw [ea]
    refine ⟨Nat.zero_le _, fun F nF => ?_⟩
    have nFL : F ≠ L := fun e => by
      rw [e, upd_same] at nF
      cases nF
    have nF0 : H F = none := by
      rw [upd_ne nFL] at nF
      exact nF
    have nLr : L ≠ r := (ne_of_none hR nL).symm
    have nFr : F ≠ r := (ne_of_none hR nF0).symm
    refine ⟨.int m, rfl, m, rfl, by omega, by omega, for_range (fun i σ H' => ∃ (ll ff : List Nat) (n' : Int) (y : Option V), σ = [some (.ref r), some (.int m), some (.ref L), some (.ref F), y] ∧ Kp r H H' ∧ H' r = some (.lst [.int n']) ∧ H' L = some (.lst (ll.map sg)) ∧ H' F = some (.lst (ff.map sg)) ∧ (ll ++ ff).Perm alpha ∧ ff.length = i)
      ⟨alpha, [], n, none, rfl, ?_, ?_, ?_, ?_, ?_, rfl⟩ (fun i σ H' hi hP => ?_) (fun σ H' hP => ?_)⟩
    · exact (Kp.new Kp.rfl' nL).new nF
    · rw [upd_ne nFr.symm, upd_ne nLr.symm]
      exact hR
    · rw [upd_ne nFL.symm, upd_same]
    · rw [upd_same]
      rfl
    · rw [List.append_nil]
    · obtain ⟨ll, ff, n1, y, rfl, kp, hR1, hL, hF, hp, hl⟩ := hP
      have hlen : ll.length + ff.length = 26 := by
        have := hp.length_eq
        rw [List.length_append] at this
        exact this
      have hll : 0 < ll.length := by
        have : i < m := by omega
        omega
      refine ⟨.ref F, rfl, .inl ⟨rfl, _, .inl (.inl hF)⟩, .ref L, rfl, .inl ⟨rfl, _, .inl (.inl hL)⟩, .ref r, rfl, .ref L, rfl, L, _, rfl, .inl (.inl (.inl hL)), r, n1, _, rfl, hR1, ?_, ?_, fun d n2 d0 d1 => ?_⟩
      · rw [List.length_map]
        omega
      · rw [List.length_map]
        omega
      · rw [List.length_map] at d1
        have hd : d.toNat < ll.length := by omega
        have hL2 : (upd H' r (.lst [.int n2])) L = some (.lst (ll.map sg)) := by
          rw [upd_ne nLr]
          exact hL
        have hF2 : (upd (upd H' r (.lst [.int n2])) L (.lst ((ll.map sg).eraseIdx d.toNat))) F = some (.lst (ff.map sg)) := by
          rw [upd_ne nFL, upd_ne nFr]
          exact hF
        have hy : ll[d.toNat]? = some ll[d.toNat] := List.getElem?_eq_getElem hd
        refine ⟨L, _, d, d.toNat, sg ll[d.toNat], rfl, rfl, hL2, by omega, by omega, PySem.seqIndex_of d0 (by rw [List.length_map]; exact d1), ?_, F, _, _, rfl, rfl, hF2, ?_, ?_⟩
        · rw [List.getElem?_map, hy]
          rfl
        · rw [List.length_map]
          exact small1000 (by omega)
        · refine ⟨ll.eraseIdx d.toNat, ff ++ [ll[d.toNat]], n2, _, rfl, ?_, ?_, ?_, ?_, (popped hy ff).trans hp, by rw [List.length_append, hl]; rfl⟩
          · exact ((Kp.own kp).mut nL).mut nF0
          · rw [upd_ne nFr.symm, upd_ne nLr.symm, upd_same]
          · rw [upd_ne nFL.symm, upd_same, erase_map]
          · rw [upd_same, List.map_append]
            rfl
    · obtain ⟨ll, ff, n1, y, rfl, kp, hR1, hL, hF, hp, hl⟩ := hP
      have hm2 : ff.length = m := by
        rw [hl]
        omega
      refine ⟨⟨_, rfl⟩, .ref F, rfl, F, ff.map sS, rfl, .inl (.inl (by rw [← map_sg]; exact hF)), by rw [List.length_map]; omega, fun ys p hys hso np => ?_⟩
      obtain ⟨l, rfl, pl⟩ := perm_signs hys
      have ndA : (ll ++ ff).Nodup := hp.nodup_iff.mpr (by decide)
      have ndf : ff.Nodup := (List.nodup_append.mp ndA).2.1
      have ndl : l.Nodup := pl.nodup_iff.mpr ndf
      refine ⟨_, p, _, rfl, rfl, .inl (.inl (.inl upd_same)), ?_, ?_⟩
      · have e1 : (Str.ofString "").length = 0 := by decide +kernel
        rw [e1, Nat.mul_zero, Nat.add_zero, List.map_map]
        have e2 : ∀ k : List Nat, (k.map ((fun x : Str => x.length) ∘ sS)).sum = k.length := fun k => by
          induction k with
          | nil => rfl
          | cons a k ih =>
            rw [List.map_cons, List.sum_cons, ih, List.length_cons]
            show 1 + k.length = k.length + 1
            omega
        rw [e2, pl.length_eq]
        omega
      · rw [join_signs]
        refine q l n1 _ (kp.new np) ?_ ⟨strict_of (sorted_signs l hso) ndl, fun c hc => ?_⟩ (by rw [pl.length_eq]; exact hm2)
        · rw [upd_ne (ne_of_none hR1 np)]
          exact hR1
        · have hc2 : c ∈ alpha := hp.mem_iff.mp (List.mem_append_right _ (pl.mem_iff.mp hc))
          have : ∀ c ∈ alpha, 97 ≤ c ∧ c ≤ 122 := by decide
          exact this c hc2

/-! ### _law_table -/
def spTable (K : PySem.W.Frag) : Sp := fun vs H Q _ => ∃ (r : Addr) (n : Int) (most rn : Nat), vs = [.ref r, .int most, .int rn] ∧ H r = some (.lst [.int n]) ∧ 1 ≤ most ∧ most ≤ 26 ∧ rn ≤ 1000 ∧
  ∀ (cols : List Nat) (rows : List (List Int)) (v : V) (n' : Int) (H' : Hp), Kp r H H' → H' r = some (.lst [.int n']) → Fz H' v (tabD cols rows) → Cols cols → 1 ≤ cols.length → cols.length ≤ most → RowsOk cols.length rows → rows.length ≤ rn → Q v H'
theorem ok_table (T : Tx K mg Z) : FnOk P w K mg base CX0 3 Z.f_l_table Z.d_l_table ["reel", "most", "rows"] (spTable K) := by
  have G_l_pick : FnOk P w K mg base CX0 1 Z.f_l_pick Z.d_l_pick ["reel", "many"] (spPick K) := ok_pick T
  have G_l_columns : FnOk P w K mg base CX0 2 Z.f_l_columns Z.d_l_columns ["reel", "many"] (spColumns K) := ok_columns T
  refine T.F_l_table.ok sc_l_table (fun vs H Q E h => ?_) (fun cdv A outer s H vs Q E hr h => ?_)
  · obtain ⟨r, n, most, rn, rfl, _⟩ := h
    rfl
  · obtain ⟨r, n, most, rn, rfl, hR, hm1, hm2, hrn, q⟩ := h
    refine ⟨_, (pss_cons (ps_set (i := 3) sc_l_table.nd rfl (.inl rfl) (pe_call G_l_columns (hr.mono (by omega)) (by rfl) T.g_l_columns T.F_l_columns.kp T.b_l_columns .nil pass0 (pa_cons (pv 0) (pa_cons (pe_op op_add pe_int (pe_call G_l_pick (hr.mono (by omega)) (by rfl) T.g_l_pick T.F_l_pick.kp T.b_l_pick .nil pass0 (pa_cons (pv 0) (pa_cons (pv 1) pa_nil)))) pa_nil))))
      (pss_cons (ps_set (i := 4) sc_l_table.nd rfl (.inr rfl) (pe_lc (own := [("letter", 6)]) (tt := tYes) (by rfl) sc_l_table.nd (pi_str (pv 3)) (blkOk_by (own := [("letter", 6)]) (by kernel_rfl)) (fun _ _ _ _ _ => (pg_name (i := 6) sc_l_table.nd rfl (.inl rfl))) (fun _ _ _ _ _ => pts_nil) (fun _ _ _ _ _ => (pe_ix (ixL K) (pe_lst (pa_cons pe_int (pa_cons pe_int (pa_cons pe_int (pa_cons pe_int pa_nil))))) (pe_call G_l_pick (hr.mono (by omega)) (by rfl) T.g_l_pick T.F_l_pick.kp T.b_l_pick .nil pass0 (pa_cons (pv 0) (pa_cons pe_int pa_nil))) (fun _ _ => rfl)))))
      (pss_cons (ps_set (i := 5) sc_l_table.nd rfl (.inl rfl) (pe_call G_l_pick (hr.mono (by omega)) (by rfl) T.g_l_pick T.F_l_pick.kp T.b_l_pick .nil pass0 (pa_cons (pv 0) (pa_cons (pe_op op_add (pv 2) pe_int) pa_nil))))
      (pss_one (ps_ret (pe_tup (pa_cons (pv 3) (pa_cons (pe_callTy (cTupSq K) (by rfl) T.m_tuple (by decide +kernel) (pa_cons (pe_lc (own := [("k", 7)]) (tt := tYes) (by rfl) sc_l_table.nd (pi_range1 (by rfl) T.m_range (pa_cons (pv 5) pa_nil)) (blkOk_by (own := [("k", 7)]) (by kernel_rfl)) (fun _ _ _ _ _ => (pg_name (i := 7) sc_l_table.nd rfl (.inl rfl))) (fun _ _ _ _ _ => pts_nil) (fun _ _ _ _ _ => (pe_callTy (cTupSq K) (by rfl) T.m_tuple (by decide +kernel) (pa_cons (pe_lc (own := [("top", 8)]) (tt := tYes) (by rfl) sc_l_table.nd (piL K (pv 4)) (blkOk_by (own := [("top", 8)]) (by kernel_rfl)) (fun _ _ _ _ _ => (pg_name (i := 8) sc_l_table.nd rfl (.inl rfl))) (fun _ _ _ _ _ => pts_nil) (fun _ _ _ _ _ => (pe_call G_l_pick (hr.mono (by omega)) (by rfl) T.g_l_pick T.F_l_pick.kp T.b_l_pick .nil pass0 (pa_cons (pv 0) (pa_cons (pv 8) pa_nil))))) pa_nil)))) pa_nil)) pa_nil)))))))), ?_⟩
    -- columns
    refine ⟨.ref r, rfl, .ref r, rfl, .int most, rfl, r, n, most, rfl, hR, by omega, by omega, fun d n1 d0 d1 => ?_⟩
    have hR1 : (upd H r (.lst [.int n1])) r = some (.lst [.int n1]) := upd_same
    refine ⟨1, d, rfl, rfl, r, n1, (1 + d).toNat, by rw [Int.toNat_of_nonneg (by omega)]; rfl, hR1, by omega, fun cols n2 H2 kp2 hR2 hc hl => ?_⟩
    have hkp2 : Kp r H H2 := (Kp.own Kp.rfl').trans kp2
    -- tops
    refine ⟨tx cols, rfl, _, rfl, fun D nD => lc_it walk_str (fun i H' => ∃ (ts : List Int) (n3 : Int), Kp r H2 H' ∧ H' r = some (.lst [.int n3]) ∧ H' D = some (.lst (ts.map V.int)) ∧ ts.length = i ∧ ∀ t ∈ ts, 0 < t ∧ t ≤ 1000)
      ⟨[], n2, Kp.rfl'.new nD, by rw [upd_ne (ne_of_none hR2 nD)]; exact hR2, upd_same, rfl, fun t ht => nomatch ht⟩ (fun _ _ _ _ => trivial) (fun i x H3 H4 hi hP hY => ?_) (fun H3 hP => ?_)⟩
    · obtain ⟨ts, n3, kp3, hR3, hD3, hl3, ht3⟩ := hP
      obtain ⟨rfl, c, hc4, rfl⟩ := hY
      have nDr : D ≠ r := (ne_of_none hR2 nD).symm
      refine ⟨rfl, (by show 4 ≤ sizeLine; decide), fun L nL => ?_⟩
      have nLr : L ≠ r := (ne_of_none hR3 nL).symm
      have nLD : L ≠ D := (ne_of_none hD3 nL).symm
      have hR4 : (upd H4 L (.lst [.int 2, .int 2, .int 4, .int 1000])) r = some (.lst [.int n3]) := by
        rw [upd_ne nLr.symm]
        exact hR3
      refine ⟨.ref r, rfl, r, n3, 4, rfl, hR4, by decide, by decide, fun e n4 e0 e1 => ?_⟩
      obtain ⟨t, ht, hat⟩ := at_ints (ns := [2, 2, 4, 1000]) e0 e1
      refine ⟨L, [2, 2, 4, 1000].map V.int, e, .int t, rfl, rfl, .inl (.inl ?_), hat, ts.map V.int, ?_, ?_, ts ++ [t], n4, ?_, ?_, ?_, ?_, ?_⟩
      · rw [upd_ne nLr, upd_same]
        rfl
      · rw [upd_ne nDr, upd_ne nLD.symm]
        exact hD3
      · rw [List.length_map, hl3]
        have hi2 : i < cols.length := hi
        exact small1000 (by omega)
      · exact ((kp3.new nL).own).mut nD
      · rw [upd_ne nDr.symm, upd_same]
      · rw [upd_same, List.map_append]
        rfl
      · rw [List.length_append, hl3]
        rfl
      · intro u hu
        rcases List.mem_append.mp hu with hu | hu
        · exact ht3 u hu
        · have : ∀ z ∈ ([2, 2, 4, 1000] : List Int), 0 < z ∧ z ≤ 1000 := by decide
          rw [List.mem_singleton.mp hu]
          exact this t ht
    · obtain ⟨ts, n3, kp3, hR3, hD3, hl3, ht3⟩ := hP
      have hlt : ts.length = cols.length := hl3
      -- many
      refine ⟨.ref r, rfl, .int rn, rfl, rn, 1, rfl, rfl, r, n3, _, rfl, hR3, by omega, by omega, fun m n4 m0 m1 => ?_⟩
      have nDr : D ≠ r := (ne_of_none hR2 nD).symm
      have hD4 : (upd H3 r (.lst [.int n4])) D = some (.lst (ts.map V.int)) := by
        rw [upd_ne nDr]
        exact hD3
      have kp4 : Kp r H (upd H3 r (.lst [.int n4])) := (hkp2.trans kp3).own
      -- the rows
      refine ⟨tx cols, rfl, .int m, rfl, m, rfl, by omega, by omega, fun D2 nD2 => lc_range (fun i H' => ∃ (rows : List (List Int)) (vs : List V) (n5 : Int), Kp r H H' ∧ H' r = some (.lst [.int n5]) ∧ H' D = some (.lst (ts.map V.int)) ∧ H' D2 = some (.lst vs) ∧ FzA H' vs (rows.map rowD) ∧ RowsOk cols.length rows ∧ rows.length = i)
        ⟨[], [], n4, kp4.new nD2, ?_, ?_, upd_same, .nil, (fun _ h => nomatch h), rfl⟩ (fun i H5 hi hP => ?_) (fun H5 hP => ?_)⟩
      · rw [upd_ne (ne_of_none upd_same nD2)]
        exact upd_same
      · rw [upd_ne (ne_of_none hD4 nD2)]
        exact hD4
      · obtain ⟨rows, vs, n5, kp5, hR5, hD5, hD25, hF5, hok, hln⟩ := hP
        have nD2r : D2 ≠ r := (ne_of_none (upd_same (H := H3)) nD2).symm
        have nD2D : D2 ≠ D := (ne_of_none hD4 nD2).symm
        have nD2H : H D2 = none := Kp.none kp4 nD2r nD2
        have nDH : H D = none := Kp.none hkp2 nDr nD
        -- one row
        refine ⟨rfl, .ref D, rfl, D, rfl, ⟨_, .inl (.inl hD5)⟩, fun D3 nD3 => lc_list (xs := ts.map V.int) (fun j H' => ∃ (row : List Int) (n6 : Int), Kp r H5 H' ∧ H' r = some (.lst [.int n6]) ∧ H' D3 = some (.lst (row.map V.int)) ∧ row.length = j ∧ ∀ x ∈ row, 0 ≤ x ∧ x < 1000)
          ⟨[], n5, Kp.rfl'.new nD3, ?_, upd_same, rfl, fun _ h => nomatch h⟩ (fun j H' _ hP => ?_) (fun j x H6 hx hP => ?_) (fun H6 hP => ?_)⟩
        · rw [upd_ne (ne_of_none hR5 nD3)]
          exact hR5
        · obtain ⟨row, n6, kp6, _⟩ := hP
          exact .inl (.inl (kp6 D _ nDr hD5))
        · obtain ⟨row, n6, kp6, hR6, hD6, hl6, hx6⟩ := hP
          have nD3r : D3 ≠ r := (ne_of_none hR5 nD3).symm
          rw [List.getElem?_map] at hx
          obtain ⟨t, ht, rfl⟩ := Option.map_eq_some_iff.mp hx
          have tm : t ∈ ts := List.mem_of_getElem? ht
          have hj : j < ts.length := (List.getElem?_eq_some_iff.mp ht).1
          refine ⟨rfl, .ref r, rfl, .int t, rfl, r, n6, t, rfl, hR6, (ht3 t tm).1, by have := (ht3 t tm).2; omega, fun e n7 e0 e1 => ?_⟩
          refine ⟨row.map V.int, ?_, ?_, row ++ [e], n7, (kp6.own).mut nD3, ?_, ?_, ?_, ?_⟩
          · rw [upd_ne nD3r]
            exact hD6
          · rw [List.length_map]
            exact small1000 (by omega)
          · rw [upd_ne nD3r.symm, upd_same]
          · rw [upd_same, List.map_append]
            rfl
          · rw [List.length_append, hl6]
            rfl
          · intro u hu
            rcases List.mem_append.mp hu with hu | hu
            · exact hx6 u hu
            · rw [List.mem_singleton.mp hu]
              have := (ht3 t tm).2
              exact ⟨e0, by omega⟩
        · obtain ⟨row, n6, kp6, hR6, hD6, hl6, hx6⟩ := hP
          rw [List.length_map] at hl6
          refine ⟨D3, row.map V.int, rfl, .inl ⟨.inl (.inl hD6), fun t nt => ?_⟩⟩
          have hD26 : H6 D2 = some (.lst vs) := kp6 D2 _ nD2r hD25
          have hD62 : H6 D = some (.lst (ts.map V.int)) := kp6 D _ nDr hD5
          have ntD2 : t ≠ D2 := (ne_of_none hD26 nt).symm
          have kt : Kt H5 H6 := kp6.kt hR5
          have kt2 : Kt H6 (upd H6 t (.tup (row.map V.int))) := .new nt
          have hD27 : (upd H6 t (.tup (row.map V.int))) D2 = some (.lst vs) := by
            rw [upd_ne ntD2.symm]
            exact hD26
          refine ⟨vs, hD27, ?_, rows ++ [row], vs ++ [.ref t], n6, ?_, ?_, ?_, upd_same, ?_, ?_, by rw [List.length_append, hln]; rfl⟩
          · rw [hF5.len, List.length_map]
            exact small1000 (by omega)
          · exact ((kp5.trans kp6).new nt).mut nD2H
          · rw [upd_ne nD2r.symm, upd_ne (ne_of_none hR6 nt)]
            exact hR6
          · rw [upd_ne nD2D.symm, upd_ne (ne_of_none hD62 nt)]
            exact hD62
          · rw [List.map_append]
            exact (FzA.snoc ((hF5.kt kt).kt kt2) (row_made nt)).kt (.lst hD27)
          · intro x hx
            rcases List.mem_append.mp hx with hx | hx
            · exact hok x hx
            · rw [List.mem_singleton.mp hx]
              exact ⟨hl6.trans hlt, hx6⟩
      · obtain ⟨rows, vs, n5, kp5, hR5, hD5, hD25, hF5, hok, hln⟩ := hP
        refine ⟨D2, vs, rfl, .inl ⟨.inl (.inl hD25), fun R nR => ⟨(by show 2 ≤ sizeLine; decide), fun t nt => ?_⟩⟩⟩
        have f1 : Fz (upd H5 R (.tup vs)) (.ref R) (rowsD rows) := Fz.made nR hF5
        refine q cols rows (.ref t) n5 _ ((kp5.new nR).new nt) ?_ (Fz.made nt (.cons (.str _) (.cons f1 .nil))) hc (by omega) (by omega) hok (by omega)
        rw [upd_ne (ne_of_none (by rw [upd_ne (ne_of_none hR5 nR)]; exact hR5) nt), upd_ne (ne_of_none hR5 nR)]
        exact hR5

/-! ### _law_near -/
def spNear (K : PySem.W.Frag) : Sp := fun vs H Q _ => ∃ (r : Addr) (n : Int) (rs : V) (rows : List (List Int)) (at_ : Nat) (rw_ : V) (row : List Int) (k : Nat), vs = [.ref r, rs, .int at_, rw_] ∧ H r = some (.lst [.int n]) ∧ Fz H rs (rowsD rows) ∧ Fz H rw_ (rowD row) ∧ RowsOk k rows ∧ RowOk k row ∧ at_ < k ∧ rows.length ≤ 1000 ∧
  ∀ (x n' : Int) (H' : Hp), Kp r H H' → H' r = some (.lst [.int n']) → 0 ≤ x → x < 1000 → Q (.int x) H'
theorem ok_near (T : Tx K mg Z) : FnOk P w K mg base CX0 2 Z.f_l_near Z.d_l_near ["reel", "rows", "at", "row"] (spNear K) := by
  have G_l_pick : FnOk P w K mg base CX0 1 Z.f_l_pick Z.d_l_pick ["reel", "many"] (spPick K) := ok_pick T
  refine T.F_l_near.ok sc_l_near (fun vs H Q E h => ?_) (fun cdv A outer s H vs Q E hr h => ?_)
  · obtain ⟨r, n, rs, rows, at_, rw_, row, k, rfl, _⟩ := h
    rfl
  · obtain ⟨r, n, rs, rows, at_, rw_, row, k, rfl, hR, fR, fr, hrs, hro, hat, hlen, q⟩ := h
    obtain ⟨R, vs, rfl, hRR, fvs⟩ := fR.open
    obtain ⟨ra, rfl, hra⟩ := row_open fr
    have nRr : R ≠ r := fun z => by
      rw [z, hR] at hRR
      cases hRR
    have nrar : ra ≠ r := fun z => by
      rw [z, hR] at hra
      cases hra
    refine ⟨_, (pss_cons (ps_set (i := 4) sc_l_near.nd rfl (.inl rfl) (pe_call G_l_pick (hr.mono (by omega)) (by rfl) T.g_l_pick T.F_l_pick.kp T.b_l_pick .nil pass0 (pa_cons (pv 0) (pa_cons pe_int pa_nil))))
      (pss_cons (ps_if (pt_cmpR op_lt (pv 4) pe_int (nomark _)) (pss_one (ps_ret (pe_ix (ixT K) (pv 3) (pv 2) (fun _ _ => rfl)))) pss_nil)
      (pss_cons (ps_if (PW.pt (pw_or (pt_cmpR op_eq (pv 4) pe_int (nomark _)) (pw_or1 (pt_cmpR (eqDK K hr.units) (pv 1) (pe_tup pa_nil) (nomark _))))) (pss_one (ps_ret (pe_call G_l_pick (hr.mono (by omega)) (by rfl) T.g_l_pick T.F_l_pick.kp T.b_l_pick .nil pass0 (pa_cons (pv 0) (pa_cons (pe_ix (ixL K) (pe_lst (pa_cons pe_int (pa_cons pe_int pa_nil))) (pe_call G_l_pick (hr.mono (by omega)) (by rfl) T.g_l_pick T.F_l_pick.kp T.b_l_pick .nil pass0 (pa_cons (pv 0) (pa_cons pe_int pa_nil))) (fun _ _ => rfl)) pa_nil))))) pss_nil)
      (pss_cons (ps_set (i := 5) sc_l_near.nd rfl (.inl rfl) (pe_ix (ixT K) (pe_ix (ixT K) (pv 1) (pe_call G_l_pick (hr.mono (by omega)) (by rfl) T.g_l_pick T.F_l_pick.kp T.b_l_pick .nil pass0 (pa_cons (pv 0) (pa_cons (pe_callB (cLenSq K) (by rfl) T.m_len (by decide +kernel) (pa_cons (pv 1) pa_nil)) pa_nil))) (fun _ _ => rfl)) (pv 2) (fun _ _ => rfl)))
      (pss_one (ps_ret (pe_callB (call_min2 rfl) (by rfl) T.m_min (by decide +kernel) (pa_cons pe_int (pa_cons (pe_callB (call_max2 rfl) (by rfl) T.m_max (by decide +kernel) (pa_cons pe_int (pa_cons (pe_op op_add (pv 5) (pe_ix (ixL K) (pe_lst (pa_cons pe_int (pa_cons pe_int (pa_cons (pe_un un_neg pe_int) pa_nil)))) (pe_op op_mul (pe_op op_sub (pv 4) pe_int) (pe_op op_add pe_int (pe_call G_l_pick (hr.mono (by omega)) (by rfl) T.g_l_pick T.F_l_pick.kp T.b_l_pick .nil pass0 (pa_cons (pv 0) (pa_cons pe_int pa_nil))))) (fun _ _ => rfl))) pa_nil))) pa_nil))))))))), ?_⟩
    refine ⟨.ref r, rfl, r, n, 8, rfl, hR, by decide, by decide, fun way n1 w0 w1 => ?_⟩
    have hR1 : (upd H r (.lst [.int n1])) r = some (.lst [.int n1]) := upd_same
    have hRR1 : (upd H r (.lst [.int n1])) R = some (.tup vs) := by
      rw [upd_ne nRr]
      exact hRR
    have hra1 : (upd H r (.lst [.int n1])) ra = some (.tup (row.map V.int)) := by
      rw [upd_ne nrar]
      exact hra
    have fvs1 : FzA (upd H r (.lst [.int n1])) vs (rows.map rowD) := fvs.kt (.lst hR)
    have kp1 : Kp r H (upd H r (.lst [.int n1])) := Kp.own Kp.rfl'
    generalize upd H r (.lst [.int n1]) = H1 at hR1 hRR1 hra1 fvs1 kp1 ⊢
    have hal : at_ < row.length := by
      rw [hro.1]
      exact hat
    -- if way < 5
    refine ⟨.int way, rfl, _, _, rfl, rfl, _, rfl, ite2 (fun e => ?_) (fun e => ?_)⟩
    · refine ⟨.ref ra, rfl, .int at_, rfl, ra, _, _, .int row[at_], rfl, rfl, .inl (.inl hra1), atI_nat (by rw [List.getElem?_map, List.getElem?_eq_getElem hal]; rfl), ?_⟩
      have := hro.2 row[at_] (List.getElem_mem hal)
      exact q _ n1 _ kp1 hR1 this.1 this.2
    · have w5 : ¬ way < 5 := fun z => e (decide_eq_true z)
      -- what follows where one more is picked
      have pick2 : ∀ (H2 : Hp) (n2 : Int), Kp r H H2 → H2 r = some (.lst [.int n2]) → tRet (tCall (spPick K) [] E0 (tCons (tVar 0) (tCons (tOp (rIxL K) (tLst (tCons (tC (V.int 5)) (tCons (tC (V.int 1000)) tNil))) (tCall (spPick K) [] E0 (tCons (tVar 0) (tCons (tC (V.int 2)) tNil)))) tNil))) { nx := fun x H' => Q V.non H', rt := Q } [some (.ref r), some (.ref R), some (.int at_), some (.ref ra), some (.int way), none] H2 := by
        intro H2 n2 kp2 hR2
        refine ⟨.ref r, rfl, (by show 2 ≤ sizeLine; decide), fun L nL => ?_⟩
        have nLr : L ≠ r := (ne_of_none hR2 nL).symm
        refine ⟨.ref r, rfl, r, n2, 2, rfl, by rw [upd_ne nLr.symm]; exact hR2, by decide, by decide, fun d n3 d0 d1 => ?_⟩
        obtain ⟨t, ht, hat⟩ := at_ints (ns := [5, 1000]) d0 d1
        have ht2 : ∀ z ∈ ([5, 1000] : List Int), 0 < z ∧ z ≤ 1000 := by decide
        refine ⟨L, [5, 1000].map V.int, d, .int t, rfl, rfl, .inl (.inl (by rw [upd_ne nLr, upd_same]; rfl)), hat, r, n3, t, rfl, upd_same, (ht2 t ht).1, by have := (ht2 t ht).2; omega, fun x n4 x0 x1 => ?_⟩
        exact q x n4 _ (((kp2.new nL).own).own) upd_same x0 (by have := (ht2 t ht).2; omega)
      -- way == 5 or rows == ()
      refine ⟨.int way, rfl, rfl, _, rfl, ite2 (fun e5 => ?_) (fun e5 => ?_)⟩
      · exact pick2 H1 n1 kp1 hR1
      · refine ⟨.ref R, rfl, (by show 0 ≤ sizeLine; decide), fun p np => ?_⟩
        have hp : Fz (upd H1 p (.tup [])) (.ref p) (.tuple []) := Fz.made np .nil
        have hRp : Fz (upd H1 p (.tup [])) (.ref R) (rowsD rows) := (Fz.tup hRR1 fvs1).kt (.new np)
        refine ⟨_, _, hRp.to, hp.to, shaped_rows rows, shaped_rows [], _, rfl, ite2 (fun ee => ?_) (fun ee => ?_)⟩
        · exact pick2 _ n1 (kp1.new np) (by rw [upd_ne (ne_of_none hR1 np)]; exact hR1)
        · have ne : rows ≠ [] := fun z => by
            rw [z] at ee
            exact ee rfl
          have hpos : 0 < rows.length := List.length_pos_iff.mpr ne
          have kp2 : Kp r H (upd H1 p (.tup [])) := kp1.new np
          have hR2 : (upd H1 p (.tup [])) r = some (.lst [.int n1]) := by
            rw [upd_ne (ne_of_none hR1 np)]
            exact hR1
          have hRR2 : (upd H1 p (.tup [])) R = some (.tup vs) := by
            rw [upd_ne (ne_of_none hRR1 np)]
            exact hRR1
          have fvs2 : FzA (upd H1 p (.tup [])) vs (rows.map rowD) := fvs1.kt (.new np)
          generalize upd H1 p (.tup []) = H2 at kp2 hR2 hRR2 fvs2 ⊢
          have hvl : vs.length = rows.length := by
            rw [fvs2.len, List.length_map]
          refine ⟨.ref R, rfl, .ref r, rfl, .ref R, rfl, R, vs, rfl, .inr (.inl (.inl hRR2)), r, n1, _, rfl, hR2, by omega, by omega, fun d n3 d0 d1 => ?_⟩
          have hd : d.toNat < rows.length := by omega
          obtain ⟨v, hv, fv⟩ := fvs2.get (i := d.toNat) (d := rowD rows[d.toNat]) (by rw [List.getElem?_map, List.getElem?_eq_getElem hd]; rfl)
          have rok := hrs rows[d.toNat] (List.getElem_mem hd)
          obtain ⟨rb, rfl, hrb⟩ := row_open (fv.kt (Kt.lst hR2 (o := .lst [.int n3])))
          have hal2 : at_ < rows[d.toNat].length := by
            rw [rok.1]
            exact hat
          refine ⟨R, vs, d, .ref rb, rfl, rfl, .inl (.inl (by rw [upd_ne nRr]; exact hRR2)), L2.at_of (j := d.toNat) (by omega) hv, .int at_, rfl, rb, _, _, .int rows[d.toNat][at_], rfl, rfl, .inl (.inl hrb), atI_nat (by rw [List.getElem?_map, List.getElem?_eq_getElem hal2]; rfl), ?_⟩
          -- min(999, max(0, number + [0, 1, -1][(way - 6) * (1 + pick)]))
          refine ⟨_, rfl, 1, rfl, (by show 3 ≤ sizeLine; decide), fun L nL => ?_⟩
          have hR3 : (upd H2 r (.lst [.int n3])) r = some (.lst [.int n3]) := upd_same
          have kp3 : Kp r H (upd H2 r (.lst [.int n3])) := kp2.own
          have nLr : L ≠ r := (ne_of_none hR3 nL).symm
          refine ⟨.int way, rfl, way, 6, rfl, rfl, .ref r, rfl, r, n3, 2, rfl, by rw [upd_ne nLr.symm]; exact hR3, by decide, by decide, fun f n4 f0 f1 => ?_⟩
          have e52 : way ≠ 5 := fun z => e5 (decide_eq_true (by rw [z]))
          have hw : way = 6 ∨ way = 7 := by omega
          have hi0 : 0 ≤ (way - 6) * (1 + f) := Int.mul_nonneg (by omega) (by omega)
          have hi1 : (way - 6) * (1 + f) < 3 := by
            rcases hw with z | z <;> subst z <;> omega
          obtain ⟨t, ht, hti⟩ := at_ints (ns := [0, 1, -1]) hi0 hi1
          refine ⟨1, f, rfl, rfl, way - 6, 1 + f, rfl, rfl, .inl ⟨by omega, by omega⟩, L, [0, 1, -1].map V.int, _, .int t, rfl, rfl, .inl (.inl (by rw [upd_ne nLr, upd_same]; rfl)), hti, _, t, rfl, rfl, 0, _, rfl, 999, _, rfl, ?_⟩
          refine q _ n4 _ ((kp3.new nL).own) upd_same ?_ ?_
          · have m0 : (0 : Int) ≤ (if rows[d.toNat][at_] + t > 0 then rows[d.toNat][at_] + t else 0) := by
              split <;> omega
            split <;> omega
          · split <;> omega

/-! ### _law_question -/
def spQuestion (K : PySem.W.Frag) : Sp := fun vs H Q _ => ∃ (r : Addr) (n : Int) (tb : V) (cols : List Nat) (rows : List (List Int)), vs = [.ref r, tb] ∧ H r = some (.lst [.int n]) ∧ Fz H tb (tabD cols rows) ∧ Cols cols ∧ 1 ≤ cols.length ∧ cols.length ≤ 26 ∧ RowsOk cols.length rows ∧ rows.length ≤ 1000 ∧
  ∀ (es : List (Nat × Int)) (rc : Option (Nat × Int × Int)) (v : V) (n' : Int) (H' : Hp), Kp r H H' → H' r = some (.lst [.int n']) → QZ H' v es rc → QOk cols es rc → Q v H'
theorem ok_question (T : Tx K mg Z) : FnOk P w K mg base CX0 3 Z.f_l_question Z.d_l_question ["reel", "table"] (spQuestion K) := by
  have G_l_pick : FnOk P w K mg base CX0 1 Z.f_l_pick Z.d_l_pick ["reel", "many"] (spPick K) := ok_pick T
  have G_l_near : FnOk P w K mg base CX0 2 Z.f_l_near Z.d_l_near ["reel", "rows", "at", "row"] (spNear K) := ok_near T
  refine T.F_l_question.ok sc_l_question (fun vs H Q E h => ?_) (fun cdv A outer s H vs Q E hr h => ?_)
  · obtain ⟨r, n, tb, cols, rows, rfl, _⟩ := h
    rfl
  · obtain ⟨r, n, tb, cols, rows, rfl, hR, fT, hc, hc1, hc2, hrs, hrn, q⟩ := h
    obtain ⟨t, R, vs, rfl, ht, hRR, fvs⟩ := tab_open fT
    refine ⟨_, (pss_cons (ps_asg (pv 1) (pgT K (n := 2) (pgs_cons (pg_name (i := 2) sc_l_question.nd rfl (.inl rfl)) (pgs_cons (pg_name (i := 3) sc_l_question.nd rfl (.inl rfl)) pgs_nil))))
      (pss_cons (ps_set (i := 5) sc_l_question.nd rfl (.inl rfl) (pe_callTy (cTupSq K) (by rfl) T.m_tuple (by decide +kernel) (pa_cons (pe_lc (own := [("letter", 4)]) (tt := tYes) (by rfl) sc_l_question.nd (pi_str (pv 2)) (blkOk_by (own := [("letter", 4)]) (by kernel_rfl)) (fun _ _ _ _ _ => (pg_name (i := 4) sc_l_question.nd rfl (.inl rfl))) (fun _ _ _ _ _ => pts_nil) (fun _ _ _ _ _ => (pe_call G_l_pick (hr.mono (by omega)) (by rfl) T.g_l_pick T.F_l_pick.kp T.b_l_pick .nil pass0 (pa_cons (pv 0) (pa_cons pe_int pa_nil))))) pa_nil)))
      (pss_mid (ps_if (PW.pt (pw_and (pt_cmpR (neDK K hr.units) (pv 3) (pe_tup pa_nil) (nomark _)) (pw_and1 (pt_cmpR op_gt (pe_call G_l_pick (hr.mono (by omega)) (by rfl) T.g_l_pick T.F_l_pick.kp T.b_l_pick .nil pass0 (pa_cons (pv 0) (pa_cons pe_int pa_nil))) pe_int (nomark _))))) (pss_one (ps_set (i := 5) sc_l_question.nd rfl (.inl rfl) (pe_ix (ixT K) (pv 3) (pe_call G_l_pick (hr.mono (by omega)) (by rfl) T.g_l_pick T.F_l_pick.kp T.b_l_pick .nil pass0 (pa_cons (pv 0) (pa_cons (pe_callB (cLenSq K) (by rfl) T.m_len (by decide +kernel) (pa_cons (pv 3) pa_nil)) pa_nil))) (fun _ _ => rfl)))) pss_nil)
      (pss_cons (ps_set (i := 6) sc_l_question.nd rfl (.inr rfl) (pe_lst pa_nil))
      (pss_cons (ps_for PassesOwn.never rfl (pi_enumS (by rfl) T.m_enumerate (pa_cons (pv 2) pa_nil)) (pgT K (n := 2) (pgs_cons (pg_name (i := 7) sc_l_question.nd rfl (.inl rfl)) (pgs_cons (pg_name (i := 4) sc_l_question.nd rfl (.inl rfl)) pgs_nil))) (pss_one (ps_if (pt_cmpR op_lt (pe_call G_l_pick (hr.mono (by omega)) (by rfl) T.g_l_pick T.F_l_pick.kp T.b_l_pick .nil pass0 (pa_cons (pv 0) (pa_cons pe_int pa_nil))) pe_int (nomark _)) (pss_one (ps_expr (bmK K PySem.F.plainAttrs_list PySem.F.slot_list_append PySem.F.type_list_append mt_append (pv 6) (pa_cons (pe_tup (pa_cons (pv 4) (pa_cons (pe_call G_l_near (hr.mono (by omega)) (by rfl) T.g_l_near T.F_l_near.kp T.b_l_near .nil pass0 (pa_cons (pv 0) (pa_cons (pv 3) (pa_cons (pv 7) (pa_cons (pv 5) pa_nil))))) pa_nil))) pa_nil)))) pss_nil)))
      (pss_cons (ps_setLc (i := 8) (own := [("letter", 4)]) (tt := _) (by rfl) sc_l_question.nd rfl rfl (sw_true rfl rfl rfl (by decide +kernel)) (pi_str (pv 2)) (blkOk_by (own := [("letter", 4)]) (by kernel_rfl)) (fun _ _ _ _ _ => (pg_name (i := 4) sc_l_question.nd rfl (.inl rfl))) (fun _ _ _ _ _ => (pts_one (pt_cmp (pc_dnotin (hu_of hr) (pv 4) (pe_callTy (cDictSq K) (by rfl) T.m_dict (by decide +kernel) (pa_cons (pv 6) pa_nil)))))) (fun _ _ _ _ _ => (pv 4)))
      (pss_cons (ps_if (PW.pt (pw_or (pt_cmpR (eqDK K hr.units) (pv 8) (pe_lst pa_nil) (nomark _)) (pw_or1 (pt_cmpR op_eq (pe_call G_l_pick (hr.mono (by omega)) (by rfl) T.g_l_pick T.F_l_pick.kp T.b_l_pick .nil pass0 (pa_cons (pv 0) (pa_cons pe_int pa_nil))) pe_int (nomark _))))) (pss_one (ps_ret (pe_tup (pa_cons (pe_callTy (cTupF K) (by rfl) T.m_tuple (by decide +kernel) (pa_cons (pv 6) pa_nil)) (pa_cons pe_non pa_nil))))) pss_nil)
      (pss_cons (ps_set (i := 4) sc_l_question.nd rfl (.inl rfl) (pe_ix (ixL K) (pv 8) (pe_call G_l_pick (hr.mono (by omega)) (by rfl) T.g_l_pick T.F_l_pick.kp T.b_l_pick .nil pass0 (pa_cons (pv 0) (pa_cons (pe_callB (cLenSq K) (by rfl) T.m_len (by decide +kernel) (pa_cons (pv 8) pa_nil)) pa_nil))) (fun _ _ => rfl)))
      (pss_cons (ps_set (i := 9) sc_l_question.nd rfl (.inl rfl) (bmK K PySem.F.plainAttrs_str PySem.F.slot_str_index PySem.F.type_str_index mt_sindex (pv 2) (pa_cons (pv 4) pa_nil)))
      (pss_cons (ps_asg (pe_callB cr_sortedI (by rfl) T.m_sorted (by decide +kernel) (pa_cons (pe_lst (pa_cons (pe_call G_l_near (hr.mono (by omega)) (by rfl) T.g_l_near T.F_l_near.kp T.b_l_near .nil pass0 (pa_cons (pv 0) (pa_cons (pv 3) (pa_cons (pv 9) (pa_cons (pv 5) pa_nil))))) (pa_cons (pe_call G_l_near (hr.mono (by omega)) (by rfl) T.g_l_near T.F_l_near.kp T.b_l_near .nil pass0 (pa_cons (pv 0) (pa_cons (pv 3) (pa_cons (pv 9) (pa_cons (pv 5) pa_nil))))) pa_nil))) pa_nil)) (pgU K (n := 2) (pgs_cons (pg_name (i := 10) sc_l_question.nd rfl (.inl rfl)) (pgs_cons (pg_name (i := 11) sc_l_question.nd rfl (.inl rfl)) pgs_nil))))
      (pss_one (ps_ret (pe_tup (pa_cons (pe_callTy (cTupF K) (by rfl) T.m_tuple (by decide +kernel) (pa_cons (pv 6) pa_nil)) (pa_cons (pe_tup (pa_cons (pv 4) (pa_cons (pv 10) (pa_cons (pe_callB (call_min2 rfl) (by rfl) T.m_min (by decide +kernel) (pa_cons pe_int (pa_cons (pe_op op_add (pv 11) (pe_ix (ixL K) (pe_lst (pa_cons pe_int (pa_cons pe_int (pa_cons pe_int (pa_cons pe_int pa_nil))))) (pe_call G_l_pick (hr.mono (by omega)) (by rfl) T.g_l_pick T.F_l_pick.kp T.b_l_pick .nil pass0 (pa_cons (pv 0) (pa_cons pe_int pa_nil))) (fun _ _ => rfl))) pa_nil))) pa_nil)))) pa_nil))))))))))))))), ?_⟩
    refine ⟨.ref t, rfl, t, [tx cols, .ref R], rfl, .inl (.inl ht), rfl, tx cols, [.ref R], rfl, .ref R, [], rfl, rfl, ?_⟩
    have ntr : t ≠ r := fun z => by
      rw [z, hR] at ht
      cases ht
    have nRr : R ≠ r := fun z => by
      rw [z, hR] at hRR
      cases hRR
    -- row
    refine ⟨tx cols, rfl, _, rfl, fun D nD => lc_it walk_str (fun i H' => ∃ (row : List Int) (n3 : Int), Kp r H H' ∧ H' r = some (.lst [.int n3]) ∧ H' D = some (.lst (row.map V.int)) ∧ row.length = i ∧ ∀ x ∈ row, 0 ≤ x ∧ x < 1000)
      ⟨[], n, Kp.rfl'.new nD, by rw [upd_ne (ne_of_none hR nD)]; exact hR, upd_same, rfl, fun t ht => nomatch ht⟩ (fun _ _ _ _ => trivial) (fun i x H3 H4 hi hP hY => ?_) (fun H3 hP => ?_)⟩
    · obtain ⟨row, n3, kp3, hR3, hD3, hl3, ht3⟩ := hP
      obtain ⟨rfl, c, hc4, rfl⟩ := hY
      have nDr : D ≠ r := (ne_of_none hR nD).symm
      have hi2 : i < cols.length := hi
      refine ⟨rfl, .ref r, rfl, r, n3, 5, rfl, hR3, by decide, by decide, fun e n4 e0 e1 => ?_⟩
      refine ⟨row.map V.int, by rw [upd_ne nDr]; exact hD3, by rw [List.length_map]; exact small1000 (by omega), row ++ [e], n4, (kp3.own).mut nD, by rw [upd_ne nDr.symm, upd_same], by rw [upd_same, List.map_append]; rfl, by rw [List.length_append, hl3]; rfl, fun u hu => ?_⟩
      rcases List.mem_append.mp hu with hu | hu
      · exact ht3 u hu
      · rw [List.mem_singleton.mp hu]
        exact ⟨e0, by omega⟩
    · obtain ⟨row0, n3, kp3, hR3, hD3, hl3, ht3⟩ := hP
      refine ⟨D, _, rfl, .inl ⟨.inl (.inl hD3), fun ra nra => ?_⟩⟩
      have hrow0 : RowOk cols.length row0 := ⟨hl3, ht3⟩
      have kpa : Kp r H (upd H3 ra (.tup (row0.map V.int))) := kp3.new nra
      have hRa : (upd H3 ra (.tup (row0.map V.int))) r = some (.lst [.int n3]) := by
        rw [upd_ne (ne_of_none hR3 nra)]
        exact hR3
      have fra : Fz (upd H3 ra (.tup (row0.map V.int))) (.ref ra) (rowD row0) := row_made nra
      generalize upd H3 ra (.tup (row0.map V.int)) = Ha at kpa hRa fra ⊢
      -- the row asked by
      refine ⟨fun σ H' => ∃ (rv : V) (row : List Int) (n' : Int), σ = [some (.ref r), some (.ref t), some (tx cols), some (.ref R), none, some rv, none, none, none, none, none, none] ∧ Kp r H H' ∧ H' r = some (.lst [.int n']) ∧ Fz H' rv (rowD row) ∧ RowOk cols.length row, ?_, ?_⟩
      · refine ⟨.ref R, rfl, (by show 0 ≤ sizeLine; decide), fun p np => ?_⟩
        have kpp : Kp r H (upd Ha p (.tup [])) := kpa.new np
        have hRp : (upd Ha p (.tup [])) r = some (.lst [.int n3]) := by
          rw [upd_ne (ne_of_none hRa np)]
          exact hRa
        have frp : Fz (upd Ha p (.tup [])) (.ref ra) (rowD row0) := fra.kt (.new np)
        have hp : Fz (upd Ha p (.tup [])) (.ref p) (.tuple []) := Fz.made np .nil
        have ktp : Kt H (upd Ha p (.tup [])) := kpp.kt hR
        have fRp : Fz (upd Ha p (.tup [])) (.ref R) (rowsD rows) := (Fz.tup hRR fvs).kt ktp
        generalize upd Ha p (.tup []) = Hp1 at kpp hRp frp hp fRp ktp ⊢
        refine ⟨_, _, fRp.to, hp.to, shaped_rows rows, shaped_rows [], _, rfl, ite2 (fun ee => ?_) (fun ee => ?_)⟩
        · have ne : rows ≠ [] := fun z => by
            rw [z] at ee
            exact absurd ee (by decide)
          have hpos : 0 < rows.length := List.length_pos_iff.mpr ne
          refine ⟨.ref r, rfl, r, n3, 6, rfl, hRp, by decide, by decide, fun d n4 d0 d1 => ⟨d, 0, rfl, rfl, _, rfl, ite2 (fun e6 => ?_) (fun e6 => ?_)⟩⟩
          · have hRR1 : (upd Hp1 r (.lst [.int n4])) R = some (.tup vs) := by
              rw [upd_ne nRr]
              exact ktp R _ hRR
            have hR5 : (upd Hp1 r (.lst [.int n4])) r = some (.lst [.int n4]) := upd_same
            have kt5 : Kt H (upd Hp1 r (.lst [.int n4])) := ktp.trans (.lst hRp)
            have kp5 : Kp r H (upd Hp1 r (.lst [.int n4])) := kpp.own
            generalize upd Hp1 r (.lst [.int n4]) = H5 at hRR1 hR5 kt5 kp5 ⊢
            have fvs5 := fvs.kt kt5
            have hvl : vs.length = rows.length := by
              rw [fvs5.len, List.length_map]
            refine ⟨.ref R, rfl, .ref r, rfl, .ref R, rfl, R, vs, rfl, .inr (.inl (.inl hRR1)), r, n4, _, rfl, hR5, by omega, by omega, fun f n6 f0 f1 => ?_⟩
            have hf : f.toNat < rows.length := by omega
            obtain ⟨v, hv, fv⟩ := fvs5.get (i := f.toNat) (d := rowD rows[f.toNat]) (by rw [List.getElem?_map, List.getElem?_eq_getElem hf]; rfl)
            refine ⟨R, vs, f, v, rfl, rfl, .inl (.inl (by rw [upd_ne nRr]; exact hRR1)), L2.at_of (j := f.toNat) (by omega) hv, ?_⟩
            exact ⟨v, rows[f.toNat], n6, rfl, kp5.own, upd_same, fv.kt (.lst hR5), hrs _ (List.getElem_mem hf)⟩
          · exact ⟨.ref ra, row0, n4, rfl, kpp.own, upd_same, frp.kt (.lst hRp), hrow0⟩
        · exact ⟨.ref ra, row0, n3, rfl, kpp, hRp, frp, hrow0⟩
      · intro σ1 H1 hM
        obtain ⟨rv, row, n1, rfl, kp1, hR1, frv, hrow⟩ := hM
        have kt1 : Kt H H1 := kp1.kt hR
        -- equals = []
        refine ⟨Nat.zero_le _, fun E nE => ?_⟩
        have nEr : E ≠ r := (ne_of_none hR1 nE).symm
        have nEH : H E = none := Kp.none kp1 nEr nE
        refine ⟨tx cols, rfl, _, rfl, for_it walk_es (fun i σ H' => ∃ (es : List (Nat × Int)) (ps : List V) (n' : Int) (y4 y7 : Option V), σ = [some (.ref r), some (.ref t), some (tx cols), some (.ref R), y4, some rv, some (.ref E), y7, none, none, none, none] ∧ Kp r H H' ∧ Kt H1 H' ∧ H' r = some (.lst [.int n']) ∧ H' E = some (.lst ps) ∧ FzA H' ps (es.map eqD) ∧ (es.map (·.1)).Sublist (cols.take i) ∧ ∀ p ∈ es, 0 ≤ p.2 ∧ p.2 < 1000)
          ⟨[], [], n1, none, none, rfl, kp1.new nE, .new nE, by rw [upd_ne nEr.symm]; exact hR1, upd_same, .nil, List.nil_sublist _, fun _ h => nomatch h⟩ (fun _ _ _ _ _ => trivial) (fun i x σ H3 H4 hi hP hY => ?_) (fun σ H3 hP => ?_)⟩
        · obtain ⟨es, ps, n3, y4, y7, rfl, kp3, kt3, hR3, hE3, fps, hsub, hes⟩ := hP
          obtain ⟨T0, x1, x2, rfl, nT, rfl, ex1, ex2⟩ := hY
          have hi2 : i < cols.length := hi
          have e1 : x1 = .int (i : Nat) := (Option.some.inj ex1).symm
          have e2 : x2 = sg cols[i] := by
            have : (some (sg cols[i]) : Option V) = some x2 := by
              rw [← ex2]
              simp [hi2]
            exact (Option.some.inj this).symm
          subst e1 e2
          have kt4 : Kt H3 (upd H3 T0 (.tup [.int (i : Nat), sg cols[i]])) := .new nT
          have kp4 : Kp r H (upd H3 T0 (.tup [.int (i : Nat), sg cols[i]])) := kp3.new nT
          have hR4 : (upd H3 T0 (.tup [.int (i : Nat), sg cols[i]])) r = some (.lst [.int n3]) := by
            rw [upd_ne (ne_of_none hR3 nT)]
            exact hR3
          have hE4 : (upd H3 T0 (.tup [.int (i : Nat), sg cols[i]])) E = some (.lst ps) := by
            rw [upd_ne (ne_of_none hE3 nT)]
            exact hE3
          refine ⟨T0, [.int (i : Nat), sg cols[i]], rfl, .inl (.inl upd_same), rfl, .int (i : Nat), [sg cols[i]], rfl, sg cols[i], [], rfl, rfl, ?_⟩
          have kt34 : Kt H1 (upd H3 T0 (.tup [.int (i : Nat), sg cols[i]])) := kt3.trans kt4
          have fps4 := fps.kt kt4
          clear kt4
          generalize upd H3 T0 (.tup [.int (i : Nat), sg cols[i]]) = H4 at kp4 hR4 hE4 kt34 fps4 ⊢
          have hsub1 : (es.map (·.1)).Sublist (cols.take (i + 1)) := hsub.trans (List.take_sublist_take_left (Nat.le_succ i))
          refine ⟨.ref r, rfl, r, n3, 5, rfl, hR4, by decide, by decide, fun d n5 d0 d1 => ⟨d, 2, rfl, rfl, _, rfl, ite2 (fun e => ?_) (fun e => ?_)⟩⟩
          · have kt5 : Kt H4 (upd H4 r (.lst [.int n5])) := .lst hR4
            have hE5 : (upd H4 r (.lst [.int n5])) E = some (.lst ps) := by
              rw [upd_ne nEr]
              exact hE4
            have hR5 : (upd H4 r (.lst [.int n5])) r = some (.lst [.int n5]) := upd_same
            have kp5 : Kp r H (upd H4 r (.lst [.int n5])) := kp4.own
            have fps5 := fps4.kt kt5
            have kt15 := kt34.trans kt5
            clear kt5
            generalize upd H4 r (.lst [.int n5]) = H5 at hE5 hR5 kp5 fps5 kt15 ⊢
            have fR5 : Fz H5 (.ref R) (rowsD rows) := (Fz.tup hRR fvs).kt (kt1.trans kt15)
            refine ⟨.ref E, rfl, .inl ⟨rfl, _, .inl (.inl hE5)⟩, sg cols[i], rfl, .ref r, rfl, .ref R, rfl, .int (i : Nat), rfl, rv, rfl, r, n5, .ref R, rows, i, rv, row, cols.length, rfl, hR5, fR5, frv.kt kt15, hrs, hrow, hi2, hrn, fun x n6 H6 kp6 hR6 x0 x1 => ?_⟩
            refine ⟨(by show 2 ≤ sizeLine; decide), fun p np => ?_⟩
            have hE6 : H6 E = some (.lst ps) := kp6 E _ nEr hE5
            have hE7 : (upd H6 p (.tup [sg cols[i], .int x])) E = some (.lst ps) := by
              rw [upd_ne (ne_of_none hE6 np)]
              exact hE6
            have kt6 : Kt H5 H6 := kp6.kt hR5
            have kt7 : Kt H6 (upd H6 p (.tup [sg cols[i], .int x])) := .new np
            have fp : Fz (upd H6 p (.tup [sg cols[i], .int x])) (.ref p) (eqD (cols[i], x)) := Fz.made np (.cons (.str _) (.cons (.int _) .nil))
            have hpl : ps.length ≤ 26 := by
              rw [fps.len, List.length_map]
              have := hsub.length_le
              rw [List.length_map, List.length_take] at this
              omega
            refine ⟨E, ps, .ref p, rfl, rfl, hE7, small1000 (by omega), es ++ [(cols[i], x)], ps ++ [.ref p], n6, _, _, rfl, ?_, ?_, ?_, upd_same, ?_, ?_, ?_⟩
            · exact ((kp5.trans kp6).new np).mut nEH
            · exact ((kt15.trans kt6).trans kt7).trans (.lst hE7)
            · rw [upd_ne nEr.symm, upd_ne (ne_of_none hR6 np)]
              exact hR6
            · rw [List.map_append]
              exact (FzA.snoc ((fps5.kt kt6).kt kt7) fp).kt (.lst hE7)
            · rw [List.map_append, List.take_succ_eq_append_getElem hi2]
              exact hsub.append (List.Sublist.refl _)
            · intro u hu
              rcases List.mem_append.mp hu with hu | hu
              · exact hes u hu
              · rw [List.mem_singleton.mp hu]
                exact ⟨x0, x1⟩
          · exact ⟨es, ps, n5, _, _, rfl, kp4.own, kt34.trans (.lst hR4), upd_same, by rw [upd_ne nEr]; exact hE4, fps4.kt (.lst hR4), hsub1, hes⟩
        · obtain ⟨es, ps, n3, y4, y7, rfl, kp3, kt3, hR3, hE3, fps, hsub, hes⟩ := hP
          have hsub2 : (es.map (·.1)).Sublist cols := by
            have : cols.take (⟨cols.toArray⟩ : Str).cps.size = cols := List.take_of_length_le (Nat.le_refl _)
            rw [this] at hsub
            exact hsub
          have hup : (es.map (·.1)).Pairwise (· < ·) := hc.up.sublist hsub2
          have hnd : (es.map (·.1)).Nodup := hc.nd.sublist hsub2
          have hok : ∀ p ∈ es, p.1 ∈ cols ∧ 0 ≤ p.2 ∧ p.2 < 1000 := fun p hp => ⟨hsub2.subset (List.mem_map_of_mem hp), hes p hp⟩
          have hesl : es.length ≤ cols.length := by
            have := hsub2.length_le
            rw [List.length_map] at this
            exact this
          have nRH : ∀ {H' : Hp}, Kt H1 H' → Fz H' (.ref R) (rowsD rows) := fun k => (Fz.tup hRR fvs).kt (kt1.trans k)
          -- left
          refine ⟨tx cols, rfl, _, rfl, fun D nD => lc_it walk_str (fun i H' => Kp r H H' ∧ Kt H3 H' ∧ H' r = some (.lst [.int n3]) ∧ H' E = some (.lst ps) ∧ H' D = some (.lst (((cols.take i).filter fun c => !decide (c ∈ es.map (·.1))).map sg)))
            ⟨kp3.new nD, .new nD, by rw [upd_ne (ne_of_none hR3 nD)]; exact hR3, by rw [upd_ne (ne_of_none hE3 nD)]; exact hE3, upd_same⟩ (fun _ _ _ _ => trivial) (fun i x H4 H5 hi hP hY => ?_) (fun H4 hP => ?_)⟩
          · obtain ⟨kp4, kt4, hR4, hE4, hD4⟩ := hP
            obtain ⟨rfl, c, hc5, rfl⟩ := hY
            have hi2 : i < cols.length := hi
            have ec : cols[i] = c := by
              have : (⟨cols.toArray⟩ : Str).cps[i]? = some cols[i] := by simp [hi2]
              rw [this] at hc5
              exact Option.some.inj hc5
            obtain ⟨pas, rfl, hpas⟩ := pairs_of (K := K) (fps.kt kt4)
            refine ⟨rfl, sg c, rfl, .ref E, rfl, E, pas, es.map kvI, rfl, .inl (.inl hE4), hpas, fun d nd => ?_⟩
            rw [merge_es hnd]
            have nDH : H D = none := Kp.none kp3 (ne_of_none hR3 nD).symm nD
            have nDr : D ≠ r := (ne_of_none hR3 nD).symm
            have nDE : D ≠ E := (ne_of_none hE3 nD).symm
            have kt5 : Kt H3 (upd H5 d (.dK (es.map kvI))) := kt4.trans (.new nd)
            have kp5 : Kp r H (upd H5 d (.dK (es.map kvI))) := kp4.new nd
            have hR5 : (upd H5 d (.dK (es.map kvI))) r = some (.lst [.int n3]) := by
              rw [upd_ne (ne_of_none hR4 nd)]
              exact hR4
            have hE5 : (upd H5 d (.dK (es.map kvI))) E = some (.lst (pas.map V.ref)) := by
              rw [upd_ne (ne_of_none hE4 nd)]
              exact hE4
            have hD5 : (upd H5 d (.dK (es.map kvI))) D = some (.lst (((cols.take i).filter fun c => !decide (c ∈ es.map (·.1))).map sg)) := by
              rw [upd_ne (ne_of_none hD4 nd)]
              exact hD4
            have tk : cols.take (i + 1) = cols.take i ++ [c] := by
              rw [List.take_succ_eq_append_getElem hi2, ec]
            refine ⟨d, _, rfl, DGet.k (k := Sum.inr (sS c)) upd_same, _, rfl, ?_⟩
            rw [val_es]
            refine ite2 (fun e => ?_) (fun e => ?_)
            · have e2 : (!decide (c ∈ es.map (·.1))) = true := e
              refine ⟨sg c, rfl, _, hD5, ?_, kp5.mut nDH, kt5.trans (.lst hD5), by rw [upd_ne nDr.symm]; exact hR5, by rw [upd_ne nDE.symm]; exact hE5, ?_⟩
              · rw [List.length_map]
                have := List.length_filter_le (fun c => !decide (c ∈ es.map (·.1))) (cols.take i)
                rw [List.length_take] at this
                exact small1000 (by omega)
              · rw [upd_same, tk, List.filter_append, List.filter_cons, if_pos e2, List.map_append]
                rfl
            · have e2 : ¬ (!decide (c ∈ es.map (·.1))) = true := e
              refine ⟨kp5, kt5, hR5, hE5, ?_⟩
              rw [hD5, tk, List.filter_append, List.filter_cons, if_neg e2]
              simp
          · obtain ⟨kp4, kt4, hR4, hE4, hD4⟩ := hP
            have tkall : cols.take (⟨cols.toArray⟩ : Str).cps.size = cols := List.take_of_length_le (Nat.le_refl _)
            rw [tkall] at hD4
            generalize hll : (cols.filter fun c => !decide (c ∈ es.map (·.1))) = ll at hD4
            have hlm : ∀ c ∈ ll, c ∈ cols ∧ c ∉ es.map (·.1) := fun c h => by
              rw [← hll] at h
              obtain ⟨h1, h2⟩ := List.mem_filter.mp h
              exact ⟨h1, by simpa using h2⟩
            have kt14 : Kt H1 H4 := kt3.trans kt4
            have fps4 := fps.kt kt4
            have retN : ∀ (H' : Hp) (n' : Int), Kp r H H' → H' r = some (.lst [.int n']) → H' E = some (.lst ps) → FzA H' ps (es.map eqD) → tRet (tTup (tCons (tCB (rTupF K) (tCons (tVar 6) tNil)) (tCons (tC V.non) tNil))) { nx := fun x H' => Q V.non H', rt := Q } [some (.ref r), some (.ref t), some (tx cols), some (.ref R), y4, some rv, some (.ref E), y7, some (.ref D), none, none, none] H' := by
              intro H' n' kp' hR' hE' f'
              refine ⟨.ref E, rfl, E, ps, rfl, .inl (.inl hE'), fun te ob nte hob => ⟨(by show 2 ≤ sizeLine; decide), fun v nv => ?_⟩⟩
              have f1 : EZ (upd H' te (.frz ob (.tup ps))) (.ref te) es := EZ.made nte hob f'
              have hR2 : (upd H' te (.frz ob (.tup ps))) r = some (.lst [.int n']) := by
                rw [upd_ne (ne_of_none hR' nte)]
                exact hR'
              exact q es none (.ref v) n' _ ((kp'.new nte).new nv) (by rw [upd_ne (ne_of_none hR2 nv)]; exact hR2) (QZ.made (rc := none) nv f1 .non) ⟨hup, hok, hesl, fun c lo hi z => nomatch z⟩
            -- left == [] or ..
            refine ⟨.ref D, rfl, (by show 0 ≤ sizeLine; decide), fun p np => ?_⟩
            have hDp : (upd H4 p (.lst [])) D = some (.lst (ll.map sg)) := by
              rw [upd_ne (ne_of_none hD4 np)]
              exact hD4
            have kpp : Kp r H (upd H4 p (.lst [])) := kp4.new np
            have hRp : (upd H4 p (.lst [])) r = some (.lst [.int n3]) := by
              rw [upd_ne (ne_of_none hR4 np)]
              exact hR4
            have hEp : (upd H4 p (.lst [])) E = some (.lst ps) := by
              rw [upd_ne (ne_of_none hE4 np)]
              exact hE4
            have fpsp := fps4.kt (Kt.new np (o := .lst []))
            have ktp : Kt H1 (upd H4 p (.lst [])) := kt14.trans (.new np)
            have hpp : (upd H4 p (.lst [])) p = some (.lst []) := upd_same
            generalize upd H4 p (.lst []) = H5 at hDp kpp hRp hEp fpsp ktp hpp ⊢
            refine ⟨_, _, .lst (.inl (.inl hDp)) (dp_signs ll), .lst (.inl (.inl hpp)) .nil, shaped_signs (fun c h => (hc.az c (hlm c h).1).2), shaped_signs (l := []) (fun c h => nomatch h), _, rfl, ite2 (fun e => ?_) (fun e => ?_)⟩
            · exact retN H5 n3 kpp hRp hEp fpsp
            · have lne : ll ≠ [] := fun z => by
                rw [z] at e
                exact e rfl
              have lpos : 0 < ll.length := List.length_pos_iff.mpr lne
              have llen : ll.length ≤ 26 := by
                rw [← hll]
                have := List.length_filter_le (fun c => !decide (c ∈ es.map (·.1))) cols
                omega
              refine ⟨.ref r, rfl, r, n3, 2, rfl, hRp, by decide, by decide, fun d n6 d0 d1 => ⟨rfl, _, rfl, ite2 (fun e6 => ?_) (fun e6 => ?_)⟩⟩
              · exact retN _ n6 kpp.own upd_same (by rw [upd_ne nEr]; exact hEp) (fpsp.kt (.lst hRp))
              · have nDr : D ≠ r := (ne_of_none hR3 nD).symm
                have hD6 : (upd H5 r (.lst [.int n6])) D = some (.lst (ll.map sg)) := by
                  rw [upd_ne nDr]
                  exact hDp
                have hE6 : (upd H5 r (.lst [.int n6])) E = some (.lst ps) := by
                  rw [upd_ne nEr]
                  exact hEp
                have hR6 : (upd H5 r (.lst [.int n6])) r = some (.lst [.int n6]) := upd_same
                have kp6 : Kp r H (upd H5 r (.lst [.int n6])) := kpp.own
                have kt6 : Kt H1 (upd H5 r (.lst [.int n6])) := ktp.trans (.lst hRp)
                have fps6 := fpsp.kt (Kt.lst hRp (o := .lst [.int n6]))
                generalize upd H5 r (.lst [.int n6]) = H6 at hD6 hE6 hR6 kp6 kt6 fps6 ⊢
                -- letter
                refine ⟨.ref D, rfl, .ref r, rfl, .ref D, rfl, D, _, rfl, .inl (.inl (.inl hD6)), r, n6, _, rfl, hR6, by rw [List.length_map]; omega, by rw [List.length_map]; omega, fun f n7 f0 f1 => ?_⟩
                rw [List.length_map] at f1
                have hf : f.toNat < ll.length := by omega
                have hlc := hlm ll[f.toNat] (List.getElem_mem hf)
                have hD7 : (upd H6 r (.lst [.int n7])) D = some (.lst (ll.map sg)) := by
                  rw [upd_ne nDr]
                  exact hD6
                have hE7 : (upd H6 r (.lst [.int n7])) E = some (.lst ps) := by
                  rw [upd_ne nEr]
                  exact hE6
                have hR7 : (upd H6 r (.lst [.int n7])) r = some (.lst [.int n7]) := upd_same
                have kp7 : Kp r H (upd H6 r (.lst [.int n7])) := kp6.own
                have kt7 : Kt H1 (upd H6 r (.lst [.int n7])) := kt6.trans (.lst hR6)
                have fps7 := fps6.kt (Kt.lst hR6 (o := .lst [.int n7]))
                generalize upd H6 r (.lst [.int n7]) = H7 at hD7 hE7 hR7 kp7 kt7 fps7 ⊢
                generalize hcc : ll[f.toNat] = cc at hlc
                refine ⟨D, ll.map sg, f, sg cc, rfl, rfl, .inl (.inl hD7), L2.at_of (j := f.toNat) (by omega) (by rw [List.getElem?_map, List.getElem?_eq_getElem hf, hcc]; rfl), ?_⟩
                -- at
                obtain ⟨orest, hocc⟩ := ix_one hlc.1
                have hidx : cols.idxOf cc < cols.length := List.idxOf_lt_length_of_mem hlc.1
                refine ⟨tx cols, rfl, rfl, sg cc, rfl, _, _, cols.idxOf cc, orest, rfl, rfl, hocc, ?_⟩
                -- low, high
                refine ⟨.ref r, rfl, .ref R, rfl, .int (cols.idxOf cc : Nat), rfl, rv, rfl, r, n7, .ref R, rows, _, rv, row, cols.length, rfl, hR7, nRH kt7, frv.kt kt7, hrs, hrow, hidx, hrn, fun x1 n8 H8 kp8 hR8 x10 x11 => ?_⟩
                have kt8 : Kt H1 H8 := kt7.trans (kp8.kt hR7)
                refine ⟨.ref r, rfl, .ref R, rfl, .int (cols.idxOf cc : Nat), rfl, rv, rfl, r, n8, .ref R, rows, _, rv, row, cols.length, rfl, hR8, nRH kt8, frv.kt kt8, hrs, hrow, hidx, hrn, fun x2 n9 H9 kp9 hR9 x20 x21 => ?_⟩
                refine ⟨(by show 2 ≤ sizeLine; decide), fun L nL => ?_⟩
                refine ⟨L, [x1, x2], rfl, .inl (.inl upd_same), fun ns p2 hper hpw np2 => ?_⟩
                have hnl : ns.length = 2 := hper.length_eq
                obtain ⟨lo, hi, rfl⟩ : ∃ lo hi, ns = [lo, hi] := by
                  match ns, hnl with
                  | [a, b], _ => exact ⟨a, b, rfl⟩
                have hlohi : lo ≤ hi := (List.pairwise_cons.mp hpw).1 hi (by simp)
                have hbd : ∀ z ∈ [lo, hi], 0 ≤ z ∧ z < 1000 := fun z hz => by
                  have := hper.mem_iff.mp hz
                  rcases List.mem_cons.mp this with h | h
                  · rw [h]
                    exact ⟨x10, x11⟩
                  · rw [List.mem_singleton.mp h]
                    exact ⟨x20, x21⟩
                have blo := hbd lo (by simp)
                have bhi := hbd hi (by simp)
                refine ⟨p2, [.int lo, .int hi], rfl, .inl (.inl upd_same), rfl, .int lo, [.int hi], rfl, .int hi, [], rfl, rfl, ?_⟩
                have kpA : Kp r H (upd (upd H9 L (.lst [.int x1, .int x2])) p2 (.lst (List.map V.int [lo, hi]))) := (((kp7.trans kp8).trans kp9).new nL).new np2
                have hEB : H9 E = some (.lst ps) := kp9 E _ nEr (kp8 E _ nEr hE7)
                have hEC : (upd H9 L (.lst [.int x1, .int x2])) E = some (.lst ps) := by
                  rw [upd_ne (ne_of_none hEB nL)]
                  exact hEB
                have hEA : (upd (upd H9 L (.lst [.int x1, .int x2])) p2 (.lst (List.map V.int [lo, hi]))) E = some (.lst ps) := by
                  rw [upd_ne (ne_of_none hEC np2)]
                  exact hEC
                have hRC : (upd H9 L (.lst [.int x1, .int x2])) r = some (.lst [.int n9]) := by
                  rw [upd_ne (ne_of_none hR9 nL)]
                  exact hR9
                have hRA : (upd (upd H9 L (.lst [.int x1, .int x2])) p2 (.lst (List.map V.int [lo, hi]))) r = some (.lst [.int n9]) := by
                  rw [upd_ne (ne_of_none hRC np2)]
                  exact hRC
                have fpsA : FzA (upd (upd H9 L (.lst [.int x1, .int x2])) p2 (.lst (List.map V.int [lo, hi]))) ps (es.map eqD) := (((fps7.kt (kp8.kt hR7)).kt (kp9.kt hR8)).kt (.new nL)).kt (.new np2)
                generalize upd (upd H9 L (.lst [.int x1, .int x2])) p2 (.lst (List.map V.int [lo, hi])) = HA at kpA hEA hRA fpsA ⊢
                -- the end
                refine ⟨.ref E, rfl, E, ps, rfl, .inl (.inl hEA), fun te ob nte hob => ?_⟩
                have f1 : EZ (upd HA te (.frz ob (.tup ps))) (.ref te) es := EZ.made nte hob fpsA
                have kpB : Kp r H (upd HA te (.frz ob (.tup ps))) := kpA.new nte
                have hRB : (upd HA te (.frz ob (.tup ps))) r = some (.lst [.int n9]) := by
                  rw [upd_ne (ne_of_none hRA nte)]
                  exact hRA
                generalize upd HA te (.frz ob (.tup ps)) = HB at f1 kpB hRB ⊢
                refine ⟨sg cc, rfl, .int lo, rfl, .int hi, rfl, (by show 4 ≤ sizeLine; decide), fun L2 nL2 => ?_⟩
                have nL2r : L2 ≠ r := (ne_of_none hRB nL2).symm
                refine ⟨.ref r, rfl, r, n9, 4, rfl, by rw [upd_ne nL2r.symm]; exact hRB, by decide, by decide, fun g nA g0 g1 => ?_⟩
                obtain ⟨tt, htt, htat⟩ := at_ints (ns := [0, 0, 1, 400]) g0 g1
                have htt2 : 0 ≤ tt := by
                  have : ∀ z ∈ ([0, 0, 1, 400] : List Int), 0 ≤ z := by decide
                  exact this tt htt
                refine ⟨L2, [0, 0, 1, 400].map V.int, g, .int tt, rfl, rfl, .inl (.inl (by rw [upd_ne nL2r, upd_same]; rfl)), htat, hi, tt, rfl, rfl, 999, _, rfl, (by show 3 ≤ sizeLine; decide), fun tr ntr2 => ⟨(by show 2 ≤ sizeLine; decide), fun v nv => ?_⟩⟩
                have hRC2 : (upd (upd HB L2 (.lst [.int 0, .int 0, .int 1, .int 400])) r (.lst [.int nA])) r = some (.lst [.int nA]) := upd_same
                have kpC : Kp r H (upd (upd HB L2 (.lst [.int 0, .int 0, .int 1, .int 400])) r (.lst [.int nA])) := (kpB.new nL2).own
                have ktC : KT HB (upd (upd HB L2 (.lst [.int 0, .int 0, .int 1, .int 400])) r (.lst [.int nA])) := (KT.new nL2).trans (.lst (by rw [upd_ne nL2r.symm]; exact hRB))
                have fr := Fz.made ntr2 (.cons (.str (sS cc)) (.cons (.int lo) (.cons (.int (if hi + tt < 999 then hi + tt else 999)) .nil)))
                refine q es (some (cc, lo, if hi + tt < 999 then hi + tt else 999)) (.ref v) nA _ ((kpC.new ntr2).new nv) ?_ (QZ.made (rc := some _) nv ((f1.kT ktC).kT (.new ntr2)) fr) ⟨hup, hok, hesl, fun c l2 h2 z => ?_⟩
                · exact keep_new (keep_new hRC2 ntr2) nv
                · have z2 := Option.some.inj z
                  have e1 : cc = c := congrArg (·.1) z2
                  have e2 : lo = l2 := congrArg (·.2.1) z2
                  have e3 : (if hi + tt < 999 then hi + tt else 999) = h2 := congrArg (·.2.2) z2
                  rw [← e1, ← e2, ← e3]
                  refine ⟨hlc.1, hlc.2, blo.1, ?_, ?_⟩
                  · split <;> omega
                  · split <;> omega

/-! ### letters_of -/
def spLetters (K : PySem.W.Frag) : Sp := fun vs H Q _ => ∃ (ev : V) (es : List (Nat × Int)), vs = [ev] ∧ EZ H ev es ∧ es.length ≤ 1000 ∧ ∀ (p : Addr) (H' : Hp), Same H H' → H p = none → H' p = some (.lst ((es.map (·.1)).map sg)) → Q (.ref p) H'
theorem ok_letters (T : Tx K mg Z) : FnOk P w K mg base CX0 1 Z.f_letters_of Z.d_letters_of ["equals"] (spLetters K) := by
  refine T.F_letters_of.ok sc_letters_of (fun vs H Q E h => ?_) (fun cdv A outer s H vs Q E hr h => ?_)
  · obtain ⟨ev, es, rfl, _⟩ := h
    rfl
  · obtain ⟨ev, es, rfl, fe, hel, q⟩ := h
    obtain ⟨ea, ob, ps, rfl, hob, hea, fps⟩ := fe
    have hpl : ps.length = es.length := by rw [fps.len, List.length_map]
    refine ⟨_, (pss_one (ps_ret (pe_lc (own := [("letter", 1), ("number", 2)]) (tt := tYes) (by rfl) sc_letters_of.nd (piT K (pv 0)) (blkOk_by (own := [("letter", 1), ("number", 2)]) (by kernel_rfl)) (fun _ _ _ _ _ => (pgT K (n := 2) (pgs_cons (pg_name (i := 1) sc_letters_of.nd rfl (.inl rfl)) (pgs_cons (pg_name (i := 2) sc_letters_of.nd rfl (.inl rfl)) pgs_nil)))) (fun _ _ _ _ _ => pts_nil) (fun _ _ _ _ _ => (pv 1))))), ?_⟩
    refine ⟨.ref ea, rfl, ea, rfl, ⟨_, .inl (.inr ⟨_, hea⟩)⟩, fun D nD => lc_it (walk_tup (xs := ps)) (fun i H' => Same H H' ∧ H' D = some (.lst (((es.take i).map (·.1)).map sg)))
      ⟨Same.new (Same.refl H) nD, upd_same⟩ (fun i H' _ hP => .inl (.inr ⟨_, hP.1 _ _ hea⟩)) (fun i x H3 H4 hi hP hY => ?_) (fun H3 hP => ?_)⟩
    · obtain ⟨sm, hD⟩ := hP
      obtain ⟨rfl, hx⟩ := hY
      obtain ⟨dd, hdd, fd⟩ := fps.getV hx
      rw [List.getElem?_map] at hdd
      obtain ⟨pr, hpr, rfl⟩ := Option.map_eq_some_iff.mp hdd
      have hi2 : i < es.length := (List.getElem?_eq_some_iff.mp hpr).1
      have epr : es[i] = pr := (List.getElem?_eq_some_iff.mp hpr).2
      obtain ⟨pa, ys, rfl, hpa, fy2⟩ := fd.open
      obtain ⟨c, v, rfl, fc, fv⟩ := fy2.two
      rw [fc.isStr, fv.isInt] at hpa
      refine ⟨pa, [sg pr.1, .int pr.2], rfl, .inl (.inl (sm _ _ hpa)), rfl, sg pr.1, [.int pr.2], rfl, .int pr.2, [], rfl, rfl, rfl, sg pr.1, rfl, _, hD, ?_, Same.mut sm nD, ?_⟩
      · rw [List.length_map, List.length_map, List.length_take]
        exact small1000 (by omega)
      · rw [upd_same, List.take_succ_eq_append_getElem hi2, epr, List.map_append, List.map_append]
        rfl
    · obtain ⟨sm, hD⟩ := hP
      rw [hpl, List.take_of_length_le (Nat.le_refl _)] at hD
      exact q D H3 sm nD hD

/-! ### used -/
def spUsed (K : PySem.W.Frag) : Sp := fun vs H Q _ => ∃ (one : List Nat) (qv : V) (es : List (Nat × Int)) (rc : Option (Nat × Int × Int)), vs = [tx one, qv] ∧ one.length ≤ 1000 ∧ QZ H qv es rc ∧ es.length ≤ 1000 ∧ ∀ (H' : Hp), Same H H' → Q (tx (usedM one es rc)) H'
theorem ok_used (T : Tx K mg Z) : FnOk P w K mg base CX0 2 Z.f_used Z.d_used ["one", "question"] (spUsed K) := by
  have G_letters_of : FnOk P w K mg base CX0 1 Z.f_letters_of Z.d_letters_of ["equals"] (spLetters K) := ok_letters T
  refine T.F_used.ok sc_used (fun vs H Q E h => ?_) (fun cdv A outer s H vs Q E hr h => ?_)
  · obtain ⟨one, qv, es, rc, rfl, _⟩ := h
    rfl
  · obtain ⟨one, qv, es, rc, rfl, hol, fq, hel, q⟩ := h
    obtain ⟨qa, x, y, rfl, hqa, fx, fy⟩ := fq
    have fx2 := fx
    obtain ⟨ea, ob, ps, rfl, hob, hea, fps⟩ := fx2
    refine ⟨_, (pss_cons (ps_asg (pv 1) (pgT K (n := 2) (pgs_cons (pg_name (i := 2) sc_used.nd rfl (.inl rfl)) (pgs_cons (pg_name (i := 3) sc_used.nd rfl (.inl rfl)) pgs_nil))))
      (pss_cons (ps_set (i := 4) sc_used.nd rfl (.inl rfl) (pe_call G_letters_of (hr.mono (by omega)) (by rfl) T.g_letters_of T.F_letters_of.kp T.b_letters_of .nil pass0 (pa_cons (pv 2) pa_nil)))
      (pss_cons (ps_set (i := 5) sc_used.nd rfl (.inl rfl) pe_int)
      (pss_cons (ps_while PassesOwn.never (PW.pt (pw_and (pt_cmpR op_lt (pv 5) (pe_callB call_len_str (by rfl) T.m_len (by decide +kernel) (pa_cons (pv 0) pa_nil)) (nomark _)) (pw_and1 (pt_cmpR (inSq K) (pe_ix ix_str (pv 0) (pv 5) (fun _ _ => rfl)) (pv 4) (by rfl))))) (pss_one (ps_aug (i := 5) sc_used.nd rfl (.inl rfl) pe_int ip_add)))
      (pss_mid (ps_if (PW.pt (pw_and (pt_cmpR op_notN (pv 3) pe_non (nomark _)) (pw_and1 (pt_cmpR op_eq (pe_slice sl_str (pv 0) (po_some (pv 5)) (po_some (pe_op op_add (pv 5) pe_int))) (pe_ix (ixT K) (pv 3) pe_int (fun _ _ => rfl)) (nomark _))))) (pss_one (ps_aug (i := 5) sc_used.nd rfl (.inl rfl) pe_int ip_add)) pss_nil)
      (pss_one (ps_ret (pe_slice sl_str (pv 0) po_none (po_some (pv 5)))))))))), ?_⟩
    refine ⟨.ref qa, rfl, qa, [.ref ea, y], rfl, .inl (.inl hqa), rfl, .ref ea, [y], rfl, y, [], rfl, rfl, ?_⟩
    refine ⟨.ref ea, rfl, .ref ea, es, rfl, fx, hel, fun L H1 sm nL hL => ?_⟩
    -- while
    refine ⟨fun m σ H' => ∃ k : Nat, m = one.length - k ∧ k ≤ one.length ∧ σ = [some (tx one), some (.ref qa), some (.ref ea), some y, some (.ref L), some (.int k)] ∧ H' = H1 ∧ ∀ (i : Nat) (h : i < one.length), i < k → one[i] ∈ es.map (·.1), ⟨_, 0, rfl, Nat.zero_le _, rfl, rfl, fun i _ h => absurd h (Nat.not_lt_zero _)⟩, fun m σ H' hW => ?_⟩
    obtain ⟨k, rfl, hk, rfl, rfl, hin⟩ := hW
    refine ⟨.int k, rfl, tx one, rfl, _, rfl, Nat.le_of_lt (small1000 (show one.length ≤ 1000 from hol)), _, _, rfl, rfl, _, rfl, ite2 (fun e => ?_) (fun e => ?_)⟩
    · have hkl : k < one.length := by
        have : (k : Int) < ((one.length : Nat) : Int) := of_decide_eq_true e
        omega
      have hat : atI (⟨one.toArray⟩ : Str).cps.toList (k : Int) = some one[k] := atI_nat (by simp [hkl])
      refine ⟨tx one, rfl, .int k, rfl, _, _, _, rfl, rfl, Nat.le_of_lt (small1000 (show one.length ≤ 1000 from hol)), hat, .ref L, rfl, L, _, rfl, .inl (.inl (.inl hL)), rfl, flat_signs _, _, rfl, ?_⟩
      show (if inV (sg one[k]) ((es.map (·.1)).map sg) = true then _ else _)
      rw [inV_signs]
      refine ite2 (fun e2 => ?_) (fun e2 => ?_)
      · have hm : one[k] ∈ es.map (·.1) := of_decide_eq_true e2
        refine ⟨fun σ2 H2 => σ2 = [some (tx one), some (.ref qa), some (.ref ea), some y, some (.ref L), some (.int ((k : Int) + 1))] ∧ H2 = H', fun σ2 H2 hN => ?_, ?_⟩
        · obtain ⟨rfl, rfl⟩ := hN
          refine ⟨one.length - (k + 1), by omega, k + 1, rfl, hkl, rfl, rfl, fun i h hi => ?_⟩
          by_cases e3 : i = k
          · subst e3
            exact hm
          · exact hin i h (by omega)
        · exact ⟨_, rfl, _, _, rfl, rfl, rfl, rfl⟩
      · have hno : ∀ h : k < one.length, ¬ one[k] ∈ es.map (·.1) := fun _ z => e2 (decide_eq_true z)
        have hkk : (eqPart one es).length = k := take_while_at _ _ _ hk (fun i h hi => decide_eq_true (hin i h hi)) (fun h => decide_eq_false (hno h))
        have htk : one.take k = eqPart one es := by rw [← hkk]; exact (eqPart_take one es).symm
        refine ⟨fun σ H2 => ∃ k2 : Nat, σ = [some (tx one), some (.ref qa), some (.ref ea), some y, some (.ref L), some (.int k2)] ∧ H2 = H' ∧ one.take k2 = usedM one es rc, ?_, ?_⟩
        · cases rc with
          | none =>
            obtain rfl : y = .non := fy.isNon
            refine ⟨.non, rfl, rfl, _, rfl, ite2 (fun z => ?_) (fun _ => ?_)⟩
            · exact absurd z (by simp)
            · exact ⟨k, rfl, rfl, htk⟩
          | some t3 =>
            obtain ⟨c, lo, hi⟩ := t3
            obtain ⟨ra, zs, rfl, hra, fz⟩ := Fz.open (ds := [.str ⟨#[c]⟩, .int lo, .int hi]) fy
            obtain ⟨z1, z2, z3, rfl, g1, g2, g3⟩ := fz.three
            rw [g1.isStr, g2.isInt, g3.isInt] at hra
            refine ⟨.ref ra, rfl, rfl, _, rfl, ite2 (fun _ => ?_) (fun z => ?_)⟩
            · refine ⟨tx one, rfl, .int k, rfl, _, rfl, .int k, rfl, _, 1, rfl, rfl, _, rfl, _, rfl, Nat.le_of_lt (small1000 (show one.length ≤ 1000 from hol)), .ref ra, rfl, ra, _, 0, sg c, rfl, rfl, .inl (.inl (sm _ _ hra)), rfl, rfl, _, rfl, ?_⟩
              rw [cut_one one k hk]
              refine ite2 (fun z => ?_) (fun z => ?_)
              · have z2 : (one.drop k).take 1 = [c] := tx_inj (of_decide_eq_true z)
                refine ⟨_, rfl, _, _, rfl, rfl, k + 1, rfl, rfl, ?_⟩
                show one.take (k + 1) = (if (one.drop (eqPart one es).length).take 1 = [c] then one.take ((eqPart one es).length + 1) else eqPart one es)
                rw [hkk, if_pos z2]
              · have z2 : ¬ (one.drop k).take 1 = [c] := fun z3 => z (decide_eq_true (by rw [z3]))
                refine ⟨k, rfl, rfl, ?_⟩
                show one.take k = (if (one.drop (eqPart one es).length).take 1 = [c] then one.take ((eqPart one es).length + 1) else eqPart one es)
                rw [hkk, if_neg z2]
                exact htk
            · exact absurd (by simp) z
        · intro σ2 H2 hM
          obtain ⟨k2, rfl, rfl, hk2⟩ := hM
          refine ⟨tx one, rfl, .int k2, rfl, _, rfl, _, rfl, Nat.le_of_lt (small1000 (show one.length ≤ 1000 from hol)), ?_⟩
          rw [cut_take, hk2]
          exact q _ sm
    · have hge : ¬ k < one.length := fun z => e (decide_eq_true (show (k : Int) < ((one.length : Nat) : Int) by omega))
      have hkk : (eqPart one es).length = k := take_while_at _ _ _ hk (fun i h hi => decide_eq_true (hin i h hi)) (fun h => decide_eq_false ((absurd h hge : ¬ one[k] ∈ es.map (·.1))))
      have htk : one.take k = eqPart one es := by rw [← hkk]; exact (eqPart_take one es).symm
      refine ⟨fun σ H2 => ∃ k2 : Nat, σ = [some (tx one), some (.ref qa), some (.ref ea), some y, some (.ref L), some (.int k2)] ∧ H2 = H' ∧ one.take k2 = usedM one es rc, ?_, ?_⟩
      · cases rc with
        | none =>
          obtain rfl : y = .non := fy.isNon
          refine ⟨.non, rfl, rfl, _, rfl, ite2 (fun z => ?_) (fun _ => ?_)⟩
          · exact absurd z (by simp)
          · exact ⟨k, rfl, rfl, htk⟩
        | some t3 =>
          obtain ⟨c, lo, hi⟩ := t3
          obtain ⟨ra, zs, rfl, hra, fz⟩ := Fz.open (ds := [.str ⟨#[c]⟩, .int lo, .int hi]) fy
          obtain ⟨z1, z2, z3, rfl, g1, g2, g3⟩ := fz.three
          rw [g1.isStr, g2.isInt, g3.isInt] at hra
          refine ⟨.ref ra, rfl, rfl, _, rfl, ite2 (fun _ => ?_) (fun z => ?_)⟩
          · refine ⟨tx one, rfl, .int k, rfl, _, rfl, .int k, rfl, _, 1, rfl, rfl, _, rfl, _, rfl, Nat.le_of_lt (small1000 (show one.length ≤ 1000 from hol)), .ref ra, rfl, ra, _, 0, sg c, rfl, rfl, .inl (.inl (sm _ _ hra)), rfl, rfl, _, rfl, ?_⟩
            rw [cut_one one k hk]
            refine ite2 (fun z => ?_) (fun z => ?_)
            · have z2 : (one.drop k).take 1 = [c] := tx_inj (of_decide_eq_true z)
              refine ⟨_, rfl, _, _, rfl, rfl, k + 1, rfl, rfl, ?_⟩
              show one.take (k + 1) = (if (one.drop (eqPart one es).length).take 1 = [c] then one.take ((eqPart one es).length + 1) else eqPart one es)
              rw [hkk, if_pos z2]
            · have z2 : ¬ (one.drop k).take 1 = [c] := fun z3 => z (decide_eq_true (by rw [z3]))
              refine ⟨k, rfl, rfl, ?_⟩
              show one.take k = (if (one.drop (eqPart one es).length).take 1 = [c] then one.take ((eqPart one es).length + 1) else eqPart one es)
              rw [hkk, if_neg z2]
              exact htk
          · exact absurd (by simp) z
      · intro σ2 H2 hM
        obtain ⟨k2, rfl, rfl, hk2⟩ := hM
        refine ⟨tx one, rfl, .int k2, rfl, _, rfl, _, rfl, Nat.le_of_lt (small1000 (show one.length ≤ 1000 from hol)), ?_⟩
        rw [cut_take, hk2]
        exact q _ sm

/-! ### spans -/
def spSpans (K : PySem.W.Frag) : Sp := fun vs H Q _ => ∃ (qv : V) (cols : List Nat) (es : List (Nat × Int)) (rc : Option (Nat × Int × Int)), vs = [qv] ∧ QZ H qv es rc ∧ QOk cols es rc ∧ es.length ≤ 1000 ∧
  ∀ (d : Addr) (kvs : List (Key × V)) (H' : Hp), Same H H' → H d = none → H' d = some (.dK kvs) → SpA H' kvs (spanL es rc) → Q (.ref d) H'
theorem ok_spans (T : Tx K mg Z) : FnOk P w K mg base CX0 1 Z.f_spans Z.d_spans ["question"] (spSpans K) := by
  refine T.F_spans.ok sc_spans (fun vs H Q E h => ?_) (fun cdv A outer s H vs Q E hr h => ?_)
  · obtain ⟨qv, cols, es, rc, rfl, _⟩ := h
    rfl
  · obtain ⟨qv, cols, es, rc, rfl, fq, hok, hel, q⟩ := h
    obtain ⟨qa, x, y, rfl, hqa, fx, fy⟩ := fq
    obtain ⟨ea, ob, ps, rfl, hob, hea, fps⟩ := fx
    have hndE : (es.map (·.1)).Nodup := hok.up.imp fun {a b} q => by
      have : a < b := q
      omega
    refine ⟨_, (pss_cons (ps_asg (pv 0) (pgT K (n := 2) (pgs_cons (pg_name (i := 1) sc_spans.nd rfl (.inl rfl)) (pgs_cons (pg_name (i := 2) sc_spans.nd rfl (.inl rfl)) pgs_nil))))
      (pss_cons (ps_setDc (i := 4) (own := [("letter", 3), ("number", 7)]) (tt := tYes) (by rfl) sc_spans.nd rfl rfl (sw_dict rfl rfl rfl (by decide +kernel)) (piT K (pv 1)) (blkOk_by (own := [("letter", 3), ("number", 7)]) (by kernel_rfl)) (fun _ _ _ _ _ => (pgT K (n := 2) (pgs_cons (pg_name (i := 3) sc_spans.nd rfl (.inl rfl)) (pgs_cons (pg_name (i := 7) sc_spans.nd rfl (.inl rfl)) pgs_nil)))) (fun _ _ _ _ _ => pts_nil) (fun _ _ _ _ _ => (pv 3)) (fun _ _ _ _ _ => (pe_tup (pa_cons (pv 7) (pa_cons (pv 7) pa_nil)))))
      (pss_mid (ps_if (pt_cmpR op_notN (pv 2) pe_non (nomark _)) (pss_cons (ps_asg (pv 2) (pgT K (n := 3) (pgs_cons (pg_name (i := 3) sc_spans.nd rfl (.inl rfl)) (pgs_cons (pg_name (i := 5) sc_spans.nd rfl (.inl rfl)) (pgs_cons (pg_name (i := 6) sc_spans.nd rfl (.inl rfl)) pgs_nil)))))
      (pss_one (ps_dput (hu_of hr) (pv 4) (pv 3) (pe_tup (pa_cons (pv 5) (pa_cons (pv 6) pa_nil))) rfl))) pss_nil)
      (pss_one (ps_ret (pv 4)))))), ?_⟩
    refine ⟨.ref qa, rfl, qa, [.ref ea, y], rfl, .inl (.inl hqa), rfl, .ref ea, [y], rfl, y, [], rfl, rfl, ?_⟩
    refine ⟨.ref ea, rfl, ea, rfl, ⟨_, .inl (.inr ⟨_, hea⟩)⟩, fun D nD => dc_tup (xs := ps) (fun i H' => ∃ kvs, Same H H' ∧ H' D = some (.dK kvs) ∧ SpA H' kvs ((es.take i).map fun p => (p.1, p.2, p.2)))
      ⟨[], Same.new (Same.refl H) nD, upd_same, .nil⟩ (fun i H' _ hP => ?_) (fun i x H3 hx hP => ?_) (fun H3 hP => ?_)⟩
    · obtain ⟨kvs, sm, _⟩ := hP
      exact .inl (.inr ⟨_, sm _ _ hea⟩)
    · obtain ⟨kvs, sm, hD3, fk⟩ := hP
      obtain ⟨dd, hdd, fd⟩ := fps.getV hx
      rw [List.getElem?_map] at hdd
      obtain ⟨pr, hpr, rfl⟩ := Option.map_eq_some_iff.mp hdd
      obtain ⟨pa, ys, rfl, hpa, fy2⟩ := fd.open
      obtain ⟨c, v, rfl, fc, fv⟩ := fy2.two
      rw [fc.isStr, fv.isInt] at hpa
      have hi : i < es.length := (List.getElem?_eq_some_iff.mp hpr).1
      have epr : es[i] = pr := (List.getElem?_eq_some_iff.mp hpr).2
      refine ⟨pa, [sg pr.1, .int pr.2], rfl, .inl (.inl (sm _ _ hpa)), rfl, sg pr.1, [.int pr.2], rfl, .int pr.2, [], rfl, rfl, rfl, sg pr.1, rfl, .int pr.2, rfl, .int pr.2, rfl, (by show 2 ≤ sizeLine; decide), fun tp ntp => ?_⟩
      have hD4 : (upd H3 tp (.tup [.int pr.2, .int pr.2])) D = some (.dK kvs) := keep_new hD3 ntp
      have fk4 := fk.kt (Kt.new ntp (o := .tup [.int pr.2, .int pr.2]))
      have tk : (es.take (i + 1)).map (fun p => (p.1, p.2, p.2)) = (es.take i).map (fun p => (p.1, p.2, p.2)) ++ [(pr.1, pr.2, pr.2)] := by
        rw [List.take_succ_eq_append_getElem hi, epr, List.map_append]
        rfl
      have nk : valV kvs (Sum.inr (sS pr.1)) = none := by
        refine fk.none fun hm => ?_
        rw [spanL_keys] at hm
        have hnd2 : ((es.take (i + 1)).map (·.1)).Nodup := hndE.sublist ((List.take_sublist _ _).map _)
        rw [List.take_succ_eq_append_getElem hi, epr, List.map_append] at hnd2
        exact (List.nodup_append.mp hnd2).2.2 _ hm _ (by simp) rfl
      refine ⟨kvs, Sum.inr (sS pr.1), rfl, hD4, ?_, putK kvs (Sum.inr (sS pr.1)) (.ref tp), ?_, upd_same, ?_⟩
      · rw [fk.len, List.length_map, List.length_take]
        exact small1000 (by omega)
      · exact Same.mut (Same.new sm ntp) nD
      · rw [putK_new _ nk, tk]
        exact (SpA.snoc fk4 upd_same).kt (.dct hD4)
    · obtain ⟨kvs, sm, hD3, fk⟩ := hP
      have hpl : ps.length = es.length := by
        rw [fps.len, List.length_map]
      rw [hpl, List.take_of_length_le (Nat.le_refl _)] at fk
      refine ⟨fun σ H' => ∃ (kvs' : List (Key × V)) (y3 y5 y6 : Option V), σ = [some (.ref qa), some (.ref ea), some y, y3, some (.ref D), y5, y6, none] ∧ Same H H' ∧ H' D = some (.dK kvs') ∧ SpA H' kvs' (spanL es rc), ?_, ?_⟩
      · cases rc with
        | none =>
          have ey : y = .non := fy.isNon
          subst ey
          refine ⟨.non, rfl, rfl, _, rfl, iteNS rfl ?_⟩
          refine ⟨kvs, _, _, _, rfl, sm, hD3, ?_⟩
          unfold spanL
          rw [Option.toList_none, List.append_nil]
          exact fk
        | some t3 =>
          obtain ⟨c, lo, hi⟩ := t3
          obtain ⟨ra, zs, rfl, hra, fz⟩ := Fz.open (ds := [.str ⟨#[c]⟩, .int lo, .int hi]) fy
          obtain ⟨z1, z2, z3, rfl, g1, g2, g3⟩ := fz.three
          rw [g1.isStr, g2.isInt, g3.isInt] at hra
          refine ⟨.ref ra, rfl, rfl, _, rfl, ite2 (fun _ => ?_) (fun e => ?_)⟩
          · refine ⟨.ref ra, rfl, ra, [sg c, .int lo, .int hi], rfl, .inl (.inl (sm _ _ hra)), rfl, sg c, [.int lo, .int hi], rfl, .int lo, [.int hi], rfl, .int hi, [], rfl, rfl, ?_⟩
            refine ⟨.int lo, rfl, .int hi, rfl, (by show 2 ≤ sizeLine; decide), fun tp ntp => ?_⟩
            have hD4 : (upd H3 tp (.tup [.int lo, .int hi])) D = some (.dK kvs) := keep_new hD3 ntp
            have nk : valV kvs (Sum.inr (sS c)) = none := fk.none (by
              rw [spanL_keys]
              exact (hok.rc c lo hi rfl).2.1)
            refine ⟨.ref D, rfl, sg c, rfl, D, _, rfl, DPut.k (k := Sum.inr (sS c)) hD4 (by rw [fk.len, List.length_map]; exact small1000 hel), ?_⟩
            refine ⟨_, _, _, _, rfl, Same.mut (Same.new sm ntp) nD, upd_same, ?_⟩
            rw [putK_new _ nk]
            exact (SpA.snoc (fk.kt (Kt.new ntp)) upd_same).kt (.dct hD4)
          · exact absurd (by simp) e
      · intro σ1 H1 hM
        obtain ⟨kvs', y3, y5, y6, rfl, sm1, hD1, fk1⟩ := hM
        exact ⟨.ref D, rfl, q D kvs' H1 sm1 nD hD1 fk1⟩

/-! ### picked -/
def spPicked (K : PySem.W.Frag) (Z : Ad) : Sp := fun vs H Q _ => ∃ (cols : List Nat) (rv : V) (row : List Int) (ls : List Nat), vs = [tx cols, rv, tx ls] ∧ TG Z.Ps H ∧ Fz H rv (rowD row) ∧ row.length = cols.length ∧ (∀ c ∈ ls, c ∈ cols) ∧ ls.length ≤ 1000 ∧
  ∀ (p : Addr) (H' : Hp), Sx Z.Ps H H' → TG Z.Ps H' → H p = none → H' p = some (.tup ((keyM cols row ls).map V.int)) → Q (.ref p) H'
theorem ok_picked (T : Tx K mg Z) (TB : Tb base mg Z) : FnOk P w K mg base CX0 1 Z.f_picked Z.d_picked ["columns", "row", "letters"] (spPicked K Z) := by
  refine T.C_picked.ok sc_picked (fun vs H Q E h => ?_) (fun A outer s H vs Q E hr h => ?_)
  · obtain ⟨cols, rv, row, ls, rfl, _⟩ := h
    rfl
  · obtain ⟨cols, rv, row, ls, rfl, tg, fr, hrl, hls, hll, q⟩ := h
    obtain ⟨ra, rfl, hra⟩ := row_open fr
    refine ⟨_, (pss_one (ps_ret (pe_tupG (D := (DRow Z.P_picked 0 1)) hr (by rfl) T.m_tuple (TB.t_picked) rfl (genS_by (sc := defScope s_picked) (by kernel_rfl) rfl) (pv 2) (hd_row rfl rfl rfl rfl rfl rfl rfl rfl (by decide +kernel) (by decide +kernel) rfl)))), ?_⟩
    have hP : Z.P_picked ∈ Z.Ps := by simp
    have lsl : (⟨ls.toArray⟩ : Str).cps.toList = ls := by simp
    refine ⟨tx ls, rfl, (keyM cols row ls).map V.int, ⟨tg _ hP, _, cols, ra, row, rfl, Nat.le_of_lt (small1000 (show ls.length ≤ 1000 from hll)), rfl, rfl, hra, hrl, by rw [lsl]; exact hls, ?_⟩, tg _ hP, fun G2 hT p np => ?_⟩
    · rw [lsl]
      unfold keyM
      rw [List.map_map]
      rfl
    · refine q p _ ((Tabbed.sx hP hT).new np) ((Tabbed.tg tg hT).new np) ?_ upd_same
      exact Sx.free (Tabbed.tg tg hT) (Tabbed.sx hP hT) np

/-! ### stretch -/
def spStretch (K : PySem.W.Frag) (Z : Ad) : Sp := fun vs H Q _ => ∃ (tv : V) (cols : List Nat) (rows : List (List Int)) (one : List Nat) (qv : V) (es : List (Nat × Int)) (rc : Option (Nat × Int × Int)), vs = [tv, tx one, qv] ∧ TG Z.Ps H ∧ Fz H tv (tabD cols rows) ∧ RowsOk cols.length rows ∧ rows.length ≤ 1000 ∧ one.length ≤ 1000 ∧ (∀ c ∈ one, c ∈ cols) ∧ QZ H qv es rc ∧ QOk cols es rc ∧ es.length ≤ 1000 ∧
  ∀ (p : Addr) (H' : Hp), Sx Z.Ps H H' → TG Z.Ps H' → H p = none → H' p = some (.tup [.int (aheadM cols rows one es rc : Nat), .int (behindM cols rows one es rc : Nat)]) → Q (.ref p) H'
theorem ok_stretch (T : Tx K mg Z) (TB : Tb base mg Z) : FnOk P w K mg base CX0 3 Z.f_stretch Z.d_stretch ["table", "one", "question"] (spStretch K Z) := by
  have G_used : FnOk P w K mg base CX0 2 Z.f_used Z.d_used ["one", "question"] (spUsed K) := ok_used T
  have G_spans : FnOk P w K mg base CX0 1 Z.f_spans Z.d_spans ["question"] (spSpans K) := ok_spans T
  have G_picked : FnOk P w K mg base CX0 1 Z.f_picked Z.d_picked ["columns", "row", "letters"] (spPicked K Z) := ok_picked T TB
  refine T.C_stretch.ok sc_stretch (fun vs H Q E h => ?_) (fun A outer s H vs Q E hr h => ?_)
  · obtain ⟨tv, cols, rows, one, qv, es, rc, rfl, _⟩ := h
    rfl
  · obtain ⟨tv, cols, rows, one, qv, es, rc, rfl, tg, fT, hrs, hrn, hol, hoc, fq, hok, hel, q⟩ := h
    obtain ⟨t, R, vs, rfl, ht, hRR, fvs⟩ := tab_open fT
    have hvl : vs.length = rows.length := by rw [fvs.len, List.length_map]
    refine ⟨_, (pss_cons (ps_asg (pv 0) (pgT K (n := 2) (pgs_cons (pg_name (i := 3) sc_stretch.nd rfl (.inr rfl)) (pgs_cons (pg_name (i := 4) sc_stretch.nd rfl (.inl rfl)) pgs_nil))))
      (pss_cons (ps_set (i := 5) sc_stretch.nd rfl (.inr rfl) (pe_call G_used (hr.mono (by omega)) (by rfl) T.g_used T.F_used.kp T.b_used .nil pass0 (pa_cons (pv 1) (pa_cons (pv 2) pa_nil))))
      (pss_cons (ps_set (i := 11) sc_stretch.nd rfl (.inr rfl) (pe_call G_spans (hr.mono (by omega)) (by rfl) T.g_spans T.F_spans.kp T.b_spans .nil pass0 (pa_cons (pv 2) pa_nil)))
      (pss_cons (ps_set (i := 6) sc_stretch.nd rfl (.inr rfl) (pe_tupG (D := (DWant Z.P_stretch 11 0)) hr (by rfl) T.m_tuple (TB.t_stretch) rfl (genS_by (sc := defScope s_stretch) (by kernel_rfl) rfl) (pv 5) (hd_want (.inl rfl) rfl rfl rfl rfl rfl (by decide +kernel))))
      (pss_cons (ps_set (i := 7) sc_stretch.nd rfl (.inr rfl) (pe_tupG (D := (DWant Z.P_stretch 11 1)) hr (by rfl) T.m_tuple (TB.t_stretch) rfl (genS_by (sc := defScope s_stretch) (by kernel_rfl) rfl) (pv 5) (hd_want (.inr rfl) rfl rfl rfl rfl rfl (by decide +kernel))))
      (pss_cons (ps_setLc (i := 8) (own := [("row", 12)]) (tt := tYes) (by rfl) sc_stretch.nd rfl rfl (sw_true rfl rfl rfl (by decide +kernel)) (piT K (pv 4)) (blkOk_by (own := [("row", 12)]) (by kernel_rfl)) (fun _ _ _ _ _ => (pg_name (i := 12) sc_stretch.nd rfl (.inl rfl))) (fun _ _ _ _ _ => pts_nil) (fun _ _ _ _ _ => (pe_call G_picked (hr.mono (by omega)) (by rfl) T.g_picked T.F_picked.kp T.b_picked .nil pass0 (pa_cons (pv 3) (pa_cons (pv 12) (pa_cons (pv 5) pa_nil))))))
      (pss_cons (ps_set (i := 9) sc_stretch.nd rfl (.inl rfl) (pe_callB (cLenSq K) (by rfl) T.m_len (by decide +kernel) (pa_cons (pe_lc (own := [("key", 13)]) (tt := _) (by rfl) sc_stretch.nd (piL K (pv 8)) (blkOk_by (own := [("key", 13)]) (by kernel_rfl)) (fun _ _ _ _ _ => (pg_name (i := 13) sc_stretch.nd rfl (.inl rfl))) (fun _ _ _ _ _ => (pts_one (pt_cmpR (ltTK K hr.units0) (pv 13) (pv 6) (nomark _)))) (fun _ _ _ _ _ => (pv 13))) pa_nil)))
      (pss_cons (ps_set (i := 10) sc_stretch.nd rfl (.inl rfl) (pe_callB (cLenSq K) (by rfl) T.m_len (by decide +kernel) (pa_cons (pe_lc (own := [("key", 13)]) (tt := _) (by rfl) sc_stretch.nd (piL K (pv 8)) (blkOk_by (own := [("key", 13)]) (by kernel_rfl)) (fun _ _ _ _ _ => (pg_name (i := 13) sc_stretch.nd rfl (.inl rfl))) (fun _ _ _ _ _ => (pts_one (pt_cmpR (leTK K hr.units0) (pv 13) (pv 7) (nomark _)))) (fun _ _ _ _ _ => (pv 13))) pa_nil)))
      (pss_one (ps_ret (pe_tup (pa_cons (pv 9) (pa_cons (pv 10) pa_nil))))))))))))), ?_⟩
    refine ⟨.ref t, rfl, t, [tx cols, .ref R], rfl, .inl (.inl ht), rfl, tx cols, [.ref R], rfl, .ref R, [], rfl, rfl, ?_⟩
    refine ⟨tx one, rfl, qv, rfl, one, qv, es, rc, rfl, hol, fq, hel, fun H1 sm1 => ?_⟩
    refine ⟨qv, rfl, qv, cols, es, rc, rfl, fq.kT (Same.kT sm1), hok, hel, fun d kvs H2 sm2 nd hd fk => ?_⟩
    have sm02 : Same H H2 := Same.trans sm1 sm2
    have tg2 : TG Z.Ps H2 := tg.same sm02
    have hP : Z.P_stretch ∈ Z.Ps := by simp
    have lsl : (⟨(usedM one es rc).toArray⟩ : Str).cps.toList = usedM one es rc := by simp
    have hul : (usedM one es rc).length ≤ 1000 := Nat.le_trans (used_len _ _ _) hol
    have hus : (⟨(usedM one es rc).toArray⟩ : Str).length ≤ sizeLine := Nat.le_of_lt (small1000 (show (usedM one es rc).length ≤ 1000 from hul))
    have want : ∀ (n : Int) (G : Hp) (σ : L2.St), TG Z.Ps G → G d = some (.dK kvs) → SpA G kvs (spanL es rc) → σ[11]? = some (some (.ref d)) → DWant Z.P_stretch 11 n (tx (usedM one es rc)) σ G (((usedM one es rc).map fun c => if n = 0 then (spanOf es rc c).1 else (spanOf es rc c).2).map V.int) := fun n G σ tG hG fG hσ => by
      refine ⟨tG _ hP, _, d, kvs, fun c => if n = 0 then (spanOf es rc c).1 else (spanOf es rc c).2, rfl, hus, hσ, hG, fun c hc => ?_, ?_⟩
      · rw [lsl] at hc
        obtain ⟨lo, hi, hm⟩ := used_span hc
        obtain ⟨p, h1, h2⟩ := fG.look (spanL_nd hok) hm
        refine ⟨p, lo, hi, h1, h2, ?_⟩
        show (if n = 0 then (spanOf es rc c).1 else (spanOf es rc c).2) = _
        rw [spanOf_mem (spanL_nd hok) hm]
      · rw [lsl, List.map_map]
        rfl
    -- first
    refine ⟨tx (usedM one es rc), rfl, (loM es rc (usedM one es rc)).map V.int, want 0 H2 _ tg2 hd fk rfl, tg2 _ hP, fun G3 t3 p3 n3 => ?_⟩
    have sx3 : Sx Z.Ps H2 (upd G3 p3 (.tup ((loM es rc (usedM one es rc)).map V.int))) := (Tabbed.sx hP t3).new n3
    have tg3 : TG Z.Ps (upd G3 p3 (.tup ((loM es rc (usedM one es rc)).map V.int))) := (Tabbed.tg tg2 t3).new n3
    have h33 : (upd G3 p3 (.tup ((loM es rc (usedM one es rc)).map V.int))) p3 = some (.tup ((loM es rc (usedM one es rc)).map V.int)) := upd_same
    generalize upd G3 p3 (.tup ((loM es rc (usedM one es rc)).map V.int)) = H3 at sx3 tg3 h33
    -- last
    refine ⟨tx (usedM one es rc), rfl, (hiM es rc (usedM one es rc)).map V.int, want 1 H3 _ tg3 (sx3.dct tg2 hd) (fk.kt (sx3.kt tg2)) rfl, tg3 _ hP, fun G4 t4 p4 n4 => ?_⟩
    have sx4 : Sx Z.Ps H3 (upd G4 p4 (.tup ((hiM es rc (usedM one es rc)).map V.int))) := (Tabbed.sx hP t4).new n4
    have tg4 : TG Z.Ps (upd G4 p4 (.tup ((hiM es rc (usedM one es rc)).map V.int))) := (Tabbed.tg tg3 t4).new n4
    have h44 : (upd G4 p4 (.tup ((hiM es rc (usedM one es rc)).map V.int))) p4 = some (.tup ((hiM es rc (usedM one es rc)).map V.int)) := upd_same
    generalize upd G4 p4 (.tup ((hiM es rc (usedM one es rc)).map V.int)) = H4 at sx4 tg4 h44
    have sx04 : Sx Z.Ps H H4 := ((Same.sx sm02).trans sx3).trans sx4
    have h43 : H4 p3 = some (.tup ((loM es rc (usedM one es rc)).map V.int)) := sx4.kt tg3 _ _ h33
    have kt04 : Kt H H4 := sx04.kt tg
    have hR4 := kt04 _ _ hRR
    -- keys
    refine ⟨.ref R, rfl, R, rfl, ⟨_, .inl (.inl hR4)⟩, fun D nD => lc_it (walk_tup (xs := vs)) (fun i H' => ∃ ks : List V, Sx Z.Ps H4 H' ∧ TG Z.Ps H' ∧ H' D = some (.lst ks) ∧ FzA H' ks (((rows.take i).map fun row => keyM cols row (usedM one es rc)).map rowD))
      ⟨[], Sx.rfl'.new nD, tg4.new nD, upd_same, .nil⟩ (fun i H' _ hI => ?_) (fun i x H5 H6 hi hI hY => ?_) (fun H5 hI => ?_)⟩
    · obtain ⟨ks, sx, _, _⟩ := hI
      exact .inl (.inl (sx.kt tg4 _ _ hR4))
    · obtain ⟨ks, sx5, tg5, hD5, fks⟩ := hI
      obtain ⟨rfl, ex⟩ := hY
      obtain ⟨dd, hdd, fd⟩ := fvs.getV ex
      rw [List.getElem?_map] at hdd
      obtain ⟨row, hrow, rfl⟩ := Option.map_eq_some_iff.mp hdd
      have hi2 : i < rows.length := (List.getElem?_eq_some_iff.mp hrow).1
      have erow : rows[i] = row := (List.getElem?_eq_some_iff.mp hrow).2
      have rok := hrs row (List.mem_of_getElem? hrow)
      have kt05 := kt04.trans (sx5.kt tg4)
      refine ⟨rfl, tx cols, rfl, x, rfl, tx (usedM one es rc), rfl, cols, x, row, usedM one es rc, rfl, tg5, fd.kt kt05, rok.1, fun c hc => hoc c (used_in hc), hul, fun p H7 sx7 tg7 np hp => ?_⟩
      have hD7 := sx7.lst tg5 hD5
      have fks7 := fks.kt (sx7.kt tg5)
      refine ⟨ks, hD7, ?_, ks ++ [.ref p], (sx5.trans sx7).mut nD, tg7.mut hD7, upd_same, ?_⟩
      · rw [fks.len, List.length_map, List.length_map, List.length_take]
        exact small1000 (by omega)
      · rw [List.take_succ_eq_append_getElem hi2, erow, List.map_append, List.map_append]
        exact (FzA.snoc fks7 (row_at_fz hp)).kt (Kt.lst hD7)
    · obtain ⟨ks, sx5, tg5, hD5, fks⟩ := hI
      rw [hvl, List.take_of_length_le (Nat.le_refl _)] at fks
      have hkl : ks.length = rows.length := by rw [fks.len, List.length_map, List.length_map]
      have h53 := (sx5.kt tg4) _ _ h43
      have h54 := (sx5.kt tg4) _ _ h44
      -- ahead
      refine ⟨.ref D, rfl, D, rfl, ⟨_, .inl (.inl hD5)⟩, fun D6 nD6 => lc_it (walk_list (xs := ks)) (fun i H' => ∃ cs : List V, Same H5 H' ∧ H' D6 = some (.lst cs) ∧ cs.length = ((rows.take i).filter fun row => HT.lexLt (keyM cols row (usedM one es rc)) (loM es rc (usedM one es rc))).length)
        ⟨[], Same.new (Same.refl H5) nD6, upd_same, rfl⟩ (fun i H' _ hI => ?_) (fun i x H6 H7 hi hI hY => ?_) (fun H6 hI => ?_)⟩
      · obtain ⟨cs, sm, _⟩ := hI
        exact .inl (.inl (sm _ _ hD5))
      · obtain ⟨cs, sm6, hD6, hcl⟩ := hI
        obtain ⟨rfl, ex⟩ := hY
        obtain ⟨dd, hdd, fd⟩ := fks.getV ex
        rw [List.getElem?_map] at hdd
        obtain ⟨key, hkey, rfl⟩ := Option.map_eq_some_iff.mp hdd
        rw [List.getElem?_map] at hkey
        obtain ⟨row, hrow, rfl⟩ := Option.map_eq_some_iff.mp hkey
        have hi2 : i < rows.length := (List.getElem?_eq_some_iff.mp hrow).1
        have erow : rows[i] = row := (List.getElem?_eq_some_iff.mp hrow).2
        obtain ⟨ka, rfl, hka⟩ := row_open fd
        refine ⟨rfl, .ref ka, rfl, .ref p3, rfl, ka, p3, _, _, rfl, rfl, .inl (.inl (sm6 _ _ hka)), .inl (.inl (sm6 _ _ h53)), _, rfl, ite2 (fun e => ?_) (fun e => ?_)⟩
        · refine ⟨.ref ka, rfl, cs, hD6, ?_, cs ++ [.ref ka], Same.mut sm6 nD6, upd_same, ?_⟩
          · rw [hcl]
            have := List.length_filter_le (fun row => HT.lexLt (keyM cols row (usedM one es rc)) (loM es rc (usedM one es rc))) (rows.take i)
            rw [List.length_take] at this
            exact small1000 (by omega)
          · rw [List.take_succ_eq_append_getElem hi2, erow, List.filter_append, List.filter_cons, if_pos e, List.length_append, List.length_append, hcl]
            rfl
        · refine ⟨cs, sm6, hD6, ?_⟩
          rw [List.take_succ_eq_append_getElem hi2, erow, List.filter_append, List.filter_cons, if_neg e, List.filter_nil, List.append_nil, hcl]
      · obtain ⟨cs, sm6, hD6, hcl⟩ := hI
        rw [hkl, List.take_of_length_le (Nat.le_refl _)] at hcl
        refine ⟨D6, cs, rfl, .inl (.inl (.inl hD6)), ?_⟩
        rw [hcl]
        -- behind
        refine ⟨.ref D, rfl, D, rfl, ⟨_, .inl (.inl (sm6 _ _ hD5))⟩, fun D8 nD8 => lc_it (walk_list (xs := ks)) (fun i H' => ∃ cs : List V, Same H6 H' ∧ H' D8 = some (.lst cs) ∧ cs.length = ((rows.take i).filter fun row => leK (keyM cols row (usedM one es rc)) (hiM es rc (usedM one es rc))).length)
          ⟨[], Same.new (Same.refl H6) nD8, upd_same, rfl⟩ (fun i H' _ hI => ?_) (fun i x H8 H9 hi hI hY => ?_) (fun H8 hI => ?_)⟩
        · obtain ⟨cs, sm, _⟩ := hI
          exact .inl (.inl (sm _ _ (sm6 _ _ hD5)))
        · obtain ⟨cs2, sm8, hD8, hcl2⟩ := hI
          obtain ⟨rfl, ex⟩ := hY
          obtain ⟨dd, hdd, fd⟩ := fks.getV ex
          rw [List.getElem?_map] at hdd
          obtain ⟨key, hkey, rfl⟩ := Option.map_eq_some_iff.mp hdd
          rw [List.getElem?_map] at hkey
          obtain ⟨row, hrow, rfl⟩ := Option.map_eq_some_iff.mp hkey
          have hi2 : i < rows.length := (List.getElem?_eq_some_iff.mp hrow).1
          have erow : rows[i] = row := (List.getElem?_eq_some_iff.mp hrow).2
          obtain ⟨ka, rfl, hka⟩ := row_open fd
          refine ⟨rfl, .ref ka, rfl, .ref p4, rfl, ka, p4, _, _, rfl, rfl, .inl (.inl (sm8 _ _ (sm6 _ _ hka))), .inl (.inl (sm8 _ _ (sm6 _ _ h54))), _, rfl, ite2 (fun e => ?_) (fun e => ?_)⟩
          · have e' : leK (keyM cols row (usedM one es rc)) (hiM es rc (usedM one es rc)) = true := e
            refine ⟨.ref ka, rfl, cs2, hD8, ?_, cs2 ++ [.ref ka], Same.mut sm8 nD8, upd_same, ?_⟩
            · rw [hcl2]
              have := List.length_filter_le (fun row => leK (keyM cols row (usedM one es rc)) (hiM es rc (usedM one es rc))) (rows.take i)
              rw [List.length_take] at this
              exact small1000 (by omega)
            · rw [List.take_succ_eq_append_getElem hi2, erow, List.filter_append, List.filter_cons, if_pos e', List.length_append, List.length_append, hcl2]
              rfl
          · have e' : ¬ leK (keyM cols row (usedM one es rc)) (hiM es rc (usedM one es rc)) = true := e
            refine ⟨cs2, sm8, hD8, ?_⟩
            rw [List.take_succ_eq_append_getElem hi2, erow, List.filter_append, List.filter_cons, if_neg e', List.filter_nil, List.append_nil, hcl2]
        · obtain ⟨cs2, sm8, hD8, hcl2⟩ := hI
          rw [hkl, List.take_of_length_le (Nat.le_refl _)] at hcl2
          refine ⟨D8, cs2, rfl, .inl (.inl (.inl hD8)), ?_⟩
          rw [hcl2]
          refine ⟨_, rfl, _, rfl, (by show 2 ≤ sizeLine; decide), fun pr npr => ?_⟩
          have sm58 : Same H5 H8 := Same.trans sm6 sm8
          refine q pr _ (((sx04.trans sx5).trans (Same.sx sm58)).new npr) ((tg5.same sm58).new npr) ?_ upd_same
          exact Sx.free (tg5.same sm58) ((sx04.trans sx5).trans (Same.sx sm58)) npr

/-! ### price_by -/
def spPriceBy (K : PySem.W.Frag) (Z : Ad) : Sp := fun vs H Q _ => ∃ (tv : V) (cols : List Nat) (rows : List (List Int)) (ov : Option (List Nat)) (qv : V) (es : List (Nat × Int)) (rc : Option (Nat × Int × Int)), vs = [tv, oV ov, qv] ∧ TG Z.Ps H ∧ Fz H tv (tabD cols rows) ∧ RowsOk cols.length rows ∧ rows.length ≤ 1000 ∧ (∀ o, ov = some o → o.length ≤ 1000 ∧ ∀ c ∈ o, c ∈ cols) ∧ QZ H qv es rc ∧ QOk cols es rc ∧ es.length ≤ 1000 ∧
  ∀ (H' : Hp), Sx Z.Ps H H' → TG Z.Ps H' → Q (.int (priceByM cols rows ov es rc)) H'
theorem ok_priceby (T : Tx K mg Z) (TB : Tb base mg Z) : FnOk P w K mg base CX0 4 Z.f_price_by Z.d_price_by ["table", "one", "question"] (spPriceBy K Z) := by
  have G_stretch : FnOk P w K mg base CX0 3 Z.f_stretch Z.d_stretch ["table", "one", "question"] (spStretch K Z) := ok_stretch T TB
  refine T.F_price_by.ok sc_price_by (fun vs H Q E h => ?_) (fun cdv A outer s H vs Q E hr h => ?_)
  · obtain ⟨tv, cols, rows, ov, qv, es, rc, rfl, _⟩ := h
    rfl
  · obtain ⟨tv, cols, rows, ov, qv, es, rc, rfl, tg, fT, hrs, hrn, hov, fq, hok, hel, q⟩ := h
    obtain ⟨t, R, vs, rfl, ht, hRR, fvs⟩ := tab_open fT
    have hvl : vs.length = rows.length := by rw [fvs.len, List.length_map]
    refine ⟨_, (pss_cons (ps_if (pt_cmpR op_isN (pv 1) pe_non (nomark _)) (pss_cons (ps_asg (pv 0) (pgT K (n := 2) (pgs_cons (pg_name (i := 3) sc_price_by.nd rfl (.inl rfl)) (pgs_cons (pg_name (i := 4) sc_price_by.nd rfl (.inl rfl)) pgs_nil))))
      (pss_one (ps_ret (pe_callB (cLenSq K) (by rfl) T.m_len (by decide +kernel) (pa_cons (pv 4) pa_nil))))) pss_nil)
      (pss_cons (ps_asg (pe_call G_stretch (hr.mono (by omega)) (by rfl) T.g_stretch T.F_stretch.kp T.b_stretch .nil pass0 (pa_cons (pv 0) (pa_cons (pv 1) (pa_cons (pv 2) pa_nil)))) (pgT K (n := 2) (pgs_cons (pg_name (i := 5) sc_price_by.nd rfl (.inl rfl)) (pgs_cons (pg_name (i := 6) sc_price_by.nd rfl (.inl rfl)) pgs_nil))))
      (pss_one (ps_ret (pe_op op_add (pe_op op_sub (pv 6) (pv 5)) pe_int))))), ?_⟩
    cases ov with
    | none =>
      refine ⟨.non, rfl, rfl, _, rfl, ite2 (fun _ => ?_) (fun z => ?_)⟩
      · refine ⟨.ref t, rfl, t, [tx cols, .ref R], rfl, .inl (.inl ht), rfl, tx cols, [.ref R], rfl, .ref R, [], rfl, rfl, ?_⟩
        refine ⟨.ref R, rfl, R, vs, rfl, .inr (.inl (.inl hRR)), ?_⟩
        rw [hvl]
        exact q H Sx.rfl' tg
      · exact absurd rfl z
    | some o =>
      refine ⟨tx o, rfl, rfl, _, rfl, ite2 (fun z => ?_) (fun _ => ?_)⟩
      · exact absurd z (by simp)
      · obtain ⟨hol, hoc⟩ := hov o rfl
        refine ⟨.ref t, rfl, tx o, rfl, qv, rfl, .ref t, cols, rows, o, qv, es, rc, rfl, tg, fT, hrs, hrn, hol, hoc, fq, hok, hel, fun sp H1 sx1 tg1 nsp hsp => ?_⟩
        refine ⟨sp, [.int (aheadM cols rows o es rc : Nat), .int (behindM cols rows o es rc : Nat)], rfl, .inl (.inl hsp), rfl, .int (aheadM cols rows o es rc : Nat), [.int (behindM cols rows o es rc : Nat)], rfl, .int (behindM cols rows o es rc : Nat), [], rfl, rfl, ?_⟩
        refine ⟨_, rfl, _, rfl, _, _, rfl, rfl, _, _, rfl, rfl, ?_⟩
        exact q H1 sx1 tg1

/-! ### upkeep -/
def spUpkeep (K : PySem.W.Frag) (Z : Ad) : Sp := fun vs H Q _ => ∃ (chg : Int) (ca : Addr) (ch : List (List Nat)), vs = [.int chg, .ref ca] ∧ 0 ≤ chg ∧ chg ≤ 1000000 ∧ TG Z.Ps H ∧ H ca = some (.tup (ch.map tx)) ∧ ch.length ≤ 100 ∧ (∀ o ∈ ch, o.length ≤ 1000) ∧
  ∀ (H' : Hp), Sx Z.Ps H H' → TG Z.Ps H' → Q (.int (keepM chg ch)) H'
theorem ok_upkeep (T : Tx K mg Z) (TB : Tb base mg Z) : FnOk P w K mg base CX0 4 Z.f_upkeep Z.d_upkeep ["changes", "choice"] (spUpkeep K Z) := by
  refine T.C_upkeep.ok sc_upkeep (fun vs H Q E h => ?_) (fun A outer s H vs Q E hr h => ?_)
  · obtain ⟨chg, ca, ch, rfl, _⟩ := h
    rfl
  · obtain ⟨chg, ca, ch, rfl, hg0, hg1, tg, hca, hcl, hol, q⟩ := h
    refine ⟨_, (pss_one (ps_ret (pe_op op_mul (pv 0) (pe_sumC (own := [("one", 2)]) (k := 0) hr (by rfl) T.m_sum (TB.t_upkeep) rfl (gxS_by (blkOk_by (own := [("one", 2)]) (by kernel_rfl)) (by kernel_rfl)) sc_upkeep.nd (by rfl) (piT K (pv 1)) (fun _ _ _ _ _ _ _ _ => (pg_name (i := 2) sc_upkeep.nd rfl (.inl rfl))) (fun _ _ _ _ _ _ _ _ hr => (pe_op op_add (pe_callB call_len_str (by rfl) T.m_len (by decide +kernel) (pa_cons (pv 2) pa_nil)) pe_int)))))), ?_⟩
    have hP : Z.P_upkeep ∈ Z.Ps := by simp
    have hl : (ch.map fun o => (o.length : Int) + 1).length = (ch.map tx).length := by rw [List.length_map, List.length_map]
    refine ⟨.int chg, rfl, .ref ca, rfl, ca, rfl, ⟨_, .inl (.inl hca)⟩, tg _ hP, fun H2 hT => ?_⟩
    have tg2 := Tabbed.tg tg hT
    have sx2 := Tabbed.sx hP hT
    have hca2 := (sx2.kt tg) _ _ hca
    have hfit : ∀ j, j < (ch.map fun o => (o.length : Int) + 1).length → InLong (atL (ch.map fun o => (o.length : Int) + 1) j) ∧ InLong (preSum (atL (ch.map fun o => (o.length : Int) + 1)) (j + 1)) := fit_of (by rw [List.length_map]; omega) fun x hx => by
      obtain ⟨o, ho, rfl⟩ := List.mem_map.mp hx
      have := hol o ho
      omega
    rw [hl] at hfit
    refine ⟨(ch.map tx).length, atL (ch.map fun o => (o.length : Int) + 1), fun i H' => i ≤ (ch.map tx).length ∧ (H' = H2), hfit, ⟨Nat.zero_le _, rfl⟩, sum_step (walk_tup (xs := ch.map tx)) (fun i H' _ e => ?_) (fun i x H3 H4 hi e hY => ?_), fun H3 e0 => ?_⟩
    · rw [e]
      exact .inl (.inl hca2)
    · obtain ⟨rfl, hx⟩ := hY
      rw [List.getElem?_map] at hx
      obtain ⟨o, ho, rfl⟩ := Option.map_eq_some_iff.mp hx
      refine ⟨rfl, tx o, rfl, _, rfl, Nat.le_of_lt (small1000 (show o.length ≤ 1000 from hol o (List.mem_of_getElem? ho))), _, 1, rfl, rfl, ?_, hi, e⟩
      rw [at_map ho]
      rfl
    · obtain ⟨_, e⟩ := e0
      refine ⟨chg, _, rfl, rfl, .inl ⟨by omega, by omega⟩, ?_⟩
      rw [← hl, pre_take _ _ (Nat.le_refl _), List.take_length, e]
      exact q H2 sx2 tg2

/-! ### _law_work -/
def spWork (K : PySem.W.Frag) : Sp := fun vs H Q _ => ∃ (r : Addr) (n : Int) (most rn : Nat) (mn : Int), vs = [.ref r, .int most, .int rn, .int mn] ∧ 1 ≤ mn ∧ mn ≤ 5 ∧ H r = some (.lst [.int n]) ∧ 1 ≤ most ∧ most ≤ 26 ∧ rn ≤ 100 ∧
  ∀ (cols : List Nat) (rows : List (List Int)) (as : List Ask) (chg : Int) (v : V) (n' : Int) (H' : Hp), Kp r H H' → H' r = some (.lst [.int n']) → WorkZ H' v cols rows as chg → Cols cols → 1 ≤ cols.length → cols.length ≤ most → RowsOk cols.length rows → rows.length ≤ rn → AsksOk cols as → 0 ≤ chg → chg ≤ 1000000 → Q v H'
theorem ok_work (T : Tx K mg Z) : FnOk P w K mg base CX0 4 Z.f_l_work Z.d_l_work ["reel", "most", "rows", "many"] (spWork K) := by
  have G_l_pick : FnOk P w K mg base CX0 1 Z.f_l_pick Z.d_l_pick ["reel", "many"] (spPick K) := ok_pick T
  have G_l_table : FnOk P w K mg base CX0 3 Z.f_l_table Z.d_l_table ["reel", "most", "rows"] (spTable K) := ok_table T
  have G_l_question : FnOk P w K mg base CX0 3 Z.f_l_question Z.d_l_question ["reel", "table"] (spQuestion K) := ok_question T
  refine T.F_l_work.ok sc_l_work (fun vs H Q E h => ?_) (fun cdv A outer s H vs Q E hr h => ?_)
  · obtain ⟨r, n, most, rn, mn, rfl, _⟩ := h
    rfl
  · obtain ⟨r, n, most, rn, mn, rfl, hn1, hn2, hR, hm1, hm2, hrn, q⟩ := h
    refine ⟨_, (pss_cons (ps_set (i := 4) sc_l_work.nd rfl (.inl rfl) (pe_call G_l_table (hr.mono (by omega)) (by rfl) T.g_l_table T.F_l_table.kp T.b_l_table .nil pass0 (pa_cons (pv 0) (pa_cons (pv 1) (pa_cons (pv 2) pa_nil)))))
      (pss_cons (ps_set (i := 5) sc_l_work.nd rfl (.inl rfl) (pe_lst pa_nil))
      (pss_cons (ps_for PassesOwn.never rfl (pi_range1 (by rfl) T.m_range (pa_cons (pe_call G_l_pick (hr.mono (by omega)) (by rfl) T.g_l_pick T.F_l_pick.kp T.b_l_pick .nil pass0 (pa_cons (pv 0) (pa_cons (pe_op op_add (pv 3) pe_int) pa_nil))) pa_nil)) (pg_name (i := 6) sc_l_work.nd rfl (.inl rfl)) (pss_cons (ps_set (i := 7) sc_l_work.nd rfl (.inl rfl) (pe_ix (ixL K) (pe_lst (pa_cons pe_int (pa_cons pe_int (pa_cons pe_int (pa_cons pe_int (pa_cons (pe_op op_add pe_int (pe_call G_l_pick (hr.mono (by omega)) (by rfl) T.g_l_pick T.F_l_pick.kp T.b_l_pick .nil pass0 (pa_cons (pv 0) (pa_cons pe_int pa_nil)))) pa_nil)))))) (pe_call G_l_pick (hr.mono (by omega)) (by rfl) T.g_l_pick T.F_l_pick.kp T.b_l_pick .nil pass0 (pa_cons (pv 0) (pa_cons pe_int pa_nil))) (fun _ _ => rfl)))
      (pss_one (ps_expr (bmK K PySem.F.plainAttrs_list PySem.F.slot_list_append PySem.F.type_list_append mt_append (pv 5) (pa_cons (pe_tup (pa_cons (pe_call G_l_question (hr.mono (by omega)) (by rfl) T.g_l_question T.F_l_question.kp T.b_l_question .nil pass0 (pa_cons (pv 0) (pa_cons (pv 4) pa_nil))) (pa_cons (pv 7) pa_nil))) pa_nil))))))
      (pss_one (ps_ret (pe_tup (pa_cons (pv 4) (pa_cons (pe_callTy (cTupSq K) (by rfl) T.m_tuple (by decide +kernel) (pa_cons (pv 5) pa_nil)) (pa_cons (pe_ix (ixL K) (pe_lst (pa_cons pe_int (pa_cons pe_int (pa_cons pe_int (pa_cons pe_int (pa_cons (pe_call G_l_pick (hr.mono (by omega)) (by rfl) T.g_l_pick T.F_l_pick.kp T.b_l_pick .nil pass0 (pa_cons (pv 0) (pa_cons pe_int pa_nil))) pa_nil)))))) (pe_call G_l_pick (hr.mono (by omega)) (by rfl) T.g_l_pick T.F_l_pick.kp T.b_l_pick .nil pass0 (pa_cons (pv 0) (pa_cons pe_int pa_nil))) (fun _ _ => rfl)) pa_nil))))))))), ?_⟩
    refine ⟨.ref r, rfl, .int most, rfl, .int rn, rfl, r, n, most, rn, rfl, hR, hm1, hm2, by omega, fun cols rows tv n1 H1 kp1 hR1 fT hc hc1 hc2 hrs hrn1 => ?_⟩
    refine ⟨Nat.zero_le _, fun D nD => ?_⟩
    have nDr : D ≠ r := (ne_of_none hR1 nD).symm
    have nDH : H D = none := Kp.none kp1 nDr nD
    have kp2 : Kp r H (upd H1 D (.lst [])) := kp1.new nD
    have hR2 : (upd H1 D (.lst [])) r = some (.lst [.int n1]) := keep_new hR1 nD
    have hD2 : (upd H1 D (.lst [])) D = some (.lst []) := upd_same
    have kt2 : KT H1 (upd H1 D (.lst [])) := KT.new nD
    generalize upd H1 D (.lst []) = H2 at kp2 hR2 hD2 kt2 ⊢
    refine ⟨.ref r, rfl, .int mn, rfl, mn, 1, rfl, rfl, r, n1, _, rfl, hR2, by omega, by omega, fun m n2 m0 m1 => ?_⟩
    refine ⟨m, rfl, by omega, by omega, for_range (fun i σ H' => ∃ (as : List Ask) (vs : List V) (n' : Int) (y6 y7 : Option V), σ = [some (.ref r), some (.int most), some (.int rn), some (.int mn), some tv, some (.ref D), y6, y7] ∧ Kp r H H' ∧ H' r = some (.lst [.int n']) ∧ KT H1 H' ∧ H' D = some (.lst vs) ∧ AsksZ H' vs as ∧ as.length = i ∧ ∀ a ∈ as, QOk cols a.es a.rc ∧ 1 ≤ a.often ∧ a.often ≤ 1000000)
      ⟨[], [], n2, _, _, rfl, kp2.own, upd_same, kt2.trans (.lst hR2), keep_ne hD2 nDr, .nil, rfl, fun a h => nomatch h⟩ (fun i σ H3 hi hP => ?_) (fun σ H3 hP => ?_)⟩
    · obtain ⟨as, vs, n3, y6, y7, rfl, kp3, hR3, kt3, hD3, fas, hal, hao⟩ := hP
      refine ⟨.ref r, rfl, r, n3, 1000000, rfl, hR3, by decide, by decide, fun d n4 d0 d1 => ?_⟩
      have kp4 : Kp r H (upd H3 r (.lst [.int n4])) := kp3.own
      have hR4 : (upd H3 r (.lst [.int n4])) r = some (.lst [.int n4]) := upd_same
      have kt4 : KT H3 (upd H3 r (.lst [.int n4])) := .lst hR3
      have hD4 : (upd H3 r (.lst [.int n4])) D = some (.lst vs) := keep_ne hD3 nDr
      generalize upd H3 r (.lst [.int n4]) = H4 at kp4 hR4 kt4 hD4 ⊢
      refine ⟨1, d, rfl, rfl, (by show 5 ≤ sizeLine; decide), fun L nL => ?_⟩
      have kp5 : Kp r H (upd H4 L (.lst [.int 1, .int 1, .int 2, .int 10, .int (1 + d)])) := kp4.new nL
      have hR5 : (upd H4 L (.lst [.int 1, .int 1, .int 2, .int 10, .int (1 + d)])) r = some (.lst [.int n4]) := keep_new hR4 nL
      have kt5 : KT H3 (upd H4 L (.lst [.int 1, .int 1, .int 2, .int 10, .int (1 + d)])) := kt4.trans (KT.new nL)
      have hD5 : (upd H4 L (.lst [.int 1, .int 1, .int 2, .int 10, .int (1 + d)])) D = some (.lst vs) := keep_new hD4 nL
      have hL5 : (upd H4 L (.lst [.int 1, .int 1, .int 2, .int 10, .int (1 + d)])) L = some (.lst [.int 1, .int 1, .int 2, .int 10, .int (1 + d)]) := upd_same
      have nLr : L ≠ r := (ne_of_none hR4 nL).symm
      generalize upd H4 L (.lst [.int 1, .int 1, .int 2, .int 10, .int (1 + d)]) = H5 at kp5 hR5 kt5 hD5 hL5 ⊢
      refine ⟨.ref r, rfl, r, n4, 5, rfl, hR5, by decide, by decide, fun e n6 e0 e1 => ?_⟩
      have kp6 : Kp r H (upd H5 r (.lst [.int n6])) := kp5.own
      have hR6 : (upd H5 r (.lst [.int n6])) r = some (.lst [.int n6]) := upd_same
      have kt6 : KT H3 (upd H5 r (.lst [.int n6])) := kt5.trans (.lst hR5)
      have hD6 : (upd H5 r (.lst [.int n6])) D = some (.lst vs) := keep_ne hD5 nDr
      have hL6 : (upd H5 r (.lst [.int n6])) L = some (.lst [.int 1, .int 1, .int 2, .int 10, .int (1 + d)]) := keep_ne hL5 nLr
      generalize upd H5 r (.lst [.int n6]) = H6 at kp6 hR6 kt6 hD6 hL6 ⊢
      obtain ⟨tt, htt, htat⟩ := at_ints (ns := [1, 1, 2, 10, 1 + d]) e0 e1
      have ht0 : 1 ≤ tt ∧ tt ≤ 1000000 := by
        simp only [List.mem_cons, List.not_mem_nil, or_false] at htt
        omega
      refine ⟨L, [1, 1, 2, 10, 1 + d].map V.int, e, .int tt, rfl, rfl, .inl (.inl hL6), htat, ?_⟩
      refine ⟨.ref D, rfl, .inl ⟨rfl, _, .inl (.inl hD6)⟩, .ref r, rfl, tv, rfl, r, n6, tv, cols, rows, rfl, hR6, fT.kt (kt3.trans kt6).1, hc, hc1, by omega, hrs, by omega, fun es rc qv n7 H7 kp7 hR7 fq hqok => ?_⟩
      have hD7 : H7 D = some (.lst vs) := kp7 _ _ nDr hD6
      refine ⟨.int tt, rfl, (by show 2 ≤ sizeLine; decide), fun p np => ?_⟩
      have hD8 : (upd H7 p (.tup [qv, .int tt])) D = some (.lst vs) := keep_new hD7 np
      have kt8 : KT H3 (upd H7 p (.tup [qv, .int tt])) := (kt6.trans (kp7.kT hR6)).trans (KT.new np)
      have hvl := fas.len
      have fp : AskZ (upd H7 p (.tup [qv, .int tt])) (.ref p) ⟨es, rc, tt⟩ := ⟨p, qv, rfl, upd_same, fq.kT (KT.new np)⟩
      refine ⟨D, vs, .ref p, rfl, rfl, hD8, small1000 (by omega), as ++ [⟨es, rc, tt⟩], vs ++ [.ref p], n7, _, _, rfl, ?_, ?_, ?_, upd_same, ?_, ?_, fun a ha => ?_⟩
      · exact ((kp6.trans kp7).new np).mut nDH
      · exact keep_ne (keep_new hR7 np) nDr.symm
      · exact (kt3.trans kt8).trans (.lst hD8)
      · exact (fas.kT (kt8.trans (.lst hD8))).snoc (fp.kT (.lst hD8))
      · rw [List.length_append, hal]
        rfl
      · rcases List.mem_append.mp ha with z | z
        · exact hao a z
        · rw [List.mem_singleton.mp z]
          exact ⟨hqok, ht0.1, ht0.2⟩
    · obtain ⟨as, vs, n3, y6, y7, rfl, kp3, hR3, kt3, hD3, fas, hal, hao⟩ := hP
      have hvl := fas.len
      refine ⟨tv, rfl, .ref D, rfl, D, vs, rfl, .inl ⟨.inl (.inl hD3), fun aa naa => ?_⟩⟩
      have kp4 : Kp r H (upd H3 aa (.tup vs)) := kp3.new naa
      have hR4 : (upd H3 aa (.tup vs)) r = some (.lst [.int n3]) := keep_new hR3 naa
      have kt4 : KT H3 (upd H3 aa (.tup vs)) := KT.new naa
      have haa4 : (upd H3 aa (.tup vs)) aa = some (.tup vs) := upd_same
      generalize upd H3 aa (.tup vs) = H4 at kp4 hR4 kt4 haa4 ⊢
      refine ⟨.ref r, rfl, r, n3, 1000001, rfl, hR4, by decide, by decide, fun d n5 d0 d1 => ?_⟩
      have kp5 : Kp r H (upd H4 r (.lst [.int n5])) := kp4.own
      have hR5 : (upd H4 r (.lst [.int n5])) r = some (.lst [.int n5]) := upd_same
      have kt5 : KT H4 (upd H4 r (.lst [.int n5])) := .lst hR4
      generalize upd H4 r (.lst [.int n5]) = H5 at kp5 hR5 kt5 ⊢
      refine ⟨(by show 5 ≤ sizeLine; decide), fun L nL => ?_⟩
      have kp6 : Kp r H (upd H5 L (.lst [.int 0, .int 0, .int 1, .int 3, .int d])) := kp5.new nL
      have hR6 : (upd H5 L (.lst [.int 0, .int 0, .int 1, .int 3, .int d])) r = some (.lst [.int n5]) := keep_new hR5 nL
      have kt6 : KT H4 (upd H5 L (.lst [.int 0, .int 0, .int 1, .int 3, .int d])) := kt5.trans (KT.new nL)
      have hL6 : (upd H5 L (.lst [.int 0, .int 0, .int 1, .int 3, .int d])) L = some (.lst [.int 0, .int 0, .int 1, .int 3, .int d]) := upd_same
      have nLr : L ≠ r := (ne_of_none hR5 nL).symm
      generalize upd H5 L (.lst [.int 0, .int 0, .int 1, .int 3, .int d]) = H6 at kp6 hR6 kt6 hL6 ⊢
      refine ⟨.ref r, rfl, r, n5, 5, rfl, hR6, by decide, by decide, fun e n7 e0 e1 => ?_⟩
      have kp7 : Kp r H (upd H6 r (.lst [.int n7])) := kp6.own
      have hR7 : (upd H6 r (.lst [.int n7])) r = some (.lst [.int n7]) := upd_same
      have kt7 : KT H4 (upd H6 r (.lst [.int n7])) := kt6.trans (.lst hR6)
      have hL7 : (upd H6 r (.lst [.int n7])) L = some (.lst [.int 0, .int 0, .int 1, .int 3, .int d]) := keep_ne hL6 nLr
      generalize upd H6 r (.lst [.int n7]) = H7 at kp7 hR7 kt7 hL7 ⊢
      obtain ⟨tt, htt, htat⟩ := at_ints (ns := [0, 0, 1, 3, d]) e0 e1
      have ht0 : 0 ≤ tt ∧ tt ≤ 1000000 := by
        simp only [List.mem_cons, List.not_mem_nil, or_false] at htt
        omega
      refine ⟨L, [0, 0, 1, 3, d].map V.int, e, .int tt, rfl, rfl, .inl (.inl hL7), htat, (by show 3 ≤ sizeLine; decide), fun wa nwa => ?_⟩
      have kt8 : KT H4 (upd H7 wa (.tup [tv, .ref aa, .int tt])) := kt7.trans (KT.new nwa)
      exact q cols rows as tt (.ref wa) n7 _ (kp7.new nwa) (keep_new hR7 nwa) ⟨wa, tv, aa, vs, rfl, upd_same, fT.kt ((kt3.trans kt4).trans kt8).1, kt8.1 _ _ haa4, fas.kT (kt4.trans kt8)⟩ hc hc1 hc2 hrs hrn1 ⟨by omega, fun a ha => ⟨(hao a ha).1, (hao a ha).2.1, by have := (hao a ha).2.2; omega⟩⟩ ht0.1 ht0.2

/-! ### _law_used -/
theorem ok_lused (T : Tx K mg Z) : FnOk P w K mg base CX0 1 Z.f_l_used Z.d_l_used ["one", "question"] (spUsed K) := by
  refine T.F_l_used.ok sc_l_used (fun vs H Q E h => ?_) (fun cdv A outer s H vs Q E hr h => ?_)
  · obtain ⟨one, qv, es, rc, rfl, _⟩ := h
    rfl
  · obtain ⟨one, qv, es, rc, rfl, hol, fq, hel, q⟩ := h
    obtain ⟨qa, x, y, rfl, hqa, fx, fy⟩ := fq
    have fx2 := fx
    obtain ⟨ea, ob, ps, rfl, hob, hea, fps⟩ := fx2
    refine ⟨_, (pss_cons (ps_setLc (i := 3) (own := [("letter", 2), ("number", 6)]) (tt := tYes) (by rfl) sc_l_used.nd rfl rfl (sw_true rfl rfl rfl (by decide +kernel)) (piT K (pe_ix (ixT K) (pv 1) pe_int (fun _ _ => rfl))) (blkOk_by (own := [("letter", 2), ("number", 6)]) (by kernel_rfl)) (fun _ _ _ _ _ => (pgT K (n := 2) (pgs_cons (pg_name (i := 2) sc_l_used.nd rfl (.inl rfl)) (pgs_cons (pg_name (i := 6) sc_l_used.nd rfl (.inl rfl)) pgs_nil)))) (fun _ _ _ _ _ => pts_nil) (fun _ _ _ _ _ => (pv 2)))
      (pss_cons (ps_set (i := 4) sc_l_used.nd rfl (.inl rfl) pe_str)
      (pss_mid (ps_for PassesOwn.never rfl (pi_str (pv 0)) (pg_name (i := 2) sc_l_used.nd rfl (.inl rfl)) (pss_cons (ps_if (PW.pt (pw_or (pt_cmpR op_ne (pv 4) (pe_slice sl_str (pv 0) po_none (po_some (pe_callB call_len_str (by rfl) T.m_len (by decide +kernel) (pa_cons (pv 4) pa_nil)))) (nomark _)) (pw_or1 (pt_cmpR (notInSq K) (pv 2) (pv 3) (by rfl))))) (pss_one ps_break) pss_nil)
      (pss_one (ps_set (i := 4) sc_l_used.nd rfl (.inl rfl) (pe_op op_add_str (pv 4) (pv 2))))))
      (pss_cons (ps_set (i := 5) sc_l_used.nd rfl (.inl rfl) (pe_slice sl_str (pv 0) (po_some (pe_callB call_len_str (by rfl) T.m_len (by decide +kernel) (pa_cons (pv 4) pa_nil))) (po_some (pe_op op_add (pe_callB call_len_str (by rfl) T.m_len (by decide +kernel) (pa_cons (pv 4) pa_nil)) pe_int))))
      (pss_mid (ps_if (PW.pt (pw_and (pt_cmpR op_notN (pe_ix (ixT K) (pv 1) pe_int (fun _ _ => rfl)) pe_non (nomark _)) (pw_and1 (pt_cmpR op_eq (pv 5) (pe_ix (ixT K) (pe_ix (ixT K) (pv 1) pe_int (fun _ _ => rfl)) pe_int (fun _ _ => rfl)) (nomark _))))) (pss_one (ps_set (i := 4) sc_l_used.nd rfl (.inl rfl) (pe_op op_add_str (pv 4) (pv 5)))) pss_nil)
      (pss_one (ps_ret (pv 4)))))))), ?_⟩
    refine ⟨.ref qa, rfl, qa, [.ref ea, y], 0, .ref ea, rfl, rfl, .inl (.inl hqa), rfl, ea, rfl, ⟨_, .inl (.inr ⟨_, hea⟩)⟩, fun D nD => lc_it (walk_tup (xs := ps)) (fun i H' => Same H H' ∧ H' D = some (.lst (((es.take i).map (·.1)).map sg)))
      ⟨Same.new (Same.refl H) nD, upd_same⟩ (fun i H' _ hP => .inl (.inr ⟨_, hP.1 _ _ hea⟩)) (fun i x H3 H4 hi hP hY => ?_) (fun H1 hP => ?_)⟩
    · obtain ⟨sm, hD⟩ := hP
      obtain ⟨rfl, hx⟩ := hY
      obtain ⟨dd, hdd, fd⟩ := fps.getV hx
      rw [List.getElem?_map] at hdd
      obtain ⟨pr, hpr, rfl⟩ := Option.map_eq_some_iff.mp hdd
      have hi2 : i < es.length := (List.getElem?_eq_some_iff.mp hpr).1
      have epr : es[i] = pr := (List.getElem?_eq_some_iff.mp hpr).2
      obtain ⟨pa, ys, rfl, hpa, fy2⟩ := fd.open
      obtain ⟨c, v, rfl, fc, fv⟩ := fy2.two
      rw [fc.isStr, fv.isInt] at hpa
      refine ⟨pa, [sg pr.1, .int pr.2], rfl, .inl (.inl (sm _ _ hpa)), rfl, sg pr.1, [.int pr.2], rfl, .int pr.2, [], rfl, rfl, rfl, sg pr.1, rfl, _, hD, ?_, Same.mut sm nD, ?_⟩
      · rw [List.length_map, List.length_map, List.length_take]
        exact small1000 (by omega)
      · rw [upd_same, List.take_succ_eq_append_getElem hi2, epr, List.map_append, List.map_append]
        rfl
    · obtain ⟨sm, hL⟩ := hP
      have hpl : ps.length = es.length := by rw [fps.len, List.length_map]
      rw [hpl, List.take_of_length_le (Nat.le_refl _)] at hL
      have hol2 : one.length ≤ sizeLine := Nat.le_of_lt (small1000 hol)
      have hsz : ∀ k, (⟨(one.take k).toArray⟩ : Str).length ≤ sizeLine := fun k => by
        show (one.take k).length ≤ sizeLine
        rw [List.length_take]
        omega
      have hln : ∀ k, k ≤ one.length → (⟨(one.take k).toArray⟩ : Str).length = k := fun k hk => by
        show (one.take k).length = k
        rw [List.length_take]
        omega
      -- the loop
      refine ⟨fun σ H' => ∃ (k : Nat) (y2 : Option V), σ = [some (tx one), some (.ref qa), y2, some (.ref D), some (tx (one.take k)), none, none] ∧ H' = H1 ∧ k = (eqPart one es).length, ?_, fun σ H' hM => ?_⟩
      · refine ⟨tx one, rfl, _, rfl, for_it walk_str (fun i σ H' => ∃ (y2 : Option V), σ = [some (tx one), some (.ref qa), y2, some (.ref D), some (tx (one.take i)), none, none] ∧ H' = H1 ∧ ∀ (j : Nat) (h : j < one.length), j < i → one[j] ∈ es.map fun p : Nat × Int => p.1)
          ⟨none, rfl, rfl, fun j h hj => absurd hj (Nat.not_lt_zero _)⟩ (fun i σ H' _ hP => trivial) (fun i x σ H3 H4 hi hP hY => ?_) (fun σ H3 hP => ?_)⟩
        · obtain ⟨y2, rfl, rfl, hin⟩ := hP
          obtain ⟨rfl, c, hc, rfl⟩ := hY
          have hi2 : i < one.length := by simpa using hi
          have hci : one[i] = c := by
            have : one[i]? = some c := by simpa using hc
            exact (List.getElem?_eq_some_iff.mp this).2
          refine ⟨tx (one.take i), rfl, tx one, rfl, tx (one.take i), rfl, _, rfl, hsz i, _, rfl, _, rfl, hol2, rfl, _, rfl, ?_⟩
          rw [hln i (Nat.le_of_lt hi2), cut_take]
          refine ite2 (fun z => ?_) (fun _ => ?_)
          · exact absurd z (by simp)
          refine ⟨sg c, rfl, .ref D, rfl, D, _, rfl, .inl (.inl (.inl hL)), rfl, flat_signs _, _, rfl, ?_⟩
          show (if (!inV (sg c) ((es.map (·.1)).map sg)) = true then _ else _)
          rw [inV_signs]
          refine ite2 (fun z => ?_) (fun z => ?_)
          · have hno : ¬ c ∈ es.map (·.1) := by simpa using z
            refine ⟨i, _, rfl, rfl, (take_while_at _ _ _ (Nat.le_of_lt hi2) (fun j h hj => decide_eq_true (hin j h hj)) (fun h => decide_eq_false ?_)).symm⟩
            rw [hci]
            exact hno
          · have hyes : c ∈ es.map (·.1) := by
              by_cases e : c ∈ es.map (·.1)
              · exact e
              · exact absurd (by rw [decide_eq_false e]; rfl) z
            refine ⟨tx (one.take i), rfl, sg c, rfl, _, _, rfl, rfl, ?_, some (sg c), ?_, rfl, fun j h hj => ?_⟩
            · show (one.take i).length + 1 ≤ sizeLine
              have := hsz i
              have h2 : (one.take i).length = i := by rw [List.length_take]; omega
              rw [h2]
              exact Nat.le_of_lt (small1000 (by omega))
            · have e1 : tx (one.take (i + 1)) = .str ((⟨(one.take i).toArray⟩ : Str) ++ (⟨[c].toArray⟩ : Str)) := by
                rw [app_txt, List.take_succ_eq_append_getElem hi2, hci]
              rw [e1]
              rfl
            · by_cases e3 : j = i
              · subst e3
                rw [hci]
                exact hyes
              · exact hin j h (by omega)
        · obtain ⟨y2, rfl, rfl, hin⟩ := hP
          have hn : (⟨one.toArray⟩ : Str).cps.size = one.length := by simp
          rw [hn] at hin ⊢
          have hw : (eqPart one es).length = one.length := take_while_at _ _ _ (Nat.le_refl _) (fun j h hj => decide_eq_true (hin j h hj)) (fun h => absurd h (Nat.lt_irrefl _))
          exact ⟨one.length, _, rfl, rfl, hw.symm⟩
      · obtain ⟨k, y2, rfl, rfl, hkk⟩ := hM
        have hk : k ≤ one.length := by
          rw [hkk]
          exact eqPart_le one es
        have htk : one.take k = eqPart one es := by rw [hkk]; exact (eqPart_take one es).symm
        refine ⟨tx one, rfl, tx (one.take k), rfl, _, rfl, hsz k, _, rfl, tx (one.take k), rfl, _, rfl, hsz k, _, 1, rfl, rfl, _, rfl, _, rfl, hol2, ?_⟩
        rw [hln k hk, cut_one one k hk]
        refine ⟨fun σ H2 => ∃ (y2 : Option V), σ = [some (tx one), some (.ref qa), y2, some (.ref D), some (tx (usedM one es rc)), some (tx ((one.drop k).take 1)), none] ∧ H2 = H', ?_, fun σ2 H2 hM => ?_⟩
        · cases rc with
          | none =>
            obtain rfl : y = .non := fy.isNon
            refine ⟨.ref qa, rfl, qa, [.ref ea, .non], 1, .non, rfl, rfl, .inl (.inl (sm _ _ hqa)), rfl, rfl, _, rfl, ite2 (fun z => ?_) (fun _ => ?_)⟩
            · exact absurd z (by simp)
            · refine ⟨y2, ?_, rfl⟩
              rw [htk]
              rfl
          | some t3 =>
            obtain ⟨c, lo, hi⟩ := t3
            obtain ⟨ra, zs, rfl, hra, fz⟩ := Fz.open (ds := [.str ⟨#[c]⟩, .int lo, .int hi]) fy
            obtain ⟨z1, z2, z3, rfl, g1, g2, g3⟩ := fz.three
            rw [g1.isStr, g2.isInt, g3.isInt] at hra
            refine ⟨.ref qa, rfl, qa, [.ref ea, .ref ra], 1, .ref ra, rfl, rfl, .inl (.inl (sm _ _ hqa)), rfl, rfl, _, rfl, ite2 (fun _ => ?_) (fun z => ?_)⟩
            · refine ⟨tx ((one.drop k).take 1), rfl, .ref qa, rfl, qa, [.ref ea, .ref ra], 1, .ref ra, rfl, rfl, .inl (.inl (sm _ _ hqa)), rfl, ra, _, 0, sg c, rfl, rfl, .inl (.inl (sm _ _ hra)), rfl, rfl, _, rfl, ite2 (fun z => ?_) (fun z => ?_)⟩
              · have z2 : (one.drop k).take 1 = [c] := tx_inj (of_decide_eq_true z)
                refine ⟨tx (one.take k), rfl, tx ((one.drop k).take 1), rfl, _, _, rfl, rfl, ?_, y2, ?_, rfl⟩
                · show (one.take k).length + ((one.drop k).take 1).length ≤ sizeLine
                  have e3 := congrArg List.length (List.take_add (l := one) (i := k) (j := 1))
                  rw [List.length_append] at e3
                  rw [← e3, List.length_take]
                  exact Nat.le_of_lt (small1000 (by omega))
                · have e2 : usedM one es (some (c, lo, hi)) = one.take k ++ (one.drop k).take 1 := by
                    show (if (one.drop (eqPart one es).length).take 1 = [c] then one.take ((eqPart one es).length + 1) else eqPart one es) = _
                    rw [← hkk, if_pos z2, List.take_add]
                  rw [app_txt, ← e2]
                  rfl
              · have z2 : ¬ (one.drop k).take 1 = [c] := fun z3 => z (decide_eq_true (by rw [z3]))
                have e2 : usedM one es (some (c, lo, hi)) = one.take k := by
                  show (if (one.drop (eqPart one es).length).take 1 = [c] then one.take ((eqPart one es).length + 1) else eqPart one es) = _
                  rw [← hkk, if_neg z2, htk]
                refine ⟨y2, ?_, rfl⟩
                rw [e2]
                rfl
            · exact absurd (by simp) z
        · obtain ⟨y2, rfl, rfl⟩ := hM
          exact ⟨_, rfl, q _ sm⟩

/-! ### _law_stretch -/
def spLstretch (K : PySem.W.Frag) : Sp := fun vs H Q _ => ∃ (tv : V) (cols : List Nat) (rows : List (List Int)) (one : List Nat) (qv : V) (es : List (Nat × Int)) (rc : Option (Nat × Int × Int)), vs = [tv, tx one, qv] ∧ Fz H tv (tabD cols rows) ∧ RowsOk cols.length rows ∧ rows.length ≤ 1000 ∧ one.length ≤ 1000 ∧ (∀ c ∈ one, c ∈ cols) ∧ QZ H qv es rc ∧ QOk cols es rc ∧ es.length ≤ 1000 ∧
  ∀ (p : Addr) (H' : Hp), Same H H' → H p = none → H' p = some (.tup [.int (aheadM cols rows one es rc : Nat), .int (behindM cols rows one es rc : Nat)]) → Q (.ref p) H'
theorem ok_lstretch (T : Tx K mg Z) : FnOk P w K mg base CX0 2 Z.f_l_stretch Z.d_l_stretch ["table", "one", "question"] (spLstretch K) := by
  have G_l_used : FnOk P w K mg base CX0 1 Z.f_l_used Z.d_l_used ["one", "question"] (spUsed K) := ok_lused T
  refine T.F_l_stretch.ok sc_l_stretch (fun vs H Q E h => ?_) (fun cdv A outer s H vs Q E hr h => ?_)
  · obtain ⟨tv, cols, rows, one, qv, es, rc, rfl, _⟩ := h
    rfl
  · obtain ⟨tv, cols, rows, one, qv, es, rc, rfl, fT, hrs, hrn, hol, hoc, fq, hok, hel, q⟩ := h
    obtain ⟨t, R, vs, rfl, ht, hRR, fvs⟩ := tab_open fT
    have hvl : vs.length = rows.length := by rw [fvs.len, List.length_map]
    have hndE : (es.map (·.1)).Nodup := hok.up.imp fun {a b} q => by
      have : a < b := q
      omega
    refine ⟨_, (pss_cons (ps_asg (pv 0) (pgT K (n := 2) (pgs_cons (pg_name (i := 3) sc_l_stretch.nd rfl (.inl rfl)) (pgs_cons (pg_name (i := 4) sc_l_stretch.nd rfl (.inl rfl)) pgs_nil))))
      (pss_cons (ps_set (i := 5) sc_l_stretch.nd rfl (.inl rfl) (pe_call G_l_used (hr.mono (by omega)) (by rfl) T.g_l_used T.F_l_used.kp T.b_l_used .nil pass0 (pa_cons (pv 1) (pa_cons (pv 2) pa_nil))))
      (pss_cons (ps_set (i := 6) sc_l_stretch.nd rfl (.inl rfl) (pe_callTy (cDictF K) (by rfl) T.m_dict (by decide +kernel) (pa_cons (pe_ix (ixT K) (pv 2) pe_int (fun _ _ => rfl)) pa_nil)))
      (pss_cons (ps_set (i := 7) sc_l_stretch.nd rfl (.inl rfl) pe_int)
      (pss_cons (ps_set (i := 8) sc_l_stretch.nd rfl (.inl rfl) pe_int)
      (pss_cons (ps_for PassesOwn.never rfl (piT K (pv 4)) (pg_name (i := 9) sc_l_stretch.nd rfl (.inl rfl)) (pss_cons (ps_set (i := 10) sc_l_stretch.nd rfl (.inl rfl) pe_int)
      (pss_cons (ps_for PassesOwn.never rfl (pi_str (pv 5)) (pg_name (i := 11) sc_l_stretch.nd rfl (.inl rfl)) (pss_cons (ps_set (i := 12) sc_l_stretch.nd rfl (.inl rfl) (pe_ix (ixT K) (pv 9) (bmK K PySem.F.plainAttrs_str PySem.F.slot_str_index PySem.F.type_str_index mt_sindex (pv 3) (pa_cons (pv 11) pa_nil)) (fun _ _ => rfl)))
      (pss_cons (ps_set (i := 13) sc_l_stretch.nd rfl (.inl rfl) (pe_dget2 (hu_of hr) (pv 6) (pv 11) pe_int ⟨rfl, rfl, rfl, rfl⟩))
      (pss_cons (ps_set (i := 14) sc_l_stretch.nd rfl (.inl rfl) (pv 13))
      (pss_mid (ps_if (pt_cmp (pc_dnotin (hu_of hr) (pv 11) (pv 6))) (pss_one (ps_asg (pe_slice (slTK K) (pe_ix (ixT K) (pv 2) pe_int (fun _ _ => rfl)) (po_some pe_int) po_none) (pgT K (n := 2) (pgs_cons (pg_name (i := 13) sc_l_stretch.nd rfl (.inl rfl)) (pgs_cons (pg_name (i := 14) sc_l_stretch.nd rfl (.inl rfl)) pgs_nil))))) pss_nil)
      (pss_one (ps_if (pt_cmpR op_eq (pv 10) pe_int (nomark _)) (pss_one (ps_set (i := 10) sc_l_stretch.nd rfl (.inl rfl) (pe_op op_sub (pe_callTy call_int1 (by rfl) T.m_int (by decide +kernel) (pa_cons (pe_cmpR op_gt (pv 12) (pv 14) (nomark _)) pa_nil)) (pe_callTy call_int1 (by rfl) T.m_int (by decide +kernel) (pa_cons (pe_cmpR op_lt (pv 12) (pv 13) (nomark _)) pa_nil))))) pss_nil)))))))
      (pss_cons (ps_set (i := 7) sc_l_stretch.nd rfl (.inl rfl) (pe_op op_add (pv 7) (pe_callTy call_int1 (by rfl) T.m_int (by decide +kernel) (pa_cons (pe_cmpR op_lt (pv 10) pe_int (nomark _)) pa_nil))))
      (pss_one (ps_set (i := 8) sc_l_stretch.nd rfl (.inl rfl) (pe_op op_add (pv 8) (pe_callTy call_int1 (by rfl) T.m_int (by decide +kernel) (pa_cons (pe_cmpR op_lt (pv 10) pe_int (nomark _)) pa_nil)))))))))
      (pss_one (ps_ret (pe_tup (pa_cons (pv 7) (pa_cons (pv 8) pa_nil))))))))))), ?_⟩
    refine ⟨.ref t, rfl, t, [tx cols, .ref R], rfl, .inl (.inl ht), rfl, tx cols, [.ref R], rfl, .ref R, [], rfl, rfl, ?_⟩
    refine ⟨tx one, rfl, qv, rfl, one, qv, es, rc, rfl, hol, fq, hel, fun H1 sm1 => ?_⟩
    have fq1 := fq.kT (Same.kT sm1)
    obtain ⟨qa, ev, y, rfl, hqa, fe, fy⟩ := fq1
    obtain ⟨ea, ob, ps, rfl, hob, hea, fps⟩ := fe
    obtain ⟨pa, rfl, hpp⟩ := pairs_of (K := K) fps
    refine ⟨.ref qa, rfl, qa, [.ref ea, y], 0, .ref ea, rfl, rfl, .inl (.inl hqa), rfl, ea, ob, pa, es.map kvI, rfl, hob, hea, hpp, fun d nd => ?_⟩
    rw [merge_es hndE]
    have sm2 : Same H (upd H1 d (.dK (es.map kvI))) := Same.new sm1 nd
    have hd2 : (upd H1 d (.dK (es.map kvI))) d = some (.dK (es.map kvI)) := upd_same
    have hqa2 : (upd H1 d (.dK (es.map kvI))) qa = some (.tup [.ref ea, y]) := keep_new hqa nd
    have fy2 : Fz (upd H1 d (.dK (es.map kvI))) y (rchD rc) := fy.kt (.new nd)
    generalize upd H1 d (.dK (es.map kvI)) = H2 at sm2 hd2 hqa2 fy2 ⊢
    generalize hu : usedM one es rc = u
    have huc : ∀ c ∈ u, c ∈ cols := fun c hc => hoc c (used_in (hu ▸ hc))
    have hur : ∀ c ∈ u, c ∉ es.map (·.1) → ∃ lo hi, rc = some (c, lo, hi) := fun c hc n => used_rc (hu ▸ hc) n
    have hR2 := sm2 _ _ hRR
    have fvs2 := fvs.kt (Same.kt sm2)
    refine ⟨.ref R, rfl, R, rfl, ⟨_, .inl (.inl hR2)⟩, for_it (walk_tup (xs := vs)) (fun i σ H' => ∃ (y9 y10 y11 y12 y13 y14 : Option V), σ = [some (.ref t), some (tx one), some (.ref qa), some (tx cols), some (.ref R), some (tx u), some (.ref d), some (.int (((rows.take i).filter fun row => decide (signM cols row es rc u < 0)).length : Nat)), some (.int (((rows.take i).filter fun row => decide (signM cols row es rc u < 1)).length : Nat)), y9, y10, y11, y12, y13, y14] ∧ Same H2 H')
      ⟨none, none, none, none, none, none, rfl, Same.refl H2⟩ (fun i σ H' _ hP => ?_) (fun i x σ H3 H4 hi hP hY => ?_) (fun σ H3 hP => ?_)⟩
    · obtain ⟨_, _, _, _, _, _, _, sm⟩ := hP
      exact .inl (.inl (sm _ _ hR2))
    · obtain ⟨y9, y10, y11, y12, y13, y14, rfl, sm3⟩ := hP
      obtain ⟨rfl, ex⟩ := hY
      obtain ⟨dd, hdd, fd⟩ := fvs2.getV ex
      rw [List.getElem?_map] at hdd
      obtain ⟨row, hrow, rfl⟩ := Option.map_eq_some_iff.mp hdd
      have hi2 : i < rows.length := (List.getElem?_eq_some_iff.mp hrow).1
      have erow : rows[i] = row := (List.getElem?_eq_some_iff.mp hrow).2
      have rok := hrs row (List.mem_of_getElem? hrow)
      obtain ⟨ra, rfl, hra⟩ := row_open fd
      -- the letters
      refine ⟨tx u, rfl, _, rfl, for_it walk_str (fun j σ H' => ∃ (y11 y12 y13 y14 : Option V), σ = [some (.ref t), some (tx one), some (.ref qa), some (tx cols), some (.ref R), some (tx u), some (.ref d), some (.int (((rows.take i).filter fun row => decide (signM cols row es rc u < 0)).length : Nat)), some (.int (((rows.take i).filter fun row => decide (signM cols row es rc u < 1)).length : Nat)), some (.ref ra), some (.int (signM cols row es rc (u.take j))), y11, y12, y13, y14] ∧ Same H2 H')
        ⟨y11, y12, y13, y14, rfl, sm3⟩ (fun j σ H' _ hP => trivial) (fun j x σ H5 H6 hj hP hY => ?_) (fun σ H5 hP => ?_)⟩
      · obtain ⟨y11', y12', y13', y14', rfl, sm5⟩ := hP
        obtain ⟨rfl, c, hc, rfl⟩ := hY
        have hj2 : j < u.length := by simpa using hj
        have hcj : u[j] = c := by
          have : u[j]? = some c := by simpa using hc
          exact (List.getElem?_eq_some_iff.mp this).2
        have hcu : c ∈ u := hcj ▸ List.getElem_mem hj2
        have hcc := huc c hcu
        obtain ⟨orest, hocc⟩ := ix_one hcc
        have hat := row_at rok.1 hcc
        have tk : ∀ s, signM cols row es rc (u.take j) = s → signM cols row es rc (u.take (j + 1)) = if s = 0 then sgn (rowAt cols row c) (spanOf es rc c).1 (spanOf es rc c).2 else s := fun s hs => by
          rw [List.take_succ_eq_append_getElem hj2, hcj]
          unfold signM signF at hs ⊢
          rw [List.foldl_append, hs]
          rfl
        refine ⟨.ref ra, rfl, tx cols, rfl, rfl, sg c, rfl, _, _, cols.idxOf c, orest, rfl, rfl, hocc, ra, _, _, _, rfl, rfl, .inl (.inl (sm5 _ _ hra)), atI_nat hat, ?_⟩
        refine ⟨.ref d, rfl, d, rfl, .inl ⟨_, .inl (sm5 _ _ hd2)⟩, sg c, rfl, _, DGet.k (k := Sum.inr (sS c)) (sm5 _ _ hd2), ?_⟩
        refine ⟨_, rfl, ?_⟩
        refine ⟨fun σ H' => ∃ (y11 : Option V), σ = [some (.ref t), some (tx one), some (.ref qa), some (tx cols), some (.ref R), some (tx u), some (.ref d), some (.int (((rows.take i).filter fun row => decide (signM cols row es rc u < 0)).length : Nat)), some (.int (((rows.take i).filter fun row => decide (signM cols row es rc u < 1)).length : Nat)), some (.ref ra), some (.int (signM cols row es rc (u.take j))), y11, some (.int (rowAt cols row c)), some (.int (spanOf es rc c).1), some (.int (spanOf es rc c).2)] ∧ Same H2 H', ?_, fun σ H7 hM => ?_⟩
        · refine ⟨sg c, rfl, .ref d, rfl, d, _, rfl, DGet.k (k := Sum.inr (sS c)) (sm5 _ _ hd2), _, rfl, ?_⟩
          rw [val_es]
          by_cases hm : c ∈ es.map (·.1)
          · obtain ⟨v, hv, hval⟩ := val_at c es hm
            rw [decide_eq_true hm]
            refine ite2 (fun z => absurd z (by decide)) (fun _ => ?_)
            refine ⟨some (sg c), ?_, sm5⟩
            rw [hval, span_eq hok hv]
            rfl
          · obtain ⟨lo, hi3, hrc⟩ := hur c hcu hm
            rw [decide_eq_false hm]
            refine ite2 (fun _ => ?_) (fun z => absurd rfl z)
            subst hrc
            obtain ⟨rr, zs, rfl, hrr, fz⟩ := Fz.open (ds := [.str ⟨#[c]⟩, .int lo, .int hi3]) fy2
            obtain ⟨z1, z2, z3, rfl, g1, g2, g3⟩ := fz.three
            rw [g1.isStr, g2.isInt, g3.isInt] at hrr
            refine ⟨.ref qa, rfl, qa, [.ref ea, .ref rr], 1, .ref rr, rfl, rfl, .inl (.inl (sm5 _ _ hqa2)), rfl, _, rfl, rr, _, rfl, .inl (.inl (sm5 _ _ hrr)), (by show ¬ (HT.sIx 3 0 (some 1) = 0 ∧ HT.sIx 3 3 none = 3); decide), fun p np => ?_⟩
            have ecut : cutV [V.str ⟨#[c]⟩, .int lo, .int hi3] (some 1) none = [.int lo, .int hi3] := rfl
            rw [ecut]
            refine ⟨p, [.int lo, .int hi3], rfl, .inl (.inl upd_same), rfl, .int lo, [.int hi3], rfl, .int hi3, [], rfl, rfl, some (sg c), ?_, Same.new sm5 np⟩
            rw [span_rc hok]
            rfl
        · obtain ⟨y11, rfl, sm7⟩ := hM
          refine ⟨.int (signM cols row es rc (u.take j)), rfl, rfl, _, rfl, ite2 (fun z => ?_) (fun z => ?_)⟩
          · have hs0 : signM cols row es rc (u.take j) = 0 := V.int.inj (of_decide_eq_true z)
            refine ⟨.int (rowAt cols row c), rfl, .int (spanOf es rc c).2, rfl, _, _, rfl, rfl, .inr ⟨_, rfl, .int (rowAt cols row c), rfl, .int (spanOf es rc c).1, rfl, _, _, rfl, rfl, .inr ⟨_, rfl, _, _, rfl, rfl, ?_⟩⟩⟩
            refine ⟨y11, some (.int (rowAt cols row c)), some (.int (spanOf es rc c).1), some (.int (spanOf es rc c).2), ?_, sm7⟩
            rw [tk _ hs0, if_pos rfl]
            rfl
          · have hs0 : ¬ signM cols row es rc (u.take j) = 0 := fun z2 => z (decide_eq_true (by rw [z2]))
            refine ⟨y11, some (.int (rowAt cols row c)), some (.int (spanOf es rc c).1), some (.int (spanOf es rc c).2), ?_, sm7⟩
            rw [tk _ rfl, if_neg hs0]
      · obtain ⟨y11', y12', y13', y14', rfl, sm5⟩ := hP
        have hn : (⟨u.toArray⟩ : Str).cps.size = u.length := by simp
        rw [hn, List.take_of_length_le (Nat.le_refl _)]
        refine ⟨_, rfl, .int (signM cols row es rc u), rfl, _, _, rfl, rfl, .inr ⟨_, rfl, _, _, rfl, rfl, ?_⟩⟩
        refine ⟨_, rfl, .int (signM cols row es rc u), rfl, _, _, rfl, rfl, .inr ⟨_, rfl, _, _, rfl, rfl, ?_⟩⟩
        refine ⟨some (.ref ra), some (.int (signM cols row es rc u)), y11', y12', y13', y14', ?_, sm5⟩
        have cnt : ∀ (p : List Int → Bool), (((rows.take (i + 1)).filter p).length : Int) = ((rows.take i).filter p).length + (if p row = true then 1 else 0) := fun p => by
          rw [List.take_succ_eq_append_getElem hi2, erow, List.filter_append, List.filter_cons, List.length_append, List.filter_nil]
          split <;> simp
        rw [cnt, cnt]
        rfl
    · obtain ⟨y9, y10, y11, y12, y13, y14, rfl, sm3⟩ := hP
      rw [hvl, List.take_of_length_le (Nat.le_refl _)]
      refine ⟨_, rfl, _, rfl, (by show 2 ≤ sizeLine; decide), fun p np => ?_⟩
      have sm03 : Same H H3 := Same.trans sm2 sm3
      refine q p _ (Same.new sm03 np) (Same.free sm03 np) ?_
      rw [upd_same, ahead_sign hok, behind_sign hok, hu]

/-! ### _law_price_by -/
def spLpriceBy (K : PySem.W.Frag) : Sp := fun vs H Q _ => ∃ (tv : V) (cols : List Nat) (rows : List (List Int)) (one : List Nat) (qv : V) (es : List (Nat × Int)) (rc : Option (Nat × Int × Int)), vs = [tv, tx one, qv] ∧ Fz H tv (tabD cols rows) ∧ RowsOk cols.length rows ∧ rows.length ≤ 1000 ∧ one.length ≤ 1000 ∧ (∀ c ∈ one, c ∈ cols) ∧ QZ H qv es rc ∧ QOk cols es rc ∧ es.length ≤ 1000 ∧
  ∀ (H' : Hp), Same H H' → Q (.int (priceM cols rows one es rc)) H'
theorem ok_lpriceby (T : Tx K mg Z) : FnOk P w K mg base CX0 3 Z.f_l_price_by Z.d_l_price_by ["table", "one", "question"] (spLpriceBy K) := by
  have G_l_stretch : FnOk P w K mg base CX0 2 Z.f_l_stretch Z.d_l_stretch ["table", "one", "question"] (spLstretch K) := ok_lstretch T
  refine T.F_l_price_by.ok sc_l_price_by (fun vs H Q E h => ?_) (fun cdv A outer s H vs Q E hr h => ?_)
  · obtain ⟨tv, cols, rows, one, qv, es, rc, rfl, _⟩ := h
    rfl
  · obtain ⟨tv, cols, rows, one, qv, es, rc, rfl, fT, hrs, hrn, hol, hoc, fq, hok, hel, q⟩ := h
    refine ⟨_, (pss_cons (ps_asg (pe_call G_l_stretch (hr.mono (by omega)) (by rfl) T.g_l_stretch T.F_l_stretch.kp T.b_l_stretch .nil pass0 (pa_cons (pv 0) (pa_cons (pv 1) (pa_cons (pv 2) pa_nil)))) (pgT K (n := 2) (pgs_cons (pg_name (i := 3) sc_l_price_by.nd rfl (.inl rfl)) (pgs_cons (pg_name (i := 4) sc_l_price_by.nd rfl (.inl rfl)) pgs_nil))))
      (pss_one (ps_ret (pe_op op_sub (pe_op op_add pe_int (pv 4)) (pv 3))))), ?_⟩
    refine ⟨tv, rfl, tx one, rfl, qv, rfl, tv, cols, rows, one, qv, es, rc, rfl, fT, hrs, hrn, hol, hoc, fq, hok, hel, fun sp H1 sm1 nsp hsp => ?_⟩
    refine ⟨sp, [.int (aheadM cols rows one es rc : Nat), .int (behindM cols rows one es rc : Nat)], rfl, .inl (.inl hsp), rfl, .int (aheadM cols rows one es rc : Nat), [.int (behindM cols rows one es rc : Nat)], rfl, .int (behindM cols rows one es rc : Nat), [], rfl, rfl, ?_⟩
    refine ⟨_, rfl, _, _, rfl, rfl, _, rfl, _, _, rfl, rfl, ?_⟩
    have e : (1 + (behindM cols rows one es rc : Int)) - (aheadM cols rows one es rc : Int) = priceM cols rows one es rc := by
      unfold priceM
      omega
    show Q (.int ((1 + (behindM cols rows one es rc : Int)) - (aheadM cols rows one es rc : Int))) H1
    rw [e]
    exact q H1 sm1

/-! ### _law_lists -/
def spLlists (K : PySem.W.Frag) : Sp := fun vs H Q _ => ∃ (cols : List Nat), vs = [tx cols] ∧ cols.length ≤ 6 ∧ ∀ (l : Addr) (H' : Hp), Same H H' → H l = none → H' l = some (.lst ((listsM cols cols.length).map tx)) → Q (.ref l) H'
theorem ok_llists (T : Tx K mg Z) : FnOk P w K mg base CX0 1 Z.f_l_lists Z.d_l_lists ["columns"] (spLlists K) := by
  refine T.F_l_lists.ok sc_l_lists (fun vs H Q E h => ?_) (fun cdv A outer s H vs Q E hr h => ?_)
  · obtain ⟨cols, rfl, _⟩ := h
    rfl
  · obtain ⟨cols, rfl, hc, q⟩ := h
    refine ⟨_, (pss_cons (ps_set (i := 1) sc_l_lists.nd rfl (.inl rfl) (pe_lst pa_nil))
      (pss_cons (ps_set (i := 2) sc_l_lists.nd rfl (.inl rfl) (pe_lst (pa_cons pe_str pa_nil)))
      (pss_cons (ps_for PassesOwn.never rfl (pi_str (pv 0)) (pg_name (i := 3) sc_l_lists.nd rfl (.inl rfl)) (pss_cons (ps_set (i := 4) sc_l_lists.nd rfl (.inl rfl) (pe_lst pa_nil))
      (pss_cons (ps_for PassesOwn.never rfl (piL K (pv 2)) (pg_name (i := 5) sc_l_lists.nd rfl (.inr rfl)) (pss_one (ps_set (i := 4) sc_l_lists.nd rfl (.inl rfl) (pe_op op_cat (pv 4) (pe_lc (own := [("letter", 6)]) (tt := _) (by rfl) sc_l_lists.nd (pi_str (pv 0)) (blkOk_by (own := [("letter", 6)]) (by kernel_rfl)) (fun _ _ _ _ _ => (pg_name (i := 6) sc_l_lists.nd rfl (.inl rfl))) (fun _ _ _ _ _ => (pts_one (pt_cmpR op_notIn_sign (pv 6) (pv 5) (by rfl)))) (fun _ _ _ _ _ => (pe_op op_add_str (pv 5) (pv 6))))))))
      (pss_cons (ps_set (i := 2) sc_l_lists.nd rfl (.inl rfl) (pv 4))
      (pss_one (ps_set (i := 1) sc_l_lists.nd rfl (.inl rfl) (pe_op op_cat (pv 1) (pv 2))))))))
      (pss_one (ps_ret (pv 1)))))), ?_⟩
    have line : (100 : Nat) * 46656 < sizeLine := by rw [sizeLine_eq]; decide
    let f : List Nat → List (List Nat) := fun o => (cols.filter fun c => decide (c ∉ o)).map fun c => o ++ [c]
    refine ⟨Nat.zero_le _, fun F0 nF0 => ?_⟩
    refine ⟨(by show 1 ≤ sizeLine; decide), fun R0 nR0 => ?_⟩
    have sm0 : Same H (upd (upd H F0 (.lst [])) R0 (.lst [V.str (Str.ofString "")])) := Same.new (Same.new (Same.refl H) nF0) nR0
    refine ⟨tx cols, rfl, _, rfl, for_it walk_str (fun i σ H' => ∃ (y3 y4 y5 y6 : Option V) (F R : Addr), σ = [some (tx cols), some (.ref F), some (.ref R), y3, y4, y5, none] ∧ Same H H' ∧ H F = none ∧ H' F = some (.lst ((listsM cols i).map tx)) ∧ H' R = some (.lst ((longM cols i).map tx)))
      ⟨none, none, none, none, F0, R0, rfl, sm0, nF0, keep_new upd_same nR0, upd_same⟩ (fun _ _ _ _ _ => trivial) (fun i x σ H3 H4 hi hP hY => ?_) (fun σ H3 hP => ?_)⟩
    · obtain ⟨y3, y4, y5, y6, F, R, rfl, sm, nF, hF, hR⟩ := hP
      obtain ⟨rfl, ct, hct, rfl⟩ := hY
      have hil : i < cols.length := by simpa using hi
      have hll := long_small (k := i) hc (by omega)
      have hl1 := long_small (k := i + 1) hc (by omega)
      have hls := lists_small hc (n := i) (by omega)
      have hls1 := lists_small hc (n := i + 1) (by omega)
      have el1 : longM cols (i + 1) = (longM cols i).flatMap f := rfl
      refine ⟨Nat.zero_le _, fun L0 nL0 => ?_⟩
      have smL : Same H (upd H4 L0 (.lst [])) := Same.new sm nL0
      have hF5 : (upd H4 L0 (.lst [])) F = some (.lst ((listsM cols i).map tx)) := keep_new hF nL0
      have hR5 : (upd H4 L0 (.lst [])) R = some (.lst ((longM cols i).map tx)) := keep_new hR nL0
      have hL5 : (upd H4 L0 (.lst [])) L0 = some (.lst []) := upd_same
      generalize upd H4 L0 (.lst []) = H5 at smL hF5 hR5 hL5 ⊢
      refine ⟨.ref R, rfl, R, rfl, ⟨_, .inl (.inl hR5)⟩, for_it (walk_list (xs := (longM cols i).map tx)) (fun j σ H' => ∃ (y5 : Option V) (L : Addr), σ = [some (tx cols), some (.ref F), some (.ref R), some (sg ct), some (.ref L), y5, none] ∧ Same H5 H' ∧ H' L = some (.lst ((((longM cols i).take j).flatMap f).map tx)))
        ⟨y5, L0, rfl, Same.refl H5, hL5⟩ (fun j σ H' _ hP => ?_) (fun j x σ H6 H7 hj hP hY => ?_) (fun σ H6 hP => ?_)⟩
      · obtain ⟨_, _, _, sm6, _⟩ := hP
        exact .inl (.inl (sm6 _ _ hR5))
      · obtain ⟨z5, L, rfl, sm6, hL6⟩ := hP
        obtain ⟨rfl, hx⟩ := hY
        rw [List.getElem?_map] at hx
        obtain ⟨o, ho, rfl⟩ := Option.map_eq_some_iff.mp hx
        have hol : o.length = i := (long_mem.mp (List.mem_of_getElem? ho)).1
        have part : (((longM cols i).take (j + 1)).flatMap f).length ≤ (longM cols (i + 1)).length := by
          rw [el1]
          exact flat_take _ _ _
        have e2 := congrArg List.length (flat_snoc f (longM cols i) j o ho)
        rw [List.length_append] at e2
        refine ⟨.ref L, rfl, tx cols, rfl, _, rfl, fun D nD => lc_it walk_str (fun k H' => Same H7 H' ∧ H' D = some (.lst ((((cols.take k).filter fun c => decide (c ∉ o)).map fun c => o ++ [c]).map tx)))
          ⟨Same.new (Same.refl H7) nD, upd_same⟩ (fun _ _ _ _ => trivial) (fun k x H8 H9 hk hP hY => ?_) (fun H8 hP => ?_)⟩
        · obtain ⟨sm8, hD8⟩ := hP
          obtain ⟨rfl, c, hcc, rfl⟩ := hY
          have hcl : cols[k]? = some c := by simpa using hcc
          have fs := filter_snoc (fun c => decide (c ∉ o)) cols k c hcl
          refine ⟨rfl, sg c, rfl, tx o, rfl, c, _, rfl, rfl, _, rfl, ite2 (fun e => ?_) (fun e => ?_)⟩
          · have out : c ∉ o := by simpa using e
            refine ⟨tx o, rfl, sg c, rfl, _, _, rfl, rfl, Nat.le_of_lt (small1000 ?_), _, hD8, small1000 ?_, Same.mut sm8 nD, ?_⟩
            · show o.length + 1 ≤ 1000
              omega
            · rw [List.length_map, List.length_map]
              have := List.length_filter_le (fun c => decide (c ∉ o)) (cols.take k)
              rw [List.length_take] at this
              omega
            · rw [upd_same, fs, if_pos (decide_eq_true out), List.map_append, List.map_append]
              show some (HO.lst (_ ++ [_])) = some (HO.lst (_ ++ [tx (o ++ [c])]))
              rw [cat_tx o [c]]
          · have inn : c ∈ o := by simpa using e
            refine ⟨sm8, ?_⟩
            rw [fs, if_neg (by simpa using inn), List.append_nil]
            exact hD8
        · obtain ⟨sm8, hD8⟩ := hP
          rw [show (⟨cols.toArray⟩ : Str).cps.size = cols.length by simp, List.take_of_length_le (Nat.le_refl _)] at hD8
          refine ⟨L, D, _, _, rfl, rfl, sm8 _ _ hL6, hD8, ?_, fun M nM => ?_⟩
          · rw [List.length_map, List.length_map]
            show ((List.take j (longM cols i)).flatMap f).length + (f o).length ≤ sizeLine
            omega
          · refine ⟨_, M, rfl, Same.new (Same.trans sm6 sm8) nM, ?_⟩
            rw [upd_same, flat_snoc f _ j o ho, List.map_append]
      · obtain ⟨z5, L, rfl, sm6, hL6⟩ := hP
        rw [List.length_map, List.take_of_length_le (Nat.le_refl _), ← el1] at hL6
        refine ⟨.ref L, rfl, .ref F, rfl, .ref L, rfl, F, L, _, _, rfl, rfl, sm6 _ _ hF5, hL6, ?_, fun M nM => ?_⟩
        · rw [List.length_map, List.length_map]
          omega
        · have sm9 := Same.trans smL sm6
          refine ⟨_, _, _, none, M, L, rfl, Same.new sm9 nM, Same.free sm9 nM, ?_, keep_new hL6 nM⟩
          rw [upd_same, lists_succ, List.map_append]
    · obtain ⟨y3, y4, y5, y6, F, R, rfl, sm, nF, hF, hR⟩ := hP
      rw [show (⟨cols.toArray⟩ : Str).cps.size = cols.length by simp] at hF
      exact ⟨_, rfl, q F H3 sm nF hF⟩

/-! ### lists_of -/
def spListsOf (K : PySem.W.Frag) : Sp := fun vs H Q _ => ∃ (cols : List Nat), vs = [tx cols] ∧ cols.length ≤ 6 ∧ ∀ (l : Addr) (H' : Hp), Same H H' → H l = none → H' l = some (.lst ((listsM cols cols.length).map tx)) → Q (.ref l) H'
theorem ok_listsof (T : Tx K mg Z) : FnOk P w K mg base CX0 1 Z.f_lists_of Z.d_lists_of ["columns"] (spListsOf K) := by
  refine T.F_lists_of.ok sc_lists_of (fun vs H Q E h => ?_) (fun cdv A outer s H vs Q E hr h => ?_)
  · obtain ⟨cols, rfl, _⟩ := h
    rfl
  · obtain ⟨cols, rfl, hc, q⟩ := h
    refine ⟨_, (pss_cons (ps_set (i := 1) sc_lists_of.nd rfl (.inl rfl) (pe_lst pa_nil))
      (pss_cons (ps_set (i := 2) sc_lists_of.nd rfl (.inl rfl) (pe_lst (pa_cons pe_str pa_nil)))
      (pss_cons (ps_for PassesOwn.never rfl (pi_range1 (by rfl) T.m_range (pa_cons (pe_callB call_len_str (by rfl) T.m_len (by decide +kernel) (pa_cons (pv 0) pa_nil)) pa_nil)) (pg_name (i := 3) sc_lists_of.nd rfl (.inl rfl)) (pss_cons (ps_setLc2 (i := 2) (own := [("one", 4), ("letter", 5)]) (vs1 := [5]) (tt := tYes) (tt1 := _) (by rfl) sc_lists_of.nd rfl rfl (sw_true rfl rfl rfl (by decide +kernel)) (piL K (pv 2)) (blkOk_by (own := [("one", 4), ("letter", 5)]) (by kernel_rfl)) (by decide) (fun _ _ _ _ _ => (pg_name (i := 4) sc_lists_of.nd rfl (.inl rfl))) (fun _ _ _ _ _ => pts_nil) (fun _ _ _ _ _ => (pi_str (pv 0))) (fun _ _ _ _ _ => (pg_name (i := 5) sc_lists_of.nd rfl (.inl rfl))) (fun _ _ _ _ _ => (pts_one (pt_cmpR op_notIn_sign (pv 5) (pv 4) (by rfl)))) (fun _ _ _ _ _ => (pe_op op_add_str (pv 4) (pv 5))))
      (pss_one (ps_expr (bmK K PySem.F.plainAttrs_list PySem.F.slot_list_extend PySem.F.type_list_extend mt_extend (pv 1) (pa_cons (pv 2) pa_nil))))))
      (pss_one (ps_ret (pv 1)))))), ?_⟩
    have line : (100 : Nat) * 46656 < sizeLine := by rw [sizeLine_eq]; decide
    refine ⟨Nat.zero_le _, fun F nF => ?_⟩
    refine ⟨(by show 1 ≤ sizeLine; decide), fun G0 nG0 => ?_⟩
    have nFG0 : F ≠ G0 := fun e => by
      rw [← e, upd_same] at nG0
      cases nG0
    have sm0 : Same H (upd (upd H F (.lst [])) G0 (.lst [V.str (Str.ofString "")])) := Same.new (Same.new (Same.refl H) nF) nG0
    refine ⟨tx cols, rfl, _, rfl, Nat.le_of_lt (small1000 (show cols.length ≤ 1000 by omega)), (cols.length : Int), rfl, by omega, by omega, for_range (n := cols.length) (fun i σ H' => ∃ (y3 : Option V) (G : Addr), σ = [some (tx cols), some (.ref F), some (.ref G), y3, none, none] ∧ Same H H' ∧ F ≠ G ∧ H' F = some (.lst ((listsM cols i).map tx)) ∧ H' G = some (.lst ((longM cols i).map tx)))
      ⟨none, G0, rfl, sm0, nFG0, keep_new upd_same nG0, upd_same⟩ (fun i σ H3 hi hP => ?_) (fun σ H3 hP => ?_)⟩
    · obtain ⟨y3, G, rfl, sm, ne, hF, hG⟩ := hP
      have hll := long_small (k := i) hc (by omega)
      have hl1 := long_small (k := i + 1) hc (by omega)
      have hls := lists_small hc (n := i) (by omega)
      have hls1 := lists_small hc (n := i + 1) (by omega)
      -- every list of i letters, and behind it each letter that it lacks
      refine ⟨.ref G, rfl, G, rfl, ⟨_, .inl (.inl hG)⟩, fun D nD => turns (walk_list (xs := (longM cols i).map tx)) (fun j H' => Same H3 H' ∧ H' D = some (.lst ((((longM cols i).take j).flatMap fun o => (cols.filter fun c => decide (c ∉ o)).map fun c => o ++ [c]).map tx)))
        ⟨Same.new (Same.refl H3) nD, upd_same⟩ (fun j H' _ hP => .inl (.inl (hP.1 _ _ hG))) (fun j x H4 H5 hj hP hY => ?_) (fun H4 hP => ?_)⟩
      · obtain ⟨sm4, hD4⟩ := hP
        obtain ⟨rfl, hx⟩ := hY
        rw [List.getElem?_map] at hx
        obtain ⟨o, ho, rfl⟩ := Option.map_eq_some_iff.mp hx
        have hol : o.length = i := (long_mem.mp (List.mem_of_getElem? ho)).1
        have upto : ∀ k, (((longM cols i).take j).flatMap fun o => (cols.filter fun c => decide (c ∉ o)).map fun c => o ++ [c]).length + (((cols.take k).filter fun c => decide (c ∉ o)).map fun c => o ++ [c]).length ≤ (longM cols (i + 1)).length := fun k => by
          have e1 : (longM cols (i + 1)) = (longM cols i).flatMap fun o => (cols.filter fun c => decide (c ∉ o)).map fun c => o ++ [c] := rfl
          have e2 := flat_snoc (fun o : List Nat => (cols.filter fun c => decide (c ∉ o)).map fun c => o ++ [c]) (longM cols i) j o ho
          have e3 := congrArg List.length e2
          rw [List.length_append] at e3
          have e4 : (((cols.take k).filter fun c => decide (c ∉ o)).map fun c => o ++ [c]).length ≤ ((cols.filter fun c => decide (c ∉ o)).map fun c => o ++ [c]).length := by
            rw [List.length_map, List.length_map]
            exact ((List.take_sublist k cols).filter _).length_le
          have e5 : (((longM cols i).take (j + 1)).flatMap fun o => (cols.filter fun c => decide (c ∉ o)).map fun c => o ++ [c]).length ≤ (longM cols (i + 1)).length := by
            rw [e1]
            exact flat_take _ _ _
          omega
        refine ⟨rfl, tx cols, rfl, _, rfl, turns walk_str (fun k H' => Same H3 H' ∧ H' D = some (.lst (((((longM cols i).take j).flatMap fun o => (cols.filter fun c => decide (c ∉ o)).map fun c => o ++ [c]) ++ (((cols.take k).filter fun c => decide (c ∉ o)).map fun c => o ++ [c])).map tx)))
          ⟨sm4, by rw [List.take_zero, List.filter_nil, List.map_nil, List.append_nil]; exact hD4⟩ (fun _ _ _ _ => trivial) (fun k x H5 H6 hk hP hY => ?_) (fun H5 hP => ?_)⟩
        · obtain ⟨sm5, hD5⟩ := hP
          obtain ⟨rfl, c, hcc, rfl⟩ := hY
          have hcl : cols[k]? = some c := by simpa using hcc
          have fs := filter_snoc (fun c => decide (c ∉ o)) cols k c hcl
          have up := upto k
          refine ⟨rfl, sg c, rfl, tx o, rfl, c, _, rfl, rfl, _, rfl, ite2 (fun e => ?_) (fun e => ?_)⟩
          · have out : c ∉ o := by simpa using e
            refine ⟨tx o, rfl, sg c, rfl, _, _, rfl, rfl, Nat.le_of_lt (small1000 ?_), _, hD5, ?_, Same.mut sm5 nD, ?_⟩
            · show o.length + 1 ≤ 1000
              omega
            · rw [List.length_map, List.length_append]
              omega
            · rw [upd_same, fs, if_pos (decide_eq_true out), List.map_append, List.map_append, List.map_append, List.append_assoc, List.map_append]
              show some (HO.lst (_ ++ (_ ++ [_]))) = some (HO.lst (_ ++ (_ ++ [tx (o ++ [c])])))
              rw [cat_tx o [c]]
          · have inn : c ∈ o := by simpa using e
            refine ⟨sm5, ?_⟩
            rw [fs, if_neg (by simpa using inn), List.append_nil]
            exact hD5
        · obtain ⟨sm5, hD5⟩ := hP
          refine ⟨sm5, ?_⟩
          rw [flat_snoc _ _ j o ho]
          rw [show (⟨cols.toArray⟩ : Str).cps.size = cols.length by simp, List.take_of_length_le (Nat.le_refl _)] at hD5
          exact hD5
      · obtain ⟨sm4, hD4⟩ := hP
        rw [List.length_map, List.take_of_length_le (Nat.le_refl _)] at hD4
        have nDF : D ≠ F := (ne_of_none hF nD).symm
        have hF4 := sm4 _ _ hF
        refine ⟨.ref F, rfl, .inl ⟨rfl, _, .inl (.inl hF4)⟩, .ref D, rfl, F, D, _, _, rfl, rfl, hF4, hD4, ?_, ?_⟩
        · rw [List.length_map, List.length_map]
          have e1 : (longM cols (i + 1)) = (longM cols i).flatMap fun o => (cols.filter fun c => decide (c ∉ o)).map fun c => o ++ [c] := rfl
          rw [← e1]
          omega
        · refine ⟨_, D, rfl, Same.mut (Same.trans sm sm4) nF, nDF.symm, ?_, keep_ne hD4 nDF⟩
          rw [upd_same, lists_succ, List.map_append]
          rfl
    · obtain ⟨y3, G, rfl, sm, ne, hF, hG⟩ := hP
      exact ⟨_, rfl, q F H3 sm nF hF⟩

/-! ### prices_by -/
/-- a dict with the price of a question by each of some lists -/
def PrD (cols : List Nat) (rows : List (List Int)) (ls : List (List Nat)) (es : List (Nat × Int)) (rc : Option (Nat × Int × Int)) (kvs : List (Key × V)) : Prop := ∀ o ∈ ls, valV kvs (Sum.inr (txS o)) = some (.int (priceM cols rows o es rc))
def spPricesBy (K : PySem.W.Frag) (Z : Ad) : Sp := fun vs H Q _ => ∃ (tv : V) (cols : List Nat) (rows : List (List Int)) (qv : V) (es : List (Nat × Int)) (rc : Option (Nat × Int × Int)) (la : Addr) (ls : List (List Nat)), vs = [tv, qv, .ref la] ∧ TG Z.Ps H ∧ Fz H tv (tabD cols rows) ∧ RowsOk cols.length rows ∧ rows.length ≤ 1000 ∧ QZ H qv es rc ∧ QOk cols es rc ∧ es.length ≤ 1000 ∧ H la = some (.lst (ls.map tx)) ∧ (∀ o ∈ ls, o.length ≤ 1000 ∧ ∀ c ∈ o, c ∈ cols) ∧ ls.length ≤ 300000 ∧
  ∀ (d : Addr) (kvs : List (Key × V)) (H' : Hp), Sx Z.Ps H H' → TG Z.Ps H' → H d = none → d ∉ Z.Ps → H' d = some (.dK kvs) → PrD cols rows ls es rc kvs → Q (.ref d) H'
theorem ok_pricesby (T : Tx K mg Z) (TB : Tb base mg Z) : FnOk P w K mg base CX0 5 Z.f_prices_by Z.d_prices_by ["table", "question", "lists"] (spPricesBy K Z) := by
  have G_used : FnOk P w K mg base CX0 2 Z.f_used Z.d_used ["one", "question"] (spUsed K) := ok_used T
  have G_price_by : FnOk P w K mg base CX0 4 Z.f_price_by Z.d_price_by ["table", "one", "question"] (spPriceBy K Z) := ok_priceby T TB
  refine T.F_prices_by.ok sc_prices_by (fun vs H Q E h => ?_) (fun cdv A outer s H vs Q E hr h => ?_)
  · obtain ⟨tv, cols, rows, qv, es, rc, la, ls, rfl, _⟩ := h
    rfl
  · obtain ⟨tv, cols, rows, qv, es, rc, la, ls, rfl, tg, fT, hrs, hrn, fq, hok, hel, hla, hls, hln, q⟩ := h
    refine ⟨_, (pss_cons (ps_set (i := 3) sc_prices_by.nd rfl (.inl rfl) pe_dnewK)
      (pss_cons (ps_set (i := 4) sc_prices_by.nd rfl (.inl rfl) pe_dnewK)
      (pss_cons (ps_for PassesOwn.never rfl (piL K (pv 2)) (pg_name (i := 5) sc_prices_by.nd rfl (.inl rfl)) (pss_cons (ps_set (i := 6) sc_prices_by.nd rfl (.inl rfl) (pe_call G_used (hr.mono (by omega)) (by rfl) T.g_used T.F_used.kp T.b_used .nil pass0 (pa_cons (pv 5) (pa_cons (pv 1) pa_nil))))
      (pss_mid (ps_if (pt_cmp (pc_dnotin (hu_of hr) (pv 6) (pv 3))) (pss_one (ps_dput (hu_of hr) (pv 3) (pv 6) (pe_call G_price_by (hr.mono (by omega)) (by rfl) T.g_price_by T.F_price_by.kp T.b_price_by .nil pass0 (pa_cons (pv 0) (pa_cons (pv 5) (pa_cons (pv 1) pa_nil)))) rfl)) pss_nil)
      (pss_one (ps_dput (hu_of hr) (pv 4) (pv 5) (pe_dget (hu_of hr) (pv 3) (pv 6) (fun _ _ => rfl)) rfl)))))
      (pss_one (ps_ret (pv 4)))))), ?_⟩
    have line : (300000 : Nat) < sizeLine := by rw [sizeLine_eq]; decide
    refine fun kd nkd fd nfd => ?_
    have nkf : kd ≠ fd := fun e => by
      rw [← e, upd_same] at nfd
      cases nfd
    have nfH : H fd = none := by
      rw [upd_ne nkf.symm] at nfd
      exact nfd
    have notP : ∀ {p : Addr}, H p = none → p ∉ Z.Ps := fun e hp => by
      obtain ⟨ps, h2, _⟩ := tg _ hp
      rw [e] at h2
      cases h2
    have sx0 : Sx Z.Ps H (upd (upd H kd (.dK [])) fd (.dK [])) := Sx.new (Sx.new Sx.rfl' nkd) nfd
    have tg0 : TG Z.Ps (upd (upd H kd (.dK [])) fd (.dK [])) := (tg.new nkd).new nfd
    refine ⟨.ref la, rfl, la, rfl, ⟨_, .inl (.inl (sx0.lst tg hla))⟩, for_it (walk_list (xs := ls.map tx)) (fun i σ H' => ∃ (y5 y6 : Option V) (kk fk : List (Key × V)), σ = [some tv, some qv, some (.ref la), some (.ref kd), some (.ref fd), y5, y6] ∧ Sx Z.Ps H H' ∧ TG Z.Ps H' ∧ H' kd = some (.dK kk) ∧ H' fd = some (.dK fk) ∧ kk.length ≤ i ∧ fk.length ≤ i ∧
        (∀ o v, valV kk (Sum.inr (txS (usedM o es rc))) = some v → v = .int (priceM cols rows o es rc)) ∧ PrD cols rows (ls.take i) es rc fk)
      ⟨none, none, [], [], rfl, sx0, tg0, keep_new upd_same nfd, upd_same, Nat.le_refl _, Nat.le_refl _, (fun o v e => nomatch e), (fun o h => nomatch h)⟩ (fun i σ H' _ hP => ?_) (fun i x σ H3 H4 hi hP hY => ?_) (fun σ H3 hP => ?_)⟩
    · obtain ⟨_, _, _, _, _, sx, tg', _⟩ := hP
      exact .inl (.inl (sx.lst tg hla))
    · obtain ⟨y5, y6, kk, fk, rfl, sx3, tg3, hk3, hf3, lk, lf, kok, fok⟩ := hP
      obtain ⟨rfl, hx⟩ := hY
      rw [List.getElem?_map] at hx
      obtain ⟨o, ho, rfl⟩ := Option.map_eq_some_iff.mp hx
      rw [List.length_map] at hi
      obtain ⟨hol, hoc⟩ := hls o (List.mem_of_getElem? ho)
      have kt3 : KT H H4 := sx3.kT tg
      refine ⟨tx o, rfl, qv, rfl, o, qv, es, rc, rfl, hol, fq.kT kt3, hel, fun H5 sm5 => ?_⟩
      have hk5 := sm5 _ _ hk3
      have hf5 := sm5 _ _ hf3
      have sx5 : Sx Z.Ps H H5 := sx3.trans (Same.sx sm5)
      have tg5 : TG Z.Ps H5 := tg3.same sm5
      -- behind the test the price is known
      refine ⟨fun σ' H6 => ∃ kk' : List (Key × V), σ' = [some tv, some qv, some (.ref la), some (.ref kd), some (.ref fd), some (tx o), some (tx (usedM o es rc))] ∧ Sx Z.Ps H H6 ∧ TG Z.Ps H6 ∧ H6 kd = some (.dK kk') ∧ H6 fd = some (.dK fk) ∧ kk'.length ≤ i + 1 ∧
        (∀ o v, valV kk' (Sum.inr (txS (usedM o es rc))) = some v → v = .int (priceM cols rows o es rc)) ∧ valV kk' (Sum.inr (txS (usedM o es rc))) = some (.int (priceM cols rows o es rc)), ?_, fun σ' H6 hM => ?_⟩
      · refine ⟨tx (usedM o es rc), rfl, .ref kd, rfl, kd, _, rfl, DGet.k (k := Sum.inr (txS (usedM o es rc))) hk5, _, rfl, ?_⟩
        cases e : valV kk (Sum.inr (txS (usedM o es rc)) : Key) with
        | none =>
          refine iteT ?_
          refine ⟨tv, rfl, tx o, rfl, qv, rfl, tv, cols, rows, some o, qv, es, rc, rfl, tg5, fT.kt (kt3.trans (Same.kT sm5)).1, hrs, hrn, fun o' e' => ?_, fq.kT (kt3.trans (Same.kT sm5)), hok, hel, fun H6 sx6 tg6 => ?_⟩
          · cases e'
            exact ⟨hol, hoc⟩
          · have hk6 := sx6.dct tg5 hk5
            have hf6 := sx6.dct tg5 hf5
            refine ⟨.ref kd, rfl, tx (usedM o es rc), rfl, kd, _, rfl, DPut.k (k := Sum.inr (txS (usedM o es rc))) hk6 (by omega), _, rfl, Sx.mut (sx5.trans sx6) nkd, fun p hp => ?_, upd_same, keep_ne hf6 nkf.symm, Nat.le_trans (length_putK _ _ _) (Nat.succ_le_succ lk), fun o' v hv => ?_, ?_⟩
            · obtain ⟨ps, a1, a2⟩ := tg6 p hp
              exact ⟨ps, keep_ne a1 (fun z => notP nkd (z ▸ hp)), a2⟩
            · rw [valV_put] at hv
              by_cases c : usedM o' es rc = usedM o es rc
              · rw [if_pos (by rw [c])] at hv
                rw [price_alike c]
                exact (Option.some.inj hv).symm
              · rw [if_neg (fun z => c (txS_inj (Sum.inr.inj z)))] at hv
                exact kok o' v hv
            · rw [valV_put, if_pos rfl]
              rfl
        | some v =>
          refine iteF ?_
          refine ⟨kk, rfl, sx5, tg5, hk5, hf5, by omega, kok, ?_⟩
          rw [← kok o v e]
          exact e
      · obtain ⟨kk', rfl, sx6, tg6, hk6, hf6, lk6, kok6, here⟩ := hM
        refine ⟨.ref kd, rfl, tx (usedM o es rc), rfl, kd, _, rfl, by rw [← here]; exact DGet.k (k := Sum.inr (txS (usedM o es rc))) hk6, ?_⟩
        refine ⟨.ref fd, rfl, tx o, rfl, fd, _, rfl, DPut.k (k := Sum.inr (txS o)) hf6 (by omega), ?_⟩
        refine ⟨_, _, kk', _, rfl, Sx.mut sx6 nfH, fun p hp => ?_, keep_ne hk6 nkf, upd_same, lk6, Nat.le_trans (length_putK _ _ _) (Nat.succ_le_succ lf), kok6, fun o' ho' => ?_⟩
        · obtain ⟨ps, a1, a2⟩ := tg6 p hp
          exact ⟨ps, keep_ne a1 (fun z => notP nfH (z ▸ hp)), a2⟩
        · rw [valV_put]
          by_cases e : o' = o
          · rw [e, if_pos rfl]
          · rw [if_neg (fun z => e (txS_inj (Sum.inr.inj z)))]
            refine fok o' ?_
            obtain ⟨lt, eo⟩ := List.getElem?_eq_some_iff.mp ho
            rw [List.take_succ_eq_append_getElem lt, eo] at ho'
            rcases List.mem_append.mp ho' with z | z
            · exact z
            · exact absurd (List.mem_singleton.mp z) e
    · obtain ⟨y5, y6, kk, fk, rfl, sx3, tg3, hk3, hf3, lk, lf, kok, fok⟩ := hP
      rw [List.length_map, List.take_of_length_le (Nat.le_refl _)] at fok
      exact ⟨_, rfl, q fd fk H3 sx3 tg3 nfH (notP nfH) hf3 fok⟩

/-! ### Sheet -/
/-- the attributes of a sheet, in the order in which they are stored -/
abbrev shF1 (chg : Int) : List (Str × V) := [("changes", .int chg)]
abbrev shF2 (chg : Int) (l : Addr) : List (Str × V) := [("changes", .int chg), ("lists", .ref l)]
abbrev shF3 (chg : Int) (l : Addr) (o : Addr) : List (Str × V) := [("changes", .int chg), ("lists", .ref l), ("often", .ref o)]
abbrev shF4 (chg : Int) (l : Addr) (o : Addr) (b : Addr) : List (Str × V) := [("changes", .int chg), ("lists", .ref l), ("often", .ref o), ("bare", .ref b)]
abbrev shF5 (chg : Int) (l : Addr) (o : Addr) (b : Addr) (q : Addr) : List (Str × V) := [("changes", .int chg), ("lists", .ref l), ("often", .ref o), ("bare", .ref b), ("prices", .ref q)]
theorem shF1_put (chg : Int) : putF "changes" (.int chg) ([] : List (Str × V)) = shF1 chg := by kernel_rfl
theorem shF1_changes (chg : Int) : (shF1 chg).lookup ("changes" : Str) = some (.int chg) := by kernel_rfl
theorem shF2_put (chg : Int) (l : Addr) : putF "lists" (.ref l) (shF1 chg) = shF2 chg l := by kernel_rfl
theorem shF2_changes (chg : Int) (l : Addr) : (shF2 chg l).lookup ("changes" : Str) = some (.int chg) := by kernel_rfl
theorem shF2_lists (chg : Int) (l : Addr) : (shF2 chg l).lookup ("lists" : Str) = some (.ref l) := by kernel_rfl
theorem shF3_put (chg : Int) (l : Addr) (o : Addr) : putF "often" (.ref o) (shF2 chg l) = shF3 chg l o := by kernel_rfl
theorem shF3_changes (chg : Int) (l : Addr) (o : Addr) : (shF3 chg l o).lookup ("changes" : Str) = some (.int chg) := by kernel_rfl
theorem shF3_lists (chg : Int) (l : Addr) (o : Addr) : (shF3 chg l o).lookup ("lists" : Str) = some (.ref l) := by kernel_rfl
theorem shF3_often (chg : Int) (l : Addr) (o : Addr) : (shF3 chg l o).lookup ("often" : Str) = some (.ref o) := by kernel_rfl
theorem shF4_put (chg : Int) (l : Addr) (o : Addr) (b : Addr) : putF "bare" (.ref b) (shF3 chg l o) = shF4 chg l o b := by kernel_rfl
theorem shF4_changes (chg : Int) (l : Addr) (o : Addr) (b : Addr) : (shF4 chg l o b).lookup ("changes" : Str) = some (.int chg) := by kernel_rfl
theorem shF4_lists (chg : Int) (l : Addr) (o : Addr) (b : Addr) : (shF4 chg l o b).lookup ("lists" : Str) = some (.ref l) := by kernel_rfl
theorem shF4_often (chg : Int) (l : Addr) (o : Addr) (b : Addr) : (shF4 chg l o b).lookup ("often" : Str) = some (.ref o) := by kernel_rfl
theorem shF4_bare (chg : Int) (l : Addr) (o : Addr) (b : Addr) : (shF4 chg l o b).lookup ("bare" : Str) = some (.ref b) := by kernel_rfl
theorem shF5_put (chg : Int) (l : Addr) (o : Addr) (b : Addr) (q : Addr) : putF "prices" (.ref q) (shF4 chg l o b) = shF5 chg l o b q := by kernel_rfl
theorem shF5_changes (chg : Int) (l : Addr) (o : Addr) (b : Addr) (q : Addr) : (shF5 chg l o b q).lookup ("changes" : Str) = some (.int chg) := by kernel_rfl
theorem shF5_lists (chg : Int) (l : Addr) (o : Addr) (b : Addr) (q : Addr) : (shF5 chg l o b q).lookup ("lists" : Str) = some (.ref l) := by kernel_rfl
theorem shF5_often (chg : Int) (l : Addr) (o : Addr) (b : Addr) (q : Addr) : (shF5 chg l o b q).lookup ("often" : Str) = some (.ref o) := by kernel_rfl
theorem shF5_bare (chg : Int) (l : Addr) (o : Addr) (b : Addr) (q : Addr) : (shF5 chg l o b q).lookup ("bare" : Str) = some (.ref b) := by kernel_rfl
theorem shF5_prices (chg : Int) (l : Addr) (o : Addr) (b : Addr) (q : Addr) : (shF5 chg l o b q).lookup ("prices" : Str) = some (.ref q) := by kernel_rfl
theorem shF_put_changes (chg : Int) (l : Addr) (o : Addr) (b : Addr) (q : Addr) (chg' : Int) : putF "changes" (.int chg') (shF5 chg l o b q) = shF5 chg' l o b q := by kernel_rfl
theorem shF_put_lists (chg : Int) (l : Addr) (o : Addr) (b : Addr) (q : Addr) (l' : Addr) : putF "lists" (.ref l') (shF5 chg l o b q) = shF5 chg l' o b q := by kernel_rfl
theorem shF_put_often (chg : Int) (l : Addr) (o : Addr) (b : Addr) (q : Addr) (o' : Addr) : putF "often" (.ref o') (shF5 chg l o b q) = shF5 chg l o' b q := by kernel_rfl
theorem shF_put_bare (chg : Int) (l : Addr) (o : Addr) (b : Addr) (q : Addr) (b' : Addr) : putF "bare" (.ref b') (shF5 chg l o b q) = shF5 chg l o b' q := by kernel_rfl
theorem shF_put_prices (chg : Int) (l : Addr) (o : Addr) (b : Addr) (q : Addr) (q' : Addr) : putF "prices" (.ref q') (shF5 chg l o b q) = shF5 chg l o b q' := by kernel_rfl
/-- the dicts of a sheet's prices, ask by ask -/
def PrDs (H : Hp) (cols : List Nat) (rows : List (List Int)) (as : List Ask) (ds : List Addr) : Prop := ds.length = as.length ∧ ∀ (i : Nat) (d : Addr) (a : Ask), ds[i]? = some d → as[i]? = some a → ∃ kvs, H d = some (.dK kvs) ∧ PrD cols rows (listsM cols cols.length) a.es a.rc kvs
theorem PrDs.ext {H H' : Hp} {cols : List Nat} {rows : List (List Int)} {as : List Ask} {ds : List Addr} (h : PrDs H cols rows as ds) (e : LamX.ExtN H H') : PrDs H' cols rows as ds := ⟨h.1, fun i d a hd ha => by
  obtain ⟨kvs, h1, h2⟩ := h.2 i d a hd ha
  exact ⟨kvs, e _ _ h1 (fun ps z => nomatch z), h2⟩⟩
/-- a sheet stands at p -/
def SheetAt (C : Addr) (cols : List Nat) (rows : List (List Int)) (as : List Ask) (chg : Int) (H : Hp) (p : Addr) : Prop := ∃ (dx l o b q : Addr) (ds : List Addr), H p = some (.ins C dx (shF5 chg l o b q)) ∧ H l = some (.lst ((listsM cols cols.length).map tx)) ∧ H o = some (.lst ((as.map fun a => a.often).map V.int)) ∧
  H b = some (.lst ((as.map fun _ => (rows.length : Int)).map V.int)) ∧ H q = some (.lst (ds.map V.ref)) ∧ PrDs H cols rows as ds
theorem SheetAt.ext {C : Addr} {cols : List Nat} {rows : List (List Int)} {as : List Ask} {chg : Int} {H H' : Hp} {p : Addr} (h : SheetAt C cols rows as chg H p) (e : LamX.ExtN H H') : SheetAt C cols rows as chg H' p := by
  obtain ⟨dx, l, o, b, q, ds, h1, h2, h3, h4, h5, h6⟩ := h
  exact ⟨dx, l, o, b, q, ds, e _ _ h1 (fun _ z => nomatch z), e _ _ h2 (fun _ z => nomatch z), e _ _ h3 (fun _ z => nomatch z), e _ _ h4 (fun _ z => nomatch z), e _ _ h5 (fun _ z => nomatch z), h6.ext e⟩
def spSheetInit (K : PySem.W.Frag) (Z : Ad) : Sp := fun vs H Q _ => ∃ (p dx : Addr) (wv : V) (cols : List Nat) (rows : List (List Int)) (as : List Ask) (chg : Int), vs = [.ref p, wv] ∧ H p = some (.ins Z.C_Sheet dx []) ∧ TG Z.Ps H ∧ WorkZ H wv cols rows as chg ∧ RowsOk cols.length rows ∧ rows.length ≤ 100 ∧ cols.length ≤ 6 ∧ AsksOk cols as ∧
  ∀ H' : Hp, Sx (p :: Z.Ps) H H' → TG Z.Ps H' → SheetAt Z.C_Sheet cols rows as chg H' p → Q .non H'
set_option maxHeartbeats 4000000 in
theorem ok_sheetinit (T : Tx K mg Z) (TB : Tb base mg Z) : FnOk P w K mg base CX0 6 Z.f_Sheet___init__ Z.d_Sheet___init__ ["self", "work"] (spSheetInit K Z) := by
  have G_lists_of : FnOk P w K mg base CX0 1 Z.f_lists_of Z.d_lists_of ["columns"] (spListsOf K) := ok_listsof T
  have G_price_by : FnOk P w K mg base CX0 4 Z.f_price_by Z.d_price_by ["table", "one", "question"] (spPriceBy K Z) := ok_priceby T TB
  have G_prices_by : FnOk P w K mg base CX0 5 Z.f_prices_by Z.d_prices_by ["table", "question", "lists"] (spPricesBy K Z) := ok_pricesby T TB
  refine T.F_Sheet___init__.ok sc_Sheet___init__ (fun vs H Q E h => ?_) (fun cdv A outer s H vs Q E hr h => ?_)
  · obtain ⟨p, dx, wv, cols, rows, as, chg, rfl, _⟩ := h
    rfl
  · obtain ⟨p, dx, wv, cols, rows, as, chg, rfl, hp, tg, fw, hrs, hrn, hcn, has, q⟩ := h
    obtain ⟨wa, tv, aa, us, rfl, hwa, fT, haa, fas⟩ := fw
    refine ⟨_, (pss_cons (ps_asg (pv 1) (pgT K (n := 3) (pgs_cons (pg_name (i := 2) sc_Sheet___init__.nd rfl (.inr rfl)) (pgs_cons (pg_name (i := 3) sc_Sheet___init__.nd rfl (.inl rfl)) (pgs_cons (pg_name (i := 4) sc_Sheet___init__.nd rfl (.inl rfl)) pgs_nil)))))
      (pss_cons (ps_fld (pv 0) (pv 4) rfl)
      (pss_cons (ps_fld (pv 0) (pe_call G_lists_of (hr.mono (by omega)) (by rfl) T.g_lists_of T.F_lists_of.kp T.b_lists_of .nil pass0 (pa_cons (pe_ix (ixT K) (pv 2) pe_int (fun _ _ => rfl)) pa_nil)) rfl)
      (pss_cons (ps_fld (pv 0) (pe_lc (own := [("question", 5), ("often", 6)]) (tt := tYes) (by rfl) sc_Sheet___init__.nd (piT K (pv 3)) (blkOk_by (own := [("question", 5), ("often", 6)]) (by kernel_rfl)) (fun _ _ _ _ _ => (pgT K (n := 2) (pgs_cons (pg_name (i := 5) sc_Sheet___init__.nd rfl (.inl rfl)) (pgs_cons (pg_name (i := 6) sc_Sheet___init__.nd rfl (.inl rfl)) pgs_nil)))) (fun _ _ _ _ _ => pts_nil) (fun _ _ _ _ _ => (pv 6))) rfl)
      (pss_cons (ps_fld (pv 0) (pe_lc (own := [("question", 5), ("often", 6)]) (tt := tYes) (by rfl) sc_Sheet___init__.nd (piT K (pv 3)) (blkOk_by (own := [("question", 5), ("often", 6)]) (by kernel_rfl)) (fun _ _ _ _ _ => (pgT K (n := 2) (pgs_cons (pg_name (i := 5) sc_Sheet___init__.nd rfl (.inl rfl)) (pgs_cons (pg_name (i := 6) sc_Sheet___init__.nd rfl (.inl rfl)) pgs_nil)))) (fun _ _ _ _ _ => pts_nil) (fun _ _ _ _ _ => (pe_call G_price_by (hr.mono (by omega)) (by rfl) T.g_price_by T.F_price_by.kp T.b_price_by .nil pass0 (pa_cons (pv 2) (pa_cons pe_non (pa_cons (pv 5) pa_nil)))))) rfl)
      (pss_one (ps_fld (pv 0) (pe_lc (own := [("question", 5), ("often", 6)]) (tt := tYes) (by rfl) sc_Sheet___init__.nd (piT K (pv 3)) (blkOk_by (own := [("question", 5), ("often", 6)]) (by kernel_rfl)) (fun _ _ _ _ _ => (pgT K (n := 2) (pgs_cons (pg_name (i := 5) sc_Sheet___init__.nd rfl (.inl rfl)) (pgs_cons (pg_name (i := 6) sc_Sheet___init__.nd rfl (.inl rfl)) pgs_nil)))) (fun _ _ _ _ _ => pts_nil) (fun _ _ _ _ _ => (pe_call G_prices_by (hr.mono (by omega)) (by rfl) T.g_prices_by T.F_prices_by.kp T.b_prices_by .nil pass0 (pa_cons (pv 2) (pa_cons (pv 5) (pa_cons (fldK K (pv 0) rfl) pa_nil)))))) rfl))))))), ?_⟩
    refine ⟨.ref wa, rfl, wa, [tv, .ref aa, .int chg], rfl, .inl (.inl hwa), rfl, tv, [.ref aa, .int chg], rfl, .ref aa, [.int chg], rfl, .int chg, [], rfl, rfl, ?_⟩
    obtain ⟨t, R, vs, rfl, ht, hRR, fvs⟩ := tab_open fT
    have line : (300000 : Nat) < sizeLine := by rw [sizeLine_eq]; decide
    have hul := fas.len
    have pP : p ∉ Z.Ps := tg.not hp fun q z => nomatch z
    have nep : ∀ {b : Addr} {xs : List V}, H b = some (.tup xs) → b ≠ p := fun e z => by
      rw [z, hp] at e
      cases e
    -- a store at p: what the rest may still lean on
    have put : ∀ {G : Hp} {f : List (Str × V)}, Sx (p :: Z.Ps) H G → TG Z.Ps G → Sx (p :: Z.Ps) H (upd G p (.ins Z.C_Sheet dx f)) ∧ TG Z.Ps (upd G p (.ins Z.C_Sheet dx f)) := fun s g =>
      ⟨fun b o n e => keep_ne (s b o n e) (fun z => n (by rw [z]; exact List.mem_cons_self)), TG.put g pP⟩
    have old : ∀ {G : Hp} {b : Addr} {o : HO}, Sx (p :: Z.Ps) H G → H b = some o → (∀ ps, o ≠ .tbl ps) → b ≠ p → G b = some o := fun s e n ne => s _ _ (fun z => (List.mem_cons.mp z).elim ne (tg.not e n)) e
    have ktp : ∀ {G : Hp}, Sx (p :: Z.Ps) H G → KT H G := fun s => ⟨fun b xs e => old s e (fun _ z => nomatch z) (nep e), fun b o xs e => old s e (fun _ z => nomatch z) fun z => by rw [z, hp] at e; cases e⟩
    have into : ∀ {G G' : Hp}, Sx (p :: Z.Ps) H G → Sx Z.Ps G G' → Sx (p :: Z.Ps) H G' := fun s s' b o n e => s' b o (fun z => n (List.mem_cons_of_mem _ z)) (s b o n e)
    have lsok : ∀ o ∈ listsM cols cols.length, o.length ≤ 1000 ∧ ∀ c ∈ o, c ∈ cols := fun o ho => by
      obtain ⟨_, h1, _, h2⟩ := lists_mem.mp ho
      exact ⟨by omega, h2⟩
    have lsn := lists_small hcn (n := cols.length) hcn
    -- self.changes
    refine ⟨.int chg, rfl, .ref p, rfl, p, Z.C_Sheet, dx, [], rfl, hp, T.cl_Sheet, T.n_Sheet_changes, (by show 0 < 1000; decide), ?_⟩
    rw [shF1_put]
    obtain ⟨sx1, tg1⟩ := put (f := shF1 chg) (fun b o _ e => e) tg
    have hp1 : (upd H p (.ins Z.C_Sheet dx (shF1 chg))) p = some (.ins Z.C_Sheet dx (shF1 chg)) := upd_same
    generalize upd H p (.ins Z.C_Sheet dx (shF1 chg)) = H1 at sx1 tg1 hp1 ⊢
    -- self.lists
    refine ⟨.ref t, rfl, t, [tx cols, .ref R], 0, tx cols, rfl, rfl, .inl (.inl ((ktp sx1).1 _ _ ht)), rfl, cols, rfl, hcn, fun l H2 sm2 nl hl2 => ?_⟩
    have lp : l ≠ p := fun z => by
      rw [z, hp1] at nl
      cases nl
    refine ⟨.ref p, rfl, p, Z.C_Sheet, dx, _, rfl, sm2 _ _ hp1, T.cl_Sheet, T.n_Sheet_lists, (by show 1 < 1000; decide), ?_⟩
    rw [shF2_put]
    obtain ⟨sx3, tg3⟩ := put (f := shF2 chg l) (into sx1 (Same.sx sm2)) (tg1.same sm2)
    have hp3 : (upd H2 p (.ins Z.C_Sheet dx (shF2 chg l))) p = some (.ins Z.C_Sheet dx (shF2 chg l)) := upd_same
    have hl3 : (upd H2 p (.ins Z.C_Sheet dx (shF2 chg l))) l = some (.lst ((listsM cols cols.length).map tx)) := keep_ne hl2 lp
    generalize upd H2 p (.ins Z.C_Sheet dx (shF2 chg l)) = H3 at sx3 tg3 hp3 hl3 ⊢
    -- self.often
    refine ⟨.ref aa, rfl, aa, rfl, ⟨_, .inl (.inl ((ktp sx3).1 _ _ haa))⟩, fun O nO => lc_it (walk_tup (xs := us)) (fun i H' => Same H3 H' ∧ H' O = some (.lst (((as.take i).map fun a => a.often).map V.int)))
      ⟨Same.new (Same.refl H3) nO, upd_same⟩ (fun i H' _ hP => .inl (.inl (hP.1 _ _ ((ktp sx3).1 _ _ haa)))) (fun i x H4 H5 hi hP hY => ?_) (fun H4 hP => ?_)⟩
    · obtain ⟨sm4, hO4⟩ := hP
      obtain ⟨rfl, hx⟩ := hY
      obtain ⟨a, ha, fa⟩ := (fas.kT ((ktp sx3).trans (Same.kT sm4))).get hx
      obtain ⟨w1, qv, rfl, hw1, fq⟩ := fa
      obtain ⟨hia, hae⟩ := List.getElem?_eq_some_iff.mp ha
      have := has.len
      refine ⟨w1, [qv, .int a.often], rfl, .inl (.inl hw1), rfl, qv, [.int a.often], rfl, .int a.often, [], rfl, rfl, rfl, .int a.often, rfl, _, hO4, small1000 (by rw [List.length_map, List.length_map, List.length_take]; omega), Same.mut sm4 nO, ?_⟩
      rw [upd_same, List.take_succ_eq_append_getElem hia, hae, List.map_append, List.map_append]
      rfl
    obtain ⟨sm4, hO4⟩ := hP
    rw [hul, List.take_of_length_le (Nat.le_refl _)] at hO4
    have Op : O ≠ p := fun z => by
      rw [z, hp3] at nO
      cases nO
    have Ol : O ≠ l := fun z => by
      rw [z, hl3] at nO
      cases nO
    refine ⟨.ref p, rfl, p, Z.C_Sheet, dx, _, rfl, sm4 _ _ hp3, T.cl_Sheet, T.n_Sheet_often, (by show 2 < 1000; decide), ?_⟩
    rw [shF3_put]
    obtain ⟨sx5, tg5⟩ := put (f := shF3 chg l O) (into sx3 (Same.sx sm4)) (tg3.same sm4)
    have hp5 : (upd H4 p (.ins Z.C_Sheet dx (shF3 chg l O))) p = some (.ins Z.C_Sheet dx (shF3 chg l O)) := upd_same
    have hl5 : (upd H4 p (.ins Z.C_Sheet dx (shF3 chg l O))) l = some (.lst ((listsM cols cols.length).map tx)) := keep_ne (sm4 _ _ hl3) lp
    have hO5 : (upd H4 p (.ins Z.C_Sheet dx (shF3 chg l O))) O = some (.lst ((as.map fun a => a.often).map V.int)) := keep_ne hO4 Op
    generalize upd H4 p (.ins Z.C_Sheet dx (shF3 chg l O)) = H5 at sx5 tg5 hp5 hl5 hO5 ⊢
    -- self.bare
    refine ⟨.ref aa, rfl, aa, rfl, ⟨_, .inl (.inl ((ktp sx5).1 _ _ haa))⟩, fun B nB => lc_it (walk_tup (xs := us)) (fun i H' => Sx Z.Ps H5 H' ∧ TG Z.Ps H' ∧ H' B = some (.lst (((as.take i).map fun _ => (rows.length : Int)).map V.int)))
      ⟨Sx.new Sx.rfl' nB, tg5.new nB, upd_same⟩ (fun i H' _ hP => .inl (.inl ((hP.1.kt tg5) _ _ ((ktp sx5).1 _ _ haa)))) (fun i x H6 H7 hi hP hY => ?_) (fun H6 hP => ?_)⟩
    · obtain ⟨sx6, tg6, hB6⟩ := hP
      obtain ⟨rfl, hx⟩ := hY
      have kt6 : KT H H7 := (ktp sx5).trans (sx6.kT tg5)
      obtain ⟨a, ha, fa⟩ := (fas.kT kt6).get hx
      obtain ⟨w1, qv, rfl, hw1, fq⟩ := fa
      obtain ⟨hia, hae⟩ := List.getElem?_eq_some_iff.mp ha
      have haok := has.ok a (List.mem_of_getElem? ha)
      have hel : a.es.length ≤ 1000 := by
        have := haok.1.len
        omega
      have := has.len
      refine ⟨w1, [qv, .int a.often], rfl, .inl (.inl hw1), rfl, qv, [.int a.often], rfl, .int a.often, [], rfl, rfl, rfl, ?_⟩
      refine ⟨.ref t, rfl, qv, rfl, .ref t, cols, rows, none, qv, a.es, a.rc, rfl, tg6, fT.kt kt6.1, hrs, by omega, (fun o e => nomatch e), fq, haok.1, hel, fun H8 sx8 tg8 => ?_⟩
      have hB8 := sx8.lst tg6 hB6
      refine ⟨_, hB8, small1000 (by rw [List.length_map, List.length_map, List.length_take]; omega), Sx.mut (sx6.trans sx8) nB, TG.put tg8 (tg5.free nB), ?_⟩
      rw [upd_same, List.take_succ_eq_append_getElem hia, List.map_append, List.map_append]
      rfl
    obtain ⟨sx6, tg6, hB6⟩ := hP
    rw [hul, List.take_of_length_le (Nat.le_refl _)] at hB6
    have Bp : B ≠ p := fun z => by
      rw [z, hp5] at nB
      cases nB
    have hp6 := sx6 _ _ (tg5.not hp5 fun q z => nomatch z) hp5
    refine ⟨.ref p, rfl, p, Z.C_Sheet, dx, _, rfl, hp6, T.cl_Sheet, T.n_Sheet_bare, (by show 3 < 1000; decide), ?_⟩
    rw [shF4_put]
    obtain ⟨sx7, tg7⟩ := put (f := shF4 chg l O B) (into sx5 sx6) tg6
    have hp7 : (upd H6 p (.ins Z.C_Sheet dx (shF4 chg l O B))) p = some (.ins Z.C_Sheet dx (shF4 chg l O B)) := upd_same
    have hl7 : (upd H6 p (.ins Z.C_Sheet dx (shF4 chg l O B))) l = some (.lst ((listsM cols cols.length).map tx)) := keep_ne (sx6.lst tg5 hl5) lp
    have hO7 : (upd H6 p (.ins Z.C_Sheet dx (shF4 chg l O B))) O = some (.lst ((as.map fun a => a.often).map V.int)) := keep_ne (sx6.lst tg5 hO5) Op
    have hB7 : (upd H6 p (.ins Z.C_Sheet dx (shF4 chg l O B))) B = some (.lst ((as.map fun _ => (rows.length : Int)).map V.int)) := keep_ne hB6 Bp
    generalize upd H6 p (.ins Z.C_Sheet dx (shF4 chg l O B)) = H7 at sx7 tg7 hp7 hl7 hO7 hB7 ⊢
    -- self.prices
    refine ⟨.ref aa, rfl, aa, rfl, ⟨_, .inl (.inl ((ktp sx7).1 _ _ haa))⟩, fun D nD => lc_it (walk_tup (xs := us)) (fun i H' => Sx Z.Ps H7 H' ∧ TG Z.Ps H' ∧ ∃ ds : List Addr, H' D = some (.lst (ds.map V.ref)) ∧ PrDs H' cols rows (as.take i) ds)
      ⟨Sx.new Sx.rfl' nD, tg7.new nD, [], upd_same, rfl, (fun i d a e => by rw [List.getElem?_nil] at e; cases e)⟩ (fun i H' _ hP => .inl (.inl ((hP.1.kt tg7) _ _ ((ktp sx7).1 _ _ haa)))) (fun i x H8 H9 hi hP hY => ?_) (fun H8 hP => ?_)⟩
    · obtain ⟨sx8, tg8, ds, hD8, prs⟩ := hP
      obtain ⟨rfl, hx⟩ := hY
      have kt8 : KT H H9 := (ktp sx7).trans (sx8.kT tg7)
      obtain ⟨a, ha, fa⟩ := (fas.kT kt8).get hx
      obtain ⟨w1, qv, rfl, hw1, fq⟩ := fa
      obtain ⟨hia, hae⟩ := List.getElem?_eq_some_iff.mp ha
      have haok := has.ok a (List.mem_of_getElem? ha)
      have hel : a.es.length ≤ 1000 := by
        have := haok.1.len
        omega
      have := has.len
      refine ⟨w1, [qv, .int a.often], rfl, .inl (.inl hw1), rfl, qv, [.int a.often], rfl, .int a.often, [], rfl, rfl, rfl, ?_⟩
      refine ⟨.ref t, rfl, qv, rfl, .ref p, rfl, p, Z.C_Sheet, dx, _, _, rfl, sx8 _ _ (tg7.not hp7 fun q z => nomatch z) hp7, T.cl_Sheet, T.n_Sheet_lists, shF4_lists _ _ _ _, ?_⟩
      refine ⟨.ref t, cols, rows, qv, a.es, a.rc, l, listsM cols cols.length, rfl, tg8, fT.kt kt8.1, hrs, by omega, fq, haok.1, hel, sx8.lst tg7 hl7, lsok, by omega, fun d kvs H10 sx10 tg10 nd ndP hd prd => ?_⟩
      have hD10 := sx10.lst tg8 hD8
      have dD : d ≠ D := fun z => by
        rw [z, hD8] at nd
        cases nd
      have dl : ds.length = i := by
        rw [prs.1, List.length_take]
        omega
      refine ⟨_, hD10, small1000 (by rw [List.length_map]; omega), Sx.mut (sx8.trans sx10) nD, TG.put tg10 (tg7.free nD), ds ++ [d], ?_, ?_, fun j d' a' hd' ha' => ?_⟩
      · rw [upd_same, List.map_append]
        rfl
      · rw [List.length_append, dl, List.length_take, List.length_singleton]
        omega
      · by_cases hj : j < i
        · rw [List.getElem?_append_left (by omega)] at hd'
          rw [List.getElem?_take, if_pos (by omega)] at ha'
          obtain ⟨kvs', h1, h2⟩ := prs.2 j d' a' hd' (by rw [List.getElem?_take, if_pos hj]; exact ha')
          refine ⟨kvs', keep_ne (sx10 _ _ (tg8.not h1 fun q z => nomatch z) h1) (fun z => ?_), h2⟩
          rw [z, hD8] at h1
          cases h1
        · have hj2 : j < i + 1 := by
            have := (List.getElem?_eq_some_iff.mp ha').1
            rw [List.length_take] at this
            omega
          have ej : j = i := by omega
          subst ej
          rw [List.getElem?_append_right (by omega), dl, Nat.sub_self] at hd'
          cases hd'
          rw [List.getElem?_take, if_pos (by omega), ha] at ha'
          cases ha'
          exact ⟨kvs, keep_ne hd dD, prd⟩
    obtain ⟨sx8, tg8, ds, hD8, prs⟩ := hP
    rw [hul, List.take_of_length_le (Nat.le_refl _)] at prs
    have Dp : D ≠ p := fun z => by
      rw [z, hp7] at nD
      cases nD
    refine ⟨.ref p, rfl, p, Z.C_Sheet, dx, _, rfl, sx8 _ _ (tg7.not hp7 fun q z => nomatch z) hp7, T.cl_Sheet, T.n_Sheet_prices, (by show 4 < 1000; decide), ?_⟩
    rw [shF5_put]
    obtain ⟨sx9, tg9⟩ := put (f := shF5 chg l O B D) (into sx7 sx8) tg8
    refine q _ sx9 tg9 ⟨dx, l, O, B, D, ds, upd_same, keep_ne (sx8.lst tg7 hl7) lp, keep_ne (sx8.lst tg7 hO7) Op, keep_ne (sx8.lst tg7 hB7) Bp, keep_ne hD8 Dp, prs.1, fun i d a hd ha => ?_⟩
    obtain ⟨kvs, h1, h2⟩ := prs.2 i d a hd ha
    refine ⟨kvs, keep_ne h1 (fun z => ?_), h2⟩
    have hp8 := sx8 _ _ (tg7.not hp7 fun q z => nomatch z) hp7
    rw [z, hp8] at h1
    cases h1

/-! ### Sheet.asked -/
def spAsked (K : PySem.W.Frag) (Z : Ad) : Sp := fun vs H Q _ => ∃ (p na : Addr) (cols : List Nat) (rows : List (List Int)) (as : List Ask) (chg : Int) (ch : List (List Nat)), vs = [.ref p, .ref na] ∧ SheetAt Z.C_Sheet cols rows as chg H p ∧ SqA K H na (ch.map tx) ∧ (∀ o ∈ ch, o ∈ listsM cols cols.length) ∧ ch.length ≤ 300000 ∧ AsksOk cols as ∧ rows.length ≤ 100 ∧
  ∀ H' : Hp, Same H H' → Q (.int (askedM cols rows ch as)) H'
theorem ok_asked (T : Tx K mg Z) : FnOk P w K mg base CX0 1 Z.f_Sheet_asked Z.d_Sheet_asked ["self", "near"] (spAsked K Z) := by
  refine T.F_Sheet_asked.ok sc_Sheet_asked (fun vs H Q E h => ?_) (fun cdv A outer s H vs Q E hr h => ?_)
  · obtain ⟨p, na, cols, rows, as, chg, ch, rfl, _⟩ := h
    rfl
  · obtain ⟨p, na, cols, rows, as, chg, ch, rfl, hS, hna, hch, hcn, has, hrn, q⟩ := h
    have line : (300001 : Nat) < sizeLine := by rw [sizeLine_eq]; decide
    obtain ⟨dx, l, o, b, qd, ds, hp, hl, ho, hb, hqd, prs⟩ := hS
    have hal := has.len
    refine ⟨_, (pss_cons (ps_set (i := 2) sc_Sheet_asked.nd rfl (.inl rfl) pe_int)
      (pss_cons (ps_for PassesOwn.never rfl (pi_zip3 K (by rfl) T.m_zip (pa_cons (fldK K (pv 0) rfl) (pa_cons (fldK K (pv 0) rfl) (pa_cons (fldK K (pv 0) rfl) pa_nil)))) (pgT K (n := 3) (pgs_cons (pg_name (i := 3) sc_Sheet_asked.nd rfl (.inl rfl)) (pgs_cons (pg_name (i := 4) sc_Sheet_asked.nd rfl (.inl rfl)) (pgs_cons (pg_name (i := 5) sc_Sheet_asked.nd rfl (.inr rfl)) pgs_nil)))) (pss_one (ps_aug (i := 2) sc_Sheet_asked.nd rfl (.inl rfl) (pe_op op_mul (pv 3) (pe_callB (minK K) (by rfl) T.m_min (by decide +kernel) (pa_cons (pe_op op_cat (pe_lst (pa_cons (pv 4) pa_nil)) (pe_lc (own := [("one", 6)]) (tt := tYes) (by rfl) sc_Sheet_asked.nd (pi_seq K (pv 1)) (blkOk_by (own := [("one", 6)]) (by kernel_rfl)) (fun _ _ _ _ _ => (pg_name (i := 6) sc_Sheet_asked.nd rfl (.inl rfl))) (fun _ _ _ _ _ => pts_nil) (fun _ _ _ _ _ => (pe_dget (hu_of hr) (pv 5) (pv 6) (fun _ _ => rfl))))) pa_nil))) ip_add)))
      (pss_one (ps_ret (pv 2))))), ?_⟩
    refine ⟨.ref p, rfl, p, Z.C_Sheet, dx, _, _, rfl, hp, T.cl_Sheet, T.n_Sheet_often, shF5_often _ _ _ _ _, .ref p, rfl, p, Z.C_Sheet, dx, _, _, rfl, hp, T.cl_Sheet, T.n_Sheet_bare, shF5_bare _ _ _ _ _, .ref p, rfl, p, Z.C_Sheet, dx, _, _, rfl, hp, T.cl_Sheet, T.n_Sheet_prices, shF5_prices _ _ _ _ _, ?_⟩
    refine ⟨o, b, qd, _, _, _, rfl, .inl (.inl ho), .inl (.inl hb), .inl (.inl hqd), for_it (walk_zip3 (xs := (as.map fun a => a.often).map V.int) (ys := (as.map fun _ => (rows.length : Int)).map V.int) (zs := ds.map V.ref) (by rw [List.length_map, List.length_map, List.length_map, List.length_map]) (by rw [List.length_map, List.length_map, List.length_map, prs.1])) (fun i σ H' => ∃ y3 y4 y5 : Option V, σ = [some (.ref p), some (.ref na), some (.int ((as.take i).map fun a => a.often * priceOfM cols rows ch a.es a.rc).sum), y3, y4, y5, none] ∧ Same H H')
      ⟨none, none, none, rfl, Same.refl H⟩ (fun i σ H' _ hP => ?_) (fun i x σ H3 H4 hi hP hY => ?_) (fun σ H3 hP => ?_)⟩
    · obtain ⟨_, _, _, _, sm⟩ := hP
      exact ⟨.inl (.inl (sm _ _ ho)), .inl (.inl (sm _ _ hb)), .inl (.inl (sm _ _ hqd))⟩
    · obtain ⟨y3, y4, y5, rfl, sm3⟩ := hP
      obtain ⟨T3, x, y, z, rfl, nT, rfl, hx, hy, hz⟩ := hY
      rw [List.getElem?_map, List.getElem?_map] at hx
      obtain ⟨_, hx1, rfl⟩ := Option.map_eq_some_iff.mp hx
      obtain ⟨a, ha, rfl⟩ := Option.map_eq_some_iff.mp hx1
      rw [List.getElem?_map, List.getElem?_map, ha] at hy
      obtain rfl : V.int (rows.length : Int) = y := Option.some.inj hy
      rw [List.getElem?_map] at hz
      obtain ⟨d, hd, rfl⟩ := Option.map_eq_some_iff.mp hz
      obtain ⟨kvs, hkd, hpr⟩ := prs.2 i d a hd ha
      obtain ⟨hia, hae⟩ := List.getElem?_eq_some_iff.mp ha
      have haok := has.ok a (List.mem_of_getElem? ha)
      have ho1 := haok.2.1
      have ho2 := haok.2.2
      have sm4 : Same H (upd H3 T3 (.tup [.int a.often, .int rows.length, .ref d])) := Same.new sm3 nT
      have hT4 : (upd H3 T3 (.tup [V.int a.often, .int rows.length, .ref d])) T3 = some (.tup [.int a.often, .int rows.length, .ref d]) := upd_same
      generalize upd H3 T3 (.tup [V.int a.often, .int rows.length, .ref d]) = H4 at sm4 hT4 ⊢
      refine ⟨T3, [.int a.often, .int rows.length, .ref d], rfl, .inl (.inl hT4), rfl, .int a.often, [.int rows.length, .ref d], rfl, .int rows.length, [.ref d], rfl, .ref d, [], rfl, rfl, ?_⟩
      refine ⟨_, rfl, .int a.often, rfl, .int rows.length, rfl, (by show 1 ≤ sizeLine; decide), fun L nL => ?_⟩
      have sm5 : Same H (upd H4 L (.lst [V.int rows.length])) := Same.new sm4 nL
      have hL5 : (upd H4 L (.lst [V.int rows.length])) L = some (.lst [V.int rows.length]) := upd_same
      generalize upd H4 L (.lst [V.int rows.length]) = H5 at sm5 hL5 ⊢
      refine ⟨.ref na, rfl, na, ch.map tx, rfl, hna.same sm5, fun J G w hG D nD => lc_it w (fun j H' => Same H5 H' ∧ H' D = some (.lst (((ch.take j).map fun o => priceM cols rows o a.es a.rc).map V.int)))
        ⟨Same.new (Same.refl H5) nD, upd_same⟩ (fun j H' _ hP => hG H' hP.1) (fun j x H6 H7 hj hP hY => ?_) (fun H6 hP => ?_)⟩
      · obtain ⟨sm6, hD6⟩ := hP
        obtain ⟨rfl, hx⟩ := hY
        rw [List.getElem?_map] at hx
        obtain ⟨one, hone, rfl⟩ := Option.map_eq_some_iff.mp hx
        obtain ⟨hjo, hoe⟩ := List.getElem?_eq_some_iff.mp hone
        refine ⟨rfl, .ref d, rfl, tx one, rfl, d, _, rfl, by rw [← hpr one (hch one (List.mem_of_getElem? hone))]; exact DGet.k (k := Sum.inr (txS one)) (sm6 _ _ (sm5 _ _ hkd)), _, hD6, ?_, Same.mut sm6 nD, ?_⟩
        · rw [List.length_map, List.length_map, List.length_take]
          omega
        · rw [upd_same, List.take_succ_eq_append_getElem hjo, hoe, List.map_append, List.map_append]
          rfl
      · obtain ⟨sm6, hD6⟩ := hP
        rw [List.length_map, List.take_of_length_le (Nat.le_refl _)] at hD6
        have hL6 := sm6 _ _ hL5
        refine ⟨L, D, _, _, rfl, rfl, hL6, hD6, ?_, fun M nM => ?_⟩
        · rw [List.length_map, List.length_map, List.length_singleton]
          omega
        · refine ⟨M, (rows.length : Int), ch.map fun o => priceM cols rows o a.es a.rc, rfl, .inl (.inl upd_same), ?_⟩
          obtain ⟨p1, p2⟩ := price_bound (cols := cols) (ch := ch) (es := a.es) (rc := a.rc) hrn
          refine ⟨a.often, _, rfl, rfl, .inl ⟨by omega, by omega⟩, _, _, rfl, rfl, some (.int a.often), some (.int rows.length), some (.ref d), ?_, Same.new (Same.trans sm5 sm6) nM⟩
          rw [sum_snoc _ _ i hia, hae]
          rfl
    · obtain ⟨y3, y4, y5, rfl, sm3⟩ := hP
      rw [List.length_map, List.length_map, List.take_of_length_le (Nat.le_refl _)]
      exact ⟨_, rfl, q H3 sm3⟩

/-! ### left_of -/
def spLeft (K : PySem.W.Frag) (Z : Ad) : Sp := fun vs H Q _ => ∃ (room : Int) (ia : Addr) (ins : List (List Nat)), vs = [.int room, .ref ia] ∧ TG Z.Ps H ∧ H ia = some (.tup (ins.map tx)) ∧ ins.length ≤ 1000 ∧ (∀ o ∈ ins, o.length ≤ 1000) ∧
  ∀ (H' : Hp), Sx Z.Ps H H' → TG Z.Ps H' → Q (.int (room - (lettersM ins : Int))) H'
theorem letters_int (ins : List (List Nat)) : (ins.map fun o => (o.length : Int)).sum = (lettersM ins : Int) := by
  induction ins with
  | nil => rfl
  | cons o ins ih =>
    have e : lettersM (o :: ins) = o.length + lettersM ins := rfl
    rw [List.map_cons, List.sum_cons, ih, e]
    omega
theorem ok_left (T : Tx K mg Z) (TB : Tb base mg Z) : FnOk P w K mg base CX0 4 Z.f_left_of Z.d_left_of ["room", "inside"] (spLeft K Z) := by
  refine T.C_left_of.ok sc_left_of (fun vs H Q E h => ?_) (fun A outer s H vs Q E hr h => ?_)
  · obtain ⟨room, ia, ins, rfl, _⟩ := h
    rfl
  · obtain ⟨room, ia, ins, rfl, tg, hia, hil, hol, q⟩ := h
    refine ⟨_, (pss_one (ps_ret (pe_op op_sub (pv 0) (pe_sumC (own := [("one", 2)]) (k := 0) hr (by rfl) T.m_sum (TB.t_left_of) rfl (gxS_by (blkOk_by (own := [("one", 2)]) (by kernel_rfl)) (by kernel_rfl)) sc_left_of.nd (by rfl) (piT K (pv 1)) (fun _ _ _ _ _ _ _ _ => (pg_name (i := 2) sc_left_of.nd rfl (.inl rfl))) (fun _ _ _ _ _ _ _ _ hr => (pe_callB call_len_str (by rfl) T.m_len (by decide +kernel) (pa_cons (pv 2) pa_nil))))))), ?_⟩
    have hP : Z.P_left_of ∈ Z.Ps := by simp
    have hl : (ins.map fun o => (o.length : Int)).length = (ins.map tx).length := by rw [List.length_map, List.length_map]
    refine ⟨.int room, rfl, .ref ia, rfl, ia, rfl, ⟨_, .inl (.inl hia)⟩, tg _ hP, fun H2 hT => ?_⟩
    have tg2 := Tabbed.tg tg hT
    have sx2 := Tabbed.sx hP hT
    have hia2 := (sx2.kt tg) _ _ hia
    have hfit : ∀ j, j < (ins.map fun o => (o.length : Int)).length → InLong (atL (ins.map fun o => (o.length : Int)) j) ∧ InLong (preSum (atL (ins.map fun o => (o.length : Int))) (j + 1)) := fit_of (by rw [List.length_map]; omega) fun x hx => by
      obtain ⟨o, ho, rfl⟩ := List.mem_map.mp hx
      have := hol o ho
      omega
    rw [hl] at hfit
    refine ⟨(ins.map tx).length, atL (ins.map fun o => (o.length : Int)), fun i H' => i ≤ (ins.map tx).length ∧ (H' = H2), hfit, ⟨Nat.zero_le _, rfl⟩, sum_step (walk_tup (xs := ins.map tx)) (fun i H' _ e => ?_) (fun i x H3 H4 hi e hY => ?_), fun H3 e0 => ?_⟩
    · rw [e]
      exact .inl (.inl hia2)
    · obtain ⟨rfl, hx⟩ := hY
      rw [List.getElem?_map] at hx
      obtain ⟨o, ho, rfl⟩ := Option.map_eq_some_iff.mp hx
      refine ⟨rfl, tx o, rfl, _, rfl, Nat.le_of_lt (small1000 (show o.length ≤ 1000 from hol o (List.mem_of_getElem? ho))), ?_, hi, e⟩
      rw [at_map ho]
      rfl
    · obtain ⟨_, e⟩ := e0
      refine ⟨room, _, rfl, rfl, ?_⟩
      rw [← hl, pre_take _ _ (Nat.le_refl _), List.take_length, e]
      show Q (.int (room - (ins.map fun o => (o.length : Int)).sum)) H2
      rw [letters_int]
      exact q H2 sx2 tg2

/-! ### Sheet.outdoes -/
def outB (cols : List Nat) (rows : List (List Int)) (as : List Ask) (one other : List Nat) : Bool := decide (one.length ≤ other.length) && as.all fun a => decide (priceM cols rows one a.es a.rc ≤ priceM cols rows other a.es a.rc)
theorem outB_iff {cols : List Nat} {rows : List (List Int)} {as : List Ask} {one other : List Nat} : outB cols rows as one other = true ↔ Outdoes cols rows as one other := by
  unfold outB Outdoes
  rw [Bool.and_eq_true, decide_eq_true_eq, List.all_eq_true]
  simp
def spOutdoes (K : PySem.W.Frag) (Z : Ad) : Sp := fun vs H Q _ => ∃ (p : Addr) (cols : List Nat) (rows : List (List Int)) (as : List Ask) (chg : Int) (one other : List Nat), vs = [.ref p, tx one, tx other] ∧ TG Z.Ps H ∧ SheetAt Z.C_Sheet cols rows as chg H p ∧ one ∈ listsM cols cols.length ∧ other ∈ listsM cols cols.length ∧ cols.length ≤ 6 ∧
  ∀ (H' : Hp), Sx Z.Ps H H' → TG Z.Ps H' → Q (.bl (outB cols rows as one other)) H'
theorem ok_outdoes (T : Tx K mg Z) (TB : Tb base mg Z) : FnOk P w K mg base CX0 4 Z.f_Sheet_outdoes Z.d_Sheet_outdoes ["self", "one", "other"] (spOutdoes K Z) := by
  refine T.C_Sheet_outdoes.ok sc_Sheet_outdoes (fun vs H Q E h => ?_) (fun A outer s H vs Q E hr h => ?_)
  · obtain ⟨p, cols, rows, as, chg, one, other, rfl, _⟩ := h
    rfl
  · obtain ⟨p, cols, rows, as, chg, one, other, rfl, tg, hS, h1, h2, hcn, q⟩ := h
    have l1 := (lists_mem.mp h1).2.1
    have l2 := (lists_mem.mp h2).2.1
    refine ⟨_, (pss_cons (ps_if (pt_cmpR op_gt (pe_callB call_len_str (by rfl) T.m_len (by decide +kernel) (pa_cons (pv 1) pa_nil)) (pe_callB call_len_str (by rfl) T.m_len (by decide +kernel) (pa_cons (pv 2) pa_nil)) (nomark _)) (pss_one (ps_ret pe_bl)) pss_nil)
      (pss_one (ps_ret (pe_allC (own := [("prices", 3)]) (k := 0) (hr.mono (by omega)) (by rfl) T.m_all (TB.t_Sheet_outdoes) rfl (gxS_by (blkOk_by (own := [("prices", 3)]) (by kernel_rfl)) (by kernel_rfl)) sc_Sheet_outdoes.nd (by rfl) (piL K (fldK K (pv 0) rfl)) (fun _ _ _ _ _ _ _ _ => (pg_name (i := 3) sc_Sheet_outdoes.nd rfl (.inl rfl))) (fun _ _ _ _ _ _ _ _ hr => (pe_cmpR op_le (pe_dget (hu_of hr) (pv 3) (pv 1) (fun _ _ => rfl)) (pe_dget (hu_of hr) (pv 3) (pv 2) (fun _ _ => rfl)) (nomark _))))))), ?_⟩
    have hP : Z.P_Sheet_outdoes ∈ Z.Ps := by simp
    refine ⟨tx one, rfl, _, rfl, Nat.le_of_lt (small1000 (show one.length ≤ 1000 by omega)), tx other, rfl, _, rfl, Nat.le_of_lt (small1000 (show other.length ≤ 1000 by omega)), _, _, rfl, rfl, _, rfl, ite2 (fun e => ?_) (fun e => ?_)⟩
    · have e1 : ((other.length : Nat) : Int) < (one.length : Nat) := of_decide_eq_true e
      have hq : outB cols rows as one other = false := by
        unfold outB
        rw [decide_eq_false (by omega : ¬ one.length ≤ other.length)]
        rfl
      rw [hq] at q
      exact q H Sx.rfl' tg
    · have e1 : ¬ ((other.length : Nat) : Int) < (one.length : Nat) := fun z => e (decide_eq_true z)
      have hq : outB cols rows as one other = as.all fun a => decide (priceM cols rows one a.es a.rc ≤ priceM cols rows other a.es a.rc) := by
        unfold outB
        rw [decide_eq_true (by omega : one.length ≤ other.length)]
        rfl
      rw [hq] at q
      obtain ⟨dx, l, o, b, qd, ds, hp, hl, ho, hb, hqd, prs⟩ := id hS
      refine ⟨.ref p, rfl, p, Z.C_Sheet, dx, _, _, rfl, hp, T.cl_Sheet, T.n_Sheet_prices, shF5_prices _ _ _ _ _, qd, rfl, ⟨_, .inl (.inl hqd)⟩, tg _ hP, fun H2 hT => ?_⟩
      have tg2 := Tabbed.tg tg hT
      have sx2 := Tabbed.sx hP hT
      have hqd2 := sx2.lst tg hqd
      have prs2 := prs.ext (sx2.ext tg)
      let f : Nat → Bool := fun i => match as[i]? with
        | some a => decide (priceM cols rows one a.es a.rc ≤ priceM cols rows other a.es a.rc)
        | none => true
      refine ⟨(ds.map V.ref).length, f, fun i H' => i ≤ (ds.map V.ref).length ∧ H' = H2, ⟨Nat.zero_le _, rfl⟩, gx_step (walk_list (xs := ds.map V.ref)) (fun i H' _ e => ?_) (fun i x H3 H4 hi e hY => ?_), fun H3 e hall => ?_, fun j H3 hj hs hal e => ?_⟩
      · rw [e]
        exact .inl (.inl hqd2)
      · obtain ⟨rfl, hx⟩ := hY
        rw [e] at *
        rw [List.getElem?_map] at hx
        obtain ⟨d, hd, rfl⟩ := Option.map_eq_some_iff.mp hx
        have hda : i < as.length := by
          have := (List.getElem?_eq_some_iff.mp hd).1
          have := prs.1
          omega
        obtain ⟨kvs, hkd, hpr⟩ := prs2.2 i d as[i] hd (List.getElem?_eq_getElem hda)
        refine ⟨rfl, .ref d, rfl, tx one, rfl, d, _, rfl, by rw [← hpr one h1]; exact DGet.k (k := Sum.inr (txS one)) hkd, .ref d, rfl, tx other, rfl, d, _, rfl, by rw [← hpr other h2]; exact DGet.k (k := Sum.inr (txS other)) hkd, _, _, rfl, rfl, ?_, hi, rfl⟩
        show V.bl _ = V.bl (f i)
        simp only [f, List.getElem?_eq_getElem hda]
      · have hq2 : (as.all fun a => decide (priceM cols rows one a.es a.rc ≤ priceM cols rows other a.es a.rc)) = true := List.all_eq_true.mpr fun a ha => by
          obtain ⟨i, hi, rfl⟩ := List.getElem_of_mem ha
          have := hall i (by rw [List.length_map, prs.1]; exact hi)
          simp only [f, List.getElem?_eq_getElem hi] at this
          exact this
        rw [hq2] at q
        rw [e.2]
        exact q H2 sx2 tg2
      · have hja : j < as.length := by
          rw [List.length_map, prs.1] at hj
          exact hj
        have hq2 : (as.all fun a => decide (priceM cols rows one a.es a.rc ≤ priceM cols rows other a.es a.rc)) = false := by
          refine eq_false_of_ne_true fun z => ?_
          have := List.all_eq_true.mp z as[j] (List.getElem_mem hja)
          simp only [f, List.getElem?_eq_getElem hja] at hs
          rw [this] at hs
          cases hs
        rw [hq2] at q
        rw [e.2]
        exact q H2 sx2 tg2
theorem shF5_no_outdoes (chg : Int) (l o b q : Addr) : (shF5 chg l o b q).lookup ("outdoes" : Str) = none := by kernel_rfl

/-! ### Sheet.cost -/
theorem shF5_no_asked2 (chg : Int) (l o b q : Addr) : (shF5 chg l o b q).lookup ("asked" : Str) = none := by kernel_rfl
def spCost (K : PySem.W.Frag) (Z : Ad) : Sp := fun vs H Q _ => ∃ (p ca : Addr) (cols : List Nat) (rows : List (List Int)) (as : List Ask) (chg : Int) (ch : List (List Nat)), vs = [.ref p, .ref ca] ∧ TG Z.Ps H ∧ SheetAt Z.C_Sheet cols rows as chg H p ∧ H ca = some (.tup (ch.map tx)) ∧ (∀ o ∈ ch, o ∈ listsM cols cols.length) ∧ ch.length ≤ 100 ∧ cols.length ≤ 6 ∧ AsksOk cols as ∧ rows.length ≤ 100 ∧ 0 ≤ chg ∧ chg ≤ 1000000 ∧
  ∀ H' : Hp, Sx Z.Ps H H' → TG Z.Ps H' → Q (.int (workM cols rows ch as chg)) H'
theorem ok_cost (T : Tx K mg Z) (TB : Tb base mg Z) : FnOk P w K mg base CX0 5 Z.f_Sheet_cost Z.d_Sheet_cost ["self", "choice"] (spCost K Z) := by
  have G_Sheet_asked : FnOk P w K mg base CX0 1 Z.f_Sheet_asked Z.d_Sheet_asked ["self", "near"] (spAsked K Z) := ok_asked T
  have G_upkeep : FnOk P w K mg base CX0 4 Z.f_upkeep Z.d_upkeep ["changes", "choice"] (spUpkeep K Z) := ok_upkeep T TB
  refine T.F_Sheet_cost.ok sc_Sheet_cost (fun vs H Q E h => ?_) (fun cdv A outer s H vs Q E hr h => ?_)
  · obtain ⟨p, ca, cols, rows, as, chg, ch, rfl, _⟩ := h
    rfl
  · obtain ⟨p, ca, cols, rows, as, chg, ch, rfl, tg, hS, hca, hch, hcl, hcn, has, hrn, hg0, hg1, q⟩ := h
    refine ⟨_, (pss_one (ps_ret (pe_op op_add (pe_meth (pv 0) T.cl_Sheet T.m_Sheet_asked G_Sheet_asked (hr.mono (by omega)) T.b_Sheet_asked .nil pass0 (pa_cons (pv 1) pa_nil)) (pe_call G_upkeep (hr.mono (by omega)) (by rfl) T.g_upkeep T.F_upkeep.kp T.b_upkeep .nil pass0 (pa_cons (fldK K (pv 0) rfl) (pa_cons (pv 1) pa_nil)))))), ?_⟩
    obtain ⟨dx, l, o, b, qd, ds, hp, more⟩ := id hS
    refine ⟨.ref p, rfl, p, dx, _, rfl, hp, shF5_no_asked2 _ _ _ _ _, .ref ca, rfl, p, ca, cols, rows, as, chg, ch, rfl, hS, .inr (.inl (.inl hca)), hch, by omega, has, hrn, fun H1 sm1 => ?_⟩
    refine ⟨.ref p, rfl, p, Z.C_Sheet, dx, _, _, rfl, sm1 _ _ hp, T.cl_Sheet, T.n_Sheet_changes, shF5_changes _ _ _ _ _, .ref ca, rfl, chg, ca, ch, rfl, hg0, hg1, tg.same sm1, sm1 _ _ hca, hcl, fun o ho => ?_, fun H2 sx2 tg2 => ?_⟩
    · have := (lists_mem.mp (hch o ho)).2.1
      omega
    · exact ⟨_, _, rfl, rfl, q H2 ((Same.sx sm1).trans sx2) tg2⟩
/-! ### fitting -/
def fitM (room : Nat) (ins free : List (List Nat)) : List (List Nat) := free.filter fun o => decide (lettersM ins + o.length ≤ room)
def spFitting (K : PySem.W.Frag) (Z : Ad) : Sp := fun vs H Q _ => ∃ (room : Nat) (ia fa : Addr) (ins free : List (List Nat)), vs = [.int room, .ref ia, .ref fa] ∧ TG Z.Ps H ∧ H ia = some (.tup (ins.map tx)) ∧ ins.length ≤ 1000 ∧ (∀ o ∈ ins, o.length ≤ 1000) ∧ H fa = some (.lst (free.map tx)) ∧ free.length ≤ 300000 ∧ (∀ o ∈ free, o.length ≤ 1000) ∧
  ∀ (H' : Hp) (D : Addr), Sx Z.Ps H H' → TG Z.Ps H' → H D = none → H' D = some (.lst ((fitM room ins free).map tx)) → Q (.ref D) H'
theorem ok_fitting (T : Tx K mg Z) (TB : Tb base mg Z) : FnOk P w K mg base CX0 5 Z.f_fitting Z.d_fitting ["room", "inside", "free"] (spFitting K Z) := by
  have G_left_of : FnOk P w K mg base CX0 4 Z.f_left_of Z.d_left_of ["room", "inside"] (spLeft K Z) := ok_left T TB
  refine T.F_fitting.ok sc_fitting (fun vs H Q E h => ?_) (fun cdv A outer s H vs Q E hr h => ?_)
  · obtain ⟨room, ia, fa, ins, free, rfl, _⟩ := h
    rfl
  · obtain ⟨room, ia, fa, ins, free, rfl, tg, hia, hil, hio, hfa, hfl, hfo, q⟩ := h
    refine ⟨_, (pss_cons (ps_set (i := 3) sc_fitting.nd rfl (.inr rfl) (pe_call G_left_of (hr.mono (by omega)) (by rfl) T.g_left_of T.F_left_of.kp T.b_left_of .nil pass0 (pa_cons (pv 0) (pa_cons (pv 1) pa_nil))))
      (pss_one (ps_ret (pe_lc (own := [("one", 4)]) (tt := _) (by rfl) sc_fitting.nd (piL K (pv 2)) (blkOk_by (own := [("one", 4)]) (by kernel_rfl)) (fun _ _ _ _ _ => (pg_name (i := 4) sc_fitting.nd rfl (.inl rfl))) (fun _ _ _ _ _ => (pts_one (pt_cmpR op_le (pe_callB call_len_str (by rfl) T.m_len (by decide +kernel) (pa_cons (pv 4) pa_nil)) (pv 3) (nomark _)))) (fun _ _ _ _ _ => (pv 4)))))), ?_⟩
    have line : (300001 : Nat) < sizeLine := by rw [sizeLine_eq]; decide
    refine ⟨.int room, rfl, .ref ia, rfl, room, ia, ins, rfl, tg, hia, hil, hio, fun H1 sx1 tg1 => ?_⟩
    have hfa1 := sx1.lst tg hfa
    refine ⟨.ref fa, rfl, fa, rfl, ⟨_, .inl (.inl hfa1)⟩, fun D nD => lc_it (walk_list (xs := free.map tx)) (fun j H' => Same H1 H' ∧ H' D = some (.lst ((fitM room ins (free.take j)).map tx)))
      ⟨Same.new (Same.refl H1) nD, upd_same⟩ (fun j H' _ hP => .inl (.inl (hP.1 _ _ hfa1))) (fun j x H3 H2 hj hP hY => ?_) (fun H2 hP => ?_)⟩
    · obtain ⟨sm2, hD2⟩ := hP
      obtain ⟨rfl, hx⟩ := hY
      rw [List.getElem?_map] at hx
      obtain ⟨o, ho, rfl⟩ := Option.map_eq_some_iff.mp hx
      have hol := hfo o (List.mem_of_getElem? ho)
      have fs := filter_snoc (fun o : List Nat => decide (lettersM ins + o.length ≤ room)) free j o ho
      refine ⟨rfl, tx o, rfl, _, rfl, Nat.le_of_lt (small1000 (show o.length ≤ 1000 by omega)), _, rfl, _, _, rfl, rfl, _, rfl, ite2 (fun e => ?_) (fun e => ?_)⟩
      · have e1 : ((o.length : Nat) : Int) ≤ (room : Int) - (lettersM ins : Int) := of_decide_eq_true e
        refine ⟨tx o, rfl, _, hD2, ?_, Same.mut sm2 nD, ?_⟩
        · rw [List.length_map]
          have := List.length_filter_le (fun o : List Nat => decide (lettersM ins + o.length ≤ room)) (free.take j)
          rw [List.length_take] at this
          unfold fitM
          omega
        · rw [upd_same]
          unfold fitM
          rw [fs, if_pos (decide_eq_true (by omega)), List.map_append]
          rfl
      · have e1 : ¬ ((o.length : Nat) : Int) ≤ (room : Int) - (lettersM ins : Int) := fun z => e (decide_eq_true z)
        refine ⟨sm2, ?_⟩
        unfold fitM at hD2 ⊢
        rw [fs, if_neg (by rw [decide_eq_true_eq]; omega), List.append_nil]
        exact hD2
    · obtain ⟨sm2, hD2⟩ := hP
      rw [List.length_map, List.take_of_length_le (Nat.le_refl _)] at hD2
      exact q H2 D (sx1.trans (Same.sx sm2)) (tg1.same sm2) (Sx.free tg1 sx1 nD) hD2
/-! ### floor -/
def floorM (cols : List Nat) (rows : List (List Int)) (as : List Ask) (chg : Int) (room : Nat) (ins free : List (List Nat)) : Int := askedM cols rows (ins ++ fitM room ins free) as + keepM chg ins
def spFloor (K : PySem.W.Frag) (Z : Ad) : Sp := fun vs H Q _ => ∃ (p ia fa : Addr) (room : Nat) (cols : List Nat) (rows : List (List Int)) (as : List Ask) (chg : Int) (ins free : List (List Nat)), vs = [.ref p, .int room, .ref ia, .ref fa] ∧ TG Z.Ps H ∧ SheetAt Z.C_Sheet cols rows as chg H p ∧ H ia = some (.tup (ins.map tx)) ∧ (∀ o ∈ ins, o ∈ listsM cols cols.length) ∧ ins.length ≤ 100 ∧ H fa = some (.lst (free.map tx)) ∧ (∀ o ∈ free, o ∈ listsM cols cols.length) ∧ free.length ≤ 200000 ∧ cols.length ≤ 6 ∧ AsksOk cols as ∧ rows.length ≤ 100 ∧ 0 ≤ chg ∧ chg ≤ 1000000 ∧
  ∀ H' : Hp, Sx Z.Ps H H' → TG Z.Ps H' → Q (.int (floorM cols rows as chg room ins free)) H'
theorem ok_floor (T : Tx K mg Z) (TB : Tb base mg Z) : FnOk P w K mg base CX0 6 Z.f_floor Z.d_floor ["sheet", "room", "inside", "free"] (spFloor K Z) := by
  have G_Sheet_asked : FnOk P w K mg base CX0 1 Z.f_Sheet_asked Z.d_Sheet_asked ["self", "near"] (spAsked K Z) := ok_asked T
  have G_upkeep : FnOk P w K mg base CX0 4 Z.f_upkeep Z.d_upkeep ["changes", "choice"] (spUpkeep K Z) := ok_upkeep T TB
  have G_fitting : FnOk P w K mg base CX0 5 Z.f_fitting Z.d_fitting ["room", "inside", "free"] (spFitting K Z) := ok_fitting T TB
  refine T.F_floor.ok sc_floor (fun vs H Q E h => ?_) (fun cdv A outer s H vs Q E hr h => ?_)
  · obtain ⟨p, ia, fa, room, cols, rows, as, chg, ins, free, rfl, _⟩ := h
    rfl
  · obtain ⟨p, ia, fa, room, cols, rows, as, chg, ins, free, rfl, tg, hS, hia, hin, hil, hfa, hfr, hfl, hcn, has, hrn, hg0, hg1, q⟩ := h
    refine ⟨_, (pss_cons (ps_set (i := 4) sc_floor.nd rfl (.inl rfl) (pe_call G_fitting (hr.mono (by omega)) (by rfl) T.g_fitting T.F_fitting.kp T.b_fitting .nil pass0 (pa_cons (pv 1) (pa_cons (pv 2) (pa_cons (pv 3) pa_nil)))))
      (pss_one (ps_ret (pe_op op_add (pe_meth (pv 0) T.cl_Sheet T.m_Sheet_asked G_Sheet_asked (hr.mono (by omega)) T.b_Sheet_asked .nil pass0 (pa_cons (pe_lst (paStarK K (pv 2) (paStarK K (pv 4) pa_nil))) pa_nil)) (pe_call G_upkeep (hr.mono (by omega)) (by rfl) T.g_upkeep T.F_upkeep.kp T.b_upkeep .nil pass0 (pa_cons (fldK K (pv 0) rfl) (pa_cons (pv 2) pa_nil))))))), ?_⟩
    have line : (300100 : Nat) < sizeLine := by rw [sizeLine_eq]; decide
    have short : ∀ {o : List Nat}, o ∈ listsM cols cols.length → o.length ≤ 1000 := fun h => by
      have := (lists_mem.mp h).2.1
      omega
    refine ⟨.int room, rfl, .ref ia, rfl, .ref fa, rfl, room, ia, fa, ins, free, rfl, tg, hia, by omega, (fun o ho => short (hin o ho)), hfa, by omega, (fun o ho => short (hfr o ho)), fun H1 D sx1 tg1 nD hD => ?_⟩
    have hS1 := hS.ext (sx1.ext tg)
    have hia1 := (sx1.kt tg) _ _ hia
    have fitl : (fitM room ins free).length ≤ free.length := List.length_filter_le _ _
    obtain ⟨dx, l, o, b, qd, ds, hp1, more⟩ := id hS1
    refine ⟨.ref p, rfl, p, dx, _, rfl, hp1, shF5_no_asked2 _ _ _ _ _, .ref ia, rfl, ia, ins.map tx, rfl, .inl (.inl (.inl hia1)), .ref D, rfl, D, (fitM room ins free).map tx, rfl, .inr (.inl (.inl hD)), ?_, fun u nu => ?_⟩
    · simp only [List.length_append, List.length_map, List.length_nil]
      omega
    have eu : ins.map tx ++ ((fitM room ins free).map tx ++ []) = (ins ++ fitM room ins free).map tx := by
      rw [List.append_nil, List.map_append]
    rw [eu]
    have sm2 : Same H1 (upd H1 u (.lst ((ins ++ fitM room ins free).map tx))) := Same.new (Same.refl H1) nu
    have hu2 : (upd H1 u (.lst ((ins ++ fitM room ins free).map tx))) u = some (.lst ((ins ++ fitM room ins free).map tx)) := upd_same
    generalize upd H1 u (.lst ((ins ++ fitM room ins free).map tx)) = H2 at sm2 hu2 ⊢
    refine ⟨p, u, cols, rows, as, chg, ins ++ fitM room ins free, rfl, hS1.ext fun b o e _ => sm2 b o e, .inl (.inl (.inl hu2)), fun x hx => ?_, ?_, has, hrn, fun H3 sm3 => ?_⟩
    · rcases List.mem_append.mp hx with z | z
      · exact hin x z
      · exact hfr x (List.mem_filter.mp z).1
    · rw [List.length_append]
      omega
    have sm13 := Same.trans sm2 sm3
    refine ⟨.ref p, rfl, p, Z.C_Sheet, dx, _, _, rfl, sm13 _ _ hp1, T.cl_Sheet, T.n_Sheet_changes, shF5_changes _ _ _ _ _, .ref ia, rfl, chg, ia, ins, rfl, hg0, hg1, tg1.same sm13, sm13 _ _ hia1, hil, (fun o ho => short (hin o ho)), fun H4 sx4 tg4 => ?_⟩
    exact ⟨_, _, rfl, rfl, q H4 ((sx1.trans (Same.sx sm13)).trans sx4) tg4⟩

/-! ### trees: what they show -/
abbrev wOver : PyData := .tuple [.str ("over" : Str)]
abbrev wDear : PyData := .tuple [.str ("dear" : Str)]
/-- whether the data shows the number, with these lists in and these free -/
def goD (cols : List Nat) (rows : List (List Int)) (as : List Ask) (chg : Int) (room : Nat) (num : Int) : PyData → List (List Nat) → List (List Nat) → Bool
  | .tuple [.str w], ins, free => if w = ("over" : Str) then decide (room < lettersM ins) else if w = ("dear" : Str) then decide (num ≤ floorM cols rows as chg room ins free) else false
  | .tuple [.str w, .str o, a, b], ins, free => decide (w = ("list" : Str)) && (decide (o.cps.toList ∈ free) && (goD cols rows as chg room num a (ins ++ [o.cps.toList]) (free.filter fun x => decide (x ≠ o.cps.toList)) && goD cols rows as chg room num b ins ((free.filter fun x => decide (x ≠ o.cps.toList)).filter fun x => !outB cols rows as o.cps.toList x)))
  | _, _, _ => false
termination_by d => sizeOf d
theorem goD_over {cols : List Nat} {rows : List (List Int)} {as : List Ask} {chg : Int} {room : Nat} {num : Int} {ins free : List (List Nat)} : goD cols rows as chg room num wOver ins free = decide (room < lettersM ins) := by
  rw [goD.eq_def]
  exact if_pos rfl
theorem goD_dear {cols : List Nat} {rows : List (List Int)} {as : List Ask} {chg : Int} {room : Nat} {num : Int} {ins free : List (List Nat)} : goD cols rows as chg room num wDear ins free = decide (num ≤ floorM cols rows as chg room ins free) := by
  rw [goD.eq_def]
  have ne : ¬ ("dear" : Str) = ("over" : Str) := by decide +kernel
  show (if ("dear" : Str) = ("over" : Str) then _ else _) = _
  rw [if_neg ne]
  exact if_pos rfl
theorem goD_fork {cols : List Nat} {rows : List (List Int)} {as : List Ask} {chg : Int} {room : Nat} {num : Int} {ins free : List (List Nat)} {o : Str} {a b : PyData} : goD cols rows as chg room num (.tuple [.str ("list" : Str), .str o, a, b]) ins free = (decide (o.cps.toList ∈ free) && (goD cols rows as chg room num a (ins ++ [o.cps.toList]) (free.filter fun x => decide (x ≠ o.cps.toList)) && goD cols rows as chg room num b ins ((free.filter fun x => decide (x ≠ o.cps.toList)).filter fun x => !outB cols rows as o.cps.toList x))) := by
  rw [goD.eq_def]
  show (decide (("list" : Str) = ("list" : Str)) && _) = _
  rw [decide_eq_true rfl, Bool.true_and]
theorem goD_else {cols : List Nat} {rows : List (List Int)} {as : List Ask} {chg : Int} {room : Nat} {num : Int} {ins free : List (List Nat)} {d : PyData} (h1 : d ≠ wOver) (h2 : d ≠ wDear) (h3 : forkD free d = false) : goD cols rows as chg room num d ins free = false := by
  rw [goD.eq_def]
  split
  · rename_i w
    rw [if_neg fun z => h1 (by rw [z]), if_neg fun z => h2 (by rw [z])]
  · rename_i w o a b
    by_cases e : w = ("list" : Str)
    · have : decide (o.cps.toList ∈ free) = false := by
        rw [e] at h3
        have h4 : (PyData.eqv (.str ("list" : Str)) (.str ("list" : Str)) && decide (o.cps.toList ∈ free)) = false := h3
        have h5 : PyData.eqv (.str ("list" : Str)) (.str ("list" : Str)) = true := by decide +kernel
        rw [h5, Bool.true_and] at h4
        exact h4
      rw [this]
      simp
    · rw [decide_eq_false e, Bool.false_and]
  · rfl
section
variable {cols : List Nat} {rows : List (List Int)} {as : List Ask} {chg : Int} {room : Nat} {num : Int}
/-- what outdoes does as well in its place -/
theorem swap_work (hok : AsksOk cols as) (hg : 0 ≤ chg) {ins T : List (List Nat)} {one o : List Nat} (ho : o ∈ T) (so : Outdoes cols rows as one o) : workM cols rows ((ins ++ [one]) ++ T.erase o) as chg ≤ workM cols rows (ins ++ T) as chg ∧ lettersM ((ins ++ [one]) ++ T.erase o) ≤ lettersM (ins ++ T) := by
  have p : T.Perm (o :: T.erase o) := List.perm_cons_erase ho
  have p2 : (ins ++ T).Perm (ins ++ ([o] ++ T.erase o)) := p.append_left ins
  have e1 := work_perm (cols := cols) (rows := rows) (as := as) (chg := chg) p2
  have e2 := letters_perm p2
  have e3 : (ins ++ [one]) ++ T.erase o = ins ++ ([one] ++ T.erase o) := List.append_assoc _ _ _
  rw [e1, e2, e3]
  refine ⟨?_, ?_⟩
  · have h1 : askedM cols rows (ins ++ ([one] ++ T.erase o)) as ≤ askedM cols rows (ins ++ ([o] ++ T.erase o)) as := asked_le hok fun a ha x hx => by
      rcases List.mem_append.mp hx with z | z
      · exact ⟨x, List.mem_append_left _ z, Int.le_refl _⟩
      · rcases List.mem_append.mp z with y | y
        · rw [List.mem_singleton.mp y]
          exact ⟨one, List.mem_append_right _ (List.mem_append_left _ (List.mem_singleton.mpr rfl)), so.2 a ha⟩
        · exact ⟨x, List.mem_append_right _ (List.mem_append_right _ y), Int.le_refl _⟩
    have h2 : keepM chg [one] ≤ keepM chg [o] := by
      unfold keepM
      refine Int.mul_le_mul_of_nonneg_left ?_ hg
      have := so.1
      simp only [List.map_cons, List.map_nil, List.sum_cons, List.sum_nil]
      omega
    unfold workM
    rw [keep_app, keep_app, keep_app, keep_app]
    omega
  · have := so.1
    rw [letters_app, letters_app, letters_app, letters_app]
    have e4 : lettersM [one] = one.length + 0 := rfl
    have e5 : lettersM [o] = o.length + 0 := rfl
    omega
/-- a number that is shown is not above what any choice costs that goes on so -/
theorem goD_sound_n (hok : AsksOk cols as) (hg : 0 ≤ chg) (n : Nat) : ∀ (d : PyData), sizeOf d ≤ n → ∀ (ins free T : List (List Nat)), goD cols rows as chg room num d ins free = true → T.Nodup → (∀ o ∈ T, o ∈ free) → lettersM (ins ++ T) ≤ room → num ≤ workM cols rows (ins ++ T) as chg := by
  induction n with
  | zero =>
    intro d hd
    cases d <;> simp at hd
  | succ n ih =>
    intro d hd ins free T h nd sub l
    rw [goD.eq_def] at h
    split at h
    · rename_i w
      have h' : (if w = ("over" : Str) then decide (room < lettersM ins) else if w = ("dear" : Str) then decide (num ≤ floorM cols rows as chg room ins free) else false) = true := h
      by_cases e : w = ("over" : Str)
      · rw [if_pos e] at h'
        have := of_decide_eq_true h'
        rw [letters_app] at l
        omega
      · rw [if_neg e] at h'
        by_cases f : w = ("dear" : Str)
        · rw [if_pos f] at h'
          refine Int.le_trans (of_decide_eq_true h') ?_
          unfold floorM
          refine floor_le hok hg fun o ho => List.mem_filter.mpr ⟨sub o ho, decide_eq_true ?_⟩
          have := letters_mem ho
          rw [letters_app] at l
          omega
        · rw [if_neg f] at h'
          cases h'
    · rename_i w o a b
      have h' : (decide (w = ("list" : Str)) && (decide (o.cps.toList ∈ free) && (goD cols rows as chg room num a (ins ++ [o.cps.toList]) (free.filter fun x => decide (x ≠ o.cps.toList)) && goD cols rows as chg room num b ins ((free.filter fun x => decide (x ≠ o.cps.toList)).filter fun x => !outB cols rows as o.cps.toList x)))) = true := h
      have la : sizeOf a ≤ n := by
        simp at hd
        omega
      have lb : sizeOf b ≤ n := by
        simp at hd
        omega
      simp only [Bool.and_eq_true, decide_eq_true_eq] at h'
      obtain ⟨_, hf, ha, hb⟩ := h'
      generalize o.cps.toList = one at hf ha hb
      by_cases c : one ∈ T
      · have p : T.Perm (one :: T.erase one) := List.perm_cons_erase c
        have p2 : (ins ++ T).Perm ((ins ++ [one]) ++ T.erase one) := by
          rw [List.append_assoc]
          exact p.append_left ins
        rw [work_perm p2]
        rw [letters_perm p2] at l
        exact ih a la (ins ++ [one]) _ (T.erase one) ha (nd.erase _) (fun x hx => by
          obtain ⟨ne, hx2⟩ := (List.Nodup.mem_erase_iff nd).mp hx
          exact List.mem_filter.mpr ⟨sub x hx2, decide_eq_true ne⟩) l
      · by_cases e : ∃ x ∈ T, outB cols rows as one x = true
        · obtain ⟨x, hx, so⟩ := e
          obtain ⟨w1, w2⟩ := swap_work (rows := rows) (chg := chg) (ins := ins) hok hg hx (outB_iff.mp so)
          refine Int.le_trans (ih a la (ins ++ [one]) _ (T.erase x) ha (nd.erase _) (fun y hy => ?_) (Nat.le_trans w2 l)) w1
          have hy2 := List.mem_of_mem_erase hy
          exact List.mem_filter.mpr ⟨sub y hy2, decide_eq_true fun z => c (z ▸ hy2)⟩
        · refine ih b lb ins _ T hb nd (fun x hx => List.mem_filter.mpr ⟨List.mem_filter.mpr ⟨sub x hx, decide_eq_true fun z => c (z ▸ hx)⟩, ?_⟩) l
          rw [Bool.not_eq_true', Bool.eq_false_iff]
          exact fun z => e ⟨x, hx, z⟩
    · cases h
theorem goD_sound (hok : AsksOk cols as) (hg : 0 ≤ chg) (d : PyData) (ins free T : List (List Nat)) (h : goD cols rows as chg room num d ins free = true) (nd : T.Nodup) (sub : ∀ o ∈ T, o ∈ free) (l : lettersM (ins ++ T) ≤ room) : num ≤ workM cols rows (ins ++ T) as chg := goD_sound_n hok hg (sizeOf d) d (Nat.le_refl _) ins free T h nd sub l
/-- a tree over some free lists: it shows the number over more, too, where each of those is outdone by one of these or of those in -/
def TreeOk (cols : List Nat) (rows : List (List Int)) (as : List Ask) (chg : Int) (room : Nat) (ins free : List (List Nat)) (r : Int) (d : PyData) : Prop := ∀ (num : Int) (sf : List (List Nat)), num ≤ r → (∀ o ∈ free, o ∈ sf) → (∀ o ∈ sf, ∃ s, (s ∈ free ∨ s ∈ ins) ∧ Outdoes cols rows as s o) → (∀ s ∈ free, ∀ o ∈ free, s ≠ o → ¬ Outdoes cols rows as s o) → goD cols rows as chg room num d ins sf = true
theorem TreeOk.dear (hok : AsksOk cols as) {ins free : List (List Nat)} {r : Int} (h : r ≤ floorM cols rows as chg room ins free) : TreeOk cols rows as chg room ins free r wDear := fun num sf hn _ out _ => by
  rw [goD_dear]
  refine decide_eq_true (Int.le_trans hn (Int.le_trans h ?_))
  unfold floorM
  have h1 : askedM cols rows (ins ++ fitM room ins free) as ≤ askedM cols rows (ins ++ fitM room ins sf) as := asked_le hok fun a ha o ho => by
    rcases List.mem_append.mp ho with z | z
    · exact ⟨o, List.mem_append_left _ z, Int.le_refl _⟩
    · obtain ⟨z1, z2⟩ := List.mem_filter.mp z
      obtain ⟨s, hs, so⟩ := out o z1
      rcases hs with y | y
      · refine ⟨s, List.mem_append_right _ (List.mem_filter.mpr ⟨y, decide_eq_true ?_⟩), so.2 a ha⟩
        have := of_decide_eq_true z2
        have := so.1
        omega
      · exact ⟨s, List.mem_append_left _ y, so.2 a ha⟩
  omega
theorem TreeOk.fork {ins free : List (List Nat)} {one : List Nat} {r1 r2 : Int} {d1 d2 : PyData} (ho : one ∈ free) (h1 : TreeOk cols rows as chg room (ins ++ [one]) (free.filter fun o => decide (o ≠ one)) r1 d1) (h2 : TreeOk cols rows as chg room ins (free.filter fun o => decide (o ≠ one)) r2 d2) (hr : r2 ≤ r1) : TreeOk cols rows as chg room ins free r2 (.tuple [.str ("list" : Str), .str (txS one), d1, d2]) := fun num sf hn sub out ap => by
  have e : (txS one).cps.toList = one := by simp
  rw [goD_fork, e, decide_eq_true (sub one ho), Bool.true_and, Bool.and_eq_true]
  have mem : ∀ {o : List Nat} {l : List (List Nat)}, o ∈ l.filter (fun o => decide (o ≠ one)) ↔ o ∈ l ∧ o ≠ one := fun {o l} => by rw [List.mem_filter, decide_eq_true_eq]
  refine ⟨h1 num _ (by omega) (fun o h => mem.mpr ⟨sub o (mem.mp h).1, (mem.mp h).2⟩) (fun o h => ?_) (fun s hs o h ne => ap s (mem.mp hs).1 o (mem.mp h).1 ne), h2 num _ hn (fun o h => ?_) (fun o h => ?_) (fun s hs o h ne => ap s (mem.mp hs).1 o (mem.mp h).1 ne)⟩
  · obtain ⟨s, hs, so⟩ := out o (mem.mp h).1
    by_cases c : s = one
    · exact ⟨s, .inr (List.mem_append_right _ (List.mem_singleton.mpr c)), so⟩
    · exact ⟨s, hs.imp (fun y => mem.mpr ⟨y, c⟩) fun y => List.mem_append_left _ y, so⟩
  · obtain ⟨a1, a2⟩ := mem.mp h
    refine List.mem_filter.mpr ⟨mem.mpr ⟨sub o a1, a2⟩, ?_⟩
    rw [Bool.not_eq_true', Bool.eq_false_iff]
    exact fun z => ap one ho o a1 (fun y => a2 y.symm) (outB_iff.mp z)
  · obtain ⟨a1, a2⟩ := List.mem_filter.mp h
    obtain ⟨s, hs, so⟩ := out o (mem.mp a1).1
    by_cases c : s = one
    · rw [c] at so
      rw [outB_iff.mpr so] at a2
      cases a2
    · exact ⟨s, hs.imp (fun y => mem.mpr ⟨y, c⟩) id, so⟩
end

/-! ### is_fork, shown, shows -/
theorem inV_other {v : V} (h : ∀ z, v ≠ .str z) (f : flatV v = true) : ∀ l : List (List Nat), inV v (l.map tx) = false
  | [] => rfl
  | o :: l => by
    show (eqV (tx o) v || inV v (l.map tx)) = false
    rw [inV_other h f l, Bool.or_false]
    cases v with
    | non => rfl
    | bl _ => rfl
    | int _ => rfl
    | str z => exact absurd rfl (h z)
    | _ => cases f
theorem eqv_word {d : PyData} {w : Str} (h : PyData.eqv d (.tuple [.str w]) = true) : d = .tuple [.str w] := by
  cases d with
  | tuple xs =>
    cases xs with
    | nil => simp [PyData.eqv, PyData.eqvAll] at h
    | cons x xs =>
      cases xs with
      | nil =>
        cases x <;> simp [PyData.eqv, PyData.eqvAll] at h
        rw [h]
      | cons y ys => simp [PyData.eqv, PyData.eqvAll] at h
  | _ => simp [PyData.eqv] at h
theorem eqv_word_self (w : Str) : PyData.eqv (.tuple [.str w]) (.tuple [.str w]) = true := by simp [PyData.eqv, PyData.eqvAll]
theorem forkD_true {free : List (List Nat)} {d : PyData} (h : forkD free d = true) : ∃ (o : Str) (a b : PyData), d = .tuple [.str ("list" : Str), .str o, a, b] ∧ o.cps.toList ∈ free := by
  unfold forkD at h
  split at h
  · rename_i x o a b
    rw [Bool.and_eq_true, decide_eq_true_eq] at h
    cases x <;> simp [PyData.eqv] at h
    exact ⟨o, a, b, by rw [h.1], h.2⟩
  · cases h
def spFork (K : PySem.W.Frag) : Sp := fun vs H Q _ => ∃ (fa : Addr) (free : List (List Nat)) (v : V) (d : PyData), vs = [.ref fa, v] ∧ H fa = some (.lst (free.map tx)) ∧ Ft H v d ∧ d.canLay0 = true ∧ ∀ H' : Hp, Same H H' → Q (.bl (forkD free d)) H'
theorem ok_fork (T : Tx K mg Z) : FnOk P w K mg base CX0 1 Z.f_is_fork Z.d_is_fork ["free", "thing"] (spFork K) := by
  refine T.F_is_fork.ok sc_is_fork (fun vs H Q E h => ?_) (fun cdv A outer s H vs Q E hr h => ?_)
  · obtain ⟨fa, free, v, d, rfl, _⟩ := h
    rfl
  · obtain ⟨fa, free, v, d, rfl, hfa, fv, cd, q⟩ := h
    refine ⟨_, (pss_one (ps_ret (pe_and (pe_callB (isiK K) (by rfl) T.m_isinstance (by decide +kernel) (pa_cons (pv 1) (pa_cons (pe_bltn (v := .ty "tuple") (by rfl) T.m_tuple (by decide +kernel) rfl) pa_nil))) (pe_and (pe_cmpR op_eq (pe_callB (cLenSq K) (by rfl) T.m_len (by decide +kernel) (pa_cons (pv 1) pa_nil)) pe_int (nomark _)) (pe_and (pe_cmpR (eqSK K hr.units) (pe_ix (ixT K) (pv 1) pe_int (fun _ _ => rfl)) pe_str (nomark _)) (pe_one (pe_cmpR (inTK K hr.units) (pe_ix (ixT K) (pv 1) pe_int (fun _ _ => rfl)) (pv 0) (by rfl)))))))), ?_⟩
    have q0 := q H (Same.refl H)
    have no : forkD free d = false → Q (.bl false) H := fun e => by
      rw [e] at q0
      exact q0
    refine ⟨v, rfl, v, .ty "tuple", _, _, isTp d, rfl, .ty _, ty_ft fv, kit_tp d, _, rfl, ite2 (fun e => ?_) (fun e => ?_)⟩
    · cases d with
      | tuple ds =>
        obtain ⟨a, xs, rfl, ha, fa4⟩ := fv.open
        have xl := fa4.len
        refine ⟨.ref a, rfl, a, xs, rfl, .inr (.inl (.inl ha)), rfl, _, rfl, ite2 (fun e2 => ?_) (fun e2 => ?_)⟩
        · have l4 : ds.length = 4 := by
            have := of_decide_eq_true e2
            have := V.int.inj this
            omega
          match ds, l4, fa4, cd, q0, no with
          | [d1, d2, d3, d4], _, fa4, cd, q0, no =>
            obtain ⟨x1, x2, x3, x4, rfl, f1, f2, f3, f4⟩ := fa4.four
            have cd1 : d1.canLay0 = true := by
              have h : (d1.canLay0 && PyData.canLayAll0 [d2, d3, d4]) = true := cd
              rw [Bool.and_eq_true] at h
              exact h.1
            refine ⟨.ref a, rfl, a, [x1, x2, x3, x4], 0, x1, rfl, rfl, .inl (.inl ha), rfl, d1, .str ("list" : Str), f1.to, .str _, cd1, (by decide +kernel), Nat.zero_le _, _, rfl, ite2 (fun e3 => ?_) (fun e3 => no ?_)⟩
            · refine ⟨.ref a, rfl, a, [x1, x2, x3, x4], 1, x2, rfl, rfl, .inl (.inl ha), rfl, .ref fa, rfl, fa, free, rfl, .inl (.inl hfa), ?_⟩
              cases f2 with
              | str o =>
                refine .inl ⟨rfl, ?_⟩
                have eo : V.str o = tx o.cps.toList := congrArg V.str (by simp)
                have ev : forkD free (.tuple [d1, .str o, d3, d4]) = inV (V.str o) (free.map tx) := by
                  rw [eo, inV_texts]
                  show (PyData.eqv d1 (.str ("list" : Str)) && decide (o.cps.toList ∈ free)) = _
                  rw [e3, Bool.true_and]
                rw [ev] at q0
                exact q0
              | non =>
                refine .inl ⟨rfl, ?_⟩
                rw [inV_other (by intro z e; cases e) rfl]
                exact no rfl
              | bl b =>
                refine .inl ⟨rfl, ?_⟩
                rw [inV_other (by intro z e; cases e) rfl]
                exact no rfl
              | int i =>
                refine .inl ⟨rfl, ?_⟩
                rw [inV_other (by intro z e; cases e) rfl]
                exact no rfl
              | lst h1 h2 => exact .inr ⟨_, _, rfl, .inl (.inl (.inl h1)), no rfl⟩
              | tup h1 h2 => exact .inr ⟨_, _, rfl, .inr (.inl (.inl h1)), no rfl⟩
            · have e4 : PyData.eqv d1 (.str ("list" : Str)) = false := by simpa using e3
              unfold forkD
              split
              · rename_i x o a' b' ee
                have := PyData.tuple.inj ee
                cases this
                rw [e4, Bool.false_and]
              · rfl
        · refine no ?_
          unfold forkD
          split
          · rename_i x o a' b' ee
            have := PyData.tuple.inj ee
            subst this
            exact absurd (decide_eq_true (by rw [xl]; rfl)) e2
          · rfl
      | _ => cases e
    · refine no ?_
      cases d with
      | tuple ds => exact absurd rfl e
      | _ => rfl
def spShown (K : PySem.W.Frag) (Z : Ad) (n : Nat) : Sp := fun vs H Q _ => ∃ (p ia fa : Addr) (v : V) (room : Nat) (num : Int) (cols : List Nat) (rows : List (List Int)) (as : List Ask) (chg : Int) (ins free : List (List Nat)) (d : PyData), vs = [.ref p, .int room, .int num, v, .ref ia, .ref fa] ∧ TG Z.Ps H ∧ SheetAt Z.C_Sheet cols rows as chg H p ∧ H ia = some (.tup (ins.map tx)) ∧ (∀ o ∈ ins, o ∈ listsM cols cols.length) ∧ ins.length + n ≤ 90 ∧ H fa = some (.lst (free.map tx)) ∧ (∀ o ∈ free, o ∈ listsM cols cols.length) ∧ free.length ≤ 900 ∧ Ft H v d ∧ d.canLay0 = true ∧ d.depth ≤ n ∧ cols.length ≤ 6 ∧ AsksOk cols as ∧ rows.length ≤ 100 ∧ 0 ≤ chg ∧ chg ≤ 1000000 ∧
  ∀ H' : Hp, Sx Z.Ps H H' → TG Z.Ps H' → Q (.bl (goD cols rows as chg room num d ins free)) H'
def spShownP (K : PySem.W.Frag) (Z : Ad) : Nat → Sp
  | 0 => fun _ _ _ _ => False
  | n + 1 => spShown K Z n
theorem ok_shown1 (T : Tx K mg Z) (TB : Tb base mg Z) (n : Nat) (G_shown : FnOk P w K mg base CX0 (n + 7) Z.f_shown Z.d_shown ["sheet", "room", "number", "thing", "inside", "free"] (spShownP K Z n)) : FnOk P w K mg base CX0 (n + 8) Z.f_shown Z.d_shown ["sheet", "room", "number", "thing", "inside", "free"] (spShown K Z n) := by
  have G_left_of : FnOk P w K mg base CX0 4 Z.f_left_of Z.d_left_of ["room", "inside"] (spLeft K Z) := ok_left T TB
  have G_floor : FnOk P w K mg base CX0 6 Z.f_floor Z.d_floor ["sheet", "room", "inside", "free"] (spFloor K Z) := ok_floor T TB
  have G_is_fork : FnOk P w K mg base CX0 1 Z.f_is_fork Z.d_is_fork ["free", "thing"] (spFork K) := ok_fork T
  have G_Sheet_outdoes : FnOk P w K mg base CX0 4 Z.f_Sheet_outdoes Z.d_Sheet_outdoes ["self", "one", "other"] (spOutdoes K Z) := ok_outdoes T TB
  refine T.F_shown.ok sc_shown (fun vs H Q E h => ?_) (fun cdv A outer s H vs Q E hr h => ?_)
  · obtain ⟨p, ia, fa, v, room, num, cols, rows, as, chg, ins, free, d, rfl, _⟩ := h
    rfl
  · obtain ⟨p, ia, fa, v, room, num, cols, rows, as, chg, ins, free, d, rfl, tg, hS, hia, hin, hil, hfa, hfr, hfl, fv, cd, dd, hcn, has, hrn, hg0, hg1, q⟩ := h
    refine ⟨_, (pss_cons (ps_if (pt_cmpR (eqSK K hr.units) (pv 3) (pe_tup (pa_cons pe_str pa_nil)) (nomark _)) (pss_one (ps_ret (pe_cmpR op_lt (pe_call G_left_of (hr.mono (by omega)) (by rfl) T.g_left_of T.F_left_of.kp T.b_left_of .nil pass0 (pa_cons (pv 1) (pa_cons (pv 4) pa_nil))) pe_int (nomark _)))) pss_nil)
      (pss_cons (ps_if (pt_cmpR (eqSK K hr.units) (pv 3) (pe_tup (pa_cons pe_str pa_nil)) (nomark _)) (pss_one (ps_ret (pe_cmpR op_ge (pe_call G_floor (hr.mono (by omega)) (by rfl) T.g_floor T.F_floor.kp T.b_floor .nil pass0 (pa_cons (pv 0) (pa_cons (pv 1) (pa_cons (pv 4) (pa_cons (pv 5) pa_nil))))) (pv 2) (nomark _)))) pss_nil)
      (pss_cons (ps_if (pt_not (pt_val (pe_call G_is_fork (hr.mono (by omega)) (by rfl) T.g_is_fork T.F_is_fork.kp T.b_is_fork .nil pass0 (pa_cons (pv 5) (pa_cons (pv 3) pa_nil))))) (pss_one (ps_ret pe_bl)) pss_nil)
      (pss_cons (ps_asg (pv 3) (pgT K (n := 4) (pgs_cons (pg_name (i := 6) sc_shown.nd rfl (.inl rfl)) (pgs_cons (pg_name (i := 7) sc_shown.nd rfl (.inr rfl)) (pgs_cons (pg_name (i := 8) sc_shown.nd rfl (.inl rfl)) (pgs_cons (pg_name (i := 9) sc_shown.nd rfl (.inl rfl)) pgs_nil))))))
      (pss_cons (ps_setLc (i := 10) (own := [("other", 12)]) (tt := _) (by rfl) sc_shown.nd rfl rfl (sw_true rfl rfl rfl (by decide +kernel)) (piL K (pv 5)) (blkOk_by (own := [("other", 12)]) (by kernel_rfl)) (fun _ _ _ _ _ => (pg_name (i := 12) sc_shown.nd rfl (.inl rfl))) (fun _ _ _ _ _ => (pts_one (pt_cmpR op_ne (pv 12) (pv 7) (nomark _)))) (fun _ _ _ _ _ => (pv 12)))
      (pss_cons (ps_if (pt_not (pt_val (pe_call G_shown (hr.mono (by omega)) (by rfl) T.g_shown T.F_shown.kp T.b_shown .nil pass0 (pa_cons (pv 0) (pa_cons (pv 1) (pa_cons (pv 2) (pa_cons (pv 8) (pa_cons (pe_tup (paStarK K (pv 4) (pa_cons (pv 7) pa_nil))) (pa_cons (pv 10) pa_nil))))))))) (pss_one (ps_ret pe_bl)) pss_nil)
      (pss_cons (ps_setLc (i := 11) (own := [("other", 12)]) (tt := _) (by rfl) sc_shown.nd rfl rfl (sw_true rfl rfl rfl (by decide +kernel)) (piL K (pv 10)) (blkOk_by (own := [("other", 12)]) (by kernel_rfl)) (fun _ _ _ _ _ => (pg_name (i := 12) sc_shown.nd rfl (.inl rfl))) (fun _ _ _ _ _ => (pts_one (pt_not (pt_val (pe_meth (pv 0) T.cl_Sheet T.m_Sheet_outdoes G_Sheet_outdoes (hr.mono (by omega)) T.b_Sheet_outdoes .nil pass0 (pa_cons (pv 7) (pa_cons (pv 12) pa_nil))))))) (fun _ _ _ _ _ => (pv 12)))
      (pss_one (ps_ret (pe_call G_shown (hr.mono (by omega)) (by rfl) T.g_shown T.F_shown.kp T.b_shown .nil pass0 (pa_cons (pv 0) (pa_cons (pv 1) (pa_cons (pv 2) (pa_cons (pv 9) (pa_cons (pv 4) (pa_cons (pv 11) pa_nil)))))))))))))))), ?_⟩
    have short : ∀ {o : List Nat}, o ∈ listsM cols cols.length → o.length ≤ 1000 := fun h => by
      have := (lists_mem.mp h).2.1
      omega
    -- over
    refine ⟨v, rfl, (by show 1 ≤ sizeLine; decide), fun n1 nn1 => ?_⟩
    have sm1 := Same.new (o := .tup [.str ("over" : Str)]) (Same.refl H) nn1
    refine ⟨d, wOver, (fv.same sm1).to, .tup (.inl (.inl upd_same)) (.cons (.str _) .nil), cd, (by decide +kernel), (by decide +kernel), _, rfl, ite2 (fun e => ?_) (fun e1 => ?_)⟩
    · have ed : d = wOver := eqv_word e
      refine ⟨_, rfl, .ref ia, rfl, room, ia, ins, rfl, tg.same sm1, sm1 _ _ hia, by omega, (fun o ho => short (hin o ho)), fun H' sx tg' => ⟨_, _, rfl, rfl, ?_⟩⟩
      have := q H' ((Same.sx sm1).trans sx) tg'
      rw [ed, goD_over] at this
      have e2 : decide (room < lettersM ins) = decide ((room : Int) - (lettersM ins : Int) < 0) := decide_eq_decide.mpr (by omega)
      rw [e2] at this
      exact this
    have nd1 : d ≠ wOver := fun z => e1 (by rw [z]; exact eqv_word_self _)
    generalize upd H n1 (.tup [.str ("over" : Str)]) = H1 at sm1 ⊢
    -- dear
    refine ⟨v, rfl, (by show 1 ≤ sizeLine; decide), fun n2 nn2 => ?_⟩
    have sm2 := Same.new (o := .tup [.str ("dear" : Str)]) sm1 nn2
    refine ⟨d, wDear, (fv.same sm2).to, .tup (.inl (.inl upd_same)) (.cons (.str _) .nil), cd, (by decide +kernel), (by decide +kernel), _, rfl, ite2 (fun e => ?_) (fun e2 => ?_)⟩
    · have ed : d = wDear := eqv_word e
      refine ⟨.ref p, rfl, .int room, rfl, .ref ia, rfl, .ref fa, rfl, p, ia, fa, room, cols, rows, as, chg, ins, free, rfl, tg.same sm2, hS.ext (fun b o h _ => sm2 b o h), sm2 _ _ hia, hin, by omega, sm2 _ _ hfa, hfr, by omega, hcn, has, hrn, hg0, hg1, fun H' sx tg' => ⟨_, rfl, _, _, rfl, rfl, ?_⟩⟩
      have := q H' ((Same.sx sm2).trans sx) tg'
      rw [ed, goD_dear] at this
      exact this
    have nd2 : d ≠ wDear := fun z => e2 (by rw [z]; exact eqv_word_self _)
    generalize upd H1 n2 (.tup [.str ("dear" : Str)]) = H2 at sm2 ⊢
    -- a knot
    refine ⟨.ref fa, rfl, v, rfl, fa, free, v, d, rfl, sm2 _ _ hfa, fv.same sm2, cd, fun H3 sm3 => ⟨_, rfl, ?_⟩⟩
    have smA := Same.trans sm2 sm3
    cases hf : forkD free d with
    | false =>
      have := q H3 (Same.sx smA) (tg.same smA)
      rw [goD_else nd1 nd2 hf] at this
      exact this
    | true =>
      obtain ⟨os, da, db, rfl, om⟩ := forkD_true hf
      have eo : V.str os = tx os.cps.toList := congrArg V.str (by simp)
      rw [goD_fork] at q
      generalize hone : os.cps.toList = one at om eo q
      obtain ⟨a, xs, rfl, ha, fall⟩ := (fv.same smA).open
      obtain ⟨x1, x2, x3, x4, rfl, f1, f2, f3, f4⟩ := fall.four
      obtain rfl : x2 = V.str os := by cases f2; rfl
      rw [eo] at ha
      have cdx : da.canLay0 = true ∧ db.canLay0 = true := by
        have h : ((PyData.str ("list" : Str)).canLay0 && ((PyData.str os).canLay0 && (da.canLay0 && (db.canLay0 && true)))) = true := cd
        simp only [Bool.and_eq_true] at h
        exact ⟨h.2.2.1, h.2.2.2.1⟩
      have ddx : max 0 (max 0 (max da.depth (max db.depth 0))) + 1 ≤ n := dd
      match n, ddx, hil, G_shown with
      | 0, ddx, _, _ => exact absurd ddx (by omega)
      | n' + 1, ddx, hil, G_shown =>
      have tgA := tg.same smA
      have hSA := hS.ext fun b o h (_ : ∀ q, o ≠ .tbl q) => smA b o h
      have hiaA := smA _ _ hia
      have hfaA := smA _ _ hfa
      refine ⟨.ref a, rfl, a, [x1, tx one, x3, x4], rfl, .inl (.inl ha), rfl, x1, [tx one, x3, x4], rfl, tx one, [x3, x4], rfl, x3, [x4], rfl, x4, [], rfl, rfl, ?_⟩
      -- the rest
      refine ⟨.ref fa, rfl, fa, rfl, ⟨_, .inl (.inl hfaA)⟩, fun R nR => lc_it (walk_list (xs := free.map tx)) (fun j H' => Same H3 H' ∧ H' R = some (.lst (((free.take j).filter fun o => decide (o ≠ one)).map tx)))
        ⟨Same.new (Same.refl H3) nR, upd_same⟩ (fun j H' _ hP => .inl (.inl (hP.1 _ _ hfaA))) (fun j x H7 H6 hj hP hY => ?_) (fun H6 hP => ?_)⟩
      · obtain ⟨sm6, hR6⟩ := hP
        obtain ⟨rfl, hx⟩ := hY
        rw [List.getElem?_map] at hx
        obtain ⟨o, ho, rfl⟩ := Option.map_eq_some_iff.mp hx
        have fs := filter_snoc (fun o : List Nat => decide (o ≠ one)) free j o ho
        refine ⟨rfl, tx o, rfl, tx one, rfl, rfl, _, rfl, ite2 (fun e => ?_) (fun e => ?_)⟩
        · have ne : o ≠ one := fun z => by
            rw [z] at e
            simp at e
          refine ⟨tx o, rfl, _, hR6, ?_, Same.mut sm6 nR, ?_⟩
          · rw [List.length_map]
            have := List.length_filter_le (fun o : List Nat => decide (o ≠ one)) (free.take j)
            rw [List.length_take] at this
            exact small1000 (by omega)
          · rw [upd_same, fs, if_pos (decide_eq_true ne), List.map_append]
            rfl
        · have eq : o = one := by
            have e' : ¬ (!decide (tx o = tx one)) = true := e
            by_cases z : o = one
            · exact z
            · exfalso
              refine e' ?_
              rw [decide_eq_false fun y => z (tx_inj y)]
              rfl
          refine ⟨sm6, ?_⟩
          rw [fs, if_neg (by rw [decide_eq_true_eq]; exact fun y => y eq), List.append_nil]
          exact hR6
      obtain ⟨sm6, hR6⟩ := hP
      rw [List.length_map, List.take_of_length_le (Nat.le_refl _)] at hR6
      have rl : (free.filter fun o => decide (o ≠ one)).length ≤ free.length := List.length_filter_le _ _
      have rsub : ∀ o ∈ free.filter (fun o => decide (o ≠ one)), o ∈ listsM cols cols.length := fun o ho => hfr o (List.mem_filter.mp ho).1
      generalize hrest : (free.filter fun o => decide (o ≠ one)) = rest at hR6 rl rsub q
      have smB := Same.trans smA sm6
      have hia6 := smB _ _ hia
      -- with it
      refine ⟨.ref p, rfl, .int room, rfl, .int num, rfl, x3, rfl, .ref ia, rfl, ia, ins.map tx, rfl, .inl (.inl (.inl hia6)), tx one, rfl, ?_, fun u nu => ?_⟩
      · rw [List.length_append, List.length_map]
        exact Nat.le_of_lt (small1000 (show ins.length + 1 ≤ 1000 by omega))
      have smC := Same.new (o := .tup (ins.map tx ++ [tx one])) smB nu
      have sm36 := Same.new (o := .tup (ins.map tx ++ [tx one])) sm6 nu
      have hu7 : (upd H6 u (.tup (ins.map tx ++ [tx one]))) u = some (.tup ((ins ++ [one]).map tx)) := by rw [upd_same, List.map_append]; rfl
      have hR7 := keep_new (o := .tup (ins.map tx ++ [tx one])) hR6 nu
      generalize upd H6 u (.tup (ins.map tx ++ [tx one])) = H7 at smC sm36 hu7 hR7 ⊢
      have hSC := hS.ext fun b o h (_ : ∀ q, o ≠ .tbl q) => smC b o h
      have tgC := tg.same smC
      refine ⟨.ref R, rfl, p, u, R, x3, room, num, cols, rows, as, chg, ins ++ [one], rest, da, rfl, tgC, hSC, hu7, (fun o ho => (List.mem_append.mp ho).elim (hin o) fun z => by rw [List.mem_singleton.mp z]; exact hfr one om), by rw [List.length_append, List.length_singleton]; omega, hR7, rsub, by omega, f3.same sm36, cdx.1, by omega, hcn, has, hrn, hg0, hg1, fun H8 sx8 tg8 => ?_⟩
      have sx08 : Sx Z.Ps H H8 := (Same.sx smC).trans sx8
      cases g1 : goD cols rows as chg room num da (ins ++ [one]) rest with
      | false =>
        refine ⟨_, rfl, ?_⟩
        have := q H8 sx08 tg8
        rw [g1, decide_eq_true om] at this
        exact this
      | true =>
      refine ⟨_, rfl, ?_⟩
      have hR8 := sx8.lst tgC hR7
      -- what it doesn't outdo
      refine ⟨.ref R, rfl, R, rfl, ⟨_, .inl (.inl hR8)⟩, fun D nD => lc_it (walk_list (xs := rest.map tx)) (fun j H' => Sx Z.Ps H8 H' ∧ TG Z.Ps H' ∧ H' D = some (.lst (((rest.take j).filter fun o => !outB cols rows as one o).map tx)))
        ⟨Sx.new Sx.rfl' nD, tg8.new nD, upd_same⟩ (fun j H' _ hP => .inl (.inl (hP.1.lst tg8 hR8))) (fun j x HA H9 hj hP hY => ?_) (fun H9 hP => ?_)⟩
      · obtain ⟨sx9, tg9, hD9⟩ := hP
        obtain ⟨rfl, hx⟩ := hY
        rw [List.getElem?_map] at hx
        obtain ⟨o, ho, rfl⟩ := Option.map_eq_some_iff.mp hx
        have fs := filter_snoc (fun o : List Nat => !outB cols rows as one o) rest j o ho
        have hS9 := hS.ext ((sx08.trans sx9).ext tg)
        obtain ⟨dx9, l9, oo9, bb9, qd9, ds9, hp9, more9⟩ := id hS9
        refine ⟨rfl, .ref p, rfl, p, dx9, _, rfl, hp9, shF5_no_outdoes _ _ _ _ _, tx one, rfl, tx o, rfl, p, cols, rows, as, chg, one, o, rfl, tg9, hS9, hfr one om, rsub o (List.mem_of_getElem? ho), hcn, fun HB sxB tgB => ⟨_, rfl, ?_⟩⟩
        have hDB := sxB.lst tg9 hD9
        cases ob : outB cols rows as one o with
        | true =>
          refine ⟨sx9.trans sxB, tgB, ?_⟩
          rw [fs, ob]
          simpa using hDB
        | false =>
          refine ⟨tx o, rfl, _, hDB, ?_, Sx.mut (sx9.trans sxB) nD, tgB.mut hDB, ?_⟩
          · rw [List.length_map]
            have := List.length_filter_le (fun o : List Nat => !outB cols rows as one o) (rest.take j)
            rw [List.length_take] at this
            exact small1000 (by omega)
          · rw [upd_same, fs, ob, List.map_append]
            rfl
      obtain ⟨sx9, tg9, hD9⟩ := hP
      rw [List.length_map, List.take_of_length_le (Nat.le_refl _)] at hD9
      have sx09 := sx08.trans sx9
      -- without it
      refine ⟨.ref p, rfl, .int room, rfl, .int num, rfl, x4, rfl, .ref ia, rfl, .ref D, rfl, p, ia, D, x4, room, num, cols, rows, as, chg, ins, rest.filter (fun o => !outB cols rows as one o), db, rfl, tg9, hS.ext (sx09.ext tg), (sx09.kt tg) _ _ hia, hin, by omega, hD9, (fun o ho => rsub o (List.mem_filter.mp ho).1), Nat.le_trans (List.length_filter_le _ _) (by omega), (f4.same sm36).sx tgC (sx8.trans sx9), cdx.2, by omega, hcn, has, hrn, hg0, hg1, fun HE sxE tgE => ?_⟩
      have := q HE (sx09.trans sxE) tgE
      rw [g1, decide_eq_true om, Bool.true_and, Bool.true_and] at this
      exact this
theorem ok_shown (T : Tx K mg Z) (TB : Tb base mg Z) : ∀ n : Nat, FnOk P w K mg base CX0 (n + 8) Z.f_shown Z.d_shown ["sheet", "room", "number", "thing", "inside", "free"] (spShown K Z n)
  | 0 => ok_shown1 T TB 0 ⟨fun _ _ _ _ h => h.elim, fun _ _ _ _ _ _ _ _ _ _ _ _ _ h => h.elim⟩
  | n + 1 => ok_shown1 T TB (n + 1) (ok_shown T TB n)
def spShows (K : PySem.W.Frag) (Z : Ad) : Sp := fun vs H Q _ => ∃ (wv v : V) (room : Nat) (num : Int) (cols : List Nat) (rows : List (List Int)) (as : List Ask) (chg : Int) (d : PyData), vs = [wv, .int room, .int num, v] ∧ TG Z.Ps H ∧ WorkZ H wv cols rows as chg ∧ RowsOk cols.length rows ∧ rows.length ≤ 100 ∧ cols.Nodup ∧ cols.length ≤ 4 ∧ AsksOk cols as ∧ 0 ≤ chg ∧ chg ≤ 1000000 ∧ Ft H v d ∧ d.canLay0 = true ∧ d.depth ≤ 70 ∧
  ∀ H' : Hp, Sx Z.Ps H H' → TG Z.Ps H' → Q (.bl (goD cols rows as chg room num d [] (listsM cols cols.length))) H'
theorem ok_shows (T : Tx K mg Z) (TB : Tb base mg Z) : FnOk P w K mg base CX0 80 Z.f_shows Z.d_shows ["work", "room", "number", "thing"] (spShows K Z) := by
  have G_Sheet___init__ : FnOk P w K mg base CX0 6 Z.f_Sheet___init__ Z.d_Sheet___init__ ["self", "work"] (spSheetInit K Z) := ok_sheetinit T TB
  have G_shown : FnOk P w K mg base CX0 78 Z.f_shown Z.d_shown ["sheet", "room", "number", "thing", "inside", "free"] (spShown K Z 70) := ok_shown T TB 70
  refine T.F_shows.ok sc_shows (fun vs H Q E h => ?_) (fun cdv A outer s H vs Q E hr h => ?_)
  · obtain ⟨wv, v, room, num, cols, rows, as, chg, d, rfl, _⟩ := h
    rfl
  · obtain ⟨wv, v, room, num, cols, rows, as, chg, d, rfl, tg, fw, hrs, hrn, hcd, hc4, has, hg0, hg1, fv, cd, dd, q⟩ := h
    refine ⟨_, (pss_cons (ps_set (i := 4) sc_shows.nd rfl (.inl rfl) (pe_make T.mk_Sheet G_Sheet___init__ (hr.mono (by omega)) (by rfl) T.g_Sheet T.b_Sheet___init__ .nil pass0 (pa_cons (pv 0) pa_nil)))
      (pss_one (ps_ret (pe_call G_shown (hr.mono (by omega)) (by rfl) T.g_shown T.F_shown.kp T.b_shown .nil pass0 (pa_cons (pv 4) (pa_cons (pv 1) (pa_cons (pv 2) (pa_cons (pv 3) (pa_cons (pe_tup pa_nil) (pa_cons (fldK K (pv 4) rfl) pa_nil)))))))))), ?_⟩
    have hcn : cols.length ≤ 6 := by omega
    refine ⟨wv, rfl, fun p dx0 np ndx nex => ?_⟩
    have sm1 : Same H (upd (upd H dx0 (.own p)) p (.ins Z.C_Sheet dx0 [])) := fun b o e => by
      rw [upd_ne (ne_of_none e np), upd_ne (ne_of_none e ndx)]
      exact e
    have hp1 : (upd (upd H dx0 (.own p)) p (.ins Z.C_Sheet dx0 [])) p = some (.ins Z.C_Sheet dx0 []) := upd_same
    generalize upd (upd H dx0 (.own p)) p (.ins Z.C_Sheet dx0 []) = H1 at sm1 hp1 ⊢
    refine ⟨p, dx0, wv, cols, rows, as, chg, rfl, hp1, tg.same sm1, fw.kT (Same.kT sm1), hrs, hrn, hcn, has, fun H2 sx2 tg2 hS2 => ⟨rfl, ?_⟩⟩
    have sxH2 : Sx Z.Ps H H2 := fun b o n e => sx2 b o (fun z => (List.mem_cons.mp z).elim (ne_of_none e np) n) (sm1 b o e)
    obtain ⟨dx, l, oo, bb, qd, ds, hp2, hl2, more2⟩ := id hS2
    refine ⟨.ref p, rfl, .int room, rfl, .int num, rfl, v, rfl, (by show 0 ≤ sizeLine; decide), fun e0 ne0 => ?_⟩
    have sm3 := Same.new (o := .tup []) (Same.refl H2) ne0
    have lf := lists_four hcd hc4
    refine ⟨.ref p, rfl, p, Z.C_Sheet, dx, _, _, rfl, sm3 _ _ hp2, T.cl_Sheet, T.n_Sheet_lists, shF5_lists _ _ _ _ _, ?_⟩
    refine ⟨p, e0, l, v, room, num, cols, rows, as, chg, [], listsM cols cols.length, d, rfl, tg2.same sm3, hS2.ext (fun b o h _ => sm3 b o h), upd_same, (fun o h => nomatch h), by simp, sm3 _ _ hl2, (fun o h => h), by omega, (fv.sx tg sxH2).same sm3, cd, dd, hcn, has, hrn, hg0, hg1, fun H4 sx4 tg4 => ?_⟩
    exact q H4 ((sxH2.trans (Same.sx sm3)).trans sx4) tg4

/-! ### _law_by, _law_least, _law_outdone, _law_floor -/
theorem tx_len (o : List Nat) : (⟨o.toArray⟩ : Str).length = o.length := by
  show o.toArray.size = _
  simp
theorem putK_vals {p : V → Prop} {k : Key} {v : V} : ∀ {kvs : List (Key × V)}, (∀ kv ∈ kvs, p kv.2) → p v → ∀ kv ∈ putK kvs k v, p kv.2 := by
  intro kvs h hv kv hk
  rcases putK_mem hk with e | e
  · rw [e]
    exact hv
  · exact h kv e.1
def spLby (K : PySem.W.Frag) : Sp := fun vs H Q _ => ∃ (wv : V) (cols : List Nat) (rows : List (List Int)) (as : List Ask) (chg : Int), vs = [wv] ∧ WorkZ H wv cols rows as chg ∧ RowsOk cols.length rows ∧ rows.length ≤ 100 ∧ cols.Nodup ∧ cols.length ≤ 4 ∧ AsksOk cols as ∧
  ∀ (ba : Addr) (kvs : List (Key × V)) (H' : Hp), Same H H' → H ba = none → H' ba = some (.dK kvs) → ByL cols rows as H' kvs → (∀ kv ∈ kvs, ∃ pa, kv.2 = V.ref pa ∧ H pa = none) → Q (.ref ba) H'
theorem ok_lby (T : Tx K mg Z) : FnOk P w K mg base CX0 4 Z.f_l_by Z.d_l_by ["work"] (spLby K) := by
  have G_l_lists : FnOk P w K mg base CX0 1 Z.f_l_lists Z.d_l_lists ["columns"] (spLlists K) := ok_llists T
  have G_l_price_by : FnOk P w K mg base CX0 3 Z.f_l_price_by Z.d_l_price_by ["table", "one", "question"] (spLpriceBy K) := ok_lpriceby T
  refine T.F_l_by.ok sc_l_by (fun vs H Q E h => ?_) (fun cdv A outer s H vs Q E hr h => ?_)
  · obtain ⟨wv, cols, rows, as, chg, rfl, _⟩ := h
    rfl
  · obtain ⟨wv, cols, rows, as, chg, rfl, fw, hrs, hrn, hcd, hc4, has, q⟩ := h
    obtain ⟨wa, tv, aa, us, rfl, hwa, fT, haa, fas⟩ := id fw
    obtain ⟨t, R, vs, rfl, ht, hRR, fvs⟩ := tab_open fT
    refine ⟨_, (pss_cons (ps_set (i := 1) sc_l_by.nd rfl (.inl rfl) pe_dnewK)
      (pss_cons (ps_for PassesOwn.never rfl (piL K (pe_call G_l_lists (hr.mono (by omega)) (by rfl) T.g_l_lists T.F_l_lists.kp T.b_l_lists .nil pass0 (pa_cons (pe_ix (ixT K) (pe_ix (ixT K) (pv 0) pe_int (fun _ _ => rfl)) pe_int (fun _ _ => rfl)) pa_nil))) (pg_name (i := 2) sc_l_by.nd rfl (.inr rfl)) (pss_one (ps_dput (hu_of hr) (pv 1) (pv 2) (pe_lc (own := [("question", 3), ("often", 4)]) (tt := tYes) (by rfl) sc_l_by.nd (piT K (pe_ix (ixT K) (pv 0) pe_int (fun _ _ => rfl))) (blkOk_by (own := [("question", 3), ("often", 4)]) (by kernel_rfl)) (fun _ _ _ _ _ => (pgT K (n := 2) (pgs_cons (pg_name (i := 3) sc_l_by.nd rfl (.inl rfl)) (pgs_cons (pg_name (i := 4) sc_l_by.nd rfl (.inl rfl)) pgs_nil)))) (fun _ _ _ _ _ => pts_nil) (fun _ _ _ _ _ => (pe_call G_l_price_by (hr.mono (by omega)) (by rfl) T.g_l_price_by T.F_l_price_by.kp T.b_l_price_by .nil pass0 (pa_cons (pe_ix (ixT K) (pv 0) pe_int (fun _ _ => rfl)) (pa_cons (pv 2) (pa_cons (pv 3) pa_nil)))))) rfl)))
      (pss_one (ps_ret (pv 1))))), ?_⟩
    have line : (4665600 : Nat) < sizeLine := by rw [sizeLine_eq]; decide
    have hul := fas.len
    have hal := has.len
    have lf := lists_four hcd hc4
    have lnd := lists_nodup hcd cols.length
    refine fun ba nba => ?_
    have sm1 := Same.new (o := .dK []) (Same.refl H) nba
    have hba1 : (upd H ba (.dK [])) ba = some (.dK []) := upd_same
    generalize upd H ba (.dK []) = H1 at sm1 hba1 ⊢
    refine ⟨.ref wa, rfl, wa, [.ref t, .ref aa, .int chg], 0, .ref t, rfl, rfl, .inl (.inl (sm1 _ _ hwa)), rfl, t, [tx cols, .ref R], 0, tx cols, rfl, rfl, .inl (.inl (sm1 _ _ ht)), rfl, cols, rfl, by omega, fun l H2 sm2 nl hl => ?_⟩
    have hba2 := sm2 _ _ hba1
    have lb : l ≠ ba := fun z => by rw [z, hba1] at nl; cases nl
    refine ⟨l, rfl, ⟨_, .inl (.inl hl)⟩, for_it (walk_list (xs := (listsM cols cols.length).map tx)) (fun j σ H' => ∃ (y2 : Option V) (kvs : List (Key × V)), σ = [some (.ref wa), some (.ref ba), y2, none, none] ∧ Kp ba H2 H' ∧ H' ba = some (.dK kvs) ∧ ByQ cols rows as ((listsM cols cols.length).take j) H' kvs ∧ ∀ kv ∈ kvs, ∃ pa, kv.2 = V.ref pa ∧ H pa = none)
      ⟨none, [], rfl, Kp.rfl', hba2, .nil, fun _ h => nomatch h⟩ (fun j σ H' _ hP => ?_) (fun j x σ H8 H7 hj hP hY => ?_) (fun σ H7 hP => ?_)⟩
    · obtain ⟨_, _, _, kp, _⟩ := hP
      exact .inl (.inl (kp _ _ lb hl))
    · obtain ⟨y2, kvs, rfl, kp7, hba7, hby, hfr⟩ := hP
      obtain ⟨rfl, hx⟩ := hY
      rw [List.getElem?_map] at hx
      obtain ⟨o, ho, rfl⟩ := Option.map_eq_some_iff.mp hx
      obtain ⟨hjo, hoe⟩ := List.getElem?_eq_some_iff.mp ho
      obtain ⟨one, ole, ond, osub⟩ := lists_mem.mp (List.mem_of_getElem? ho)
      have kt7 : KT H H7 := (Same.kT (Same.trans sm1 sm2)).trans ⟨fun b xs e => kp7 _ _ (fun z => by rw [z, hba2] at e; cases e) e, fun b o xs e => kp7 _ _ (fun z => by rw [z, hba2] at e; cases e) e⟩
      refine ⟨.ref wa, rfl, wa, [.ref t, .ref aa, .int chg], 1, .ref aa, rfl, rfl, .inl (.inl (kt7.1 _ _ hwa)), rfl, aa, rfl, ⟨us, .inl (.inl (kt7.1 _ _ haa))⟩, fun D nD => lc_it (walk_tup (xs := us)) (fun q H' => Same H7 H' ∧ H' D = some (.lst (((as.take q).map fun a => priceM cols rows o a.es a.rc).map V.int)))
        ⟨Same.new (Same.refl H7) nD, upd_same⟩ (fun q H' _ hP => .inl (.inl (hP.1 _ _ (kt7.1 _ _ haa)))) (fun q x H10 H9 hq hP hY => ?_) (fun H9 hP => ?_)⟩
      · obtain ⟨sm9, hD9⟩ := hP
        obtain ⟨rfl, hx⟩ := hY
        have kt9 := kt7.trans (Same.kT sm9)
        obtain ⟨k, hk, fa⟩ := (fas.kT kt9).get hx
        obtain ⟨w1, qv, rfl, hw1, fq⟩ := fa
        obtain ⟨hka, hke⟩ := List.getElem?_eq_some_iff.mp hk
        have kok := has.ok k (List.mem_of_getElem? hk)
        refine ⟨w1, [qv, .int k.often], rfl, .inl (.inl hw1), rfl, qv, [.int k.often], rfl, .int k.often, [], rfl, rfl, rfl, ?_⟩
        refine ⟨.ref wa, rfl, wa, [.ref t, .ref aa, .int chg], 0, .ref t, rfl, rfl, .inl (.inl (kt9.1 _ _ hwa)), rfl, tx o, rfl, qv, rfl, .ref t, cols, rows, o, qv, k.es, k.rc, rfl, fT.kt kt9.1, hrs, by omega, by omega, osub, fq, kok.1, by have := kok.1.len; omega, fun H11 sm11 => ?_⟩
        refine ⟨_, sm11 _ _ hD9, ?_, Same.mut (Same.trans sm9 sm11) nD, ?_⟩
        · rw [List.length_map, List.length_map, List.length_take]
          exact small1000 (by omega)
        · rw [upd_same, List.take_succ_eq_append_getElem hka, hke, List.map_append, List.map_append]
          rfl
      · obtain ⟨sm9, hD9⟩ := hP
        rw [hul, List.take_of_length_le (Nat.le_refl _)] at hD9
        have no : o ∉ (listsM cols cols.length).take j := fun z => by
          obtain ⟨q, hq, eq⟩ := List.getElem_of_mem z
          rw [List.length_take] at hq
          rw [List.getElem_take] at eq
          exact List.pairwise_iff_getElem.mp lnd q j (by omega) hjo (by omega) (eq.trans hoe.symm)
        have hba9 := sm9 _ _ hba7
        have kl := hby.len
        rw [List.length_take] at kl
        refine ⟨.ref ba, rfl, tx o, rfl, ba, _, rfl, DPut.k (k := Sum.inr (txS o)) hba9 (by omega), _, _, rfl, Kp.own (kp7.trans (Same.kp sm9)), upd_same, ?_, putK_vals (p := fun x => ∃ pa, x = V.ref pa ∧ H pa = none) hfr ⟨D, rfl, ?_⟩⟩
        rotate_left 1
        · cases eD : H D with
          | none => rfl
          | some o =>
            have := kp7 _ _ (ne_of_none eD nba) (sm2 _ _ (sm1 _ _ eD))
            rw [this] at nD
            cases nD
        rw [List.take_succ_eq_append_getElem hjo, hoe]
        exact ((hby.kept fun b xs e => sm9 _ _ e).put no hD9).kept fun b xs e => keep_ne e fun z => by
          rw [z, hba9] at e
          cases e
    · obtain ⟨y2, kvs, rfl, kp7, hba7, hby, hfr⟩ := hP
      rw [List.length_map, List.take_of_length_le (Nat.le_refl _)] at hby
      exact ⟨_, rfl, q ba kvs H7 (fun b o e => kp7 _ _ (ne_of_none e nba) (sm2 _ _ (sm1 _ _ e))) nba hba7 hby.all hfr⟩
def spLleast (K : PySem.W.Frag) : Sp := fun vs H Q _ => ∃ (wv : V) (ba na : Addr) (cols : List Nat) (rows : List (List Int)) (as : List Ask) (chg : Int) (kvs : List (Key × V)) (ch : List (List Nat)), vs = [wv, .ref na, .ref ba] ∧ WorkZ H wv cols rows as chg ∧ rows.length ≤ 100 ∧ AsksOk cols as ∧ Rd H ba (.dK kvs) ∧ ByL cols rows as H kvs ∧ SqA K H na (ch.map tx) ∧ (∀ o ∈ ch, o ∈ listsM cols cols.length) ∧ ch.length ≤ 900 ∧
  ∀ H' : Hp, Same H H' → Q (.int (askedM cols rows ch as)) H'
theorem ok_lleast (T : Tx K mg Z) : FnOk P w K mg base CX0 1 Z.f_l_least Z.d_l_least ["work", "choice", "by"] (spLleast K) := by
  refine T.F_l_least.ok sc_l_least (fun vs H Q E h => ?_) (fun cdv A outer s H vs Q E hr h => ?_)
  · obtain ⟨wv, ba, na, cols, rows, as, chg, kvs, ch, rfl, _⟩ := h
    rfl
  · obtain ⟨wv, ba, na, cols, rows, as, chg, kvs, ch, rfl, fw, hrn, has, hba, hby, hna, hch, hcl, q⟩ := h
    obtain ⟨wa, tv, aa, us, rfl, hwa, fT, haa, fas⟩ := fw
    obtain ⟨t, R, vs, rfl, ht, hRR, fvs⟩ := tab_open fT
    have hvl : vs.length = rows.length := by rw [fvs.len, List.length_map]
    have hul := fas.len
    have hal := has.len
    refine ⟨_, (pss_cons (ps_set (i := 3) sc_l_least.nd rfl (.inl rfl) pe_int)
      (pss_cons (ps_for PassesOwn.never rfl (enumTK K (by rfl) T.m_enumerate (pa_cons (pe_ix (ixT K) (pv 0) pe_int (fun _ _ => rfl)) pa_nil)) (pgT K (n := 2) (pgs_cons (pg_name (i := 4) sc_l_least.nd rfl (.inr rfl)) (pgs_cons (pgT K (n := 2) (pgs_cons (pg_name (i := 5) sc_l_least.nd rfl (.inl rfl)) (pgs_cons (pg_name (i := 6) sc_l_least.nd rfl (.inl rfl)) pgs_nil))) pgs_nil))) (pss_one (ps_set (i := 3) sc_l_least.nd rfl (.inl rfl) (pe_op op_add (pv 3) (pe_op op_mul (pv 6) (pe_callB (minK K) (by rfl) T.m_min (by decide +kernel) (pa_cons (pe_op op_cat (pe_lst (pa_cons (pe_callB (cLenSq K) (by rfl) T.m_len (by decide +kernel) (pa_cons (pe_ix (ixT K) (pe_ix (ixT K) (pv 0) pe_int (fun _ _ => rfl)) pe_int (fun _ _ => rfl)) pa_nil)) pa_nil)) (pe_lc (own := [("one", 7)]) (tt := tYes) (by rfl) sc_l_least.nd (pi_seq K (pv 1)) (blkOk_by (own := [("one", 7)]) (by kernel_rfl)) (fun _ _ _ _ _ => (pg_name (i := 7) sc_l_least.nd rfl (.inl rfl))) (fun _ _ _ _ _ => pts_nil) (fun _ _ _ _ _ => (pe_ix (ixL K) (pe_dget (hu_of hr) (pv 2) (pv 7) (fun _ _ => rfl)) (pv 4) (fun _ _ => rfl))))) pa_nil)))))))
      (pss_one (ps_ret (pv 3))))), ?_⟩
    refine ⟨.ref wa, rfl, wa, [.ref t, .ref aa, .int chg], 1, .ref aa, rfl, rfl, .inl (.inl hwa), rfl, aa, us, rfl, .inl (.inl haa), for_it (walk_et (xs := us)) (fun i σ H' => ∃ y4 y5 y6 : Option V, σ = [some (.ref wa), some (.ref na), some (.ref ba), some (.int ((as.take i).map fun a => a.often * priceOfM cols rows ch a.es a.rc).sum), y4, y5, y6, none] ∧ Same H H')
      ⟨none, none, none, rfl, Same.refl H⟩ (fun i σ H' _ hP => ?_) (fun i x σ H3 H4 hi hP hY => ?_) (fun σ H3 hP => ?_)⟩
    · obtain ⟨_, _, _, _, sm⟩ := hP
      exact .inl (.inl (sm _ _ haa))
    · obtain ⟨y4, y5, y6, rfl, sm3⟩ := hP
      obtain ⟨T3, x1, x2, rfl, nT, rfl, hx1, hx2⟩ := hY
      obtain rfl : V.int (i : Nat) = x1 := Option.some.inj hx1
      have sm4 : Same H (upd H3 T3 (.tup [.int (i : Nat), x2])) := Same.new sm3 nT
      have hT4 : (upd H3 T3 (.tup [V.int (i : Nat), x2])) T3 = some (.tup [.int (i : Nat), x2]) := upd_same
      generalize upd H3 T3 (.tup [V.int (i : Nat), x2]) = H4 at sm4 hT4 ⊢
      obtain ⟨a, ha, fa⟩ := (fas.kT (Same.kT sm4)).get hx2
      obtain ⟨w1, qv, rfl, hw1, fq⟩ := fa
      obtain ⟨hia, hae⟩ := List.getElem?_eq_some_iff.mp ha
      have haok := has.ok a (List.mem_of_getElem? ha)
      have ho1 := haok.2.1
      have ho2 := haok.2.2
      refine ⟨T3, [.int (i : Nat), .ref w1], rfl, .inl (.inl hT4), rfl, .int (i : Nat), [.ref w1], rfl, .ref w1, [], rfl, w1, [qv, .int a.often], rfl, .inl (.inl hw1), rfl, qv, [.int a.often], rfl, .int a.often, [], rfl, rfl, rfl, ?_⟩
      refine ⟨_, rfl, .int a.often, rfl, .ref wa, rfl, wa, [.ref t, .ref aa, .int chg], 0, .ref t, rfl, rfl, .inl (.inl (sm4 _ _ hwa)), rfl, t, [tx cols, .ref R], 1, .ref R, rfl, rfl, .inl (.inl (sm4 _ _ ht)), rfl, R, vs, rfl, .inr (.inl (.inl (sm4 _ _ hRR))), ?_⟩
      rw [hvl]
      refine ⟨(by show 1 ≤ sizeLine; decide), fun L nL => ?_⟩
      have sm5 : Same H (upd H4 L (.lst [V.int rows.length])) := Same.new sm4 nL
      have hL5 : (upd H4 L (.lst [V.int rows.length])) L = some (.lst [V.int rows.length]) := upd_same
      generalize upd H4 L (.lst [V.int rows.length]) = H5 at sm5 hL5 ⊢
      refine ⟨.ref na, rfl, na, ch.map tx, rfl, hna.same sm5, fun J G w hG D nD => lc_it w (fun j H' => Same H5 H' ∧ H' D = some (.lst (((ch.take j).map fun o => priceM cols rows o a.es a.rc).map V.int)))
        ⟨Same.new (Same.refl H5) nD, upd_same⟩ (fun j H' _ hP => hG H' hP.1) (fun j x H6 H7 hj hP hY => ?_) (fun H6 hP => ?_)⟩
      · obtain ⟨sm6, hD6⟩ := hP
        obtain ⟨rfl, hx⟩ := hY
        rw [List.getElem?_map] at hx
        obtain ⟨one, hone, rfl⟩ := Option.map_eq_some_iff.mp hx
        obtain ⟨hjo, hoe⟩ := List.getElem?_eq_some_iff.mp hone
        obtain ⟨pa, hv, hpa⟩ := hby.vals one (hch one (List.mem_of_getElem? hone))
        have sm7 := Same.trans sm5 sm6
        refine ⟨rfl, .ref ba, rfl, tx one, rfl, ba, .ref pa, rfl, .inl ⟨kvs, Sum.inr (txS one), Rd.same hba sm7, rfl, hv.symm⟩, .int (i : Nat), rfl, pa, _, _, .int (priceM cols rows one a.es a.rc), rfl, rfl, .inl (.inl (sm7 _ _ hpa)), atI_nat (by rw [List.getElem?_map, List.getElem?_map, ha]; rfl), _, hD6, small1000 ?_, Same.mut sm6 nD, ?_⟩
        · rw [List.length_map, List.length_map, List.length_take]
          omega
        · rw [upd_same, List.take_succ_eq_append_getElem hjo, hoe, List.map_append, List.map_append]
          rfl
      · obtain ⟨sm6, hD6⟩ := hP
        rw [List.length_map, List.take_of_length_le (Nat.le_refl _)] at hD6
        have hL6 := sm6 _ _ hL5
        refine ⟨L, D, _, _, rfl, rfl, hL6, hD6, ?_, fun M nM => ?_⟩
        · rw [List.length_map, List.length_map, List.length_singleton]
          exact Nat.le_of_lt (small1000 (by omega))
        · refine ⟨M, (rows.length : Int), ch.map fun o => priceM cols rows o a.es a.rc, rfl, .inl (.inl upd_same), ?_⟩
          obtain ⟨p1, p2⟩ := price_bound (cols := cols) (ch := ch) (es := a.es) (rc := a.rc) hrn
          refine ⟨a.often, _, rfl, rfl, .inl ⟨by omega, by omega⟩, _, _, rfl, rfl, some (.int (i : Nat)), some qv, some (.int a.often), ?_, Same.new (Same.trans sm5 sm6) nM⟩
          rw [sum_snoc _ _ i hia, hae]
          rfl
    · obtain ⟨y4, y5, y6, rfl, sm3⟩ := hP
      rw [hul, List.take_of_length_le (Nat.le_refl _)]
      exact ⟨_, rfl, q H3 sm3⟩
def spLoutdone (K : PySem.W.Frag) : Sp := fun vs H Q _ => ∃ (ba sa : Addr) (cols : List Nat) (rows : List (List Int)) (as : List Ask) (kvs : List (Key × V)) (one : List Nat) (some : List (List Nat)), vs = [.ref ba, tx one, .ref sa] ∧ AsksOk cols as ∧ H ba = Option.some (.dK kvs) ∧ ByL cols rows as H kvs ∧ (listsM cols cols.length).length ≤ 64 ∧ cols.length ≤ 6 ∧ one ∈ listsM cols cols.length ∧ H sa = Option.some (.lst (some.map tx)) ∧ some.length ≤ 900 ∧
  ∀ (F : Addr) (H' : Hp), Same H H' → H F = none → H' F = Option.some (.lst (((listsM cols cols.length).filter fun x => !decide (x ∈ some) && outB cols rows as one x).map tx)) → Q (.ref F) H'
theorem ok_loutdone (T : Tx K mg Z) : FnOk P w K mg base CX0 1 Z.f_l_outdone Z.d_l_outdone ["by", "one", "some"] (spLoutdone K) := by
  refine T.F_l_outdone.ok sc_l_outdone (fun vs H Q E h => ?_) (fun cdv A outer s H vs Q E hr h => ?_)
  · obtain ⟨ba, sa, cols, rows, as, kvs, one, some, rfl, _⟩ := h
    rfl
  · obtain ⟨ba, sa, cols, rows, as, kvs, one, ss, rfl, has, hba, hby, hl64, hcn, hone, hsa, hsl, q⟩ := h
    refine ⟨_, (pss_cons (ps_set (i := 3) sc_l_outdone.nd rfl (.inl rfl) (pe_lst pa_nil))
      (pss_cons (ps_lock (ps_for PassesOwn.never rfl (pi_keys (pv 0)) (pg_name (i := 4) sc_l_outdone.nd rfl (.inl rfl)) (pss_one (ps_if (PW.pt (pw_and (pt_cmpR (notInSq K) (pv 4) (pv 2) (by rfl)) (pw_and1 (pt_cmpR op_ge (pe_callB call_len_str (by rfl) T.m_len (by decide +kernel) (pa_cons (pv 4) pa_nil)) (pe_callB call_len_str (by rfl) T.m_len (by decide +kernel) (pa_cons (pv 1) pa_nil)) (nomark _))))) (pss_one (ps_if (pt_cmpR (eqDK K hr.units) (pe_lc (own := [("here", 5), ("there", 6)]) (tt := _) (by rfl) sc_l_outdone.nd (zipAK K (by rfl) T.m_zip (pa_cons (pe_dget (hu_of hr) (pv 0) (pv 1) (fun _ _ => rfl)) (pa_cons (pe_dget (hu_of hr) (pv 0) (pv 4) (fun _ _ => rfl)) pa_nil))) (blkOk_by (own := [("here", 5), ("there", 6)]) (by kernel_rfl)) (fun _ _ _ _ _ => (pgT K (n := 2) (pgs_cons (pg_name (i := 5) sc_l_outdone.nd rfl (.inl rfl)) (pgs_cons (pg_name (i := 6) sc_l_outdone.nd rfl (.inl rfl)) pgs_nil)))) (fun _ _ _ _ _ => (pts_one (pt_cmpR op_gt (pv 5) (pv 6) (nomark _)))) (fun _ _ _ _ _ => pe_int)) (pe_lst pa_nil) (nomark _)) (pss_one (ps_expr (bmK K PySem.F.plainAttrs_list PySem.F.slot_list_append PySem.F.type_list_append mt_append (pv 3) (pa_cons (pv 4) pa_nil)))) pss_nil)) pss_nil))))
      (pss_one (ps_ret (pv 3))))), ?_⟩
    have hal := has.len
    have onl := (lists_mem.mp hone).2.1
    refine ⟨Nat.zero_le _, fun F nF => ?_⟩
    have sm1 := Same.new (o := .lst []) (Same.refl H) nF
    have hF1 : (upd H F (.lst [])) F = some (.lst []) := upd_same
    generalize upd H F (.lst []) = H1 at sm1 hF1 ⊢
    have hba1 := sm1 _ _ hba
    have bF : ba ≠ F := ne_of_none hba nF
    have sF : sa ≠ F := ne_of_none hsa nF
    refine ⟨ba, .dK kvs, hba1, trivial, fun od => ?_⟩
    have lk : Lock H1 (upd H1 ba (.frz od (.dK kvs))) ba od kvs := Lock.mk' hba1
    generalize upd H1 ba (.frz od (.dK kvs)) = HL at lk ⊢
    have byL : ByL cols rows as HL kvs := (hby.kept fun b xs e => sm1 _ _ e).kept fun b xs e => lk.lst e
    have kl : kvs.length = (listsM cols cols.length).length := by
      have := congrArg List.length byL.keys
      rw [List.length_map, List.length_map] at this
      exact this
    have hsaL := lk.lst (sm1 _ _ hsa)
    refine ⟨.ref ba, rfl, ba, od, rfl, .inl ⟨kvs, lk.at', for_it walk_keys (fun j σ H' => ∃ y4 : Option V, σ = [some (.ref ba), some (tx one), some (.ref sa), some (.ref F), y4, none, none] ∧ Kp F HL H' ∧ H' F = some (.lst ((((listsM cols cols.length).take j).filter fun x => !decide (x ∈ ss) && outB cols rows as one x).map tx)))
      ⟨none, rfl, Kp.rfl', lk.lst hF1⟩ (fun j σ H' _ hP => ?_) (fun j x σ H3 H4 hj hP hY => ?_) (fun σ H3 hP => ?_)⟩⟩
    · obtain ⟨_, _, kp, _⟩ := hP
      exact kp _ _ bF lk.at'
    · obtain ⟨y4, rfl, kp4, hF4⟩ := hP
      obtain ⟨rfl, k0, v0, hkv, rfl⟩ := hY
      have hjl : j < (listsM cols cols.length).length := by rw [← kl]; exact hj
      have ek : k0 = Sum.inr (txS (listsM cols cols.length)[j]) := by
        have := congrArg (fun l => l[j]?) byL.keys
        simp only [List.getElem?_map, hkv, List.getElem?_eq_getElem hjl, Option.map_some] at this
        exact Option.some.inj this
      rw [ek]
      have ho := List.getElem_mem hjl
      have hoj := List.getElem?_eq_getElem hjl
      generalize (listsM cols cols.length)[j] = o at ho hoj
      have fs := filter_snoc (fun x => !decide (x ∈ ss) && outB cols rows as one x) (listsM cols cols.length) j o hoj
      have fl := List.length_filter_le (fun x => !decide (x ∈ ss) && outB cols rows as one x) ((listsM cols cols.length).take j)
      rw [List.length_take] at fl
      have ol := (lists_mem.mp ho).2.1
      have lstn : ∀ {b : Addr} {xs : List V}, HL b = some (.lst xs) → b ≠ F → H4 b = some (.lst xs) := fun e n => kp4 _ _ n e
      have skip : ((!decide (o ∈ ss) && outB cols rows as one o) = false) → ∃ y4 : Option V, [some (.ref ba), some (tx one), some (.ref sa), some (.ref F), some (tx o), none, none] = [some (.ref ba), some (tx one), some (.ref sa), some (.ref F), y4, none, none] ∧ Kp F HL H4 ∧ H4 F = some (.lst ((((listsM cols cols.length).take (j + 1)).filter fun x => !decide (x ∈ ss) && outB cols rows as one x).map tx)) := fun e => ⟨_, rfl, kp4, by rw [fs, e]; simpa using hF4⟩
      refine ⟨tx o, rfl, .ref sa, rfl, sa, _, rfl, .inl (.inl (.inl (lstn hsaL sF))), rfl, flat_texts _, _, rfl, ?_⟩
      show (if (!inV (tx o) (ss.map tx)) = true then _ else _)
      rw [inV_texts]
      refine ite2 (fun e => ?_) (fun e => skip (by
        have : decide (o ∈ ss) = true := by simpa using e
        rw [this]
        rfl))
      refine ⟨tx o, rfl, _, rfl, Nat.le_of_lt (small1000 (show o.length ≤ 1000 by omega)), tx one, rfl, _, rfl, Nat.le_of_lt (small1000 (show one.length ≤ 1000 by omega)), _, _, rfl, rfl, _, rfl, ite2 (fun e2 => ?_) (fun e2 => skip ?_)⟩
      · have le : one.length ≤ o.length := by
          have := of_decide_eq_true e2
          rw [tx_len, tx_len] at this
          omega
        obtain ⟨p1, hv1, hp1⟩ := hby.vals one hone
        obtain ⟨p2, hv2, hp2⟩ := hby.vals o ho
        have hp1' := lstn (lk.lst (sm1 _ _ hp1)) (ne_of_none hp1 nF)
        have hp2' := lstn (lk.lst (sm1 _ _ hp2)) (ne_of_none hp2 nF)
        have lkB : H4 ba = some (.frz od (.dK kvs)) := kp4 _ _ bF lk.at'
        refine ⟨.ref ba, rfl, tx one, rfl, ba, .ref p1, rfl, .inl ⟨kvs, Sum.inr (txS one), .inr ⟨od, lkB⟩, rfl, hv1.symm⟩, .ref ba, rfl, tx o, rfl, ba, .ref p2, rfl, .inl ⟨kvs, Sum.inr (txS o), .inr ⟨od, lkB⟩, rfl, hv2.symm⟩, ?_⟩
        have g1 : ∀ m, (h : m < as.length) → ((as.map fun a => priceM cols rows one a.es a.rc).map V.int)[m]? = some (.int (priceM cols rows one as[m].es as[m].rc)) := fun m h => by
          rw [List.getElem?_map, List.getElem?_map, List.getElem?_eq_getElem h]
          rfl
        have g2 : ∀ m, (h : m < as.length) → ((as.map fun a => priceM cols rows o a.es a.rc).map V.int)[m]? = some (.int (priceM cols rows o as[m].es as[m].rc)) := fun m h => by
          rw [List.getElem?_map, List.getElem?_map, List.getElem?_eq_getElem h]
          rfl
        have l1 : ((as.map fun a => priceM cols rows one a.es a.rc).map V.int).length = as.length := by rw [List.length_map, List.length_map]
        have l2 : ((as.map fun a => priceM cols rows o a.es a.rc).map V.int).length = as.length := by rw [List.length_map, List.length_map]
        generalize (as.map fun a => priceM cols rows one a.es a.rc).map V.int = xs1 at hp1' g1 l1
        generalize (as.map fun a => priceM cols rows o a.es a.rc).map V.int = xs2 at hp2' g2 l2
        have wz := walk_zip (K := K) (a := p1) (b := p2) (xs := xs1) (ys := xs2) (n := as.length) (by rw [l1, l2, Nat.min_self])
        refine ⟨p1, p2, xs1, xs2, rfl, .inl ⟨.inl (.inl hp1'), .inl (.inl hp2'), fun D nD => lc_it wz (fun m H' => Same H4 H' ∧ ∃ ns : List Int, H' D = some (.lst (ns.map V.int)) ∧ ns.length ≤ m ∧ ns.isEmpty = (as.take m).all fun a => decide (priceM cols rows one a.es a.rc ≤ priceM cols rows o a.es a.rc))
          ⟨Same.new (Same.refl H4) nD, [], upd_same, Nat.zero_le _, rfl⟩ (fun m H' _ hP => ?_) (fun m x H5 H6 hm hP hY => ?_) (fun H5 hP => ?_)⟩⟩
        · exact ⟨.inl (.inl (hP.1 _ _ hp1')), .inl (.inl (hP.1 _ _ hp2'))⟩
        · obtain ⟨sm5, ns, hD5, nl, ne⟩ := hP
          obtain ⟨T0, x1, x2, rfl, nT, rfl, ex1, ex2⟩ := hY
          dsimp only at ex1 ex2
          rw [g1 m hm] at ex1
          rw [g2 m hm] at ex2
          have e1 : V.int (priceM cols rows one as[m].es as[m].rc) = x1 := Option.some.inj ex1
          have e2' : V.int (priceM cols rows o as[m].es as[m].rc) = x2 := Option.some.inj ex2
          subst e1 e2'
          have tk : ((as.take (m + 1)).all fun a => decide (priceM cols rows one a.es a.rc ≤ priceM cols rows o a.es a.rc)) = (((as.take m).all fun a => decide (priceM cols rows one a.es a.rc ≤ priceM cols rows o a.es a.rc)) && decide (priceM cols rows one as[m].es as[m].rc ≤ priceM cols rows o as[m].es as[m].rc)) := by
            rw [List.take_succ_eq_append_getElem hm, List.all_append]
            simp
          have hDT := keep_new (o := .tup [.int (priceM cols rows one as[m].es as[m].rc), .int (priceM cols rows o as[m].es as[m].rc)]) hD5 nT
          refine ⟨T0, _, rfl, .inl (.inl upd_same), rfl, _, _, rfl, _, [], rfl, rfl, rfl, _, rfl, _, rfl, _, _, rfl, rfl, _, rfl, ite2 (fun e3 => ?_) (fun e3 => ?_)⟩
          · have lt := of_decide_eq_true e3
            refine ⟨_, hDT, ?_, Same.mut (Same.new sm5 nT) nD, ns ++ [1], ?_, ?_, ?_⟩
            · rw [List.length_map]
              exact small1000 (by omega)
            · rw [upd_same, List.map_append]
              rfl
            · rw [List.length_append, List.length_singleton]
              omega
            · rw [tk, decide_eq_false (by omega), Bool.and_false]
              simp
          · have ge : priceM cols rows one as[m].es as[m].rc ≤ priceM cols rows o as[m].es as[m].rc := by
              by_cases z : priceM cols rows o as[m].es as[m].rc < priceM cols rows one as[m].es as[m].rc
              · exact absurd (decide_eq_true z) e3
              · omega
            exact ⟨Same.new sm5 nT, ns, hDT, by omega, by rw [tk, decide_eq_true ge, Bool.and_true]; exact ne⟩
        · obtain ⟨sm5, ns, hD5, nl, ne⟩ := hP
          rw [List.take_of_length_le (Nat.le_refl _)] at ne
          have eo : outB cols rows as one o = ns.isEmpty := by
            unfold outB
            rw [decide_eq_true le, Bool.true_and, ne]
          refine ⟨Nat.zero_le _, fun e0 ne0 => ?_⟩
          have sm6 := Same.new (o := .lst []) sm5 ne0
          have hD6 := keep_new (o := .lst []) hD5 ne0
          have he6 : (upd H5 e0 (.lst [])) e0 = some (.lst []) := upd_same
          generalize upd H5 e0 (.lst []) = H6 at sm6 hD6 he6 ⊢
          have hF6 := sm6 _ _ hF4
          have kp6 : Kp F HL H6 := kp4.trans (Same.kp sm6)
          have nin : decide (o ∈ ss) = false := by simpa using e
          refine ⟨_, _, .lst (.inl (.inl hD6)) (dp_ints ns), .lst (.inl (.inl he6)) .nil, shaped_ints ns, rfl, _, rfl, ite2 (fun e3 => ?_) (fun e3 => ?_)⟩
          · rw [eqv_ints_nil, ← eo] at e3
            refine ⟨.ref F, rfl, .inl ⟨rfl, _, .inl (.inl hF6)⟩, tx o, rfl, F, _, tx o, rfl, rfl, hF6, ?_, _, rfl, kp6.own, ?_⟩
            · rw [List.length_map]
              exact small1000 (by omega)
            · rw [upd_same, fs, if_pos (by rw [nin, e3]; rfl), List.map_append]
              rfl
          · rw [eqv_ints_nil, ← eo] at e3
            refine ⟨_, rfl, kp6, ?_⟩
            rw [fs, if_neg (by rw [nin]; simpa using e3), List.append_nil]
            exact hF6
      · have gt : ¬ one.length ≤ o.length := fun z => e2 (decide_eq_true (by
          rw [tx_len, tx_len]
          omega))
        have : outB cols rows as one o = false := by
          unfold outB
          rw [decide_eq_false gt, Bool.false_and]
        rw [this, Bool.and_false]
    · obtain ⟨y4, rfl, kp3, hF3⟩ := hP
      rw [kl, List.take_of_length_le (Nat.le_refl _)] at hF3
      refine ⟨kp3 _ _ bF lk.at', ?_⟩
      exact ⟨_, rfl, q F _ (fun b o e => lk.backK kp3 b o (ne_of_none e nF) (sm1 _ _ e)) nF (keep_ne hF3 bF.symm)⟩
theorem floor_law {cols : List Nat} {rows : List (List Int)} {as : List Ask} {chg : Int} {most : Nat} {ss out all : List (List Nat)} (has : AsksOk cols as) (hs : ∀ o ∈ ss, o ∈ all) : askedM cols rows (ss ++ all.filter fun o => !decide (o ∈ out) && decide (lettersM ss + o.length ≤ most)) as + keepM chg ss = floorM cols rows as chg most ss (freeM all ss out) := by
  unfold floorM
  congr 1
  refine asked_alike has fun o => ?_
  unfold fitM
  rw [List.mem_append, List.mem_append, List.mem_filter, List.mem_filter, free_mem]
  simp only [Bool.and_eq_true, Bool.not_eq_true', decide_eq_true_eq, decide_eq_false_iff_not]
  by_cases c : o ∈ ss
  · exact ⟨fun _ => .inl c, fun _ => .inl c⟩
  · exact ⟨fun h => h.elim .inl fun ⟨h1, h2, h3⟩ => .inr ⟨⟨h1, h2, c⟩, h3⟩, fun h => h.elim .inl fun ⟨⟨h1, h2, _⟩, h3⟩ => .inr ⟨h1, h2, h3⟩⟩
def spLfloor (K : PySem.W.Frag) : Sp := fun vs H Q _ => ∃ (wv : V) (ba sa oa : Addr) (most : Nat) (cols : List Nat) (rows : List (List Int)) (as : List Ask) (chg : Int) (kvs : List (Key × V)) (ss out : List (List Nat)), vs = [wv, .int most, .ref sa, .ref oa, .ref ba] ∧ WorkZ H wv cols rows as chg ∧ rows.length ≤ 100 ∧ AsksOk cols as ∧ 0 ≤ chg ∧ chg ≤ 1000000 ∧ H ba = some (.dK kvs) ∧ ByL cols rows as H kvs ∧ (listsM cols cols.length).length ≤ 64 ∧ cols.length ≤ 6 ∧ H sa = some (.lst (ss.map tx)) ∧ (∀ o ∈ ss, o ∈ listsM cols cols.length) ∧ ss.length ≤ 90 ∧ H oa = some (.lst (out.map tx)) ∧
  ∀ H' : Hp, Same H H' → Q (.int (floorM cols rows as chg most ss (freeM (listsM cols cols.length) ss out))) H'
theorem ok_lfloor (T : Tx K mg Z) : FnOk P w K mg base CX0 2 Z.f_l_floor Z.d_l_floor ["work", "most", "some", "out", "by"] (spLfloor K) := by
  have G_l_least : FnOk P w K mg base CX0 1 Z.f_l_least Z.d_l_least ["work", "choice", "by"] (spLleast K) := ok_lleast T
  refine T.F_l_floor.ok sc_l_floor (fun vs H Q E h => ?_) (fun cdv A outer s H vs Q E hr h => ?_)
  · obtain ⟨wv, ba, sa, oa, most, cols, rows, as, chg, kvs, ss, out, rfl, _⟩ := h
    rfl
  · obtain ⟨wv, ba, sa, oa, most, cols, rows, as, chg, kvs, ss, out, rfl, fw, hrn, has, hg0, hg1, hba, hby, hl64, hcn, hsa, hss, hsl, hoa, q⟩ := h
    obtain ⟨wa, tv, aa, us, rfl, hwa, fT, haa, fas⟩ := id fw
    refine ⟨_, (pss_cons (ps_set (i := 5) sc_l_floor.nd rfl (.inr rfl) (pe_op op_sub (pv 1) (pe_callB call_len_str (by rfl) T.m_len (by decide +kernel) (pa_cons (pe_join pe_str (pv 2)) pa_nil))))
      (pss_cons (ps_lock (ps_setLc (i := 6) (own := [("one", 7)]) (tt := _) (by rfl) sc_l_floor.nd rfl rfl (sw_true rfl rfl rfl (by decide +kernel)) (pi_keys (pv 4)) (blkOk_by (own := [("one", 7)]) (by kernel_rfl)) (fun _ _ _ _ _ => (pg_name (i := 7) sc_l_floor.nd rfl (.inl rfl))) (fun _ _ _ _ _ => (pts_one (PW.pt (pw_and (pt_cmpR (notInSq K) (pv 7) (pv 3) (by rfl)) (pw_and1 (pt_cmpR op_le (pe_callB call_len_str (by rfl) T.m_len (by decide +kernel) (pa_cons (pv 7) pa_nil)) (pv 5) (nomark _))))))) (fun _ _ _ _ _ => (pv 7))))
      (pss_one (ps_ret (pe_op op_add (pe_call G_l_least (hr.mono (by omega)) (by rfl) T.g_l_least T.F_l_least.kp T.b_l_least .nil pass0 (pa_cons (pv 0) (pa_cons (pe_op op_cat (pv 2) (pv 6)) (pa_cons (pv 4) pa_nil)))) (pe_callB (cr_sum rfl) (by rfl) T.m_sum (by decide +kernel) (pa_cons (pe_lc (own := [("one", 7)]) (tt := tYes) (by rfl) sc_l_floor.nd (piL K (pv 2)) (blkOk_by (own := [("one", 7)]) (by kernel_rfl)) (fun _ _ _ _ _ => (pg_name (i := 7) sc_l_floor.nd rfl (.inl rfl))) (fun _ _ _ _ _ => pts_nil) (fun _ _ _ _ _ => (pe_op op_mul (pe_ix (ixT K) (pv 0) pe_int (fun _ _ => rfl)) (pe_op op_add pe_int (pe_callB call_len_str (by rfl) T.m_len (by decide +kernel) (pa_cons (pv 7) pa_nil)))))) pa_nil))))))), ?_⟩
    have line : (4665600 : Nat) < sizeLine := by rw [sizeLine_eq]; decide
    have so : ∀ o ∈ ss, o.length ≤ 6 := fun o ho => by
      have := (lists_mem.mp (hss o ho)).2.1
      omega
    have ll : lettersM ss ≤ 90 * 6 := letters_most hsl so
    have hsa2 : H sa = some (.lst ((ss.map txS).map V.str)) := by
      rw [List.map_map]
      exact hsa
    -- left
    refine ⟨_, rfl, ⟨_, rfl⟩, .ref sa, rfl, _, sa, ss.map txS, rfl, rfl, .inl (.inl (.inl hsa2)), ?_, _, rfl, ?_, _, _, rfl, rfl, ?_⟩
    · rw [sum_texts]
      have : (Str.ofString "").length = 0 := rfl
      rw [this, Nat.mul_zero]
      omega
    · rw [join_len]
      omega
    rw [join_len]
    -- more
    refine ⟨ba, .dK kvs, hba, trivial, fun od => ?_⟩
    have lk : Lock H (upd H ba (.frz od (.dK kvs))) ba od kvs := Lock.mk' hba
    generalize upd H ba (.frz od (.dK kvs)) = HL at lk ⊢
    have kl : kvs.length = (listsM cols cols.length).length := by
      have := congrArg List.length hby.keys
      rw [List.length_map, List.length_map] at this
      exact this
    have hoaL := lk.lst hoa
    refine ⟨.ref ba, rfl, ba, od, rfl, .inl ⟨kvs, lk.at', fun M nM => lc_it walk_keys (fun j H' => Same HL H' ∧ H' M = some (.lst ((((listsM cols cols.length).take j).filter fun o => !decide (o ∈ out) && decide (lettersM ss + o.length ≤ most)).map tx)))
      ⟨Same.new (Same.refl HL) nM, upd_same⟩ (fun j H' _ hP => hP.1 _ _ lk.at') (fun j x H3 H4 hj hP hY => ?_) (fun H3 hP => ?_)⟩⟩
    · obtain ⟨sm3, hM3⟩ := hP
      obtain ⟨rfl, k0, v0, hkv, rfl⟩ := hY
      have hjl : j < (listsM cols cols.length).length := by rw [← kl]; exact hj
      have ek : k0 = Sum.inr (txS (listsM cols cols.length)[j]) := by
        have := congrArg (fun l => l[j]?) hby.keys
        simp only [List.getElem?_map, hkv, List.getElem?_eq_getElem hjl, Option.map_some] at this
        exact Option.some.inj this
      rw [ek]
      have ho := List.getElem_mem hjl
      have hoj := List.getElem?_eq_getElem hjl
      generalize (listsM cols cols.length)[j] = o at ho hoj
      have fs := filter_snoc (fun o => !decide (o ∈ out) && decide (lettersM ss + o.length ≤ most)) (listsM cols cols.length) j o hoj
      have fl := List.length_filter_le (fun o => !decide (o ∈ out) && decide (lettersM ss + o.length ≤ most)) ((listsM cols cols.length).take j)
      rw [List.length_take] at fl
      have ol := (lists_mem.mp ho).2.1
      refine ⟨rfl, tx o, rfl, .ref oa, rfl, oa, _, rfl, .inl (.inl (.inl (sm3 _ _ hoaL))), rfl, flat_texts _, _, rfl, ?_⟩
      show (if (!inV (tx o) (out.map tx)) = true then _ else _)
      rw [inV_texts]
      refine ite2 (fun e => ?_) (fun e => ?_)
      · refine ⟨tx o, rfl, _, rfl, Nat.le_of_lt (small1000 (show o.length ≤ 1000 by omega)), _, rfl, _, _, rfl, rfl, _, rfl, ite2 (fun e2 => ?_) (fun e2 => ?_)⟩
        · have le : lettersM ss + o.length ≤ most := by
            have := of_decide_eq_true e2
            rw [tx_len] at this
            omega
          refine ⟨tx o, rfl, _, hM3, ?_, Same.mut sm3 nM, ?_⟩
          · rw [List.length_map]
            exact small1000 (by omega)
          · rw [upd_same, fs, if_pos (by rw [decide_eq_true le, Bool.and_true]; exact e), List.map_append]
            rfl
        · have gt : ¬ lettersM ss + o.length ≤ most := fun z => e2 (decide_eq_true (by
            rw [tx_len]
            omega))
          refine ⟨sm3, ?_⟩
          rw [fs, decide_eq_false gt, Bool.and_false]
          simpa using hM3
      · refine ⟨sm3, ?_⟩
        rw [fs, if_neg (by rw [Bool.and_eq_true]; exact fun z => e z.1), List.append_nil]
        exact hM3
    obtain ⟨sm3, hM3⟩ := hP
    rw [kl, List.take_of_length_le (Nat.le_refl _)] at hM3
    have fl := List.length_filter_le (fun o => !decide (o ∈ out) && decide (lettersM ss + o.length ≤ most)) (listsM cols cols.length)
    have fm : ∀ o ∈ (listsM cols cols.length).filter (fun o => !decide (o ∈ out) && decide (lettersM ss + o.length ≤ most)), o ∈ listsM cols cols.length := fun o ho => (List.mem_filter.mp ho).1
    have fe := floor_law (rows := rows) (chg := chg) (most := most) (out := out) has hss
    generalize (listsM cols cols.length).filter (fun o => !decide (o ∈ out) && decide (lettersM ss + o.length ≤ most)) = mr at hM3 fl fm fe
    refine ⟨sm3 _ _ lk.at', ?_⟩
    have sm4 : Same H (upd H3 ba (.dK kvs)) := lk.back sm3
    have hM4 : (upd H3 ba (.dK kvs)) M = some (.lst (mr.map tx)) := keep_ne hM3 (fun z => by rw [z, sm3 _ _ lk.at'] at hM3; cases hM3)
    generalize upd H3 ba (.dK kvs) = H4 at sm4 hM4 ⊢
    -- the asks
    refine ⟨.ref wa, rfl, .ref sa, rfl, .ref M, rfl, sa, M, _, _, rfl, rfl, sm4 _ _ hsa, hM4, ?_, fun N nN => ?_⟩
    · rw [List.length_map, List.length_map]
      exact Nat.le_of_lt (small1000 (by omega))
    have sm5 := Same.new (o := .lst (ss.map tx ++ mr.map tx)) sm4 nN
    have hN5 : (upd H4 N (.lst (ss.map tx ++ mr.map tx))) N = some (.lst ((ss ++ mr).map tx)) := by rw [upd_same, List.map_append]
    generalize upd H4 N (.lst (ss.map tx ++ mr.map tx)) = H5 at sm5 hN5 ⊢
    refine ⟨.ref ba, rfl, .ref wa, ba, N, cols, rows, as, chg, kvs, ss ++ mr, rfl, fw.kT (Same.kT sm5), hrn, has, .inl (sm5 _ _ hba), hby.kept (fun b xs e => sm5 _ _ e), .inl (.inl (.inl hN5)), fun o ho => (List.mem_append.mp ho).elim (hss o) (fm o), by rw [List.length_append]; omega, fun H6 sm6 => ?_⟩
    have smA := Same.trans sm5 sm6
    -- the changes
    refine ⟨.ref sa, rfl, sa, rfl, ⟨_, .inl (.inl (smA _ _ hsa))⟩, fun D nD => lc_it (walk_list (xs := ss.map tx)) (fun q H' => Same H6 H' ∧ H' D = some (.lst (((ss.take q).map fun o => chg * (1 + (o.length : Int))).map V.int)))
      ⟨Same.new (Same.refl H6) nD, upd_same⟩ (fun q H' _ hP => .inl (.inl (hP.1 _ _ (smA _ _ hsa)))) (fun q x G11 G10 hq hP hY => ?_) (fun G10 hP => ?_)⟩
    · obtain ⟨smX, hDX⟩ := hP
      obtain ⟨rfl, hx⟩ := hY
      rw [List.getElem?_map] at hx
      obtain ⟨o, ho, rfl⟩ := Option.map_eq_some_iff.mp hx
      obtain ⟨hqo, hqe⟩ := List.getElem?_eq_some_iff.mp ho
      have ol := so o (List.mem_of_getElem? ho)
      refine ⟨rfl, .ref wa, rfl, wa, [tv, .ref aa, .int chg], 2, .int chg, rfl, rfl, .inl (.inl (smX _ _ (smA _ _ hwa))), rfl, tx o, rfl, _, rfl, Nat.le_of_lt (small1000 (show o.length ≤ 1000 by omega)), 1, _, rfl, rfl, chg, _, rfl, rfl, .inl ⟨by omega, by omega⟩, _, hDX, ?_, Same.mut smX nD, ?_⟩
      · rw [List.length_map, List.length_map, List.length_take]
        exact small1000 (by omega)
      · rw [upd_same, List.take_succ_eq_append_getElem hqo, hqe, List.map_append, List.map_append, tx_len]
        rfl
    obtain ⟨smX, hDX⟩ := hP
    rw [List.length_map, List.take_of_length_le (Nat.le_refl _)] at hDX
    refine ⟨D, ss.map fun o => chg * (1 + (o.length : Int)), rfl, .inl (.inl hDX), _, _, rfl, rfl, ?_⟩
    have := q G10 (Same.trans smA smX)
    rw [← fe] at this
    rw [keep_mul]
    exact this

/-! ### _law_goes -/
theorem at_zero (x : V) (xs : List V) : L2.atI (x :: xs) 0 = some x := by simp [L2.atI, L2.ixN]
theorem goD_head {cols : List Nat} {rows : List (List Int)} {as : List Ask} {chg : Int} {room : Nat} {num : Int} {ins free : List (List Nat)} {d : PyData} (h : ∀ w ds, d ≠ .tuple (.str w :: ds)) : goD cols rows as chg room num d ins free = false := by
  rw [goD.eq_def]
  split
  · exact absurd rfl (h _ _)
  · exact absurd rfl (h _ _)
  · rfl
theorem goD_word {cols : List Nat} {rows : List (List Int)} {as : List Ask} {chg : Int} {room : Nat} {num : Int} {ins free : List (List Nat)} {w : Str} {ds : List PyData} (h1 : ¬ ((w = ("over" : Str) ∨ w = ("dear" : Str)) ∧ ds = [])) (h2 : ∀ o a b, ¬ (w = ("list" : Str) ∧ ds = [.str o, a, b])) : goD cols rows as chg room num (.tuple (.str w :: ds)) ins free = false := by
  rw [goD.eq_def]
  split
  · rename_i e
    cases e
    rw [if_neg fun z => h1 ⟨.inl z, rfl⟩, if_neg fun z => h1 ⟨.inr z, rfl⟩]
  · rename_i e
    cases e
    rw [decide_eq_false fun z => h2 _ _ _ ⟨z, rfl⟩, Bool.false_and]
  · rfl
theorem inV_words (w : Str) : inV (.str w) [.str ("over" : Str), .str ("dear" : Str)] = decide (w = ("over" : Str) ∨ w = ("dear" : Str)) := by
  show ((("over" : Str) == w) || ((("dear" : Str) == w) || false)) = _
  by_cases h1 : w = ("over" : Str)
  · rw [h1]
    simp
  · by_cases h2 : w = ("dear" : Str)
    · rw [h2]
      simp
    · have e1 : (("over" : Str) == w) = false := by
        rw [Bool.eq_false_iff]
        exact fun z => h1 (by simpa using (beq_iff_eq.mp z).symm)
      have e2 : (("dear" : Str) == w) = false := by
        rw [Bool.eq_false_iff]
        exact fun z => h2 (by simpa using (beq_iff_eq.mp z).symm)
      rw [e1, e2, decide_eq_false fun z => z.elim h1 h2]
      rfl
theorem FtA.cons' {H : Hp} {vs : List V} {w : Str} {ds : List PyData} (h : FtA H vs (.str w :: ds)) : ∃ xs, vs = .str w :: xs ∧ FtA H xs ds := by
  cases h with
  | cons h t =>
    cases h
    exact ⟨_, rfl, t⟩
def spLgoes (K : PySem.W.Frag) (n : Nat) : Sp := fun vs H Q _ => ∃ (wv v : V) (ba sa oa : Addr) (most : Nat) (num : Int) (cols : List Nat) (rows : List (List Int)) (as : List Ask) (chg : Int) (kvs : List (Key × V)) (ss out : List (List Nat)) (d : PyData), vs = [wv, .int most, .int num, v, .ref sa, .ref oa, .ref ba] ∧ WorkZ H wv cols rows as chg ∧ rows.length ≤ 100 ∧ AsksOk cols as ∧ 0 ≤ chg ∧ chg ≤ 1000000 ∧ H ba = some (.dK kvs) ∧ ByL cols rows as H kvs ∧ (listsM cols cols.length).length ≤ 64 ∧ cols.length ≤ 6 ∧ H sa = some (.lst (ss.map tx)) ∧ (∀ o ∈ ss, o ∈ listsM cols cols.length) ∧ ss.length + n ≤ 90 ∧ H oa = some (.lst (out.map tx)) ∧ out.length + 64 * n ≤ 6000 ∧ Ft H v d ∧ d.depth ≤ n ∧
  ∀ H' : Hp, Same H H' → Q (.bl (goD cols rows as chg most num d ss (freeM (listsM cols cols.length) ss out))) H'
def spLgoesP (K : PySem.W.Frag) : Nat → Sp
  | 0 => fun _ _ _ _ => False
  | n + 1 => spLgoes K n
set_option maxHeartbeats 4000000 in
theorem ok_lgoes1 (T : Tx K mg Z) (n : Nat) (G_l_goes : FnOk P w K mg base CX0 (n + 4) Z.f_l_goes Z.d_l_goes ["work", "most", "number", "tree", "some", "out", "by"] (spLgoesP K n)) : FnOk P w K mg base CX0 (n + 5) Z.f_l_goes Z.d_l_goes ["work", "most", "number", "tree", "some", "out", "by"] (spLgoes K n) := by
  have G_l_floor : FnOk P w K mg base CX0 2 Z.f_l_floor Z.d_l_floor ["work", "most", "some", "out", "by"] (spLfloor K) := ok_lfloor T
  have G_l_outdone : FnOk P w K mg base CX0 1 Z.f_l_outdone Z.d_l_outdone ["by", "one", "some"] (spLoutdone K) := ok_loutdone T
  refine T.F_l_goes.ok sc_l_goes (fun vs H Q E h => ?_) (fun cdv A outer s H vs Q E hr h => ?_)
  · obtain ⟨wv, v, ba, sa, oa, most, num, cols, rows, as, chg, kvs, ss, out, d, rfl, _⟩ := h
    rfl
  · obtain ⟨wv, v, ba, sa, oa, most, num, cols, rows, as, chg, kvs, ss, out, d, rfl, fw, hrn, has, hg0, hg1, hba, hby, hl64, hcn, hsa, hss, hsl, hoa, hol, fv, dd, q⟩ := h
    refine ⟨_, (pss_mid (ps_if (PW.pt (pw_or (pt_not (pt_val (pe_callB (isiK K) (by rfl) T.m_isinstance (by decide +kernel) (pa_cons (pv 3) (pa_cons (pe_bltn (v := .ty "tuple") (by rfl) T.m_tuple (by decide +kernel) rfl) pa_nil))))) (pw_or (pt_cmpR op_eq (pe_callB (cLenSq K) (by rfl) T.m_len (by decide +kernel) (pa_cons (pv 3) pa_nil)) pe_int (nomark _)) (pw_or1 (pt_not (pt_val (pe_callB (isiK K) (by rfl) T.m_isinstance (by decide +kernel) (pa_cons (pe_ix (ixT K) (pv 3) pe_int (fun _ _ => rfl)) (pa_cons (pe_bltn (v := .ty "str") (by rfl) T.m_str (by decide +kernel) rfl) pa_nil))))))))) (pss_one (ps_ret pe_bl)) pss_nil)
      (pss_mid (ps_if (PW.pt (pw_and (pt_cmpR (inSq K) (pe_ix (ixT K) (pv 3) pe_int (fun _ _ => rfl)) (pe_tup (pa_cons pe_str (pa_cons pe_str pa_nil))) (by rfl)) (pw_and1 (pt_cmpR op_eq (pe_callB (cLenSq K) (by rfl) T.m_len (by decide +kernel) (pa_cons (pv 3) pa_nil)) pe_int (nomark _))))) (pss_cons (ps_if (pt_cmpR op_eq (pe_ix (ixT K) (pv 3) pe_int (fun _ _ => rfl)) pe_str (nomark _)) (pss_one (ps_ret (pe_cmpR op_gt (pe_callB call_len_str (by rfl) T.m_len (by decide +kernel) (pa_cons (pe_join pe_str (pv 4)) pa_nil)) (pv 1) (nomark _)))) pss_nil)
      (pss_one (ps_ret (pe_cmpR op_ge (pe_call G_l_floor (hr.mono (by omega)) (by rfl) T.g_l_floor T.F_l_floor.kp T.b_l_floor .nil pass0 (pa_cons (pv 0) (pa_cons (pv 1) (pa_cons (pv 4) (pa_cons (pv 5) (pa_cons (pv 6) pa_nil)))))) (pv 2) (nomark _))))) pss_nil)
      (pss_mid (ps_if (PW.pt (pw_or (pt_cmpR op_ne (pe_ix (ixT K) (pv 3) pe_int (fun _ _ => rfl)) pe_str (nomark _)) (pw_or (pt_cmpR op_ne (pe_callB (cLenSq K) (by rfl) T.m_len (by decide +kernel) (pa_cons (pv 3) pa_nil)) pe_int (nomark _)) (pw_or1 (pt_not (pt_val (pe_callB (isiK K) (by rfl) T.m_isinstance (by decide +kernel) (pa_cons (pe_ix (ixT K) (pv 3) pe_int (fun _ _ => rfl)) (pa_cons (pe_bltn (v := .ty "str") (by rfl) T.m_str (by decide +kernel) rfl) pa_nil))))))))) (pss_one (ps_ret pe_bl)) pss_nil)
      (pss_mid (ps_if (PW.pt (pw_or (pt_cmp (pc_dnotin (hu_of hr) (pe_ix (ixT K) (pv 3) pe_int (fun _ _ => rfl)) (pv 6))) (pw_or (pt_cmpR (inSq K) (pe_ix (ixT K) (pv 3) pe_int (fun _ _ => rfl)) (pv 4) (by rfl)) (pw_or1 (pt_cmpR (inSq K) (pe_ix (ixT K) (pv 3) pe_int (fun _ _ => rfl)) (pv 5) (by rfl)))))) (pss_one (ps_ret pe_bl)) pss_nil)
      (pss_cons (ps_if (pt_not (pt_val (pe_call G_l_goes (hr.mono (by omega)) (by rfl) T.g_l_goes T.F_l_goes.kp T.b_l_goes .nil pass0 (pa_cons (pv 0) (pa_cons (pv 1) (pa_cons (pv 2) (pa_cons (pe_ix (ixT K) (pv 3) pe_int (fun _ _ => rfl)) (pa_cons (pe_op op_cat (pv 4) (pe_lst (pa_cons (pe_ix (ixT K) (pv 3) pe_int (fun _ _ => rfl)) pa_nil))) (pa_cons (pv 5) (pa_cons (pv 6) pa_nil)))))))))) (pss_one (ps_ret pe_bl)) pss_nil)
      (pss_one (ps_ret (pe_call G_l_goes (hr.mono (by omega)) (by rfl) T.g_l_goes T.F_l_goes.kp T.b_l_goes .nil pass0 (pa_cons (pv 0) (pa_cons (pv 1) (pa_cons (pv 2) (pa_cons (pe_ix (ixT K) (pv 3) pe_int (fun _ _ => rfl)) (pa_cons (pv 4) (pa_cons (pe_op op_cat (pv 5) (pe_call G_l_outdone (hr.mono (by omega)) (by rfl) T.g_l_outdone T.F_l_outdone.kp T.b_l_outdone .nil pass0 (pa_cons (pv 6) (pa_cons (pe_ix (ixT K) (pv 3) pe_int (fun _ _ => rfl)) (pa_cons (pv 4) pa_nil))))) (pa_cons (pv 6) pa_nil))))))))))))))), ?_⟩
    have line : (4665600 : Nat) < sizeLine := by rw [sizeLine_eq]; decide
    have no : ∀ {G : Hp}, Same H G → goD cols rows as chg most num d ss (freeM (listsM cols cols.length) ss out) = false → Q (.bl false) G := fun sm e => by
      have := q _ sm
      rw [e] at this
      exact this
    -- a tuple that begins with a text
    refine ⟨fun σ G => σ = [some wv, some (.int most), some (.int num), some v, some (.ref sa), some (.ref oa), some (.ref ba)] ∧ Same H G ∧ ∃ w ds, d = .tuple (.str w :: ds), ?_, fun σ G hM => ?_⟩
    · refine ⟨v, rfl, v, .ty "tuple", _, _, isTp d, rfl, .ty _, ty_ft fv, kit_tp d, _, rfl, ite2 (fun e => ?_) (fun e => ?_)⟩
      · refine no (Same.refl H) (goD_head fun w ds z => ?_)
        rw [z] at e
        cases e
      cases d with
      | tuple ds =>
        obtain ⟨a, xs, rfl, ha, fa⟩ := fv.open
        have xl := fa.len
        refine ⟨.ref a, rfl, a, xs, rfl, .inr (.inl (.inl ha)), rfl, _, rfl, ite2 (fun e2 => ?_) (fun e2 => ?_)⟩
        · refine no (Same.refl H) (goD_head fun w ds' z => ?_)
          have := V.int.inj (of_decide_eq_true e2)
          have z2 := PyData.tuple.inj z
          rw [z2, List.length_cons] at xl
          omega
        · cases fa with
          | nil => exact absurd (decide_eq_true rfl) e2
          | cons f1 ft =>
            rename_i x xs' d1 ds'
            refine ⟨.ref a, rfl, a, x :: xs', 0, x, rfl, rfl, .inl (.inl ha), at_zero _ _, x, .ty "str", _, _, isSt d1, rfl, .ty _, ty_ft f1, kit_st d1, _, rfl, ite2 (fun e3 => ?_) (fun e3 => ?_)⟩
            · refine no (Same.refl H) (goD_head fun w ds' z => ?_)
              have z2 := PyData.tuple.inj z
              have z3 := (List.cons.inj z2).1
              rw [z3] at e3
              cases e3
            · cases d1 with
              | str w => exact ⟨rfl, Same.refl H, w, ds', rfl⟩
              | _ => exact absurd rfl e3
      | _ => exact absurd rfl e
    obtain ⟨rfl, smG, w, ds, rfl⟩ := hM
    obtain ⟨a, xs0, rfl, ha0, fa0⟩ := (fv.same smG).open
    obtain ⟨xs, rfl, fa⟩ := fa0.cons'
    clear fa0
    have xl := fa.len
    have so : ∀ o ∈ ss, o.length ≤ 6 := fun o ho => by
      have := (lists_mem.mp (hss o ho)).2.1
      omega
    have ll : lettersM ss ≤ 90 * 6 := letters_most (by omega) so
    -- over, dear
    refine ⟨fun σ G2 => σ = [some wv, some (.int most), some (.int num), some (.ref a), some (.ref sa), some (.ref oa), some (.ref ba)] ∧ Same G G2 ∧ ¬ ((w = ("over" : Str) ∨ w = ("dear" : Str)) ∧ ds = []), ?_, fun σ G2 hM => ?_⟩
    · refine ⟨.ref a, rfl, a, .str w :: xs, 0, .str w, rfl, rfl, .inl (.inl ha0), at_zero _ _, (by show 2 ≤ sizeLine; decide), fun n1 nn1 => ?_⟩
      have sm1 := Same.new (o := .tup [.str ("over" : Str), .str ("dear" : Str)]) (Same.refl G) nn1
      refine ⟨n1, [.str ("over" : Str), .str ("dear" : Str)], rfl, .inr (.inl (.inl upd_same)), rfl, rfl, _, rfl, ?_⟩
      show (if inV (.str w) [.str ("over" : Str), .str ("dear" : Str)] = true then _ else _)
      rw [inV_words]
      generalize upd G n1 (.tup [.str ("over" : Str), .str ("dear" : Str)]) = G1 at sm1 ⊢
      refine ite2 (fun e => ?_) (fun e => ⟨rfl, sm1, fun z => e (decide_eq_true z.1)⟩)
      have ew := of_decide_eq_true e
      refine ⟨.ref a, rfl, a, .str w :: xs, rfl, .inr (.inl (.inl (sm1 _ _ ha0))), rfl, _, rfl, ite2 (fun e2 => ?_) (fun e2 => ⟨rfl, sm1, fun z => e2 (decide_eq_true ?_)⟩)⟩
      · have l1 := V.int.inj (of_decide_eq_true e2)
        have ed : ds = [] := List.length_eq_zero_iff.mp (by
          rw [List.length_cons] at l1
          omega)
        subst ed
        have smA := Same.trans smG sm1
        refine ⟨.ref a, rfl, a, .str w :: xs, 0, .str w, rfl, rfl, .inl (.inl (sm1 _ _ ha0)), at_zero _ _, rfl, _, rfl, ite2 (fun e3 => ?_) (fun e3 => ?_)⟩
        · have ew2 : w = ("over" : Str) := by simpa using e3
          subst ew2
          have hsa2 : G1 sa = some (.lst ((ss.map txS).map V.str)) := by
            rw [List.map_map]
            exact smA _ _ hsa
          refine ⟨⟨_, rfl⟩, .ref sa, rfl, _, sa, ss.map txS, rfl, rfl, .inl (.inl (.inl hsa2)), ?_, _, rfl, ?_, _, rfl, _, _, rfl, rfl, ?_⟩
          · rw [sum_texts]
            have : (Str.ofString "").length = 0 := rfl
            rw [this, Nat.mul_zero]
            omega
          · rw [join_len]
            omega
          rw [join_len]
          have := q G1 smA
          have e4 : goD cols rows as chg most num (.tuple [.str ("over" : Str)]) ss (freeM (listsM cols cols.length) ss out) = decide ((lettersM ss : Int) > (most : Int)) := by
            refine goD_over.trans (decide_eq_decide.mpr ?_)
            omega
          rw [e4] at this
          exact this
        · have ew2 : w = ("dear" : Str) := by
            rcases ew with z | z
            · exact absurd (decide_eq_true (by rw [z])) e3
            · exact z
          subst ew2
          refine ⟨wv, rfl, _, rfl, .ref sa, rfl, .ref oa, rfl, .ref ba, rfl, wv, ba, sa, oa, most, cols, rows, as, chg, kvs, ss, out, rfl, fw.kT (Same.kT smA), hrn, has, hg0, hg1, smA _ _ hba, hby.kept (fun b xs e => smA _ _ e), hl64, hcn, smA _ _ hsa, hss, by omega, smA _ _ hoa, fun G3 sm3 => ⟨_, rfl, _, _, rfl, rfl, ?_⟩⟩
          have := q G3 (Same.trans smA sm3)
          rw [goD_dear] at this
          exact this
      · have := z.2
        subst this
        have : xs = [] := List.length_eq_zero_iff.mp xl
        rw [this]
        rfl
    obtain ⟨rfl, sm2, nw⟩ := hM
    have smG2 := Same.trans smG sm2
    -- list
    refine ⟨fun σ G3 => σ = [some wv, some (.int most), some (.int num), some (.ref a), some (.ref sa), some (.ref oa), some (.ref ba)] ∧ Same G G3 ∧ w = ("list" : Str) ∧ ∃ o da db, ds = [.str o, da, db], ?_, fun σ G3 hM => ?_⟩
    · refine ⟨.ref a, rfl, a, .str w :: xs, 0, .str w, rfl, rfl, .inl (.inl (sm2 _ _ ha0)), at_zero _ _, rfl, _, rfl, ite2 (fun e => ?_) (fun e => ?_)⟩
      · refine no smG2 (goD_word nw fun o a b z => ?_)
        rw [z.1] at e
        simp at e
      have ew : w = ("list" : Str) := by simpa using e
      refine ⟨.ref a, rfl, a, .str w :: xs, rfl, .inr (.inl (.inl (sm2 _ _ ha0))), rfl, _, rfl, ite2 (fun e2 => ?_) (fun e2 => ?_)⟩
      · refine no smG2 (goD_word nw fun o a b z => ?_)
        rw [z.2] at xl
        have e2' : ¬ V.int ((V.str w :: xs).length : Nat) = V.int 4 := by simpa using e2
        exact e2' (by rw [List.length_cons, xl]; rfl)
      have l4 : ds.length = 3 := by
        have e2' : V.int ((V.str w :: xs).length : Nat) = V.int 4 := by simpa using e2
        have := V.int.inj e2'
        rw [List.length_cons] at this
        omega
      obtain ⟨d1, da, db, rfl⟩ : ∃ d1 da db, ds = [d1, da, db] := by
        match ds, l4 with
        | [x, y, z], _ => exact ⟨x, y, z, rfl⟩
      cases fa with
      | cons f1 ft =>
        rename_i x1 xr
        refine ⟨.ref a, rfl, a, .str w :: x1 :: xr, 1, x1, rfl, rfl, .inl (.inl (sm2 _ _ ha0)), (by have h1 := atI_nat (xs := V.str w :: x1 :: xr) (j := 1) (h := rfl); exact h1), x1, .ty "str", _, _, isSt d1, rfl, .ty _, ty_ft (f1.same sm2), kit_st d1, _, rfl, ite2 (fun e3 => ?_) (fun e3 => ?_)⟩
        · refine no smG2 (goD_word nw fun o a b z => ?_)
          have z3 := (List.cons.inj z.2).1
          rw [z3] at e3
          cases e3
        · cases d1 with
          | str o => exact ⟨rfl, sm2, ew, o, da, db, rfl⟩
          | _ => exact absurd rfl e3
    obtain ⟨rfl, sm3, rfl, os, da, db, rfl⟩ := hM
    obtain ⟨xs2, rfl, fb⟩ := fa.cons'
    clear fa
    obtain ⟨x3, x4, rfl, f3, f4⟩ : ∃ x y, xs2 = [x, y] ∧ Ft G x da ∧ Ft G y db := by
      cases fb with
      | cons h1 t =>
        cases t with
        | cons h2 t =>
          cases t
          exact ⟨_, _, rfl, h1, h2⟩
    have eo : V.str os = tx os.cps.toList := congrArg V.str (by simp)
    rw [goD_fork] at q no
    have smG3 := Same.trans smG sm3
    have ha3 := sm3 _ _ ha0
    rw [eo] at ha3
    generalize hone : os.cps.toList = one at ha3 q no
    have fmem : ∀ {o : List Nat}, o ∈ freeM (listsM cols cols.length) ss out ↔ o ∈ listsM cols cols.length ∧ o ∉ out ∧ o ∉ ss := free_mem
    have keyN : valV kvs (Sum.inr (txS one)) = none ↔ one ∉ listsM cols cols.length := by
      refine ⟨fun e z => ?_, fun z => valV_none ?_⟩
      · obtain ⟨pa, e1, _⟩ := hby.vals one z
        rw [e1] at e
        cases e
      · rw [hby.keys]
        intro y
        obtain ⟨x, hx, e⟩ := List.mem_map.mp y
        exact z (key_inj e ▸ hx)
    -- free
    refine ⟨fun σ G4 => σ = [some wv, some (.int most), some (.int num), some (.ref a), some (.ref sa), some (.ref oa), some (.ref ba)] ∧ Same G3 G4 ∧ one ∈ freeM (listsM cols cols.length) ss out, ?_, fun σ G4 hM => ?_⟩
    · have at1 : L2.atI [V.str ("list" : Str), tx one, x3, x4] 1 = some (tx one) := rfl
      have ng : one ∉ freeM (listsM cols cols.length) ss out → (decide (one ∈ freeM (listsM cols cols.length) ss out) && (goD cols rows as chg most num da (ss ++ [one]) ((freeM (listsM cols cols.length) ss out).filter fun x => decide (x ≠ one)) && goD cols rows as chg most num db ss (((freeM (listsM cols cols.length) ss out).filter fun x => decide (x ≠ one)).filter fun x => !outB cols rows as one x))) = false := fun z => by
        rw [decide_eq_false z, Bool.false_and]
      refine ⟨.ref a, rfl, a, [.str ("list" : Str), tx one, x3, x4], 1, tx one, rfl, rfl, .inl (.inl ha3), at1, .ref ba, rfl, ba, _, rfl, DGet.k (k := Sum.inr (txS one)) (smG3 _ _ hba), _, rfl, ite2 (fun e => ?_) (fun e => ?_)⟩
      · refine no smG3 (ng fun z => ?_)
        have : valV kvs (Sum.inr (txS one)) = none := by
          cases h : valV kvs (Sum.inr (txS one)) with
          | none => rfl
          | some v =>
            rw [h] at e
            cases e
        exact keyN.mp this (fmem.mp z).1
      have inL : one ∈ listsM cols cols.length := by
        by_cases z : one ∈ listsM cols cols.length
        · exact z
        · rw [keyN.mpr z] at e
          exact absurd rfl e
      refine ⟨.ref a, rfl, a, [.str ("list" : Str), tx one, x3, x4], 1, tx one, rfl, rfl, .inl (.inl ha3), at1, .ref sa, rfl, sa, _, rfl, .inl (.inl (.inl (smG3 _ _ hsa))), rfl, flat_texts _, _, rfl, ?_⟩
      show (if inV (tx one) (ss.map tx) = true then _ else _)
      rw [inV_texts]
      refine ite2 (fun e2 => no smG3 (ng fun z => (fmem.mp z).2.2 (of_decide_eq_true e2))) (fun e2 => ?_)
      refine ⟨.ref a, rfl, a, [.str ("list" : Str), tx one, x3, x4], 1, tx one, rfl, rfl, .inl (.inl ha3), at1, .ref oa, rfl, oa, _, rfl, .inl (.inl (.inl (smG3 _ _ hoa))), rfl, flat_texts _, _, rfl, ?_⟩
      show (if inV (tx one) (out.map tx) = true then _ else _)
      rw [inV_texts]
      refine ite2 (fun e3 => no smG3 (ng fun z => (fmem.mp z).2.1 (of_decide_eq_true e3))) (fun e3 => ?_)
      exact ⟨rfl, Same.refl G3, fmem.mpr ⟨inL, fun z => e3 (decide_eq_true z), fun z => e2 (decide_eq_true z)⟩⟩
    obtain ⟨rfl, sm4, hf⟩ := hM
    have smG4 := Same.trans smG3 sm4
    have sm04 := Same.trans sm3 sm4
    have ha4 := sm4 _ _ ha3
    have inL := (fmem.mp hf).1
    have ddx : max 0 (max 0 (max da.depth (max db.depth 0))) + 1 ≤ n := dd
    match n, ddx, hsl, hol, G_l_goes with
    | 0, ddx, _, _, _ => exact absurd ddx (by omega)
    | n' + 1, ddx, hsl, hol, G_l_goes =>
    -- with it
    refine ⟨wv, rfl, _, rfl, _, rfl, .ref a, rfl, a, [.str ("list" : Str), tx one, x3, x4], 2, x3, rfl, rfl, .inl (.inl ha4), rfl, .ref sa, rfl, .ref a, rfl, a, [.str ("list" : Str), tx one, x3, x4], 1, tx one, rfl, rfl, .inl (.inl ha4), rfl, (by show 1 ≤ sizeLine; decide), fun L nL => ?_⟩
    have sm5 := Same.new (o := .lst [tx one]) (Same.refl G4) nL
    have hL5 : (upd G4 L (.lst [tx one])) L = some (.lst [tx one]) := upd_same
    generalize upd G4 L (.lst [tx one]) = G5 at sm5 hL5 ⊢
    refine ⟨sa, L, _, _, rfl, rfl, sm5 _ _ (smG4 _ _ hsa), hL5, ?_, fun N nN => ?_⟩
    · rw [List.length_map]
      exact Nat.le_of_lt (small1000 (show ss.length + 1 ≤ 1000 by omega))
    have sm6 := Same.new (o := .lst (ss.map tx ++ [tx one])) sm5 nN
    have hN6 : (upd G5 N (.lst (ss.map tx ++ [tx one]))) N = some (.lst ((ss ++ [one]).map tx)) := by rw [upd_same, List.map_append]; rfl
    generalize upd G5 N (.lst (ss.map tx ++ [tx one])) = G6 at sm6 hN6 ⊢
    have smG6 := Same.trans smG4 sm6
    refine ⟨.ref oa, rfl, .ref ba, rfl, wv, x3, ba, N, oa, most, num, cols, rows, as, chg, kvs, ss ++ [one], out, da, rfl, fw.kT (Same.kT smG6), hrn, has, hg0, hg1, smG6 _ _ hba, hby.kept (fun b xs e => smG6 _ _ e), hl64, hcn, hN6, (fun o ho => (List.mem_append.mp ho).elim (hss o) fun z => by rw [List.mem_singleton.mp z]; exact inL), by rw [List.length_append, List.length_singleton]; omega, smG6 _ _ hoa, by omega, f3.same (Same.trans sm04 sm6), by omega, fun G7 sm7 => ?_⟩
    rw [free_with]
    have smG7 := Same.trans smG6 sm7
    cases g1 : goD cols rows as chg most num da (ss ++ [one]) ((freeM (listsM cols cols.length) ss out).filter fun x => decide (x ≠ one)) with
    | false =>
      refine ⟨_, rfl, ?_⟩
      exact no smG7 (by rw [g1, Bool.false_and, Bool.and_false])
    | true =>
    refine ⟨_, rfl, ?_⟩
    rw [g1, decide_eq_true hf, Bool.true_and, Bool.true_and] at q
    have ha7 := sm7 _ _ (sm6 _ _ ha4)
    -- without it
    refine ⟨wv, rfl, _, rfl, _, rfl, .ref a, rfl, a, [.str ("list" : Str), tx one, x3, x4], 3, x4, rfl, rfl, .inl (.inl ha7), rfl, .ref sa, rfl, .ref oa, rfl, .ref ba, rfl, .ref a, rfl, a, [.str ("list" : Str), tx one, x3, x4], 1, tx one, rfl, rfl, .inl (.inl ha7), rfl, .ref sa, rfl, ba, sa, cols, rows, as, kvs, one, ss, rfl, has, smG7 _ _ hba, hby.kept (fun b xs e => smG7 _ _ e), hl64, hcn, inL, smG7 _ _ hsa, by omega, fun F G8 sm8 nF hF8 => ?_⟩
    have smG8 := Same.trans smG7 sm8
    have ol := List.length_filter_le (fun x => !decide (x ∈ ss) && outB cols rows as one x) (listsM cols cols.length)
    refine ⟨oa, F, _, _, rfl, rfl, smG8 _ _ hoa, hF8, ?_, fun M nM => ?_⟩
    · rw [List.length_map, List.length_map]
      omega
    have sm9 := Same.new (o := .lst (out.map tx ++ ((listsM cols cols.length).filter fun x => !decide (x ∈ ss) && outB cols rows as one x).map tx)) sm8 nM
    have hM9 : (upd G8 M (.lst (out.map tx ++ ((listsM cols cols.length).filter fun x => !decide (x ∈ ss) && outB cols rows as one x).map tx))) M = some (.lst ((out ++ (listsM cols cols.length).filter fun x => !decide (x ∈ ss) && outB cols rows as one x).map tx)) := by rw [upd_same, List.map_append]
    generalize upd G8 M (.lst (out.map tx ++ ((listsM cols cols.length).filter fun x => !decide (x ∈ ss) && outB cols rows as one x).map tx)) = G9 at sm9 hM9 ⊢
    have smG9 := Same.trans smG7 sm9
    refine ⟨.ref ba, rfl, wv, x4, ba, sa, M, most, num, cols, rows, as, chg, kvs, ss, out ++ (listsM cols cols.length).filter (fun x => !decide (x ∈ ss) && outB cols rows as one x), db, rfl, fw.kT (Same.kT smG9), hrn, has, hg0, hg1, smG9 _ _ hba, hby.kept (fun b xs e => smG9 _ _ e), hl64, hcn, smG9 _ _ hsa, hss, by omega, hM9, by rw [List.length_append]; omega, f4.same (Same.trans (Same.trans sm04 (Same.trans sm6 sm7)) sm9), by omega, fun GE smE => ?_⟩
    have self : outB cols rows as one one = true := outB_iff.mpr ⟨Nat.le_refl _, fun _ _ => Int.le_refl _⟩
    rw [free_without (out2 := outB cols rows as) _ _ _ _ self]
    exact q GE (Same.trans smG9 smE)
theorem ok_lgoes (T : Tx K mg Z) : ∀ n : Nat, FnOk P w K mg base CX0 (n + 5) Z.f_l_goes Z.d_l_goes ["work", "most", "number", "tree", "some", "out", "by"] (spLgoes K n)
  | 0 => ok_lgoes1 T 0 ⟨fun _ _ _ _ h => h.elim, fun _ _ _ _ _ _ _ _ _ _ _ _ _ h => h.elim⟩
  | n + 1 => ok_lgoes1 T (n + 1) (ok_lgoes T n)

/-! ### _law_tree -/
inductive Tr (all : List (List Nat)) (L : List Addr) (H : Hp) : Nat → V → Prop
  | leaf {k : Nat} {p : Addr} {s : Str} : p ∉ L → H p = some (.tup [.str s]) → s = ("dear" : Str) ∨ s = ("over" : Str) → Tr all L H k (.ref p)
  | fork {k : Nat} {p : Addr} {o : List Nat} {a b : V} : p ∉ L → H p = some (.tup [.str ("list" : Str), tx o, a, b]) → o ∈ all → Tr all L H k a → Tr all L H k b → Tr all L H (k + 1) (.ref p)
theorem Tr.keep {all : List (List Nat)} {L : List Addr} {H H' : Hp} {k : Nat} {v : V} (h : Tr all L H k v) (kk : ∀ b o, b ∉ L → H b = some o → H' b = some o) : Tr all L H' k v := by
  induction h with
  | leaf n e s => exact .leaf n (kk _ _ n e) s
  | fork n e ho _ _ iha ihb => exact .fork n (kk _ _ n e) ho iha ihb
theorem Tr.same {all : List (List Nat)} {L : List Addr} {H H' : Hp} {k : Nat} {v : V} (h : Tr all L H k v) (s : Same H H') : Tr all L H' k v := h.keep fun b o _ e => s b o e
theorem Tr.kp {all : List (List Nat)} {L : List Addr} {r : Addr} {H H' : Hp} {k : Nat} {v : V} (h : Tr all L H k v) (s : Kp r H H') (hr : r ∈ L) : Tr all L H' k v := h.keep fun b o nb e => s b o (fun z => nb (z ▸ hr)) e
def tmN : Nat → Nat
  | 0 => 10
  | k + 1 => 4 * (tmN k + 1)
theorem tmN_ge : ∀ k, 10 ≤ tmN k
  | 0 => Nat.le_refl _
  | k + 1 => by
    have := tmN_ge k
    show 10 ≤ 4 * (tmN k + 1)
    omega
theorem Tr.th {all : List (List Nat)} {L : List Addr} {H : Hp} (ha : ∀ o ∈ all, o.length ≤ 6 ∧ ∀ c ∈ o, c < 1000) {k : Nat} {v : V} (h : Tr all L H k v) : Th L H (k + 1) (tmN k) v := by
  induction h with
  | @leaf k p s n e hs =>
    have hk := tmN_ge k
    have hl : ∀ u ∈ [V.str s], Th L H 0 4 u := all1 (by
      rcases hs with rfl | rfl
      · exact Th.tx (l := [100, 101, 97, 114]) (by decide) (by decide)
      · exact Th.tx (l := [111, 118, 101, 114]) (by decide) (by decide))
    exact (Th.tup n e hl).mono (by omega) (by show (4 + 1) * 1 ≤ _; omega)
  | @fork k p o a b n e ho _ _ iha ihb =>
    have hk := tmN_ge k
    obtain ⟨ol, oc⟩ := ha o ho
    have hl : ∀ u ∈ [V.str ("list" : Str), tx o, a, b], Th L H (k + 1) (tmN k) u := allC ((Th.tx (l := [108, 105, 115, 116]) (n := 0) (m := 4) (by decide) (by decide)).mono (by omega) (by omega)) (allC (Th.tx oc (by omega)) (allC iha (allC ihb all0)))
    exact (Th.tup n e hl).mono (by omega) (by show (tmN k + 1) * 4 ≤ 4 * (tmN k + 1); omega)
theorem valV_mem' {k : Key} {v : V} : ∀ {kvs : List (Key × V)}, valV kvs k = some v → (k, v) ∈ kvs
  | [], h => nomatch h
  | (j, u) :: kvs, h => by
    by_cases e : j = k
    · rw [valV_pos e] at h
      cases h
      rw [e]
      exact List.mem_cons_self
    · rw [valV_neg e] at h
      exact List.mem_cons_of_mem _ (valV_mem' h)
theorem ByL.kpr {cols : List Nat} {rows : List (List Int)} {as : List Ask} {r : Addr} {H H' : Hp} {kvs : List (Key × V)} (h : ByL cols rows as H kvs) (hof : ∀ kv ∈ kvs, ∃ pa, kv.2 = V.ref pa ∧ pa ≠ r) (k : Kp r H H') : ByL cols rows as H' kvs :=
  ⟨h.keys, fun o ho => by
    obtain ⟨pa, e1, e2⟩ := h.vals o ho
    refine ⟨pa, e1, k _ _ (fun z => ?_) e2⟩
    obtain ⟨pb, e3, e4⟩ := hof _ (valV_mem' e1)
    cases e3
    exact e4 z⟩
def spLtree (K : PySem.W.Frag) (k : Nat) : Sp := fun vs H Q _ => ∃ (r ba sa oa : Addr) (n : Int) (cols : List Nat) (rows : List (List Int)) (as : List Ask) (kvs : List (Key × V)) (ss out : List (List Nat)), vs = [.ref r, .ref ba, .ref sa, .ref oa, .int (k : Int)] ∧ H r = some (.lst [.int n]) ∧ AsksOk cols as ∧ (∀ c ∈ cols, c ≤ 122) ∧ H ba = some (.dK kvs) ∧ ByL cols rows as H kvs ∧ (∀ kv ∈ kvs, ∃ pa, kv.2 = V.ref pa ∧ pa ≠ r) ∧ (listsM cols cols.length).length ≤ 64 ∧ cols.length ≤ 6 ∧ H sa = some (.lst (ss.map tx)) ∧ sa ≠ r ∧ ss.length + k ≤ 90 ∧ H oa = some (.lst (out.map tx)) ∧ oa ≠ r ∧ out.length + 64 * k ≤ 6000 ∧
  ∀ (v : V) (n' : Int) (H' : Hp), Kp r H H' → H' r = some (.lst [.int n']) → Tr (listsM cols cols.length) [r] H' k v → Q v H'
def spLtreeP (K : PySem.W.Frag) : Nat → Sp
  | 0 => fun _ _ _ _ => False
  | n + 1 => spLtree K n
set_option maxHeartbeats 4000000 in
theorem ok_ltree1 (T : Tx K mg Z) (k : Nat) (G_l_tree : FnOk P w K mg base CX0 (k + 4) Z.f_l_tree Z.d_l_tree ["reel", "by", "some", "out", "deep"] (spLtreeP K k)) : FnOk P w K mg base CX0 (k + 5) Z.f_l_tree Z.d_l_tree ["reel", "by", "some", "out", "deep"] (spLtree K k) := by
  have G_l_pick : FnOk P w K mg base CX0 1 Z.f_l_pick Z.d_l_pick ["reel", "many"] (spPick K) := ok_pick T
  have G_l_outdone : FnOk P w K mg base CX0 1 Z.f_l_outdone Z.d_l_outdone ["by", "one", "some"] (spLoutdone K) := ok_loutdone T
  refine T.F_l_tree.ok sc_l_tree (fun vs H Q E h => ?_) (fun cdv A outer s H vs Q E hr h => ?_)
  · obtain ⟨r, ba, sa, oa, n, cols, rows, as, kvs, ss, out, rfl, _⟩ := h
    rfl
  · obtain ⟨r, ba, sa, oa, n, cols, rows, as, kvs, ss, out, rfl, hR, has, haz, hba, hby, hof, hl64, hcn, hsa, nsa, hsl, hoa, noa, hol, q⟩ := h
    refine ⟨_, (pss_cons (ps_lock (ps_setLc (i := 6) (own := [("one", 5)]) (tt := _) (by rfl) sc_l_tree.nd rfl rfl (sw_true rfl rfl rfl (by decide +kernel)) (pi_keys (pv 1)) (blkOk_by (own := [("one", 5)]) (by kernel_rfl)) (fun _ _ _ _ _ => (pg_name (i := 5) sc_l_tree.nd rfl (.inl rfl))) (fun _ _ _ _ _ => (pts_one (PW.pt (pw_and (pt_cmpR (notInSq K) (pv 5) (pv 2) (by rfl)) (pw_and1 (pt_cmpR (notInSq K) (pv 5) (pv 3) (by rfl))))))) (fun _ _ _ _ _ => (pv 5))))
      (pss_cons (ps_if (PW.pt (pw_or (pt_cmpR op_eq (pv 4) pe_int (nomark _)) (pw_or (pt_cmpR (eqDK K hr.units) (pv 6) (pe_lst pa_nil) (nomark _)) (pw_or1 (pt_cmpR op_eq (pe_call G_l_pick (hr.mono (by omega)) (by rfl) T.g_l_pick T.F_l_pick.kp T.b_l_pick .nil pass0 (pa_cons (pv 0) (pa_cons pe_int pa_nil))) pe_int (nomark _)))))) (pss_one (ps_ret (pe_ix (ixL K) (pe_lst (pa_cons (pe_tup (pa_cons pe_str pa_nil)) (pa_cons (pe_tup (pa_cons pe_str pa_nil)) (pa_cons (pe_tup (pa_cons pe_str pa_nil)) (pa_cons (pe_tup (pa_cons pe_str pa_nil)) pa_nil))))) (pe_call G_l_pick (hr.mono (by omega)) (by rfl) T.g_l_pick T.F_l_pick.kp T.b_l_pick .nil pass0 (pa_cons (pv 0) (pa_cons pe_int pa_nil))) (fun _ _ => rfl)))) pss_nil)
      (pss_cons (ps_set (i := 5) sc_l_tree.nd rfl (.inl rfl) (pe_ix (ixL K) (pv 6) (pe_call G_l_pick (hr.mono (by omega)) (by rfl) T.g_l_pick T.F_l_pick.kp T.b_l_pick .nil pass0 (pa_cons (pv 0) (pa_cons (pe_callB (cLenSq K) (by rfl) T.m_len (by decide +kernel) (pa_cons (pv 6) pa_nil)) pa_nil))) (fun _ _ => rfl)))
      (pss_cons (ps_set (i := 7) sc_l_tree.nd rfl (.inl rfl) (pe_call G_l_tree (hr.mono (by omega)) (by rfl) T.g_l_tree T.F_l_tree.kp T.b_l_tree .nil pass0 (pa_cons (pv 0) (pa_cons (pv 1) (pa_cons (pe_op op_cat (pv 2) (pe_lst (pa_cons (pv 5) pa_nil))) (pa_cons (pv 3) (pa_cons (pe_op op_sub (pv 4) pe_int) pa_nil)))))))
      (pss_one (ps_ret (pe_tup (pa_cons pe_str (pa_cons (pv 5) (pa_cons (pv 7) (pa_cons (pe_call G_l_tree (hr.mono (by omega)) (by rfl) T.g_l_tree T.F_l_tree.kp T.b_l_tree .nil pass0 (pa_cons (pv 0) (pa_cons (pv 1) (pa_cons (pv 2) (pa_cons (pe_op op_cat (pv 3) (pe_call G_l_outdone (hr.mono (by omega)) (by rfl) T.g_l_outdone T.F_l_outdone.kp T.b_l_outdone .nil pass0 (pa_cons (pv 1) (pa_cons (pv 5) (pa_cons (pv 2) pa_nil))))) (pa_cons (pe_op op_sub (pv 4) pe_int) pa_nil)))))) pa_nil))))))))))), ?_⟩
    have line : (4665600 : Nat) < sizeLine := by rw [sizeLine_eq]; decide
    -- lists
    refine ⟨ba, .dK kvs, hba, trivial, fun od => ?_⟩
    have lk : Lock H (upd H ba (.frz od (.dK kvs))) ba od kvs := Lock.mk' hba
    generalize upd H ba (.frz od (.dK kvs)) = HL at lk ⊢
    have kl : kvs.length = (listsM cols cols.length).length := by
      have := congrArg List.length hby.keys
      rw [List.length_map, List.length_map] at this
      exact this
    have hsaL := lk.lst hsa
    have hoaL := lk.lst hoa
    refine ⟨.ref ba, rfl, ba, od, rfl, .inl ⟨kvs, lk.at', fun M nM => lc_it walk_keys (fun j H' => Same HL H' ∧ H' M = some (.lst ((((listsM cols cols.length).take j).filter fun o => !decide (o ∈ ss) && !decide (o ∈ out)).map tx)))
      ⟨Same.new (Same.refl HL) nM, upd_same⟩ (fun j H' _ hP => hP.1 _ _ lk.at') (fun j x H3 H4 hj hP hY => ?_) (fun H3 hP => ?_)⟩⟩
    · obtain ⟨sm3, hM3⟩ := hP
      obtain ⟨rfl, k0, v0, hkv, rfl⟩ := hY
      have hjl : j < (listsM cols cols.length).length := by rw [← kl]; exact hj
      have ek : k0 = Sum.inr (txS (listsM cols cols.length)[j]) := by
        have := congrArg (fun l => l[j]?) hby.keys
        simp only [List.getElem?_map, hkv, List.getElem?_eq_getElem hjl, Option.map_some] at this
        exact Option.some.inj this
      rw [ek]
      have ho := List.getElem_mem hjl
      have hoj := List.getElem?_eq_getElem hjl
      generalize (listsM cols cols.length)[j] = o at ho hoj
      have fs := filter_snoc (fun o => !decide (o ∈ ss) && !decide (o ∈ out)) (listsM cols cols.length) j o hoj
      have fl := List.length_filter_le (fun o => !decide (o ∈ ss) && !decide (o ∈ out)) ((listsM cols cols.length).take j)
      rw [List.length_take] at fl
      refine ⟨rfl, tx o, rfl, .ref sa, rfl, sa, _, rfl, .inl (.inl (.inl (sm3 _ _ hsaL))), rfl, flat_texts _, _, rfl, ?_⟩
      show (if (!inV (tx o) (ss.map tx)) = true then _ else _)
      rw [inV_texts]
      refine ite2 (fun e => ?_) (fun e => ?_)
      · refine ⟨tx o, rfl, .ref oa, rfl, oa, _, rfl, .inl (.inl (.inl (sm3 _ _ hoaL))), rfl, flat_texts _, _, rfl, ?_⟩
        show (if (!inV (tx o) (out.map tx)) = true then _ else _)
        rw [inV_texts]
        refine ite2 (fun e2 => ?_) (fun e2 => ?_)
        · refine ⟨tx o, rfl, _, hM3, small1000 (by rw [List.length_map]; omega), Same.mut sm3 nM, ?_⟩
          rw [upd_same, fs, if_pos (by rw [e, e2]; rfl), List.map_append]
          rfl
        · refine ⟨sm3, ?_⟩
          rw [hM3, fs, if_neg (by simp at e2; simp [e2]), List.append_nil]
      · refine ⟨sm3, ?_⟩
        rw [hM3, fs, if_neg (by simp at e; simp [e]), List.append_nil]
    obtain ⟨sm3, hM3⟩ := hP
    rw [kl, List.take_of_length_le (Nat.le_refl _)] at hM3
    refine ⟨sm3 _ _ lk.at', ?_⟩
    have back := lk.back sm3
    have nMb : M ≠ ba := fun z => by
      rw [z, lk.at'] at nM
      cases nM
    have hM4 := keep_ne (o := .dK kvs) hM3 nMb
    have lfl := List.length_filter_le (fun o => !decide (o ∈ ss) && !decide (o ∈ out)) (listsM cols cols.length)
    have lsub : ∀ o ∈ (listsM cols cols.length).filter (fun o => !decide (o ∈ ss) && !decide (o ∈ out)), o ∈ listsM cols cols.length := fun o ho => (List.mem_filter.mp ho).1
    have nMr : M ≠ r := fun z => by
      rw [z, lk.lst hR] at nM
      cases nM
    generalize upd H3 ba (.dK kvs) = H4 at back hM4 ⊢
    generalize (listsM cols cols.length).filter (fun o => !decide (o ∈ ss) && !decide (o ∈ out)) = fl at hM4 lfl lsub
    clear sm3 hM3 hsaL hoaL lk nM
    have hR4 := back _ _ hR
    have kp4 : Kp r H H4 := Same.kp back
    -- a leaf
    have leaf : ∀ (n1 : Int) (G : Hp) (σ : L2.St), σ[0]? = some (some (V.ref r)) → Kp r H G → G r = some (.lst [.int n1]) → tOp (rIxL K) (tLst (tCons (tTup (tCons (tC (V.str (Str.ofString "dear"))) tNil)) (tCons (tTup (tCons (tC (V.str (Str.ofString "dear"))) tNil)) (tCons (tTup (tCons (tC (V.str (Str.ofString "dear"))) tNil)) (tCons (tTup (tCons (tC (V.str (Str.ofString "over"))) tNil)) tNil))))) (tCall (spPick K) [] E0 (tCons (tVar 0) (tCons (tC (V.int 4)) tNil))) σ G Q := fun n1 G σ h0 kpG hRG => by
      refine ⟨(by show 1 ≤ sizeLine; decide), fun p1 np1 => ⟨(by show 1 ≤ sizeLine; decide), fun p2 np2 => ⟨(by show 1 ≤ sizeLine; decide), fun p3 np3 => ⟨(by show 1 ≤ sizeLine; decide), fun p4 np4 => ⟨(by show 4 ≤ sizeLine; decide), fun pl npl => ?_⟩⟩⟩⟩⟩
      have hR1 := keep_new (o := .tup [V.str (Str.ofString "dear")]) hRG np1
      have hR2 := keep_new (o := .tup [V.str (Str.ofString "dear")]) hR1 np2
      have hR3 := keep_new (o := .tup [V.str (Str.ofString "dear")]) hR2 np3
      have hR4 := keep_new (o := .tup [V.str (Str.ofString "over")]) hR3 np4
      have hRl := keep_new (o := .lst [V.ref p1, .ref p2, .ref p3, .ref p4]) hR4 npl
      have n1r : p1 ∉ [r] := fun z => ne_of_none hRG np1 (List.mem_singleton.mp z).symm
      have n2r : p2 ∉ [r] := fun z => ne_of_none hR1 np2 (List.mem_singleton.mp z).symm
      have n3r : p3 ∉ [r] := fun z => ne_of_none hR2 np3 (List.mem_singleton.mp z).symm
      have n4r : p4 ∉ [r] := fun z => ne_of_none hR3 np4 (List.mem_singleton.mp z).symm
      have nlr : pl ≠ r := (ne_of_none hR4 npl).symm
      have t1 : Tr (listsM cols cols.length) [r] (upd (upd (upd (upd (upd G p1 (.tup [V.str (Str.ofString "dear")])) p2 (.tup [V.str (Str.ofString "dear")])) p3 (.tup [V.str (Str.ofString "dear")])) p4 (.tup [V.str (Str.ofString "over")])) pl (.lst [V.ref p1, .ref p2, .ref p3, .ref p4])) k (.ref p1) := .leaf n1r (keep_new (keep_new (keep_new (keep_new upd_same np2) np3) np4) npl) (.inl rfl)
      have t2 : Tr (listsM cols cols.length) [r] (upd (upd (upd (upd (upd G p1 (.tup [V.str (Str.ofString "dear")])) p2 (.tup [V.str (Str.ofString "dear")])) p3 (.tup [V.str (Str.ofString "dear")])) p4 (.tup [V.str (Str.ofString "over")])) pl (.lst [V.ref p1, .ref p2, .ref p3, .ref p4])) k (.ref p2) := .leaf n2r (keep_new (keep_new (keep_new upd_same np3) np4) npl) (.inl rfl)
      have t3 : Tr (listsM cols cols.length) [r] (upd (upd (upd (upd (upd G p1 (.tup [V.str (Str.ofString "dear")])) p2 (.tup [V.str (Str.ofString "dear")])) p3 (.tup [V.str (Str.ofString "dear")])) p4 (.tup [V.str (Str.ofString "over")])) pl (.lst [V.ref p1, .ref p2, .ref p3, .ref p4])) k (.ref p3) := .leaf n3r (keep_new (keep_new upd_same np4) npl) (.inl rfl)
      have t4 : Tr (listsM cols cols.length) [r] (upd (upd (upd (upd (upd G p1 (.tup [V.str (Str.ofString "dear")])) p2 (.tup [V.str (Str.ofString "dear")])) p3 (.tup [V.str (Str.ofString "dear")])) p4 (.tup [V.str (Str.ofString "over")])) pl (.lst [V.ref p1, .ref p2, .ref p3, .ref p4])) k (.ref p4) := .leaf n4r (keep_new upd_same npl) (.inr rfl)
      have kpL : Kp r H (upd (upd (upd (upd (upd G p1 (.tup [V.str (Str.ofString "dear")])) p2 (.tup [V.str (Str.ofString "dear")])) p3 (.tup [V.str (Str.ofString "dear")])) p4 (.tup [V.str (Str.ofString "over")])) pl (.lst [V.ref p1, .ref p2, .ref p3, .ref p4])) := ((((kpG.new np1).new np2).new np3).new np4).new npl
      have hpl : (upd (upd (upd (upd (upd G p1 (.tup [V.str (Str.ofString "dear")])) p2 (.tup [V.str (Str.ofString "dear")])) p3 (.tup [V.str (Str.ofString "dear")])) p4 (.tup [V.str (Str.ofString "over")])) pl (.lst [V.ref p1, .ref p2, .ref p3, .ref p4])) pl = some (.lst [V.ref p1, .ref p2, .ref p3, .ref p4]) := upd_same
      generalize upd (upd (upd (upd (upd G p1 (.tup [V.str (Str.ofString "dear")])) p2 (.tup [V.str (Str.ofString "dear")])) p3 (.tup [V.str (Str.ofString "dear")])) p4 (.tup [V.str (Str.ofString "over")])) pl (.lst [V.ref p1, .ref p2, .ref p3, .ref p4]) = GL at t1 t2 t3 t4 kpL hpl hRl ⊢
      refine ⟨.ref r, h0, r, n1, 4, rfl, hRl, by decide, by decide, fun d n2 d0 d1 => ?_⟩
      obtain ⟨v, hv, hat⟩ := at_mem (vs := [V.ref p1, .ref p2, .ref p3, .ref p4]) d0 (show d < ((4 : Nat) : Int) from d1)
      have kpE : Kp r GL (upd GL r (.lst [.int n2])) := Kp.own Kp.rfl'
      refine ⟨pl, _, d, v, rfl, rfl, .inl (.inl (kpE _ _ nlr hpl)), hat, q v n2 _ (kpL.trans kpE) upd_same ?_⟩
      have tv : Tr (listsM cols cols.length) [r] GL k v := by
        simp only [List.mem_cons, List.not_mem_nil, or_false] at hv
        rcases hv with rfl | rfl | rfl | rfl <;> assumption
      exact tv.kp kpE (List.mem_singleton.mpr rfl)
    refine ⟨_, rfl, rfl, _, rfl, ite2 (fun e => leaf n H4 _ rfl kp4 hR4) (fun e => ?_)⟩
    have hk : k ≠ 0 := fun z => e (by subst z; exact decide_eq_true rfl)
    obtain ⟨k', rfl⟩ : ∃ k', k = k' + 1 := ⟨k - 1, by omega⟩
    refine ⟨.ref M, rfl, Nat.zero_le _, fun N nN => ?_⟩
    have smN := Same.new (o := .lst []) (Same.refl H4) nN
    have hN5 : (upd H4 N (.lst [])) N = some (.lst []) := upd_same
    generalize upd H4 N (.lst []) = H5 at smN hN5 ⊢
    have kp5 : Kp r H H5 := kp4.trans (Same.kp smN)
    have hR5 := smN _ _ hR4
    have hM5 := smN _ _ hM4
    have faz : ∀ o ∈ fl, ∀ c ∈ o, c ≤ 122 := fun o ho c hc => haz c ((lists_mem.mp (lsub o ho)).2.2.2 c hc)
    refine ⟨.list (fl.map strD), .list [], .lst (.inl (.inl hM5)) (dp_texts _), .lst (.inl (.inl hN5)) .nil, shaped_texts faz, by decide, _, rfl, ite2 (fun e2 => leaf n H5 _ rfl kp5 hR5) (fun e2 => ?_)⟩
    have flp : 0 < fl.length := List.length_pos_iff.mpr fun z => e2 (by rw [z]; rfl)
    refine ⟨.ref r, rfl, r, n, 5, rfl, hR5, by decide, by decide, fun u n6 u0 u1 => ?_⟩
    have kp56 : Kp r H5 (upd H5 r (.lst [.int n6])) := Kp.own Kp.rfl'
    have kp6 := kp5.trans kp56
    have hR6 : (upd H5 r (.lst [.int n6])) r = some (.lst [.int n6]) := upd_same
    have hM6 := kp56 _ _ nMr hM5
    generalize upd H5 r (.lst [.int n6]) = H6 at kp56 kp6 hR6 hM6 ⊢
    refine ⟨rfl, _, rfl, ite2 (fun e3 => leaf n6 H6 _ rfl kp6 hR6) (fun e3 => ?_)⟩
    -- one
    have flen : (fl.map tx).length = fl.length := List.length_map _
    refine ⟨.ref M, rfl, .ref r, rfl, .ref M, rfl, M, _, rfl, .inl (.inl (.inl hM6)), r, n6, ((fl.map tx).length : Nat), rfl, hR6, by omega, by omega, fun d n7 d0 d1 => ?_⟩
    rw [flen] at d1
    have kp67 : Kp r H6 (upd H6 r (.lst [.int n7])) := Kp.own Kp.rfl'
    have kp7 := kp6.trans kp67
    have hR7 : (upd H6 r (.lst [.int n7])) r = some (.lst [.int n7]) := upd_same
    have hM7 := kp67 _ _ nMr hM6
    generalize upd H6 r (.lst [.int n7]) = H7 at kp67 kp7 hR7 hM7 ⊢
    obtain ⟨di, rfl⟩ : ∃ m : Nat, d = m := ⟨d.toNat, by omega⟩
    obtain ⟨o, ho⟩ : ∃ o, fl[di]? = some o := ⟨_, List.getElem?_eq_getElem (by omega)⟩
    have onem := lsub o (List.mem_of_getElem? ho)
    refine ⟨M, _, _, tx o, rfl, rfl, .inl (.inl hM7), atI_nat (by rw [List.getElem?_map, ho]; rfl), ?_⟩
    clear leaf hM7 hM6 hM5 hM4 kp67 kp6 kp56 hR6 hR5 kp5 smN hN5 hR4 kp4 back ho faz
    have nba : ba ≠ r := fun z => by
      rw [z, hR] at hba
      cases hba
    have hba7 := kp7 _ _ nba hba
    have hsa7 := kp7 _ _ nsa hsa
    have hoa7 := kp7 _ _ noa hoa
    have hby7 := hby.kpr hof kp7
    -- here
    refine ⟨.ref r, rfl, .ref ba, rfl, .ref sa, rfl, tx o, rfl, (by show 1 ≤ sizeLine; decide), fun S1 nS1 => ?_⟩
    have kp8 : Kp r H (upd H7 S1 (.lst [tx o])) := kp7.new nS1
    have sm8 := Same.new (o := .lst [tx o]) (Same.refl H7) nS1
    have hS1 : (upd H7 S1 (.lst [tx o])) S1 = some (.lst ([o].map tx)) := upd_same
    generalize upd H7 S1 (.lst [tx o]) = H8 at kp8 sm8 hS1 ⊢
    refine ⟨sa, S1, _, _, rfl, rfl, sm8 _ _ hsa7, hS1, ?_, fun S2 nS2 => ?_⟩
    · rw [List.length_map, List.length_map]
      exact Nat.le_of_lt (small1000 (by show ss.length + 1 ≤ 1000; omega))
    rw [← List.map_append]
    have kp9 : Kp r H (upd H8 S2 (.lst ((ss ++ [o]).map tx))) := kp8.new nS2
    have sm9 := Same.new (o := .lst ((ss ++ [o]).map tx)) sm8 nS2
    have hS2 : (upd H8 S2 (.lst ((ss ++ [o]).map tx))) S2 = some (.lst ((ss ++ [o]).map tx)) := upd_same
    have nS2r : S2 ≠ r := (ne_of_none (sm8 _ _ hR7) nS2).symm
    generalize upd H8 S2 (.lst ((ss ++ [o]).map tx)) = H9 at kp9 sm9 hS2 ⊢
    have ek : ((k' + 1 : Nat) : Int) - 1 = (k' : Int) := by omega
    refine ⟨.ref oa, rfl, _, rfl, _, _, rfl, rfl, r, ba, S2, oa, n7, cols, rows, as, kvs, ss ++ [o], out, ?_, sm9 _ _ hR7, has, haz, sm9 _ _ hba7, hby7.kept (fun b xs e => sm9 _ _ e), hof, hl64, hcn, hS2, nS2r, by rw [List.length_append]; show ss.length + 1 + k' ≤ 90; omega, sm9 _ _ hoa7, noa, by omega, fun va nA HA kpA hRA trA => ?_⟩
    · show [V.ref r, V.ref ba, V.ref S2, V.ref oa, V.int (((k' + 1 : Nat) : Int) - 1)] = _
      rw [ek]
    clear hS1 hS2 sm8 kp8 nS1 nS2
    have kpB := kp9.trans kpA
    have hsaA := kpA _ _ nsa (sm9 _ _ hsa7)
    have hoaA := kpA _ _ noa (sm9 _ _ hoa7)
    have hbaA := kpA _ _ nba (sm9 _ _ hba7)
    have hbyA := hby.kpr hof kpB
    -- there
    refine ⟨tx o, rfl, va, rfl, .ref r, rfl, .ref ba, rfl, .ref sa, rfl, .ref oa, rfl, .ref ba, rfl, tx o, rfl, .ref sa, rfl, ba, sa, cols, rows, as, kvs, o, ss, rfl, has, hbaA, hbyA, hl64, hcn, onem, hsaA, by omega, fun F HF smF nF hF => ?_⟩
    have ofl := List.length_filter_le (fun x => !decide (x ∈ ss) && outB cols rows as o x) (listsM cols cols.length)
    generalize (listsM cols cols.length).filter (fun x => !decide (x ∈ ss) && outB cols rows as o x) = od2 at hF ofl
    refine ⟨oa, F, _, _, rfl, rfl, smF _ _ hoaA, hF, ?_, fun S3 nS3 => ?_⟩
    · rw [List.length_map, List.length_map]
      omega
    rw [← List.map_append]
    have smG := Same.new (o := .lst ((out ++ od2).map tx)) smF nS3
    have hS3 : (upd HF S3 (.lst ((out ++ od2).map tx))) S3 = some (.lst ((out ++ od2).map tx)) := upd_same
    have nS3r : S3 ≠ r := (ne_of_none (smF _ _ hRA) nS3).symm
    generalize upd HF S3 (.lst ((out ++ od2).map tx)) = HG at smG hS3 ⊢
    refine ⟨_, rfl, _, _, rfl, rfl, r, ba, sa, S3, nA, cols, rows, as, kvs, ss, out ++ od2, ?_, smG _ _ hRA, has, haz, smG _ _ hbaA, hbyA.kept (fun b xs e => smG _ _ e), hof, hl64, hcn, smG _ _ hsaA, nsa, by omega, hS3, nS3r, by rw [List.length_append]; omega, fun vb nB HB kpC hRC trC => ?_⟩
    · show [V.ref r, V.ref ba, V.ref sa, V.ref S3, V.int (((k' + 1 : Nat) : Int) - 1)] = _
      rw [ek]
    refine ⟨(by show 4 ≤ sizeLine; decide), fun p np => ?_⟩
    have kpD : Kp r HA HB := (Same.kp smG).trans kpC
    have smE := Same.new (o := .tup [V.str (Str.ofString "list"), tx o, va, vb]) (Same.refl HB) np
    exact q (.ref p) nB _ ((kpB.trans kpD).new np) (keep_new hRC np) (.fork (fun z => ne_of_none hRC np (List.mem_singleton.mp z).symm) upd_same onem ((trA.kp kpD (List.mem_singleton.mpr rfl)).same smE) (trC.same smE))
theorem ok_ltree (T : Tx K mg Z) : ∀ k : Nat, FnOk P w K mg base CX0 (k + 5) Z.f_l_tree Z.d_l_tree ["reel", "by", "some", "out", "deep"] (spLtree K k)
  | 0 => ok_ltree1 T 0 ⟨fun _ _ _ _ h => h.elim, fun _ _ _ _ _ _ _ _ _ _ _ _ _ h => h.elim⟩
  | k + 1 => ok_ltree1 T (k + 1) (ok_ltree T k)

/-! ### _law_floors -/
def spLfloors (K : PySem.W.Frag) (k : Nat) : Sp := fun vs H Q _ => ∃ (wv v : V) (ba sa oa : Addr) (most : Nat) (cols : List Nat) (rows : List (List Int)) (as : List Ask) (chg : Int) (kvs : List (Key × V)) (ss out : List (List Nat)) (L : List Addr), vs = [wv, .int most, v, .ref sa, .ref oa, .ref ba] ∧ WorkZ H wv cols rows as chg ∧ rows.length ≤ 100 ∧ AsksOk cols as ∧ 0 ≤ chg ∧ chg ≤ 1000000 ∧ H ba = some (.dK kvs) ∧ ByL cols rows as H kvs ∧ (listsM cols cols.length).length ≤ 64 ∧ cols.length ≤ 6 ∧ H sa = some (.lst (ss.map tx)) ∧ (∀ o ∈ ss, o ∈ listsM cols cols.length) ∧ ss.length + k ≤ 90 ∧ H oa = some (.lst (out.map tx)) ∧ out.length + 64 * k ≤ 6000 ∧ k ≤ 8 ∧ Tr (listsM cols cols.length) L H k v ∧
  ∀ (f : Addr) (ns : List Int) (H' : Hp), Same H H' → H f = none → H' f = some (.lst (ns.map V.int)) → ns.length ≤ 2 ^ k → Q (.ref f) H'
def spLfloorsP (K : PySem.W.Frag) : Nat → Sp
  | 0 => fun _ _ _ _ => False
  | n + 1 => spLfloors K n
set_option maxHeartbeats 4000000 in
theorem ok_lfloors1 (T : Tx K mg Z) (k : Nat) (G_l_floors : FnOk P w K mg base CX0 (k + 4) Z.f_l_floors Z.d_l_floors ["work", "most", "tree", "some", "out", "by"] (spLfloorsP K k)) : FnOk P w K mg base CX0 (k + 5) Z.f_l_floors Z.d_l_floors ["work", "most", "tree", "some", "out", "by"] (spLfloors K k) := by
  have G_l_floor : FnOk P w K mg base CX0 2 Z.f_l_floor Z.d_l_floor ["work", "most", "some", "out", "by"] (spLfloor K) := ok_lfloor T
  have G_l_outdone : FnOk P w K mg base CX0 1 Z.f_l_outdone Z.d_l_outdone ["by", "one", "some"] (spLoutdone K) := ok_loutdone T
  refine T.F_l_floors.ok sc_l_floors (fun vs H Q E h => ?_) (fun cdv A outer s H vs Q E hr h => ?_)
  · obtain ⟨wv, v, ba, sa, oa, most, cols, rows, as, chg, kvs, ss, out, L, rfl, _⟩ := h
    rfl
  · obtain ⟨wv, v, ba, sa, oa, most, cols, rows, as, chg, kvs, ss, out, L, rfl, fw, hrn, has, hg0, hg1, hba, hby, hl64, hcn, hsa, hss, hsl, hoa, hol, hk8, tr, q⟩ := h
    refine ⟨_, (pss_cons (ps_if (pt_cmpR op_ne (pe_ix (ixT K) (pv 2) pe_int (fun _ _ => rfl)) pe_str (nomark _)) (pss_one (ps_ret (pe_op op_rep (pe_lst (pa_cons (pe_call G_l_floor (hr.mono (by omega)) (by rfl) T.g_l_floor T.F_l_floor.kp T.b_l_floor .nil pass0 (pa_cons (pv 0) (pa_cons (pv 1) (pa_cons (pv 3) (pa_cons (pv 4) (pa_cons (pv 5) pa_nil)))))) pa_nil)) (pe_callTy call_int1 (by rfl) T.m_int (by decide +kernel) (pa_cons (pe_cmpR (eqDK K hr.units) (pv 2) (pe_tup (pa_cons pe_str pa_nil)) (nomark _)) pa_nil))))) pss_nil)
      (pss_cons (ps_set (i := 6) sc_l_floors.nd rfl (.inl rfl) (pe_call G_l_floors (hr.mono (by omega)) (by rfl) T.g_l_floors T.F_l_floors.kp T.b_l_floors .nil pass0 (pa_cons (pv 0) (pa_cons (pv 1) (pa_cons (pe_ix (ixT K) (pv 2) pe_int (fun _ _ => rfl)) (pa_cons (pe_op op_cat (pv 3) (pe_lst (pa_cons (pe_ix (ixT K) (pv 2) pe_int (fun _ _ => rfl)) pa_nil))) (pa_cons (pv 4) (pa_cons (pv 5) pa_nil))))))))
      (pss_one (ps_ret (pe_op op_cat (pv 6) (pe_call G_l_floors (hr.mono (by omega)) (by rfl) T.g_l_floors T.F_l_floors.kp T.b_l_floors .nil pass0 (pa_cons (pv 0) (pa_cons (pv 1) (pa_cons (pe_ix (ixT K) (pv 2) pe_int (fun _ _ => rfl)) (pa_cons (pv 3) (pa_cons (pe_op op_cat (pv 4) (pe_call G_l_outdone (hr.mono (by omega)) (by rfl) T.g_l_outdone T.F_l_outdone.kp T.b_l_outdone .nil pass0 (pa_cons (pv 5) (pa_cons (pe_ix (ixT K) (pv 2) pe_int (fun _ _ => rfl)) (pa_cons (pv 3) pa_nil))))) (pa_cons (pv 5) pa_nil)))))))))))), ?_⟩
    have line : (4665600 : Nat) < sizeLine := by rw [sizeLine_eq]; decide
    cases tr with
    | @leaf _ p s np hp hs =>
      have ne : V.str s ≠ V.str (Str.ofString "list") := by
        rcases hs with rfl | rfl <;> decide
      have shs : SeqAt.shaped (.tuple [.str s]) = true := by
        rcases hs with rfl | rfl <;> decide +kernel
      refine ⟨.ref p, rfl, p, _, 0, .str s, rfl, rfl, .inl (.inl hp), rfl, rfl, _, rfl, ite2 (fun _ => ?_) (fun z => ?_)⟩
      rotate_left 1
      · rw [decide_eq_false ne] at z
        exact absurd rfl z
      refine ⟨wv, rfl, .int most, rfl, .ref sa, rfl, .ref oa, rfl, .ref ba, rfl, wv, ba, sa, oa, most, cols, rows, as, chg, kvs, ss, out, rfl, fw, hrn, has, hg0, hg1, hba, hby, hl64, hcn, hsa, hss, by omega, hoa, fun H1 sm1 => ⟨(by show 1 ≤ sizeLine; decide), fun S1 nS1 => ?_⟩⟩
      generalize floorM cols rows as chg most ss (freeM (listsM cols cols.length) ss out) = fm
      have sm2 := Same.new (o := .lst [.int fm]) sm1 nS1
      have hS1 : (upd H1 S1 (.lst [.int fm])) S1 = some (.lst [.int fm]) := upd_same
      generalize upd H1 S1 (.lst [.int fm]) = H2 at sm2 hS1 ⊢
      refine ⟨.ref p, rfl, (by show 1 ≤ sizeLine; decide), fun t1 nt1 => ?_⟩
      have sm3 := Same.new (o := .tup [.str (Str.ofString "dear")]) sm2 nt1
      have ht1 : (upd H2 t1 (.tup [V.str (Str.ofString "dear")])) t1 = some (.tup [.str (Str.ofString "dear")]) := upd_same
      have hS3 := keep_new (o := .tup [.str (Str.ofString "dear")]) hS1 nt1
      generalize upd H2 t1 (.tup [V.str (Str.ofString "dear")]) = H3 at sm3 ht1 hS3 ⊢
      refine ⟨.tuple [.str s], .tuple [.str (Str.ofString "dear")], .tup (.inl (.inl (sm3 _ _ hp))) (.cons (.str _) .nil), .tup (.inl (.inl ht1)) (.cons (.str _) .nil), shs, by decide +kernel, .inr ⟨_, rfl, ?_⟩⟩
      have p2 : 1 ≤ 2 ^ k := Nat.one_le_two_pow
      generalize PyData.eqv (.tuple [.str s]) (.tuple [.str (Str.ofString "dear")]) = b
      cases b with
      | true =>
        refine ⟨S1, _, [.int fm], rfl, rfl, hS3, by decide, by decide, by show 1 * 1 ≤ sizeLine; omega, fun f nf => ?_⟩
        exact q f [fm] _ (Same.new sm3 nf) (Same.free sm3 nf) upd_same p2
      | false =>
        refine ⟨S1, _, [.int fm], rfl, rfl, hS3, by decide, by decide, by show 1 * 0 ≤ sizeLine; omega, fun f nf => ?_⟩
        exact q f [] _ (Same.new sm3 nf) (Same.free sm3 nf) upd_same (Nat.zero_le _)
    | @fork k' p o va vb np hp ho ta tb =>
      refine ⟨.ref p, rfl, p, _, 0, .str (Str.ofString "list"), rfl, rfl, .inl (.inl hp), rfl, rfl, _, rfl, iteF ?_⟩
      have p8 : 2 ^ k' ≤ 128 := Nat.le_trans (Nat.pow_le_pow_right (by decide) (by omega : k' ≤ 7)) (by decide)
      have at1 : atI [V.str (Str.ofString "list"), tx o, va, vb] 1 = some (tx o) := rfl
      refine ⟨wv, rfl, .int most, rfl, .ref p, rfl, p, _, 2, va, rfl, rfl, .inl (.inl hp), rfl, .ref sa, rfl, .ref p, rfl, p, _, 1, tx o, rfl, rfl, .inl (.inl hp), rfl, (by show 1 ≤ sizeLine; decide), fun S1 nS1 => ?_⟩
      have sm1 := Same.new (o := .lst [tx o]) (Same.refl H) nS1
      have hS1 : (upd H S1 (.lst [tx o])) S1 = some (.lst ([o].map tx)) := upd_same
      generalize upd H S1 (.lst [tx o]) = H1 at sm1 hS1 ⊢
      refine ⟨sa, S1, _, _, rfl, rfl, sm1 _ _ hsa, hS1, ?_, fun S2 nS2 => ?_⟩
      · rw [List.length_map, List.length_map]
        exact Nat.le_of_lt (small1000 (by show ss.length + 1 ≤ 1000; omega))
      rw [← List.map_append]
      have sm2 := Same.new (o := .lst ((ss ++ [o]).map tx)) sm1 nS2
      have hS2 : (upd H1 S2 (.lst ((ss ++ [o]).map tx))) S2 = some (.lst ((ss ++ [o]).map tx)) := upd_same
      generalize upd H1 S2 (.lst ((ss ++ [o]).map tx)) = H2 at sm2 hS2 ⊢
      refine ⟨.ref oa, rfl, .ref ba, rfl, wv, va, ba, S2, oa, most, cols, rows, as, chg, kvs, ss ++ [o], out, L, rfl, fw.kT (Same.kT sm2), hrn, has, hg0, hg1, sm2 _ _ hba, hby.kept (fun b xs e => sm2 _ _ e), hl64, hcn, hS2, (fun x hx => (List.mem_append.mp hx).elim (hss x) fun z => by rw [List.mem_singleton.mp z]; exact ho), by rw [List.length_append]; show ss.length + 1 + k' ≤ 90; omega, sm2 _ _ hoa, by omega, by omega, ta.same sm2, fun f1 ns1 H3 sm3 nf1 hf1 hl1 => ?_⟩
      have smA := Same.trans sm2 sm3
      refine ⟨.ref f1, rfl, wv, rfl, .int most, rfl, .ref p, rfl, p, _, 3, vb, rfl, rfl, .inl (.inl (smA _ _ hp)), rfl, .ref sa, rfl, .ref oa, rfl, .ref ba, rfl, .ref p, rfl, p, _, 1, tx o, rfl, rfl, .inl (.inl (smA _ _ hp)), rfl, .ref sa, rfl, ba, sa, cols, rows, as, kvs, o, ss, rfl, has, smA _ _ hba, hby.kept (fun b xs e => smA _ _ e), hl64, hcn, ho, smA _ _ hsa, by omega, fun F HF smF nF hF => ?_⟩
      have ofl := List.length_filter_le (fun x => !decide (x ∈ ss) && outB cols rows as o x) (listsM cols cols.length)
      generalize (listsM cols cols.length).filter (fun x => !decide (x ∈ ss) && outB cols rows as o x) = od2 at hF ofl
      have smB := Same.trans smA smF
      refine ⟨oa, F, _, _, rfl, rfl, smB _ _ hoa, hF, ?_, fun S3 nS3 => ?_⟩
      · rw [List.length_map, List.length_map]
        omega
      rw [← List.map_append]
      have smC := Same.new (o := .lst ((out ++ od2).map tx)) smB nS3
      have smF2 := Same.new (o := .lst ((out ++ od2).map tx)) smF nS3
      have hS3 : (upd HF S3 (.lst ((out ++ od2).map tx))) S3 = some (.lst ((out ++ od2).map tx)) := upd_same
      generalize upd HF S3 (.lst ((out ++ od2).map tx)) = HG at smC smF2 hS3 ⊢
      refine ⟨.ref ba, rfl, wv, vb, ba, sa, S3, most, cols, rows, as, chg, kvs, ss, out ++ od2, L, rfl, fw.kT (Same.kT smC), hrn, has, hg0, hg1, smC _ _ hba, hby.kept (fun b xs e => smC _ _ e), hl64, hcn, smC _ _ hsa, hss, by omega, hS3, by rw [List.length_append]; omega, by omega, tb.same smC, fun f2 ns2 H5 sm5 nf2 hf2 hl2 => ?_⟩
      have smD := Same.trans smC sm5
      refine ⟨f1, f2, _, _, rfl, rfl, sm5 _ _ (smF2 _ _ hf1), hf2, ?_, fun f nf => ?_⟩
      · rw [List.length_map, List.length_map]
        omega
      rw [← List.map_append]
      refine q f (ns1 ++ ns2) _ (Same.new smD nf) (Same.free smD nf) upd_same ?_
      rw [List.length_append, Nat.pow_succ]
      omega
theorem ok_lfloors (T : Tx K mg Z) : ∀ k : Nat, FnOk P w K mg base CX0 (k + 5) Z.f_l_floors Z.d_l_floors ["work", "most", "tree", "some", "out", "by"] (spLfloors K k)
  | 0 => ok_lfloors1 T 0 ⟨fun _ _ _ _ h => h.elim, fun _ _ _ _ _ _ _ _ _ _ _ _ _ h => h.elim⟩
  | k + 1 => ok_lfloors1 T (k + 1) (ok_lfloors T k)

/-! ### _law_bent_deep -/
def bmN (k : Nat) : Nat := 5 * (tmN k + 1)
theorem kp_all {L : List Addr} {r : Addr} {H H' : Hp} {n n' : Int} (hl : ∀ b ∈ L, H b ≠ none) (hR : H r = some (.lst [.int n])) (k : Kp r H H') (hR' : H' r = some (.lst [.int n'])) : ∀ b ∈ L, H' b ≠ none := fun b hb => by
  by_cases e : b = r
  · rw [e, hR']
    exact fun z => nomatch z
  · cases eb : H b with
    | none => exact absurd eb (hl b hb)
    | some o =>
      rw [k b o e eb]
      exact fun z => nomatch z
def spBD (K : PySem.W.Frag) (n0 : Nat) : Sp := fun vs H Q _ => ∃ (r : Addr) (n : Int) (v : V) (c : Nat) (way : Int) (all : List (List Nat)) (L : List Addr) (k : Nat), vs = [v, sg c, .int way, .int (n0 : Int)] ∧ H r = some (.lst [.int n]) ∧ r ∈ L ∧ Tr all L H k v ∧ c < 1000 ∧ 0 ≤ way ∧ way < 8 ∧ (∀ o ∈ all, o.length ≤ 6 ∧ ∀ c ∈ o, c < 1000) ∧ (∀ b ∈ L, H b ≠ none) ∧
  ∀ (v' : V) (H' : Hp), Kp r H H' → H' r = some (.lst [.int n]) → Th L H' (k + 3) (bmN k) v' → Q v' H'
def spBDP (K : PySem.W.Frag) : Nat → Sp
  | 0 => fun _ _ _ _ => False
  | n + 1 => spBD K n
set_option maxHeartbeats 4000000 in
theorem ok_bd1 (T : Tx K mg Z) (n0 : Nat) (G_l_bent_deep : FnOk P w K mg base CX0 (n0 + 1) Z.f_l_bent_deep Z.d_l_bent_deep ["tree", "other", "way", "deep"] (spBDP K n0)) : FnOk P w K mg base CX0 (n0 + 2) Z.f_l_bent_deep Z.d_l_bent_deep ["tree", "other", "way", "deep"] (spBD K n0) := by
  refine T.F_l_bent_deep.ok sc_l_bent_deep (fun vs H Q E h => ?_) (fun cdv A outer s H vs Q E hr h => ?_)
  · obtain ⟨r, n, v, c, way, all, L, k, rfl, _⟩ := h
    rfl
  · obtain ⟨r, n, v, c, way, all, L, k, rfl, hR, hrL, tr, hc, w0, w1, hall, hl, q0⟩ := h
    have q : ∀ (v' : V) (m : Int) (H' : Hp), Kp r H H' → H' r = some (.lst [.int n]) → Th L H' (k + 3) (bmN k) v' → Q v' H' := fun v' _ H' => q0 v' H'
    clear q0
    refine ⟨_, (pss_cons (ps_if (PW.pt (pw_and (pt_cmpR op_eq (pe_ix (ixT K) (pv 0) pe_int (fun _ _ => rfl)) pe_str (nomark _)) (pw_and1 (pt_cmpR op_gt (pv 3) pe_int (nomark _))))) (pss_cons (ps_set (i := 4) sc_l_bent_deep.nd rfl (.inl rfl) (pe_op op_add pe_int (pe_op op_mod (pv 3) pe_int)))
      (pss_cons (ps_set (i := 5) sc_l_bent_deep.nd rfl (.inl rfl) (pe_call G_l_bent_deep (hr.mono (by omega)) (by rfl) T.g_l_bent_deep T.F_l_bent_deep.kp T.b_l_bent_deep .nil pass0 (pa_cons (pe_ix (ixT K) (pv 0) (pv 4) (fun _ _ => rfl)) (pa_cons (pv 1) (pa_cons (pv 2) (pa_cons (pe_op op_sub (pv 3) pe_int) pa_nil))))))
      (pss_one (ps_ret (pe_op (catWK K) (pe_op (catWK K) (pe_slice (slWK K) (pv 0) po_none (po_some (pv 4))) (pe_tup (pa_cons (pv 5) pa_nil))) (pe_slice (slWK K) (pv 0) (po_some (pe_op op_add (pv 4) pe_int)) po_none)))))) pss_nil)
      (pss_cons (ps_if (PW.pt (pw_and (pt_cmpR op_eq (pe_ix (ixT K) (pv 0) pe_int (fun _ _ => rfl)) pe_str (nomark _)) (pw_and1 (pt_cmpR op_lt (pv 2) pe_int (nomark _))))) (pss_one (ps_ret (pe_op (catWK K) (pe_tup (pa_cons pe_str (pa_cons (pe_ix (ixL K) (pe_lst (pa_cons (pv 1) (pa_cons (pe_op op_add_str (pe_ix (ixT K) (pv 0) pe_int (fun _ _ => rfl)) (pv 1)) (pa_cons (pe_op op_add_str (pv 1) (pe_ix (ixT K) (pv 0) pe_int (fun _ _ => rfl))) pa_nil)))) (pv 2) (fun _ _ => rfl)) pa_nil))) (pe_slice (slWK K) (pv 0) (po_some pe_int) po_none)))) pss_nil)
      (pss_one (ps_ret (pe_ix (ixL K) (pe_lst (pa_cons (pe_tup (pa_cons pe_str (pa_cons pe_int pa_nil))) (pa_cons (pe_lst (pa_cons pe_str pa_nil)) (pa_cons (pe_tup (pa_cons pe_str (pa_cons (pe_tup (pa_cons pe_str pa_nil)) (pa_cons (pe_tup (pa_cons pe_str pa_nil)) pa_nil)))) (pa_cons (pe_tup (pa_cons (pe_lst pa_nil) pa_nil)) (pa_cons (pe_tup (pa_cons (pe_tup pa_nil) pa_nil)) pa_nil)))))) (pe_op op_mod (pv 2) pe_int) (fun _ _ => rfl)))))), ?_⟩
    have odds : ∀ (σ : L2.St), σ[2]? = some (some (V.int way)) → tOp (rIxL K) (tLst (tCons (tTup (tCons (tC (V.str (Str.ofString "over"))) (tCons (tC (V.int 0)) tNil))) (tCons (tLst (tCons (tC (V.str (Str.ofString "over"))) tNil)) (tCons (tTup (tCons (tC (V.str (Str.ofString "over"))) (tCons (tTup (tCons (tC (V.str (Str.ofString "dear"))) tNil)) (tCons (tTup (tCons (tC (V.str (Str.ofString "dear"))) tNil)) tNil)))) (tCons (tTup (tCons (tLst tNil) tNil)) (tCons (tTup (tCons (tTup tNil) tNil)) tNil)))))) (tOp (rI (fun x j => 0 < j) fun i j => V.int (i % j)) (tVar 2) (tC (V.int 5))) σ H Q := fun σ h2 => by
      refine ⟨(by show 2 ≤ sizeLine; decide), fun pG1 npG1 => ?_⟩
      have nLpG1 : pG1 ∉ L := fun z => hl pG1 z npG1
      have ksG1 : Kp r H (upd H pG1 (.tup [.str (Str.ofString "over"), .int 0])) := Kp.new Kp.rfl' npG1
      have hRG1 : (upd H pG1 (.tup [.str (Str.ofString "over"), .int 0])) r = some (.lst [.int n]) := keep_new hR npG1
      have hlG1 : ∀ b ∈ L, (upd H pG1 (.tup [.str (Str.ofString "over"), .int 0])) b ≠ none := new_all hl
      have hopG1 : (upd H pG1 (.tup [.str (Str.ofString "over"), .int 0])) pG1 = some (.tup [.str (Str.ofString "over"), .int 0]) := upd_same
      generalize upd H pG1 (.tup [.str (Str.ofString "over"), .int 0]) = G1 at ksG1 hRG1 hlG1 hopG1 ⊢
      have tpG1 : Th L G1 1 22 (.ref pG1) := (Th.tup nLpG1 hopG1 (n := 0) (m := 10) (allC (Th.tx (l := [111, 118, 101, 114]) (by decide) (by decide)) (allC (Th.intS (by decide) (by decide)) all0))).mono (by omega) (by show (10 + 1) * 2 ≤ 22; omega)
      refine ⟨(by show 1 ≤ sizeLine; decide), fun pG2 npG2 => ?_⟩
      have nLpG2 : pG2 ∉ L := fun z => hlG1 pG2 z npG2
      have ksG2 : Kp r G1 (upd G1 pG2 (.lst [.str (Str.ofString "over")])) := Kp.new Kp.rfl' npG2
      have hRG2 : (upd G1 pG2 (.lst [.str (Str.ofString "over")])) r = some (.lst [.int n]) := keep_new hRG1 npG2
      have hlG2 : ∀ b ∈ L, (upd G1 pG2 (.lst [.str (Str.ofString "over")])) b ≠ none := new_all hlG1
      have hopG2 : (upd G1 pG2 (.lst [.str (Str.ofString "over")])) pG2 = some (.lst [.str (Str.ofString "over")]) := upd_same
      generalize upd G1 pG2 (.lst [.str (Str.ofString "over")]) = G2 at ksG2 hRG2 hlG2 hopG2 ⊢
      have tpG2 : Th L G2 1 5 (.ref pG2) := (Th.lst nLpG2 hopG2 (n := 0) (m := 4) (allC (Th.tx (l := [111, 118, 101, 114]) (by decide) (by decide)) all0)).mono (by omega) (by show (4 + 1) * 1 ≤ 5; omega)
      refine ⟨(by show 1 ≤ sizeLine; decide), fun pG3 npG3 => ?_⟩
      have nLpG3 : pG3 ∉ L := fun z => hlG2 pG3 z npG3
      have ksG3 : Kp r G2 (upd G2 pG3 (.tup [.str (Str.ofString "dear")])) := Kp.new Kp.rfl' npG3
      have hRG3 : (upd G2 pG3 (.tup [.str (Str.ofString "dear")])) r = some (.lst [.int n]) := keep_new hRG2 npG3
      have hlG3 : ∀ b ∈ L, (upd G2 pG3 (.tup [.str (Str.ofString "dear")])) b ≠ none := new_all hlG2
      have hopG3 : (upd G2 pG3 (.tup [.str (Str.ofString "dear")])) pG3 = some (.tup [.str (Str.ofString "dear")]) := upd_same
      generalize upd G2 pG3 (.tup [.str (Str.ofString "dear")]) = G3 at ksG3 hRG3 hlG3 hopG3 ⊢
      have tpG3 : Th L G3 1 5 (.ref pG3) := (Th.tup nLpG3 hopG3 (n := 0) (m := 4) (allC (Th.tx (l := [100, 101, 97, 114]) (by decide) (by decide)) all0)).mono (by omega) (by show (4 + 1) * 1 ≤ 5; omega)
      refine ⟨(by show 1 ≤ sizeLine; decide), fun pG4 npG4 => ?_⟩
      have nLpG4 : pG4 ∉ L := fun z => hlG3 pG4 z npG4
      have ksG4 : Kp r G3 (upd G3 pG4 (.tup [.str (Str.ofString "dear")])) := Kp.new Kp.rfl' npG4
      have hRG4 : (upd G3 pG4 (.tup [.str (Str.ofString "dear")])) r = some (.lst [.int n]) := keep_new hRG3 npG4
      have hlG4 : ∀ b ∈ L, (upd G3 pG4 (.tup [.str (Str.ofString "dear")])) b ≠ none := new_all hlG3
      have hopG4 : (upd G3 pG4 (.tup [.str (Str.ofString "dear")])) pG4 = some (.tup [.str (Str.ofString "dear")]) := upd_same
      generalize upd G3 pG4 (.tup [.str (Str.ofString "dear")]) = G4 at ksG4 hRG4 hlG4 hopG4 ⊢
      have tpG4 : Th L G4 1 5 (.ref pG4) := (Th.tup nLpG4 hopG4 (n := 0) (m := 4) (allC (Th.tx (l := [100, 101, 97, 114]) (by decide) (by decide)) all0)).mono (by omega) (by show (4 + 1) * 1 ≤ 5; omega)
      refine ⟨(by show 3 ≤ sizeLine; decide), fun pG5 npG5 => ?_⟩
      have nLpG5 : pG5 ∉ L := fun z => hlG4 pG5 z npG5
      have ksG5 : Kp r G4 (upd G4 pG5 (.tup [.str (Str.ofString "over"), .ref pG3, .ref pG4])) := Kp.new Kp.rfl' npG5
      have hRG5 : (upd G4 pG5 (.tup [.str (Str.ofString "over"), .ref pG3, .ref pG4])) r = some (.lst [.int n]) := keep_new hRG4 npG5
      have hlG5 : ∀ b ∈ L, (upd G4 pG5 (.tup [.str (Str.ofString "over"), .ref pG3, .ref pG4])) b ≠ none := new_all hlG4
      have hopG5 : (upd G4 pG5 (.tup [.str (Str.ofString "over"), .ref pG3, .ref pG4])) pG5 = some (.tup [.str (Str.ofString "over"), .ref pG3, .ref pG4]) := upd_same
      generalize upd G4 pG5 (.tup [.str (Str.ofString "over"), .ref pG3, .ref pG4]) = G5 at ksG5 hRG5 hlG5 hopG5 ⊢
      have tpG5 : Th L G5 2 18 (.ref pG5) := (Th.tup nLpG5 hopG5 (n := 1) (m := 5) (allC ((Th.tx (l := [111, 118, 101, 114]) (by decide) (by decide)).mono (n := 0) (m := 4) (by omega) (by omega)) (allC ((tpG3.kp ((ksG4).trans ksG5) hrL)) (allC ((tpG4.kp (ksG5) hrL)) all0)))).mono (by omega) (by show (5 + 1) * 3 ≤ 18; omega)
      refine ⟨(by show 0 ≤ sizeLine; decide), fun pG6 npG6 => ?_⟩
      have nLpG6 : pG6 ∉ L := fun z => hlG5 pG6 z npG6
      have ksG6 : Kp r G5 (upd G5 pG6 (.lst [])) := Kp.new Kp.rfl' npG6
      have hRG6 : (upd G5 pG6 (.lst [])) r = some (.lst [.int n]) := keep_new hRG5 npG6
      have hlG6 : ∀ b ∈ L, (upd G5 pG6 (.lst [])) b ≠ none := new_all hlG5
      have hopG6 : (upd G5 pG6 (.lst [])) pG6 = some (.lst []) := upd_same
      generalize upd G5 pG6 (.lst []) = G6 at ksG6 hRG6 hlG6 hopG6 ⊢
      have tpG6 : Th L G6 1 0 (.ref pG6) := (Th.lst nLpG6 hopG6 (n := 0) (m := 0) all0).mono (by omega) (by show (0 + 1) * 0 ≤ 0; omega)
      refine ⟨(by show 1 ≤ sizeLine; decide), fun pG7 npG7 => ?_⟩
      have nLpG7 : pG7 ∉ L := fun z => hlG6 pG7 z npG7
      have ksG7 : Kp r G6 (upd G6 pG7 (.tup [.ref pG6])) := Kp.new Kp.rfl' npG7
      have hRG7 : (upd G6 pG7 (.tup [.ref pG6])) r = some (.lst [.int n]) := keep_new hRG6 npG7
      have hlG7 : ∀ b ∈ L, (upd G6 pG7 (.tup [.ref pG6])) b ≠ none := new_all hlG6
      have hopG7 : (upd G6 pG7 (.tup [.ref pG6])) pG7 = some (.tup [.ref pG6]) := upd_same
      generalize upd G6 pG7 (.tup [.ref pG6]) = G7 at ksG7 hRG7 hlG7 hopG7 ⊢
      have tpG7 : Th L G7 2 1 (.ref pG7) := (Th.tup nLpG7 hopG7 (n := 1) (m := 0) (allC ((tpG6.kp (ksG7) hrL)) all0)).mono (by omega) (by show (0 + 1) * 1 ≤ 1; omega)
      refine ⟨(by show 0 ≤ sizeLine; decide), fun pG8 npG8 => ?_⟩
      have nLpG8 : pG8 ∉ L := fun z => hlG7 pG8 z npG8
      have ksG8 : Kp r G7 (upd G7 pG8 (.tup [])) := Kp.new Kp.rfl' npG8
      have hRG8 : (upd G7 pG8 (.tup [])) r = some (.lst [.int n]) := keep_new hRG7 npG8
      have hlG8 : ∀ b ∈ L, (upd G7 pG8 (.tup [])) b ≠ none := new_all hlG7
      have hopG8 : (upd G7 pG8 (.tup [])) pG8 = some (.tup []) := upd_same
      generalize upd G7 pG8 (.tup []) = G8 at ksG8 hRG8 hlG8 hopG8 ⊢
      have tpG8 : Th L G8 1 0 (.ref pG8) := (Th.tup nLpG8 hopG8 (n := 0) (m := 0) all0).mono (by omega) (by show (0 + 1) * 0 ≤ 0; omega)
      refine ⟨(by show 1 ≤ sizeLine; decide), fun pG9 npG9 => ?_⟩
      have nLpG9 : pG9 ∉ L := fun z => hlG8 pG9 z npG9
      have ksG9 : Kp r G8 (upd G8 pG9 (.tup [.ref pG8])) := Kp.new Kp.rfl' npG9
      have hRG9 : (upd G8 pG9 (.tup [.ref pG8])) r = some (.lst [.int n]) := keep_new hRG8 npG9
      have hlG9 : ∀ b ∈ L, (upd G8 pG9 (.tup [.ref pG8])) b ≠ none := new_all hlG8
      have hopG9 : (upd G8 pG9 (.tup [.ref pG8])) pG9 = some (.tup [.ref pG8]) := upd_same
      generalize upd G8 pG9 (.tup [.ref pG8]) = G9 at ksG9 hRG9 hlG9 hopG9 ⊢
      have tpG9 : Th L G9 2 1 (.ref pG9) := (Th.tup nLpG9 hopG9 (n := 1) (m := 0) (allC ((tpG8.kp (ksG9) hrL)) all0)).mono (by omega) (by show (0 + 1) * 1 ≤ 1; omega)
      refine ⟨(by show 5 ≤ sizeLine; decide), fun pG10 npG10 => ?_⟩
      have nLpG10 : pG10 ∉ L := fun z => hlG9 pG10 z npG10
      have ksG10 : Kp r G9 (upd G9 pG10 (.lst [.ref pG1, .ref pG2, .ref pG5, .ref pG7, .ref pG9])) := Kp.new Kp.rfl' npG10
      have hRG10 : (upd G9 pG10 (.lst [.ref pG1, .ref pG2, .ref pG5, .ref pG7, .ref pG9])) r = some (.lst [.int n]) := keep_new hRG9 npG10
      have hlG10 : ∀ b ∈ L, (upd G9 pG10 (.lst [.ref pG1, .ref pG2, .ref pG5, .ref pG7, .ref pG9])) b ≠ none := new_all hlG9
      have hopG10 : (upd G9 pG10 (.lst [.ref pG1, .ref pG2, .ref pG5, .ref pG7, .ref pG9])) pG10 = some (.lst [.ref pG1, .ref pG2, .ref pG5, .ref pG7, .ref pG9]) := upd_same
      generalize upd G9 pG10 (.lst [.ref pG1, .ref pG2, .ref pG5, .ref pG7, .ref pG9]) = G10 at ksG10 hRG10 hlG10 hopG10 ⊢
      have m0 : 0 ≤ way % 5 := Int.emod_nonneg _ (by decide)
      have m1 : way % 5 < 5 := Int.emod_lt_of_pos _ (by decide)
      obtain ⟨ov, atov, thov⟩ := Th.at (L := L) (H := G10) (n := 3) (m := 50) (vs := [.ref pG1, .ref pG2, .ref pG5, .ref pG7, .ref pG9]) (allC ((tpG1.kp (((((((((ksG2).trans ksG3).trans ksG4).trans ksG5).trans ksG6).trans ksG7).trans ksG8).trans ksG9).trans ksG10) hrL).mono (by omega) (by omega)) (allC ((tpG2.kp ((((((((ksG3).trans ksG4).trans ksG5).trans ksG6).trans ksG7).trans ksG8).trans ksG9).trans ksG10) hrL).mono (by omega) (by omega)) (allC ((tpG5.kp (((((ksG6).trans ksG7).trans ksG8).trans ksG9).trans ksG10) hrL).mono (by omega) (by omega)) (allC ((tpG7.kp (((ksG8).trans ksG9).trans ksG10) hrL).mono (by omega) (by omega)) (allC ((tpG9.kp (ksG10) hrL).mono (by omega) (by omega)) all0))))) m0 (show way % 5 < ((5 : Nat) : Int) from m1)
      refine ⟨_, h2, _, 5, rfl, rfl, (by show (0 : Int) < 5; decide), pG10, _, _, ov, rfl, rfl, .inl (.inl (hopG10)), atov, ?_⟩
      have tms := tmN_ge k
      have bme : bmN k = 5 * (tmN k + 1) := rfl
      exact q ov n _ ((((((((((ksG1).trans ksG2).trans ksG3).trans ksG4).trans ksG5).trans ksG6).trans ksG7).trans ksG8).trans ksG9).trans ksG10) hRG10 (thov.mono (by omega) (by omega))
    cases tr with
    | @leaf _ p s nLp hop hs =>
      have ne : V.str s ≠ V.str (Str.ofString "list") := by
        rcases hs with rfl | rfl <;> decide
      refine ⟨.ref p, rfl, p, _, 0, .str s, rfl, rfl, .inl (.inl hop), rfl, rfl, _, rfl, ite2 (fun z => absurd (of_decide_eq_true z) ne) (fun _ => ?_)⟩
      refine ⟨.ref p, rfl, p, _, 0, .str s, rfl, rfl, .inl (.inl hop), rfl, rfl, _, rfl, ite2 (fun z => absurd (of_decide_eq_true z) ne) (fun _ => ?_)⟩
      exact odds _ rfl
    | @fork k' p o va vb nLp hop ho ta tb =>
      refine ⟨.ref p, rfl, p, _, 0, .str (Str.ofString "list"), rfl, rfl, .inl (.inl hop), rfl, rfl, _, rfl, ite2 (fun _ => ?_) (fun z => absurd (decide_eq_true rfl) z)⟩
      refine ⟨_, rfl, _, _, rfl, rfl, _, rfl, ite2 (fun e => ?_) (fun e => ?_)⟩
      · have hn : 0 < n0 := by
          have := of_decide_eq_true e
          omega
        obtain ⟨n', rfl⟩ : ∃ n', n0 = n' + 1 := ⟨n0 - 1, by omega⟩
        have ek : ((n' + 1 : Nat) : Int) - 1 = (n' : Int) := by omega
        have par : ((n' + 1 : Nat) : Int) % 2 = 0 ∨ ((n' + 1 : Nat) : Int) % 2 = 1 := by omega
        refine ⟨_, rfl, _, 2, rfl, rfl, (by show (0 : Int) < 2; decide), _, _, rfl, rfl, ?_⟩
        rcases par with par | par
        · rw [par]
          refine ⟨.ref p, rfl, .int 2, rfl, p, _, 2, va, rfl, rfl, .inl (.inl hop), rfl, _, rfl, _, rfl, _, rfl, _, _, rfl, rfl, r, n, va, c, way, all, L, k', ?_, hR, hrL, ta, hc, w0, w1, hall, hl, fun v2 HV kpV hRV tV => ?_⟩
          · show [va, sg c, V.int way, V.int (((n' + 1 : Nat) : Int) - 1)] = _
            rw [ek]
          have ksG1 : Kp r H HV := kpV
          have hRG1 : HV r = some (.lst [.int n]) := hRV
          have hlG1 : ∀ b ∈ L, HV b ≠ none := kp_all hl hR kpV hRV
          have tv2 := tV
          obtain ⟨G1, rfl⟩ : ∃ G, G = HV := ⟨_, rfl⟩
          refine ⟨.ref p, rfl, .int 2, rfl, _, rfl, p, _, rfl, (ksG1) _ _ (ne_in nLp hrL) hop, fun s1 HSs1 sms1 nss1 hss1 => ?_⟩
          rw [show cutV [V.str (Str.ofString "list"), tx o, va, vb] none (some 2) = [V.str (Str.ofString "list"), tx o] from rfl] at hss1
          have nLs1 : s1 ∉ L := fun z => by
            rcases nss1 with y | y
            · exact hlG1 s1 z y
            · exact nLp (y ▸ z)
          have ksG2 : Kp r G1 HSs1 := fun b o _ h => sms1 b o h
          have hRG2 : HSs1 r = some (.lst [.int n]) := sms1 _ _ hRG1
          have hlG2 : ∀ b ∈ L, HSs1 b ≠ none := same_all hlG1 sms1
          obtain ⟨G2, rfl⟩ : ∃ G, G = HSs1 := ⟨_, rfl⟩
          have hos1 := hss1
          refine ⟨v2, rfl, (by show 1 ≤ sizeLine; decide), fun pG1 npG1 => ?_⟩
          have nLpG1 : pG1 ∉ L := fun z => hlG2 pG1 z npG1
          have ksG3 : Kp r G2 (upd G2 pG1 (.tup [v2])) := Kp.new Kp.rfl' npG1
          have hRG3 : (upd G2 pG1 (.tup [v2])) r = some (.lst [.int n]) := keep_new hRG2 npG1
          have hlG3 : ∀ b ∈ L, (upd G2 pG1 (.tup [v2])) b ≠ none := new_all hlG2
          have hopG1 : (upd G2 pG1 (.tup [v2])) pG1 = some (.tup [v2]) := upd_same
          generalize upd G2 pG1 (.tup [v2]) = G3 at ksG3 hRG3 hlG3 hopG1 ⊢
          refine ⟨s1, pG1, [V.str (Str.ofString "list"), tx o], [v2], rfl, rfl, (ksG3) _ _ (ne_in nLs1 hrL) hos1, hopG1, (by show 3 ≤ sizeLine; decide), fun s2 HSs2 sms2 nss2 hss2 => ?_⟩
          have nLs2 : s2 ∉ L := fun z => by
            rcases nss2 with y | y | y
            · exact hlG3 s2 z y
            · exact nLs1 (y ▸ z)
            · exact nLpG1 (y ▸ z)
          have ksG4 : Kp r G3 HSs2 := fun b o _ h => sms2 b o h
          have hRG4 : HSs2 r = some (.lst [.int n]) := sms2 _ _ hRG3
          have hlG4 : ∀ b ∈ L, HSs2 b ≠ none := same_all hlG3 sms2
          obtain ⟨G4, rfl⟩ : ∃ G, G = HSs2 := ⟨_, rfl⟩
          have hos2 : G4 s2 = some (.tup [V.str (Str.ofString "list"), tx o, v2]) := hss2
          refine ⟨.ref p, rfl, .int 2, rfl, _, _, rfl, rfl, _, rfl, p, _, rfl, ((((ksG1).trans ksG2).trans ksG3).trans ksG4) _ _ (ne_in nLp hrL) hop, fun s3 HSs3 sms3 nss3 hss3 => ?_⟩
          rw [show cutV [V.str (Str.ofString "list"), tx o, va, vb] (some (2 + 1)) none = [vb] from rfl] at hss3
          have nLs3 : s3 ∉ L := fun z => by
            rcases nss3 with y | y
            · exact hlG4 s3 z y
            · exact nLp (y ▸ z)
          have ksG5 : Kp r G4 HSs3 := fun b o _ h => sms3 b o h
          have hRG5 : HSs3 r = some (.lst [.int n]) := sms3 _ _ hRG4
          have hlG5 : ∀ b ∈ L, HSs3 b ≠ none := same_all hlG4 sms3
          obtain ⟨G5, rfl⟩ : ∃ G, G = HSs3 := ⟨_, rfl⟩
          have hos3 := hss3
          refine ⟨s2, s3, [V.str (Str.ofString "list"), tx o, v2], [vb], rfl, rfl, (ksG5) _ _ (ne_in nLs2 hrL) hos2, hos3, (by show 4 ≤ sizeLine; decide), fun s4 HSs4 sms4 nss4 hss4 => ?_⟩
          have nLs4 : s4 ∉ L := fun z => by
            rcases nss4 with y | y | y
            · exact hlG5 s4 z y
            · exact nLs2 (y ▸ z)
            · exact nLs3 (y ▸ z)
          have ksG6 : Kp r G5 HSs4 := fun b o _ h => sms4 b o h
          have hRG6 : HSs4 r = some (.lst [.int n]) := sms4 _ _ hRG5
          have hlG6 : ∀ b ∈ L, HSs4 b ≠ none := same_all hlG5 sms4
          obtain ⟨G6, rfl⟩ : ∃ G, G = HSs4 := ⟨_, rfl⟩
          have hos4 : G6 s4 = some (.tup [V.str (Str.ofString "list"), tx o, v2, vb]) := hss4
          have tms := tmN_ge k'
          have bme : bmN k' = 5 * (tmN k' + 1) := rfl
          have bme2 : bmN (k' + 1) = 5 * (4 * (tmN k' + 1) + 1) := rfl
          exact q (.ref s4) n _ ((((((ksG1).trans ksG2).trans ksG3).trans ksG4).trans ksG5).trans ksG6) hRG6 ((Th.tup nLs4 hos4 (n := k' + 3) (m := bmN k') (allC ((Th.tx (L := L) (H := G6) (l := [108, 105, 115, 116]) (n := 0) (m := 4) (by decide) (by decide)).mono (by omega) (by omega)) (allC ((Th.tx (hall o ho).2 (hall o ho).1).mono (n := 0) (by omega) (by omega)) (allC ((tv2.kp (((((ksG2).trans ksG3).trans ksG4).trans ksG5).trans ksG6) hrL)) (allC (((tb.kp ((((((ksG1).trans ksG2).trans ksG3).trans ksG4).trans ksG5).trans ksG6) hrL).th hall).mono (by omega) (by omega)) all0))))).mono (by omega) (by show (bmN k' + 1) * 4 ≤ bmN (k' + 1); omega))
        · rw [par]
          refine ⟨.ref p, rfl, .int 3, rfl, p, _, 3, vb, rfl, rfl, .inl (.inl hop), rfl, _, rfl, _, rfl, _, rfl, _, _, rfl, rfl, r, n, vb, c, way, all, L, k', ?_, hR, hrL, tb, hc, w0, w1, hall, hl, fun v2 HV kpV hRV tV => ?_⟩
          · show [vb, sg c, V.int way, V.int (((n' + 1 : Nat) : Int) - 1)] = _
            rw [ek]
          have ksG1 : Kp r H HV := kpV
          have hRG1 : HV r = some (.lst [.int n]) := hRV
          have hlG1 : ∀ b ∈ L, HV b ≠ none := kp_all hl hR kpV hRV
          have tv2 := tV
          obtain ⟨G1, rfl⟩ : ∃ G, G = HV := ⟨_, rfl⟩
          refine ⟨.ref p, rfl, .int 3, rfl, _, rfl, p, _, rfl, (ksG1) _ _ (ne_in nLp hrL) hop, fun s1 HSs1 sms1 nss1 hss1 => ?_⟩
          rw [show cutV [V.str (Str.ofString "list"), tx o, va, vb] none (some 3) = [V.str (Str.ofString "list"), tx o, va] from rfl] at hss1
          have nLs1 : s1 ∉ L := fun z => by
            rcases nss1 with y | y
            · exact hlG1 s1 z y
            · exact nLp (y ▸ z)
          have ksG2 : Kp r G1 HSs1 := fun b o _ h => sms1 b o h
          have hRG2 : HSs1 r = some (.lst [.int n]) := sms1 _ _ hRG1
          have hlG2 : ∀ b ∈ L, HSs1 b ≠ none := same_all hlG1 sms1
          obtain ⟨G2, rfl⟩ : ∃ G, G = HSs1 := ⟨_, rfl⟩
          have hos1 := hss1
          refine ⟨v2, rfl, (by show 1 ≤ sizeLine; decide), fun pG1 npG1 => ?_⟩
          have nLpG1 : pG1 ∉ L := fun z => hlG2 pG1 z npG1
          have ksG3 : Kp r G2 (upd G2 pG1 (.tup [v2])) := Kp.new Kp.rfl' npG1
          have hRG3 : (upd G2 pG1 (.tup [v2])) r = some (.lst [.int n]) := keep_new hRG2 npG1
          have hlG3 : ∀ b ∈ L, (upd G2 pG1 (.tup [v2])) b ≠ none := new_all hlG2
          have hopG1 : (upd G2 pG1 (.tup [v2])) pG1 = some (.tup [v2]) := upd_same
          generalize upd G2 pG1 (.tup [v2]) = G3 at ksG3 hRG3 hlG3 hopG1 ⊢
          refine ⟨s1, pG1, [V.str (Str.ofString "list"), tx o, va], [v2], rfl, rfl, (ksG3) _ _ (ne_in nLs1 hrL) hos1, hopG1, (by show 4 ≤ sizeLine; decide), fun s2 HSs2 sms2 nss2 hss2 => ?_⟩
          have nLs2 : s2 ∉ L := fun z => by
            rcases nss2 with y | y | y
            · exact hlG3 s2 z y
            · exact nLs1 (y ▸ z)
            · exact nLpG1 (y ▸ z)
          have ksG4 : Kp r G3 HSs2 := fun b o _ h => sms2 b o h
          have hRG4 : HSs2 r = some (.lst [.int n]) := sms2 _ _ hRG3
          have hlG4 : ∀ b ∈ L, HSs2 b ≠ none := same_all hlG3 sms2
          obtain ⟨G4, rfl⟩ : ∃ G, G = HSs2 := ⟨_, rfl⟩
          have hos2 : G4 s2 = some (.tup [V.str (Str.ofString "list"), tx o, va, v2]) := hss2
          refine ⟨.ref p, rfl, .int 3, rfl, _, _, rfl, rfl, _, rfl, p, _, rfl, ((((ksG1).trans ksG2).trans ksG3).trans ksG4) _ _ (ne_in nLp hrL) hop, fun s3 HSs3 sms3 nss3 hss3 => ?_⟩
          rw [show cutV [V.str (Str.ofString "list"), tx o, va, vb] (some (3 + 1)) none = [] from rfl] at hss3
          have nLs3 : s3 ∉ L := fun z => by
            rcases nss3 with y | y
            · exact hlG4 s3 z y
            · exact nLp (y ▸ z)
          have ksG5 : Kp r G4 HSs3 := fun b o _ h => sms3 b o h
          have hRG5 : HSs3 r = some (.lst [.int n]) := sms3 _ _ hRG4
          have hlG5 : ∀ b ∈ L, HSs3 b ≠ none := same_all hlG4 sms3
          obtain ⟨G5, rfl⟩ : ∃ G, G = HSs3 := ⟨_, rfl⟩
          have hos3 := hss3
          refine ⟨s2, s3, [V.str (Str.ofString "list"), tx o, va, v2], [], rfl, rfl, (ksG5) _ _ (ne_in nLs2 hrL) hos2, hos3, (by show 4 ≤ sizeLine; decide), fun s4 HSs4 sms4 nss4 hss4 => ?_⟩
          have nLs4 : s4 ∉ L := fun z => by
            rcases nss4 with y | y | y
            · exact hlG5 s4 z y
            · exact nLs2 (y ▸ z)
            · exact nLs3 (y ▸ z)
          have ksG6 : Kp r G5 HSs4 := fun b o _ h => sms4 b o h
          have hRG6 : HSs4 r = some (.lst [.int n]) := sms4 _ _ hRG5
          have hlG6 : ∀ b ∈ L, HSs4 b ≠ none := same_all hlG5 sms4
          obtain ⟨G6, rfl⟩ : ∃ G, G = HSs4 := ⟨_, rfl⟩
          have hos4 : G6 s4 = some (.tup [V.str (Str.ofString "list"), tx o, va, v2]) := hss4
          have tms := tmN_ge k'
          have bme : bmN k' = 5 * (tmN k' + 1) := rfl
          have bme2 : bmN (k' + 1) = 5 * (4 * (tmN k' + 1) + 1) := rfl
          exact q (.ref s4) n _ ((((((ksG1).trans ksG2).trans ksG3).trans ksG4).trans ksG5).trans ksG6) hRG6 ((Th.tup nLs4 hos4 (n := k' + 3) (m := bmN k') (allC ((Th.tx (L := L) (H := G6) (l := [108, 105, 115, 116]) (n := 0) (m := 4) (by decide) (by decide)).mono (by omega) (by omega)) (allC ((Th.tx (hall o ho).2 (hall o ho).1).mono (n := 0) (by omega) (by omega)) (allC (((ta.kp ((((((ksG1).trans ksG2).trans ksG3).trans ksG4).trans ksG5).trans ksG6) hrL).th hall).mono (by omega) (by omega)) (allC ((tv2.kp (((((ksG2).trans ksG3).trans ksG4).trans ksG5).trans ksG6) hrL)) all0))))).mono (by omega) (by show (bmN k' + 1) * 4 ≤ bmN (k' + 1); omega))
      · refine ⟨.ref p, rfl, p, _, 0, .str (Str.ofString "list"), rfl, rfl, .inl (.inl hop), rfl, rfl, _, rfl, ite2 (fun _ => ?_) (fun z => absurd (decide_eq_true rfl) z)⟩
        refine ⟨_, rfl, _, _, rfl, rfl, _, rfl, ite2 (fun e2 => ?_) (fun e2 => odds _ rfl)⟩
        have w3 : way < 3 := of_decide_eq_true e2
        have olen : (⟨o.toArray⟩ : Str).length = o.length := by simp [Str.length]
        have clen : (⟨#[c]⟩ : Str).length = 1 := rfl
        have ol6 := (hall o ho).1
        refine ⟨sg c, rfl, .ref p, rfl, p, _, 1, tx o, rfl, rfl, .inl (.inl hop), rfl, sg c, rfl, _, _, rfl, rfl, (by rw [olen, clen]; exact Nat.le_of_lt (small1000 (by omega))), sg c, rfl, .ref p, rfl, p, _, 1, tx o, rfl, rfl, .inl (.inl hop), rfl, _, _, rfl, rfl, (by rw [olen, clen]; exact Nat.le_of_lt (small1000 (by omega))), (by show 3 ≤ sizeLine; decide), fun pG1 npG1 => ?_⟩
        have nLpG1 : pG1 ∉ L := fun z => hl pG1 z npG1
        have ksG1 : Kp r H (upd H pG1 (.lst [sg c, .str ((⟨o.toArray⟩ : Str) ++ ⟨#[c]⟩), .str ((⟨#[c]⟩ : Str) ++ ⟨o.toArray⟩)])) := Kp.new Kp.rfl' npG1
        have hRG1 : (upd H pG1 (.lst [sg c, .str ((⟨o.toArray⟩ : Str) ++ ⟨#[c]⟩), .str ((⟨#[c]⟩ : Str) ++ ⟨o.toArray⟩)])) r = some (.lst [.int n]) := keep_new hR npG1
        have hlG1 : ∀ b ∈ L, (upd H pG1 (.lst [sg c, .str ((⟨o.toArray⟩ : Str) ++ ⟨#[c]⟩), .str ((⟨#[c]⟩ : Str) ++ ⟨o.toArray⟩)])) b ≠ none := new_all hl
        have hopG1 : (upd H pG1 (.lst [sg c, .str ((⟨o.toArray⟩ : Str) ++ ⟨#[c]⟩), .str ((⟨#[c]⟩ : Str) ++ ⟨o.toArray⟩)])) pG1 = some (.lst [sg c, .str ((⟨o.toArray⟩ : Str) ++ ⟨#[c]⟩), .str ((⟨#[c]⟩ : Str) ++ ⟨o.toArray⟩)]) := upd_same
        generalize upd H pG1 (.lst [sg c, .str ((⟨o.toArray⟩ : Str) ++ ⟨#[c]⟩), .str ((⟨#[c]⟩ : Str) ++ ⟨o.toArray⟩)]) = G1 at ksG1 hRG1 hlG1 hopG1 ⊢
        have hcc1 : ∀ x ∈ o ++ [c], x < 1000 := allApp (hall o ho).2 (all1 hc)
        have hcc2 : ∀ x ∈ [c] ++ o, x < 1000 := allApp (all1 hc) (hall o ho).2
        obtain ⟨ov, atov, thov⟩ := Th.at (L := L) (H := G1) (n := 0) (m := 10) (vs := [sg c, .str ((⟨o.toArray⟩ : Str) ++ ⟨#[c]⟩), .str ((⟨#[c]⟩ : Str) ++ ⟨o.toArray⟩)]) (allC (Th.tx (l := [c]) (all1 hc) (by show 1 ≤ 10; decide)) (allC (th_cat hcc1 (by rw [List.length_append]; show o.length + 1 ≤ 10; omega)) (allC (th_cat (l := [c]) hcc2 (by rw [List.length_append]; show 1 + o.length ≤ 10; omega)) all0))) w0 (show way < ((3 : Nat) : Int) from w3)
        refine ⟨_, rfl, pG1, _, way, ov, rfl, rfl, .inl (.inl (hopG1)), atov, (by show 2 ≤ sizeLine; decide), fun pG2 npG2 => ?_⟩
        have nLpG2 : pG2 ∉ L := fun z => hlG1 pG2 z npG2
        have ksG2 : Kp r G1 (upd G1 pG2 (.tup [V.str (Str.ofString "list"), ov])) := Kp.new Kp.rfl' npG2
        have hRG2 : (upd G1 pG2 (.tup [V.str (Str.ofString "list"), ov])) r = some (.lst [.int n]) := keep_new hRG1 npG2
        have hlG2 : ∀ b ∈ L, (upd G1 pG2 (.tup [V.str (Str.ofString "list"), ov])) b ≠ none := new_all hlG1
        have hopG2 : (upd G1 pG2 (.tup [V.str (Str.ofString "list"), ov])) pG2 = some (.tup [V.str (Str.ofString "list"), ov]) := upd_same
        generalize upd G1 pG2 (.tup [V.str (Str.ofString "list"), ov]) = G2 at ksG2 hRG2 hlG2 hopG2 ⊢
        refine ⟨.ref p, rfl, _, rfl, p, _, rfl, ((ksG1).trans ksG2) _ _ (ne_in nLp hrL) hop, fun s1 HSs1 sms1 nss1 hss1 => ?_⟩
        rw [show cutV [V.str (Str.ofString "list"), tx o, va, vb] (some 2) none = [va, vb] from rfl] at hss1
        have nLs1 : s1 ∉ L := fun z => by
          rcases nss1 with y | y
          · exact hlG2 s1 z y
          · exact nLp (y ▸ z)
        have ksG3 : Kp r G2 HSs1 := fun b o _ h => sms1 b o h
        have hRG3 : HSs1 r = some (.lst [.int n]) := sms1 _ _ hRG2
        have hlG3 : ∀ b ∈ L, HSs1 b ≠ none := same_all hlG2 sms1
        obtain ⟨G3, rfl⟩ : ∃ G, G = HSs1 := ⟨_, rfl⟩
        have hos1 := hss1
        refine ⟨pG2, s1, [V.str (Str.ofString "list"), ov], [va, vb], rfl, rfl, (ksG3) _ _ (ne_in nLpG2 hrL) hopG2, hos1, (by show 4 ≤ sizeLine; decide), fun s2 HSs2 sms2 nss2 hss2 => ?_⟩
        have nLs2 : s2 ∉ L := fun z => by
          rcases nss2 with y | y | y
          · exact hlG3 s2 z y
          · exact nLpG2 (y ▸ z)
          · exact nLs1 (y ▸ z)
        have ksG4 : Kp r G3 HSs2 := fun b o _ h => sms2 b o h
        have hRG4 : HSs2 r = some (.lst [.int n]) := sms2 _ _ hRG3
        have hlG4 : ∀ b ∈ L, HSs2 b ≠ none := same_all hlG3 sms2
        obtain ⟨G4, rfl⟩ : ∃ G, G = HSs2 := ⟨_, rfl⟩
        have hos2 : G4 s2 = some (.tup [V.str (Str.ofString "list"), ov, va, vb]) := hss2
        have tms := tmN_ge k'
        have bme2 : bmN (k' + 1) = 5 * (4 * (tmN k' + 1) + 1) := rfl
        exact q (.ref s2) n _ ((((ksG1).trans ksG2).trans ksG3).trans ksG4) hRG4 ((Th.tup nLs2 hos2 (n := k' + 1) (m := tmN k') (allC ((Th.tx (L := L) (H := G4) (l := [108, 105, 115, 116]) (n := 0) (m := 4) (by decide) (by decide)).mono (by omega) (by omega)) (allC ((thov.kp (((ksG2).trans ksG3).trans ksG4) hrL).mono (by omega) (by omega)) (allC ((ta.kp ((((ksG1).trans ksG2).trans ksG3).trans ksG4) hrL).th hall) (allC ((tb.kp ((((ksG1).trans ksG2).trans ksG3).trans ksG4) hrL).th hall) all0))))).mono (by omega) (by show (tmN k' + 1) * 4 ≤ bmN (k' + 1); omega))
theorem ok_bd (T : Tx K mg Z) : ∀ n : Nat, FnOk P w K mg base CX0 (n + 2) Z.f_l_bent_deep Z.d_l_bent_deep ["tree", "other", "way", "deep"] (spBD K n)
  | 0 => ok_bd1 T 0 ⟨fun _ _ _ _ h => h.elim, fun _ _ _ _ _ _ _ _ _ _ _ _ _ h => h.elim⟩
  | n + 1 => ok_bd1 T (n + 1) (ok_bd T n)

/-! ### _law_bent_more -/
theorem fnok_ex {P : Program} {w : World} {K : PySem.W.Frag} {mg : Str → Option Value} {base : Heap} {CX : CXT} {k N : Nat} {f : Addr} {fd : FuncData} {ps : List Str} {sp : Nat → Sp} (a : ∀ i, i ≤ N → FnOk P w K mg base CX k f fd ps (sp i)) : FnOk P w K mg base CX k f fd ps (fun vs H Q E => ∃ i, i ≤ N ∧ sp i vs H Q E) :=
  ⟨fun vs H Q E ⟨i, hi, h⟩ => (a i hi).1 vs H Q E h, fun A outer s H args us vs Q E x1 x2 x3 x4 ⟨i, hi, h⟩ => (a i hi).2 A outer s H args us vs Q E x1 x2 x3 x4 h⟩
def spBDx (K : PySem.W.Frag) : Sp := fun vs H Q E => ∃ i, i ≤ 2 ∧ spBD K i vs H Q E
def spBM (K : PySem.W.Frag) : Sp := fun vs H Q _ => ∃ (r : Addr) (n : Int) (v : V) (cols : List Nat) (all : List (List Nat)) (L : List Addr) (k : Nat), vs = [.ref r, tx cols, v] ∧ H r = some (.lst [.int n]) ∧ r ∈ L ∧ Cols cols ∧ cols.length ≤ 6 ∧ Tr all L H k v ∧ (∀ o ∈ all, o.length ≤ 6 ∧ ∀ c ∈ o, c < 1000) ∧ (∀ b ∈ L, H b ≠ none) ∧
  ∀ (v' : V) (n' : Int) (H' : Hp), Kp r H H' → H' r = some (.lst [.int n']) → Th L H' (k + 3) (bmN k) v' → Q v' H'
set_option maxHeartbeats 4000000 in
theorem ok_bm (T : Tx K mg Z) : FnOk P w K mg base CX0 5 Z.f_l_bent_more Z.d_l_bent_more ["reel", "columns", "tree"] (spBM K) := by
  have G_l_pick : FnOk P w K mg base CX0 1 Z.f_l_pick Z.d_l_pick ["reel", "many"] (spPick K) := ok_pick T
  have G_l_bent_deep : FnOk P w K mg base CX0 4 Z.f_l_bent_deep Z.d_l_bent_deep ["tree", "other", "way", "deep"] (spBDx K) := fnok_ex fun i hi => (ok_bd T i).mono (by omega)
  refine T.F_l_bent_more.ok sc_l_bent_more (fun vs H Q E h => ?_) (fun cdv A outer s H vs Q E hr h => ?_)
  · obtain ⟨r, n, v, cols, all, L, k, rfl, _⟩ := h
    rfl
  · obtain ⟨r, n, v, cols, all, L, k, rfl, hR, hrL, hc, hcl, tr, hall, hl, q⟩ := h
    refine ⟨_, (pss_cons (ps_setLc (i := 3) (own := [("letter", 6)]) (tt := _) (by rfl) sc_l_bent_more.nd rfl rfl (sw_true rfl rfl rfl (by decide +kernel)) (pi_str pe_str) (blkOk_by (own := [("letter", 6)]) (by kernel_rfl)) (fun _ _ _ _ _ => (pg_name (i := 6) sc_l_bent_more.nd rfl (.inl rfl))) (fun _ _ _ _ _ => (pts_one (pt_cmpR op_notIn_sign (pv 6) (pv 1) (by rfl)))) (fun _ _ _ _ _ => (pv 6)))
      (pss_cons (ps_set (i := 4) sc_l_bent_more.nd rfl (.inl rfl) (pe_call G_l_pick (hr.mono (by omega)) (by rfl) T.g_l_pick T.F_l_pick.kp T.b_l_pick .nil pass0 (pa_cons (pv 0) (pa_cons pe_int pa_nil))))
      (pss_cons (ps_set (i := 5) sc_l_bent_more.nd rfl (.inl rfl) (pe_call G_l_pick (hr.mono (by omega)) (by rfl) T.g_l_pick T.F_l_pick.kp T.b_l_pick .nil pass0 (pa_cons (pv 0) (pa_cons pe_int pa_nil))))
      (pss_one (ps_ret (pe_call G_l_bent_deep (hr.mono (by omega)) (by rfl) T.g_l_bent_deep T.F_l_bent_deep.kp T.b_l_bent_deep .nil pass0 (pa_cons (pv 2) (pa_cons (pe_ix (ixL K) (pv 3) (pe_call G_l_pick (hr.mono (by omega)) (by rfl) T.g_l_pick T.F_l_pick.kp T.b_l_pick .nil pass0 (pa_cons (pv 0) (pa_cons pe_int pa_nil))) (fun _ _ => rfl)) (pa_cons (pv 4) (pa_cons (pv 5) pa_nil)))))))))), ?_⟩
    rw [show (V.str (Str.ofString "abcdefghijklmnopqrstuvwxyz") : V) = tx alpha by kernel_rfl]
    have hin : ∀ c ∈ cols, c ∈ alpha := fun c h => by
      have hz := hc.az c h
      have this : ∀ i, i < 26 → 97 + i ∈ alpha := by decide
      have := this (c - 97) (by omega)
      rwa [show 97 + (c - 97) = c by omega] at this
    have cnt : (alpha.filter fun c => decide (c ∉ cols)).length + cols.length = 26 := out_count (by decide) hc.nd hin
    refine ⟨_, rfl, fun D nD => lc_it walk_str (fun i H' => Same H H' ∧ H' D = some (.lst (((alpha.take i).filter fun c => decide (c ∉ cols)).map sg)))
      ⟨Same.new (Same.refl H) nD, upd_same⟩ (fun _ _ _ _ => trivial) (fun i x H3 H2 hi hP hY => ?_) (fun H2 hP => ?_)⟩
    · obtain ⟨sm2, hD2⟩ := hP
      obtain ⟨rfl, c, hcc, rfl⟩ := hY
      have hc2 : alpha[i]? = some c := by simpa using hcc
      have fs := filter_snoc (fun c : Nat => decide (c ∉ cols)) alpha i c hc2
      have hil : i < 26 := (List.getElem?_eq_some_iff.mp hc2).1
      refine ⟨rfl, sg c, rfl, tx cols, rfl, _, _, rfl, rfl, _, rfl, ?_⟩
      rw [show (⟨cols.toArray⟩ : Str).cps.toList = cols by simp]
      refine ite2 (fun e => ?_) (fun e => ?_)
      · have out : c ∉ cols := by simpa using e
        refine ⟨sg c, rfl, _, hD2, small1000 ?_, Same.mut sm2 nD, ?_⟩
        · rw [List.length_map]
          have := List.length_filter_le (fun c => decide (c ∉ cols)) (alpha.take i)
          rw [List.length_take] at this
          omega
        · rw [upd_same, fs, if_pos (decide_eq_true out), List.map_append]
          rfl
      · have inn : c ∈ cols := by simpa using e
        refine ⟨sm2, ?_⟩
        rw [hD2, fs, if_neg (by simpa using inn), List.append_nil]
    obtain ⟨sm2, hD2⟩ := hP
    rw [show (⟨alpha.toArray⟩ : Str).cps.size = alpha.length by simp, List.take_of_length_le (Nat.le_refl _)] at hD2
    have fle : ∀ c ∈ alpha.filter (fun c => decide (c ∉ cols)), c < 1000 := fun c h => by
      have h6 : ∀ x ∈ alpha, x < 1000 := by decide
      exact h6 c (List.mem_filter.mp h).1
    generalize alpha.filter (fun c => decide (c ∉ cols)) = os at cnt hD2 fle
    have hR2 := sm2 _ _ hR
    have nDr : D ≠ r := (ne_of_none hR nD).symm
    refine ⟨.ref r, rfl, r, n, 8, rfl, hR2, by decide, by decide, fun way n3 w0 w1 => ?_⟩
    have kp3 : Kp r H2 (upd H2 r (.lst [.int n3])) := Kp.own Kp.rfl'
    have hR3 : (upd H2 r (.lst [.int n3])) r = some (.lst [.int n3]) := upd_same
    have hD3 := kp3 _ _ nDr hD2
    generalize upd H2 r (.lst [.int n3]) = H3 at kp3 hR3 hD3 ⊢
    refine ⟨.ref r, rfl, r, n3, 3, rfl, hR3, by decide, by decide, fun dp n4 d0 d1 => ?_⟩
    have kp4 : Kp r H3 (upd H3 r (.lst [.int n4])) := Kp.own Kp.rfl'
    have hR4 : (upd H3 r (.lst [.int n4])) r = some (.lst [.int n4]) := upd_same
    have hD4 := kp4 _ _ nDr hD3
    generalize upd H3 r (.lst [.int n4]) = H4 at kp4 hR4 hD4 ⊢
    refine ⟨v, rfl, .ref D, rfl, .ref r, rfl, r, n4, 20, rfl, hR4, by decide, by decide, fun g n5 g0 g1 => ?_⟩
    have kp5 : Kp r H4 (upd H4 r (.lst [.int n5])) := Kp.own Kp.rfl'
    have hR5 : (upd H4 r (.lst [.int n5])) r = some (.lst [.int n5]) := upd_same
    have hD5 := kp5 _ _ nDr hD4
    generalize upd H4 r (.lst [.int n5]) = H5 at kp5 hR5 hD5 ⊢
    have kpA : Kp r H H5 := (Same.kp sm2).trans (kp3.trans (kp4.trans kp5))
    obtain ⟨gi, rfl⟩ : ∃ m : Nat, g = m := ⟨g.toNat, by omega⟩
    obtain ⟨di, rfl⟩ : ∃ m : Nat, dp = m := ⟨dp.toNat, by omega⟩
    obtain ⟨c, hcg⟩ : ∃ c, os[gi]? = some c := ⟨_, List.getElem?_eq_getElem (by omega)⟩
    refine ⟨D, _, _, sg c, rfl, rfl, .inl (.inl hD5), atI_nat (by rw [List.getElem?_map, hcg]; rfl), ?_⟩
    refine ⟨_, rfl, _, rfl, di, by omega, r, n5, v, c, way, all, L, k, rfl, hR5, hrL, tr.kp kpA hrL, fle c (List.mem_of_getElem? hcg), w0, by omega, hall, kp_all hl hR kpA hR5, fun v' H6 kp6 hR6 tv => ?_⟩
    exact q v' n5 H6 (kpA.trans kp6) hR6 tv

/-! ### _law_bent -/
def spBent22 (K : PySem.W.Frag) (k : Nat) : Sp := fun vs H Q _ => ∃ (r la : Addr) (n : Int) (v : V) (all : List (List Nat)) (L : List Addr), vs = [.ref r, .ref la, v] ∧ H r = some (.lst [.int n]) ∧ r ∈ L ∧ Tr all L H k v ∧ (∀ o ∈ all, o.length ≤ 6 ∧ ∀ c ∈ o, c < 1000) ∧ all.length ≤ 64 ∧ la ∉ L ∧ H la = some (.lst (all.map tx)) ∧ (∀ b ∈ L, H b ≠ none) ∧
  ∀ (v' : V) (n' : Int) (H' : Hp), Kp r H H' → H' r = some (.lst [.int n']) → Th L H' (k + 3) (bmN k) v' → Q v' H'
def spBent22P (K : PySem.W.Frag) : Nat → Sp
  | 0 => fun _ _ _ _ => False
  | n + 1 => spBent22 K n
set_option maxHeartbeats 4000000 in
theorem ok_bent1 (T : Tx K mg Z) (k : Nat) (G_l_bent : FnOk P w K mg base CX0 (k + 1) Z.f_l_bent Z.d_l_bent ["reel", "lists", "tree"] (spBent22P K k)) : FnOk P w K mg base CX0 (k + 2) Z.f_l_bent Z.d_l_bent ["reel", "lists", "tree"] (spBent22 K k) := by
  have G_l_pick : FnOk P w K mg base CX0 1 Z.f_l_pick Z.d_l_pick ["reel", "many"] (spPick K) := ok_pick T
  refine T.F_l_bent.ok sc_l_bent (fun vs H Q E h => ?_) (fun cdv A outer s H vs Q E hr h => ?_)
  · obtain ⟨r, la, n, v, all, L, rfl, _⟩ := h
    rfl
  · obtain ⟨r, la, n, v, all, L, rfl, hR, hrL, tr, hall, hal, nLla, hola, hl, q⟩ := h
    refine ⟨_, (pss_cons (ps_if (PW.pt (pw_and (pt_cmpR op_eq (pe_ix (ixT K) (pv 2) pe_int (fun _ _ => rfl)) pe_str (nomark _)) (pw_and1 (pt_cmpR op_gt (pe_call G_l_pick (hr.mono (by omega)) (by rfl) T.g_l_pick T.F_l_pick.kp T.b_l_pick .nil pass0 (pa_cons (pv 0) (pa_cons pe_int pa_nil))) pe_int (nomark _))))) (pss_cons (ps_set (i := 3) sc_l_bent.nd rfl (.inl rfl) (pe_op op_add pe_int (pe_call G_l_pick (hr.mono (by omega)) (by rfl) T.g_l_pick T.F_l_pick.kp T.b_l_pick .nil pass0 (pa_cons (pv 0) (pa_cons pe_int pa_nil)))))
      (pss_one (ps_ret (pe_op (catWK K) (pe_op (catWK K) (pe_slice (slWK K) (pv 2) po_none (po_some (pv 3))) (pe_tup (pa_cons (pe_call G_l_bent (hr.mono (by omega)) (by rfl) T.g_l_bent T.F_l_bent.kp T.b_l_bent .nil pass0 (pa_cons (pv 0) (pa_cons (pv 1) (pa_cons (pe_ix (ixT K) (pv 2) (pv 3) (fun _ _ => rfl)) pa_nil)))) pa_nil))) (pe_slice (slWK K) (pv 2) (po_some (pe_op op_add (pv 3) pe_int)) po_none))))) pss_nil)
      (pss_cons (ps_set (i := 4) sc_l_bent.nd rfl (.inl rfl) (pe_lst (pa_cons (pe_tup (pa_cons pe_str pa_nil)) (pa_cons (pe_tup (pa_cons pe_str pa_nil)) (pa_cons (pe_tup (pa_cons pe_str pa_nil)) (pa_cons (pe_tup (pa_cons pe_str (pa_cons pe_int pa_nil))) (pa_cons (pe_tup pa_nil) (pa_cons pe_non (pa_cons pe_bl (pa_cons pe_str (pa_cons (pe_lst (pa_cons pe_str pa_nil)) (pa_cons (pe_tup (pa_cons pe_str pa_nil)) (pa_cons (pe_tup (pa_cons pe_int pa_nil)) (pa_cons pe_int pa_nil))))))))))))))
      (pss_cons (ps_if (pt_cmpR op_ne (pe_ix (ixT K) (pv 2) pe_int (fun _ _ => rfl)) pe_str (nomark _)) (pss_one (ps_ret (pe_ix (ixL K) (pv 4) (pe_call G_l_pick (hr.mono (by omega)) (by rfl) T.g_l_pick T.F_l_pick.kp T.b_l_pick .nil pass0 (pa_cons (pv 0) (pa_cons pe_int pa_nil))) (fun _ _ => rfl)))) pss_nil)
      (pss_cons (ps_asg (pv 2) (pgT K (n := 4) (pgs_cons (pg_name (i := 5) sc_l_bent.nd rfl (.inl rfl)) (pgs_cons (pg_name (i := 6) sc_l_bent.nd rfl (.inl rfl)) (pgs_cons (pg_name (i := 7) sc_l_bent.nd rfl (.inl rfl)) (pgs_cons (pg_name (i := 8) sc_l_bent.nd rfl (.inl rfl)) pgs_nil))))))
      (pss_cons (ps_set (i := 9) sc_l_bent.nd rfl (.inl rfl) (pe_ix (ixL K) (pe_op op_cat (pv 1) (pe_lst (pa_cons pe_str (pa_cons pe_str (pa_cons pe_str pa_nil))))) (pe_call G_l_pick (hr.mono (by omega)) (by rfl) T.g_l_pick T.F_l_pick.kp T.b_l_pick .nil pass0 (pa_cons (pv 0) (pa_cons (pe_op op_add (pe_callB (cLenSq K) (by rfl) T.m_len (by decide +kernel) (pa_cons (pv 1) pa_nil)) pe_int) pa_nil))) (fun _ _ => rfl)))
      (pss_cons (ps_set (i := 10) sc_l_bent.nd rfl (.inl rfl) (pe_lst (pa_cons (pe_tup (pa_cons (pv 5) (pa_cons (pv 9) (pa_cons (pv 7) (pa_cons (pv 8) pa_nil))))) (pa_cons (pe_tup (pa_cons (pv 5) (pa_cons (pv 6) (pa_cons (pv 8) (pa_cons (pv 7) pa_nil))))) (pa_cons (pe_tup (pa_cons (pv 5) (pa_cons (pv 6) (pa_cons (pv 7) pa_nil)))) (pa_cons (pe_tup (pa_cons (pv 5) (pa_cons (pv 6) (pa_cons (pv 7) (pa_cons (pv 8) (pa_cons (pv 7) pa_nil)))))) pa_nil))))))
      (pss_cons (ps_set (i := 10) sc_l_bent.nd rfl (.inl rfl) (pe_op op_cat (pv 10) (pe_lst (pa_cons (pe_callTy (cListSq K) (by rfl) T.m_list (by decide +kernel) (pa_cons (pv 2) pa_nil)) (pa_cons (pe_tup (pa_cons (pv 5) (pa_cons pe_non (pa_cons (pv 7) (pa_cons (pv 8) pa_nil))))) (pa_cons (pe_tup (pa_cons (pv 5) (pa_cons (pe_lst (pa_cons (pv 6) pa_nil)) (pa_cons (pv 7) (pa_cons (pv 8) pa_nil))))) (pa_cons (pe_tup (pa_cons (pv 5) (pa_cons (pv 6) (pa_cons (pv 7) (pa_cons pe_non pa_nil))))) pa_nil)))))))
      (pss_cons (ps_set (i := 10) sc_l_bent.nd rfl (.inl rfl) (pe_op op_cat (pv 10) (pe_lst (pa_cons (pe_tup (pa_cons pe_str (pa_cons (pv 6) (pa_cons (pv 7) (pa_cons (pv 8) pa_nil))))) (pa_cons (pe_tup (pa_cons (pv 5) (pa_cons (pv 6) (pa_cons (pv 2) (pa_cons (pv 8) pa_nil))))) (pa_cons (pe_tup (pa_cons (pv 5) (pa_cons (pv 6) (pa_cons (pv 7) (pa_cons (pv 2) pa_nil))))) (pa_cons (pe_tup (pa_cons pe_str pa_nil)) pa_nil)))))))
      (pss_one (ps_ret (pe_ix (ixL K) (pv 10) (pe_call G_l_pick (hr.mono (by omega)) (by rfl) T.g_l_pick T.F_l_pick.kp T.b_l_pick .nil pass0 (pa_cons (pv 0) (pa_cons pe_int pa_nil))) (fun _ _ => rfl)))))))))))), ?_⟩
    cases tr with
    | @leaf _ p s nLp hop hs =>
      have ne : V.str s ≠ V.str (Str.ofString "list") := by
        rcases hs with rfl | rfl <;> decide
      refine ⟨.ref p, rfl, p, _, 0, .str s, rfl, rfl, .inl (.inl hop), rfl, rfl, _, rfl, ite2 (fun z => absurd (of_decide_eq_true z) ne) (fun _ => ?_)⟩
      refine ⟨(by show 1 ≤ sizeLine; decide), fun pG1 npG1 => ?_⟩
      have nLpG1 : pG1 ∉ L := fun z => hl pG1 z npG1
      have ksG1 : Kp r H (upd H pG1 (.tup [.str (Str.ofString "dear")])) := Kp.new Kp.rfl' npG1
      have hRG1 : (upd H pG1 (.tup [.str (Str.ofString "dear")])) r = some (.lst [.int n]) := keep_new hR npG1
      have hlG1 : ∀ b ∈ L, (upd H pG1 (.tup [.str (Str.ofString "dear")])) b ≠ none := new_all hl
      have hopG1 : (upd H pG1 (.tup [.str (Str.ofString "dear")])) pG1 = some (.tup [.str (Str.ofString "dear")]) := upd_same
      generalize upd H pG1 (.tup [.str (Str.ofString "dear")]) = G1 at ksG1 hRG1 hlG1 hopG1 ⊢
      have tpG1 : Th L G1 1 5 (.ref pG1) := (Th.tup nLpG1 hopG1 (n := 0) (m := 4) (allC (Th.tx (l := [100, 101, 97, 114]) (by decide) (by decide)) all0)).mono (by omega) (by show (4 + 1) * 1 ≤ 5; omega)
      refine ⟨(by show 1 ≤ sizeLine; decide), fun pG2 npG2 => ?_⟩
      have nLpG2 : pG2 ∉ L := fun z => hlG1 pG2 z npG2
      have ksG2 : Kp r G1 (upd G1 pG2 (.tup [.str (Str.ofString "over")])) := Kp.new Kp.rfl' npG2
      have hRG2 : (upd G1 pG2 (.tup [.str (Str.ofString "over")])) r = some (.lst [.int n]) := keep_new hRG1 npG2
      have hlG2 : ∀ b ∈ L, (upd G1 pG2 (.tup [.str (Str.ofString "over")])) b ≠ none := new_all hlG1
      have hopG2 : (upd G1 pG2 (.tup [.str (Str.ofString "over")])) pG2 = some (.tup [.str (Str.ofString "over")]) := upd_same
      generalize upd G1 pG2 (.tup [.str (Str.ofString "over")]) = G2 at ksG2 hRG2 hlG2 hopG2 ⊢
      have tpG2 : Th L G2 1 5 (.ref pG2) := (Th.tup nLpG2 hopG2 (n := 0) (m := 4) (allC (Th.tx (l := [111, 118, 101, 114]) (by decide) (by decide)) all0)).mono (by omega) (by show (4 + 1) * 1 ≤ 5; omega)
      refine ⟨(by show 1 ≤ sizeLine; decide), fun pG3 npG3 => ?_⟩
      have nLpG3 : pG3 ∉ L := fun z => hlG2 pG3 z npG3
      have ksG3 : Kp r G2 (upd G2 pG3 (.tup [.str (Str.ofString "list")])) := Kp.new Kp.rfl' npG3
      have hRG3 : (upd G2 pG3 (.tup [.str (Str.ofString "list")])) r = some (.lst [.int n]) := keep_new hRG2 npG3
      have hlG3 : ∀ b ∈ L, (upd G2 pG3 (.tup [.str (Str.ofString "list")])) b ≠ none := new_all hlG2
      have hopG3 : (upd G2 pG3 (.tup [.str (Str.ofString "list")])) pG3 = some (.tup [.str (Str.ofString "list")]) := upd_same
      generalize upd G2 pG3 (.tup [.str (Str.ofString "list")]) = G3 at ksG3 hRG3 hlG3 hopG3 ⊢
      have tpG3 : Th L G3 1 5 (.ref pG3) := (Th.tup nLpG3 hopG3 (n := 0) (m := 4) (allC (Th.tx (l := [108, 105, 115, 116]) (by decide) (by decide)) all0)).mono (by omega) (by show (4 + 1) * 1 ≤ 5; omega)
      refine ⟨(by show 2 ≤ sizeLine; decide), fun pG4 npG4 => ?_⟩
      have nLpG4 : pG4 ∉ L := fun z => hlG3 pG4 z npG4
      have ksG4 : Kp r G3 (upd G3 pG4 (.tup [.str (Str.ofString "dear"), .int 0])) := Kp.new Kp.rfl' npG4
      have hRG4 : (upd G3 pG4 (.tup [.str (Str.ofString "dear"), .int 0])) r = some (.lst [.int n]) := keep_new hRG3 npG4
      have hlG4 : ∀ b ∈ L, (upd G3 pG4 (.tup [.str (Str.ofString "dear"), .int 0])) b ≠ none := new_all hlG3
      have hopG4 : (upd G3 pG4 (.tup [.str (Str.ofString "dear"), .int 0])) pG4 = some (.tup [.str (Str.ofString "dear"), .int 0]) := upd_same
      generalize upd G3 pG4 (.tup [.str (Str.ofString "dear"), .int 0]) = G4 at ksG4 hRG4 hlG4 hopG4 ⊢
      have tpG4 : Th L G4 1 22 (.ref pG4) := (Th.tup nLpG4 hopG4 (n := 0) (m := 10) (allC (Th.tx (l := [100, 101, 97, 114]) (by decide) (by decide)) (allC (Th.intS (by decide) (by decide)) all0))).mono (by omega) (by show (10 + 1) * 2 ≤ 22; omega)
      refine ⟨(by show 0 ≤ sizeLine; decide), fun pG5 npG5 => ?_⟩
      have nLpG5 : pG5 ∉ L := fun z => hlG4 pG5 z npG5
      have ksG5 : Kp r G4 (upd G4 pG5 (.tup [])) := Kp.new Kp.rfl' npG5
      have hRG5 : (upd G4 pG5 (.tup [])) r = some (.lst [.int n]) := keep_new hRG4 npG5
      have hlG5 : ∀ b ∈ L, (upd G4 pG5 (.tup [])) b ≠ none := new_all hlG4
      have hopG5 : (upd G4 pG5 (.tup [])) pG5 = some (.tup []) := upd_same
      generalize upd G4 pG5 (.tup []) = G5 at ksG5 hRG5 hlG5 hopG5 ⊢
      have tpG5 : Th L G5 1 0 (.ref pG5) := (Th.tup nLpG5 hopG5 (n := 0) (m := 0) all0).mono (by omega) (by show (0 + 1) * 0 ≤ 0; omega)
      refine ⟨(by show 1 ≤ sizeLine; decide), fun pG6 npG6 => ?_⟩
      have nLpG6 : pG6 ∉ L := fun z => hlG5 pG6 z npG6
      have ksG6 : Kp r G5 (upd G5 pG6 (.lst [.str (Str.ofString "dear")])) := Kp.new Kp.rfl' npG6
      have hRG6 : (upd G5 pG6 (.lst [.str (Str.ofString "dear")])) r = some (.lst [.int n]) := keep_new hRG5 npG6
      have hlG6 : ∀ b ∈ L, (upd G5 pG6 (.lst [.str (Str.ofString "dear")])) b ≠ none := new_all hlG5
      have hopG6 : (upd G5 pG6 (.lst [.str (Str.ofString "dear")])) pG6 = some (.lst [.str (Str.ofString "dear")]) := upd_same
      generalize upd G5 pG6 (.lst [.str (Str.ofString "dear")]) = G6 at ksG6 hRG6 hlG6 hopG6 ⊢
      have tpG6 : Th L G6 1 5 (.ref pG6) := (Th.lst nLpG6 hopG6 (n := 0) (m := 4) (allC (Th.tx (l := [100, 101, 97, 114]) (by decide) (by decide)) all0)).mono (by omega) (by show (4 + 1) * 1 ≤ 5; omega)
      refine ⟨(by show 1 ≤ sizeLine; decide), fun pG7 npG7 => ?_⟩
      have nLpG7 : pG7 ∉ L := fun z => hlG6 pG7 z npG7
      have ksG7 : Kp r G6 (upd G6 pG7 (.tup [.str (Str.ofString "Dear")])) := Kp.new Kp.rfl' npG7
      have hRG7 : (upd G6 pG7 (.tup [.str (Str.ofString "Dear")])) r = some (.lst [.int n]) := keep_new hRG6 npG7
      have hlG7 : ∀ b ∈ L, (upd G6 pG7 (.tup [.str (Str.ofString "Dear")])) b ≠ none := new_all hlG6
      have hopG7 : (upd G6 pG7 (.tup [.str (Str.ofString "Dear")])) pG7 = some (.tup [.str (Str.ofString "Dear")]) := upd_same
      generalize upd G6 pG7 (.tup [.str (Str.ofString "Dear")]) = G7 at ksG7 hRG7 hlG7 hopG7 ⊢
      have tpG7 : Th L G7 1 5 (.ref pG7) := (Th.tup nLpG7 hopG7 (n := 0) (m := 4) (allC (Th.tx (l := [68, 101, 97, 114]) (by decide) (by decide)) all0)).mono (by omega) (by show (4 + 1) * 1 ≤ 5; omega)
      refine ⟨(by show 1 ≤ sizeLine; decide), fun pG8 npG8 => ?_⟩
      have nLpG8 : pG8 ∉ L := fun z => hlG7 pG8 z npG8
      have ksG8 : Kp r G7 (upd G7 pG8 (.tup [.int 0])) := Kp.new Kp.rfl' npG8
      have hRG8 : (upd G7 pG8 (.tup [.int 0])) r = some (.lst [.int n]) := keep_new hRG7 npG8
      have hlG8 : ∀ b ∈ L, (upd G7 pG8 (.tup [.int 0])) b ≠ none := new_all hlG7
      have hopG8 : (upd G7 pG8 (.tup [.int 0])) pG8 = some (.tup [.int 0]) := upd_same
      generalize upd G7 pG8 (.tup [.int 0]) = G8 at ksG8 hRG8 hlG8 hopG8 ⊢
      have tpG8 : Th L G8 1 11 (.ref pG8) := (Th.tup nLpG8 hopG8 (n := 0) (m := 10) (allC (Th.intS (by decide) (by decide)) all0)).mono (by omega) (by show (10 + 1) * 1 ≤ 11; omega)
      refine ⟨(by show 12 ≤ sizeLine; decide), fun pG9 npG9 => ?_⟩
      have nLpG9 : pG9 ∉ L := fun z => hlG8 pG9 z npG9
      have ksG9 : Kp r G8 (upd G8 pG9 (.lst [.ref pG1, .ref pG2, .ref pG3, .ref pG4, .ref pG5, .non, .bl true, .str (Str.ofString "dear"), .ref pG6, .ref pG7, .ref pG8, .int 7])) := Kp.new Kp.rfl' npG9
      have hRG9 : (upd G8 pG9 (.lst [.ref pG1, .ref pG2, .ref pG3, .ref pG4, .ref pG5, .non, .bl true, .str (Str.ofString "dear"), .ref pG6, .ref pG7, .ref pG8, .int 7])) r = some (.lst [.int n]) := keep_new hRG8 npG9
      have hlG9 : ∀ b ∈ L, (upd G8 pG9 (.lst [.ref pG1, .ref pG2, .ref pG3, .ref pG4, .ref pG5, .non, .bl true, .str (Str.ofString "dear"), .ref pG6, .ref pG7, .ref pG8, .int 7])) b ≠ none := new_all hlG8
      have hopG9 : (upd G8 pG9 (.lst [.ref pG1, .ref pG2, .ref pG3, .ref pG4, .ref pG5, .non, .bl true, .str (Str.ofString "dear"), .ref pG6, .ref pG7, .ref pG8, .int 7])) pG9 = some (.lst [.ref pG1, .ref pG2, .ref pG3, .ref pG4, .ref pG5, .non, .bl true, .str (Str.ofString "dear"), .ref pG6, .ref pG7, .ref pG8, .int 7]) := upd_same
      generalize upd G8 pG9 (.lst [.ref pG1, .ref pG2, .ref pG3, .ref pG4, .ref pG5, .non, .bl true, .str (Str.ofString "dear"), .ref pG6, .ref pG7, .ref pG8, .int 7]) = G9 at ksG9 hRG9 hlG9 hopG9 ⊢
      refine ⟨.ref p, rfl, p, _, 0, .str s, rfl, rfl, .inl (.inl ((((((((((ksG1).trans ksG2).trans ksG3).trans ksG4).trans ksG5).trans ksG6).trans ksG7).trans ksG8).trans ksG9) _ _ (ne_in nLp hrL) hop)), rfl, rfl, _, rfl, ite2 (fun _ => ?_) (fun z => absurd rfl (by rw [decide_eq_false ne] at z; exact z))⟩
      refine ⟨.ref pG9, rfl, .ref r, rfl, r, n, 12, rfl, hRG9, by decide, by decide, fun dG10 nG11 dG10_0 dG10_1 => ?_⟩
      have ksG10 : Kp r G9 (upd G9 r (.lst [.int nG11])) := Kp.own Kp.rfl'
      have hRG10 : (upd G9 r (.lst [.int nG11])) r = some (.lst [.int nG11]) := upd_same
      have hlG10 : ∀ b ∈ L, (upd G9 r (.lst [.int nG11])) b ≠ none := new_all hlG9
      generalize upd G9 r (.lst [.int nG11]) = G10 at ksG10 hRG10 hlG10 ⊢
      obtain ⟨ov, atov, thov⟩ := Th.at (L := L) (H := G10) (n := 2) (m := 50) (vs := [.ref pG1, .ref pG2, .ref pG3, .ref pG4, .ref pG5, .non, .bl true, .str (Str.ofString "dear"), .ref pG6, .ref pG7, .ref pG8, .int 7]) (allC ((tpG1.kp (((((((((ksG2).trans ksG3).trans ksG4).trans ksG5).trans ksG6).trans ksG7).trans ksG8).trans ksG9).trans ksG10) hrL).mono (by omega) (by omega)) (allC ((tpG2.kp ((((((((ksG3).trans ksG4).trans ksG5).trans ksG6).trans ksG7).trans ksG8).trans ksG9).trans ksG10) hrL).mono (by omega) (by omega)) (allC ((tpG3.kp (((((((ksG4).trans ksG5).trans ksG6).trans ksG7).trans ksG8).trans ksG9).trans ksG10) hrL).mono (by omega) (by omega)) (allC ((tpG4.kp ((((((ksG5).trans ksG6).trans ksG7).trans ksG8).trans ksG9).trans ksG10) hrL).mono (by omega) (by omega)) (allC ((tpG5.kp (((((ksG6).trans ksG7).trans ksG8).trans ksG9).trans ksG10) hrL).mono (by omega) (by omega)) (allC (Th.non) (allC (Th.bl true) (allC ((Th.tx (l := [100, 101, 97, 114]) (by decide) (by decide)).mono (n := 0) (m := 4) (by omega) (by omega)) (allC ((tpG6.kp ((((ksG7).trans ksG8).trans ksG9).trans ksG10) hrL).mono (by omega) (by omega)) (allC ((tpG7.kp (((ksG8).trans ksG9).trans ksG10) hrL).mono (by omega) (by omega)) (allC ((tpG8.kp ((ksG9).trans ksG10) hrL).mono (by omega) (by omega)) (allC (Th.intS (by decide) (by decide)) all0)))))))))))) dG10_0 (show dG10 < ((12 : Nat) : Int) from dG10_1)
      refine ⟨pG9, _, dG10, ov, rfl, rfl, .inl (.inl ((ksG10) _ _ (ne_in nLpG9 hrL) hopG9)), atov, ?_⟩
      have tms := tmN_ge k
      have bme : bmN k = 5 * (tmN k + 1) := rfl
      exact q ov nG11 _ ((((((((((ksG1).trans ksG2).trans ksG3).trans ksG4).trans ksG5).trans ksG6).trans ksG7).trans ksG8).trans ksG9).trans ksG10) hRG10 (thov.mono (by omega) (by omega))
    | @fork k' p o va vb nLp hop ho ta tb =>
      have tms := tmN_ge k'
      have tme : tmN (k' + 1) = 4 * (tmN k' + 1) := rfl
      have bme : bmN (k' + 1) = 5 * (tmN (k' + 1) + 1) := rfl
      have bme2 : bmN k' = 5 * (tmN k' + 1) := rfl
      have tv : Th L H (k' + 2) (tmN (k' + 1)) (.ref p) := (Tr.fork nLp hop ho ta tb).th hall
      refine ⟨.ref p, rfl, p, _, 0, .str (Str.ofString "list"), rfl, rfl, .inl (.inl hop), rfl, rfl, _, rfl, ite2 (fun _ => ?_) (fun z => absurd (decide_eq_true rfl) z)⟩
      refine ⟨.ref r, rfl, r, n, 3, rfl, hR, by decide, by decide, fun dG1 nG2 dG1_0 dG1_1 => ?_⟩
      have ksG1 : Kp r H (upd H r (.lst [.int nG2])) := Kp.own Kp.rfl'
      have hRG1 : (upd H r (.lst [.int nG2])) r = some (.lst [.int nG2]) := upd_same
      have hlG1 : ∀ b ∈ L, (upd H r (.lst [.int nG2])) b ≠ none := new_all hl
      generalize upd H r (.lst [.int nG2]) = G1 at ksG1 hRG1 hlG1 ⊢
      refine ⟨_, _, rfl, rfl, _, rfl, ite2 (fun e => ?_) (fun e => ?_)⟩
      · refine ⟨.ref r, rfl, r, nG2, 2, rfl, hRG1, by decide, by decide, fun dG3 nG4 dG3_0 dG3_1 => ?_⟩
        have ksG2 : Kp r G1 (upd G1 r (.lst [.int nG4])) := Kp.own Kp.rfl'
        have hRG2 : (upd G1 r (.lst [.int nG4])) r = some (.lst [.int nG4]) := upd_same
        have hlG2 : ∀ b ∈ L, (upd G1 r (.lst [.int nG4])) b ≠ none := new_all hlG1
        generalize upd G1 r (.lst [.int nG4]) = G2 at ksG2 hRG2 hlG2 ⊢
        refine ⟨_, _, rfl, rfl, ?_⟩
        rcases (by omega : dG3 = 0 ∨ dG3 = 1) with rfl | rfl
        · refine ⟨.ref p, rfl, _, rfl, _, rfl, p, _, rfl, ((ksG1).trans ksG2) _ _ (ne_in nLp hrL) hop, fun s1 HSs1 sms1 nss1 hss1 => ?_⟩
          have nLs1 : s1 ∉ L := fun z => by
            rcases nss1 with y | y
            · exact hlG2 s1 z y
            · exact nLp (y ▸ z)
          have ksG3 : Kp r G2 HSs1 := fun b o _ h => sms1 b o h
          have hRG3 : HSs1 r = some (.lst [.int nG4]) := sms1 _ _ hRG2
          have hlG3 : ∀ b ∈ L, HSs1 b ≠ none := same_all hlG2 sms1
          obtain ⟨G3, rfl⟩ : ∃ G, G = HSs1 := ⟨_, rfl⟩
          have hos1 : G3 s1 = some (.tup [V.str (Str.ofString "list"), tx o]) := hss1
          refine ⟨.ref r, rfl, .ref la, rfl, .ref p, rfl, _, rfl, p, _, _, va, rfl, rfl, .inl (.inl ((((ksG1).trans ksG2).trans ksG3) _ _ (ne_in nLp hrL) hop)), rfl, r, la, nG4, va, all, L, rfl, hRG3, hrL, (ta.kp (((ksG1).trans ksG2).trans ksG3) hrL), hall, hal, nLla, (((ksG1).trans ksG2).trans ksG3) _ _ (ne_in nLla hrL) hola, hlG3, fun v2 n2 HV kpV hRV tV => ?_⟩
          have ksG4 : Kp r G3 HV := kpV
          have hRG4 : HV r = some (.lst [.int n2]) := hRV
          have hlG4 : ∀ b ∈ L, HV b ≠ none := kp_all hlG3 hRG3 kpV hRV
          have tv2 := tV
          obtain ⟨G4, rfl⟩ : ∃ G, G = HV := ⟨_, rfl⟩
          refine ⟨(by show 1 ≤ sizeLine; decide), fun pG5 npG5 => ?_⟩
          have nLpG5 : pG5 ∉ L := fun z => hlG4 pG5 z npG5
          have ksG5 : Kp r G4 (upd G4 pG5 (.tup [v2])) := Kp.new Kp.rfl' npG5
          have hRG5 : (upd G4 pG5 (.tup [v2])) r = some (.lst [.int n2]) := keep_new hRG4 npG5
          have hlG5 : ∀ b ∈ L, (upd G4 pG5 (.tup [v2])) b ≠ none := new_all hlG4
          have hopG5 : (upd G4 pG5 (.tup [v2])) pG5 = some (.tup [v2]) := upd_same
          generalize upd G4 pG5 (.tup [v2]) = G5 at ksG5 hRG5 hlG5 hopG5 ⊢
          refine ⟨s1, pG5, [V.str (Str.ofString "list"), tx o], [v2], rfl, rfl, ((ksG4).trans ksG5) _ _ (ne_in nLs1 hrL) hos1, hopG5, (by show 3 ≤ sizeLine; decide), fun s2 HSs2 sms2 nss2 hss2 => ?_⟩
          have nLs2 : s2 ∉ L := fun z => by
            rcases nss2 with y | y | y
            · exact hlG5 s2 z y
            · exact nLs1 (y ▸ z)
            · exact nLpG5 (y ▸ z)
          have ksG6 : Kp r G5 HSs2 := fun b o _ h => sms2 b o h
          have hRG6 : HSs2 r = some (.lst [.int n2]) := sms2 _ _ hRG5
          have hlG6 : ∀ b ∈ L, HSs2 b ≠ none := same_all hlG5 sms2
          obtain ⟨G6, rfl⟩ : ∃ G, G = HSs2 := ⟨_, rfl⟩
          have hos2 : G6 s2 = some (.tup [V.str (Str.ofString "list"), tx o, v2]) := hss2
          refine ⟨.ref p, rfl, _, rfl, _, _, rfl, rfl, _, rfl, p, _, rfl, ((((((ksG1).trans ksG2).trans ksG3).trans ksG4).trans ksG5).trans ksG6) _ _ (ne_in nLp hrL) hop, fun s3 HSs3 sms3 nss3 hss3 => ?_⟩
          have nLs3 : s3 ∉ L := fun z => by
            rcases nss3 with y | y
            · exact hlG6 s3 z y
            · exact nLp (y ▸ z)
          have ksG7 : Kp r G6 HSs3 := fun b o _ h => sms3 b o h
          have hRG7 : HSs3 r = some (.lst [.int n2]) := sms3 _ _ hRG6
          have hlG7 : ∀ b ∈ L, HSs3 b ≠ none := same_all hlG6 sms3
          obtain ⟨G7, rfl⟩ : ∃ G, G = HSs3 := ⟨_, rfl⟩
          have hos3 : G7 s3 = some (.tup [vb]) := hss3
          refine ⟨s2, s3, [V.str (Str.ofString "list"), tx o, v2], [vb], rfl, rfl, (ksG7) _ _ (ne_in nLs2 hrL) hos2, hos3, (by show 4 ≤ sizeLine; decide), fun s4 HSs4 sms4 nss4 hss4 => ?_⟩
          have nLs4 : s4 ∉ L := fun z => by
            rcases nss4 with y | y | y
            · exact hlG7 s4 z y
            · exact nLs2 (y ▸ z)
            · exact nLs3 (y ▸ z)
          have ksG8 : Kp r G7 HSs4 := fun b o _ h => sms4 b o h
          have hRG8 : HSs4 r = some (.lst [.int n2]) := sms4 _ _ hRG7
          have hlG8 : ∀ b ∈ L, HSs4 b ≠ none := same_all hlG7 sms4
          obtain ⟨G8, rfl⟩ : ∃ G, G = HSs4 := ⟨_, rfl⟩
          have hos4 : G8 s4 = some (.tup [V.str (Str.ofString "list"), tx o, v2, vb]) := hss4
          exact q (.ref s4) n2 _ ((((((((ksG1).trans ksG2).trans ksG3).trans ksG4).trans ksG5).trans ksG6).trans ksG7).trans ksG8) hRG8 ((Th.tup nLs4 hos4 (n := k' + 3) (m := bmN k') (allC ((Th.tx (L := L) (H := G8) (l := [108, 105, 115, 116]) (n := 0) (m := 4) (by decide) (by decide)).mono (by omega) (by omega)) (allC ((Th.tx (hall o ho).2 (hall o ho).1).mono (n := 0) (by omega) (by omega)) (allC ((tv2.kp ((((ksG5).trans ksG6).trans ksG7).trans ksG8) hrL)) (allC (((tb.kp ((((((((ksG1).trans ksG2).trans ksG3).trans ksG4).trans ksG5).trans ksG6).trans ksG7).trans ksG8) hrL).th hall).mono (by omega) (by omega)) all0))))).mono (by omega) (by show (bmN k' + 1) * 4 ≤ bmN (k' + 1); omega))
        · refine ⟨.ref p, rfl, _, rfl, _, rfl, p, _, rfl, ((ksG1).trans ksG2) _ _ (ne_in nLp hrL) hop, fun s1 HSs1 sms1 nss1 hss1 => ?_⟩
          have nLs1 : s1 ∉ L := fun z => by
            rcases nss1 with y | y
            · exact hlG2 s1 z y
            · exact nLp (y ▸ z)
          have ksG3 : Kp r G2 HSs1 := fun b o _ h => sms1 b o h
          have hRG3 : HSs1 r = some (.lst [.int nG4]) := sms1 _ _ hRG2
          have hlG3 : ∀ b ∈ L, HSs1 b ≠ none := same_all hlG2 sms1
          obtain ⟨G3, rfl⟩ : ∃ G, G = HSs1 := ⟨_, rfl⟩
          have hos1 : G3 s1 = some (.tup [V.str (Str.ofString "list"), tx o, va]) := hss1
          refine ⟨.ref r, rfl, .ref la, rfl, .ref p, rfl, _, rfl, p, _, _, vb, rfl, rfl, .inl (.inl ((((ksG1).trans ksG2).trans ksG3) _ _ (ne_in nLp hrL) hop)), rfl, r, la, nG4, vb, all, L, rfl, hRG3, hrL, (tb.kp (((ksG1).trans ksG2).trans ksG3) hrL), hall, hal, nLla, (((ksG1).trans ksG2).trans ksG3) _ _ (ne_in nLla hrL) hola, hlG3, fun v2 n2 HV kpV hRV tV => ?_⟩
          have ksG4 : Kp r G3 HV := kpV
          have hRG4 : HV r = some (.lst [.int n2]) := hRV
          have hlG4 : ∀ b ∈ L, HV b ≠ none := kp_all hlG3 hRG3 kpV hRV
          have tv2 := tV
          obtain ⟨G4, rfl⟩ : ∃ G, G = HV := ⟨_, rfl⟩
          refine ⟨(by show 1 ≤ sizeLine; decide), fun pG5 npG5 => ?_⟩
          have nLpG5 : pG5 ∉ L := fun z => hlG4 pG5 z npG5
          have ksG5 : Kp r G4 (upd G4 pG5 (.tup [v2])) := Kp.new Kp.rfl' npG5
          have hRG5 : (upd G4 pG5 (.tup [v2])) r = some (.lst [.int n2]) := keep_new hRG4 npG5
          have hlG5 : ∀ b ∈ L, (upd G4 pG5 (.tup [v2])) b ≠ none := new_all hlG4
          have hopG5 : (upd G4 pG5 (.tup [v2])) pG5 = some (.tup [v2]) := upd_same
          generalize upd G4 pG5 (.tup [v2]) = G5 at ksG5 hRG5 hlG5 hopG5 ⊢
          refine ⟨s1, pG5, [V.str (Str.ofString "list"), tx o, va], [v2], rfl, rfl, ((ksG4).trans ksG5) _ _ (ne_in nLs1 hrL) hos1, hopG5, (by show 4 ≤ sizeLine; decide), fun s2 HSs2 sms2 nss2 hss2 => ?_⟩
          have nLs2 : s2 ∉ L := fun z => by
            rcases nss2 with y | y | y
            · exact hlG5 s2 z y
            · exact nLs1 (y ▸ z)
            · exact nLpG5 (y ▸ z)
          have ksG6 : Kp r G5 HSs2 := fun b o _ h => sms2 b o h
          have hRG6 : HSs2 r = some (.lst [.int n2]) := sms2 _ _ hRG5
          have hlG6 : ∀ b ∈ L, HSs2 b ≠ none := same_all hlG5 sms2
          obtain ⟨G6, rfl⟩ : ∃ G, G = HSs2 := ⟨_, rfl⟩
          have hos2 : G6 s2 = some (.tup [V.str (Str.ofString "list"), tx o, va, v2]) := hss2
          refine ⟨.ref p, rfl, _, rfl, _, _, rfl, rfl, _, rfl, p, _, rfl, ((((((ksG1).trans ksG2).trans ksG3).trans ksG4).trans ksG5).trans ksG6) _ _ (ne_in nLp hrL) hop, fun s3 HSs3 sms3 nss3 hss3 => ?_⟩
          have nLs3 : s3 ∉ L := fun z => by
            rcases nss3 with y | y
            · exact hlG6 s3 z y
            · exact nLp (y ▸ z)
          have ksG7 : Kp r G6 HSs3 := fun b o _ h => sms3 b o h
          have hRG7 : HSs3 r = some (.lst [.int n2]) := sms3 _ _ hRG6
          have hlG7 : ∀ b ∈ L, HSs3 b ≠ none := same_all hlG6 sms3
          obtain ⟨G7, rfl⟩ : ∃ G, G = HSs3 := ⟨_, rfl⟩
          have hos3 : G7 s3 = some (.tup []) := hss3
          refine ⟨s2, s3, [V.str (Str.ofString "list"), tx o, va, v2], [], rfl, rfl, (ksG7) _ _ (ne_in nLs2 hrL) hos2, hos3, (by show 4 ≤ sizeLine; decide), fun s4 HSs4 sms4 nss4 hss4 => ?_⟩
          have nLs4 : s4 ∉ L := fun z => by
            rcases nss4 with y | y | y
            · exact hlG7 s4 z y
            · exact nLs2 (y ▸ z)
            · exact nLs3 (y ▸ z)
          have ksG8 : Kp r G7 HSs4 := fun b o _ h => sms4 b o h
          have hRG8 : HSs4 r = some (.lst [.int n2]) := sms4 _ _ hRG7
          have hlG8 : ∀ b ∈ L, HSs4 b ≠ none := same_all hlG7 sms4
          obtain ⟨G8, rfl⟩ : ∃ G, G = HSs4 := ⟨_, rfl⟩
          have hos4 : G8 s4 = some (.tup [V.str (Str.ofString "list"), tx o, va, v2]) := hss4
          exact q (.ref s4) n2 _ ((((((((ksG1).trans ksG2).trans ksG3).trans ksG4).trans ksG5).trans ksG6).trans ksG7).trans ksG8) hRG8 ((Th.tup nLs4 hos4 (n := k' + 3) (m := bmN k') (allC ((Th.tx (L := L) (H := G8) (l := [108, 105, 115, 116]) (n := 0) (m := 4) (by decide) (by decide)).mono (by omega) (by omega)) (allC ((Th.tx (hall o ho).2 (hall o ho).1).mono (n := 0) (by omega) (by omega)) (allC (((ta.kp ((((((((ksG1).trans ksG2).trans ksG3).trans ksG4).trans ksG5).trans ksG6).trans ksG7).trans ksG8) hrL).th hall).mono (by omega) (by omega)) (allC ((tv2.kp ((((ksG5).trans ksG6).trans ksG7).trans ksG8) hrL)) all0))))).mono (by omega) (by show (bmN k' + 1) * 4 ≤ bmN (k' + 1); omega))
      · refine ⟨(by show 1 ≤ sizeLine; decide), fun pG3 npG3 => ?_⟩
        have nLpG3 : pG3 ∉ L := fun z => hlG1 pG3 z npG3
        have ksG2 : Kp r G1 (upd G1 pG3 (.tup [.str (Str.ofString "dear")])) := Kp.new Kp.rfl' npG3
        have hRG2 : (upd G1 pG3 (.tup [.str (Str.ofString "dear")])) r = some (.lst [.int nG2]) := keep_new hRG1 npG3
        have hlG2 : ∀ b ∈ L, (upd G1 pG3 (.tup [.str (Str.ofString "dear")])) b ≠ none := new_all hlG1
        have hopG3 : (upd G1 pG3 (.tup [.str (Str.ofString "dear")])) pG3 = some (.tup [.str (Str.ofString "dear")]) := upd_same
        generalize upd G1 pG3 (.tup [.str (Str.ofString "dear")]) = G2 at ksG2 hRG2 hlG2 hopG3 ⊢
        have tpG3 : Th L G2 1 5 (.ref pG3) := (Th.tup nLpG3 hopG3 (n := 0) (m := 4) (allC (Th.tx (l := [100, 101, 97, 114]) (by decide) (by decide)) all0)).mono (by omega) (by show (4 + 1) * 1 ≤ 5; omega)
        refine ⟨(by show 1 ≤ sizeLine; decide), fun pG4 npG4 => ?_⟩
        have nLpG4 : pG4 ∉ L := fun z => hlG2 pG4 z npG4
        have ksG3 : Kp r G2 (upd G2 pG4 (.tup [.str (Str.ofString "over")])) := Kp.new Kp.rfl' npG4
        have hRG3 : (upd G2 pG4 (.tup [.str (Str.ofString "over")])) r = some (.lst [.int nG2]) := keep_new hRG2 npG4
        have hlG3 : ∀ b ∈ L, (upd G2 pG4 (.tup [.str (Str.ofString "over")])) b ≠ none := new_all hlG2
        have hopG4 : (upd G2 pG4 (.tup [.str (Str.ofString "over")])) pG4 = some (.tup [.str (Str.ofString "over")]) := upd_same
        generalize upd G2 pG4 (.tup [.str (Str.ofString "over")]) = G3 at ksG3 hRG3 hlG3 hopG4 ⊢
        have tpG4 : Th L G3 1 5 (.ref pG4) := (Th.tup nLpG4 hopG4 (n := 0) (m := 4) (allC (Th.tx (l := [111, 118, 101, 114]) (by decide) (by decide)) all0)).mono (by omega) (by show (4 + 1) * 1 ≤ 5; omega)
        refine ⟨(by show 1 ≤ sizeLine; decide), fun pG5 npG5 => ?_⟩
        have nLpG5 : pG5 ∉ L := fun z => hlG3 pG5 z npG5
        have ksG4 : Kp r G3 (upd G3 pG5 (.tup [.str (Str.ofString "list")])) := Kp.new Kp.rfl' npG5
        have hRG4 : (upd G3 pG5 (.tup [.str (Str.ofString "list")])) r = some (.lst [.int nG2]) := keep_new hRG3 npG5
        have hlG4 : ∀ b ∈ L, (upd G3 pG5 (.tup [.str (Str.ofString "list")])) b ≠ none := new_all hlG3
        have hopG5 : (upd G3 pG5 (.tup [.str (Str.ofString "list")])) pG5 = some (.tup [.str (Str.ofString "list")]) := upd_same
        generalize upd G3 pG5 (.tup [.str (Str.ofString "list")]) = G4 at ksG4 hRG4 hlG4 hopG5 ⊢
        have tpG5 : Th L G4 1 5 (.ref pG5) := (Th.tup nLpG5 hopG5 (n := 0) (m := 4) (allC (Th.tx (l := [108, 105, 115, 116]) (by decide) (by decide)) all0)).mono (by omega) (by show (4 + 1) * 1 ≤ 5; omega)
        refine ⟨(by show 2 ≤ sizeLine; decide), fun pG6 npG6 => ?_⟩
        have nLpG6 : pG6 ∉ L := fun z => hlG4 pG6 z npG6
        have ksG5 : Kp r G4 (upd G4 pG6 (.tup [.str (Str.ofString "dear"), .int 0])) := Kp.new Kp.rfl' npG6
        have hRG5 : (upd G4 pG6 (.tup [.str (Str.ofString "dear"), .int 0])) r = some (.lst [.int nG2]) := keep_new hRG4 npG6
        have hlG5 : ∀ b ∈ L, (upd G4 pG6 (.tup [.str (Str.ofString "dear"), .int 0])) b ≠ none := new_all hlG4
        have hopG6 : (upd G4 pG6 (.tup [.str (Str.ofString "dear"), .int 0])) pG6 = some (.tup [.str (Str.ofString "dear"), .int 0]) := upd_same
        generalize upd G4 pG6 (.tup [.str (Str.ofString "dear"), .int 0]) = G5 at ksG5 hRG5 hlG5 hopG6 ⊢
        have tpG6 : Th L G5 1 22 (.ref pG6) := (Th.tup nLpG6 hopG6 (n := 0) (m := 10) (allC (Th.tx (l := [100, 101, 97, 114]) (by decide) (by decide)) (allC (Th.intS (by decide) (by decide)) all0))).mono (by omega) (by show (10 + 1) * 2 ≤ 22; omega)
        refine ⟨(by show 0 ≤ sizeLine; decide), fun pG7 npG7 => ?_⟩
        have nLpG7 : pG7 ∉ L := fun z => hlG5 pG7 z npG7
        have ksG6 : Kp r G5 (upd G5 pG7 (.tup [])) := Kp.new Kp.rfl' npG7
        have hRG6 : (upd G5 pG7 (.tup [])) r = some (.lst [.int nG2]) := keep_new hRG5 npG7
        have hlG6 : ∀ b ∈ L, (upd G5 pG7 (.tup [])) b ≠ none := new_all hlG5
        have hopG7 : (upd G5 pG7 (.tup [])) pG7 = some (.tup []) := upd_same
        generalize upd G5 pG7 (.tup []) = G6 at ksG6 hRG6 hlG6 hopG7 ⊢
        have tpG7 : Th L G6 1 0 (.ref pG7) := (Th.tup nLpG7 hopG7 (n := 0) (m := 0) all0).mono (by omega) (by show (0 + 1) * 0 ≤ 0; omega)
        refine ⟨(by show 1 ≤ sizeLine; decide), fun pG8 npG8 => ?_⟩
        have nLpG8 : pG8 ∉ L := fun z => hlG6 pG8 z npG8
        have ksG7 : Kp r G6 (upd G6 pG8 (.lst [.str (Str.ofString "dear")])) := Kp.new Kp.rfl' npG8
        have hRG7 : (upd G6 pG8 (.lst [.str (Str.ofString "dear")])) r = some (.lst [.int nG2]) := keep_new hRG6 npG8
        have hlG7 : ∀ b ∈ L, (upd G6 pG8 (.lst [.str (Str.ofString "dear")])) b ≠ none := new_all hlG6
        have hopG8 : (upd G6 pG8 (.lst [.str (Str.ofString "dear")])) pG8 = some (.lst [.str (Str.ofString "dear")]) := upd_same
        generalize upd G6 pG8 (.lst [.str (Str.ofString "dear")]) = G7 at ksG7 hRG7 hlG7 hopG8 ⊢
        have tpG8 : Th L G7 1 5 (.ref pG8) := (Th.lst nLpG8 hopG8 (n := 0) (m := 4) (allC (Th.tx (l := [100, 101, 97, 114]) (by decide) (by decide)) all0)).mono (by omega) (by show (4 + 1) * 1 ≤ 5; omega)
        refine ⟨(by show 1 ≤ sizeLine; decide), fun pG9 npG9 => ?_⟩
        have nLpG9 : pG9 ∉ L := fun z => hlG7 pG9 z npG9
        have ksG8 : Kp r G7 (upd G7 pG9 (.tup [.str (Str.ofString "Dear")])) := Kp.new Kp.rfl' npG9
        have hRG8 : (upd G7 pG9 (.tup [.str (Str.ofString "Dear")])) r = some (.lst [.int nG2]) := keep_new hRG7 npG9
        have hlG8 : ∀ b ∈ L, (upd G7 pG9 (.tup [.str (Str.ofString "Dear")])) b ≠ none := new_all hlG7
        have hopG9 : (upd G7 pG9 (.tup [.str (Str.ofString "Dear")])) pG9 = some (.tup [.str (Str.ofString "Dear")]) := upd_same
        generalize upd G7 pG9 (.tup [.str (Str.ofString "Dear")]) = G8 at ksG8 hRG8 hlG8 hopG9 ⊢
        have tpG9 : Th L G8 1 5 (.ref pG9) := (Th.tup nLpG9 hopG9 (n := 0) (m := 4) (allC (Th.tx (l := [68, 101, 97, 114]) (by decide) (by decide)) all0)).mono (by omega) (by show (4 + 1) * 1 ≤ 5; omega)
        refine ⟨(by show 1 ≤ sizeLine; decide), fun pG10 npG10 => ?_⟩
        have nLpG10 : pG10 ∉ L := fun z => hlG8 pG10 z npG10
        have ksG9 : Kp r G8 (upd G8 pG10 (.tup [.int 0])) := Kp.new Kp.rfl' npG10
        have hRG9 : (upd G8 pG10 (.tup [.int 0])) r = some (.lst [.int nG2]) := keep_new hRG8 npG10
        have hlG9 : ∀ b ∈ L, (upd G8 pG10 (.tup [.int 0])) b ≠ none := new_all hlG8
        have hopG10 : (upd G8 pG10 (.tup [.int 0])) pG10 = some (.tup [.int 0]) := upd_same
        generalize upd G8 pG10 (.tup [.int 0]) = G9 at ksG9 hRG9 hlG9 hopG10 ⊢
        have tpG10 : Th L G9 1 11 (.ref pG10) := (Th.tup nLpG10 hopG10 (n := 0) (m := 10) (allC (Th.intS (by decide) (by decide)) all0)).mono (by omega) (by show (10 + 1) * 1 ≤ 11; omega)
        refine ⟨(by show 12 ≤ sizeLine; decide), fun pG11 npG11 => ?_⟩
        have nLpG11 : pG11 ∉ L := fun z => hlG9 pG11 z npG11
        have ksG10 : Kp r G9 (upd G9 pG11 (.lst [.ref pG3, .ref pG4, .ref pG5, .ref pG6, .ref pG7, .non, .bl true, .str (Str.ofString "dear"), .ref pG8, .ref pG9, .ref pG10, .int 7])) := Kp.new Kp.rfl' npG11
        have hRG10 : (upd G9 pG11 (.lst [.ref pG3, .ref pG4, .ref pG5, .ref pG6, .ref pG7, .non, .bl true, .str (Str.ofString "dear"), .ref pG8, .ref pG9, .ref pG10, .int 7])) r = some (.lst [.int nG2]) := keep_new hRG9 npG11
        have hlG10 : ∀ b ∈ L, (upd G9 pG11 (.lst [.ref pG3, .ref pG4, .ref pG5, .ref pG6, .ref pG7, .non, .bl true, .str (Str.ofString "dear"), .ref pG8, .ref pG9, .ref pG10, .int 7])) b ≠ none := new_all hlG9
        have hopG11 : (upd G9 pG11 (.lst [.ref pG3, .ref pG4, .ref pG5, .ref pG6, .ref pG7, .non, .bl true, .str (Str.ofString "dear"), .ref pG8, .ref pG9, .ref pG10, .int 7])) pG11 = some (.lst [.ref pG3, .ref pG4, .ref pG5, .ref pG6, .ref pG7, .non, .bl true, .str (Str.ofString "dear"), .ref pG8, .ref pG9, .ref pG10, .int 7]) := upd_same
        generalize upd G9 pG11 (.lst [.ref pG3, .ref pG4, .ref pG5, .ref pG6, .ref pG7, .non, .bl true, .str (Str.ofString "dear"), .ref pG8, .ref pG9, .ref pG10, .int 7]) = G10 at ksG10 hRG10 hlG10 hopG11 ⊢
        refine ⟨.ref p, rfl, p, _, 0, .str (Str.ofString "list"), rfl, rfl, .inl (.inl (((((((((((ksG1).trans ksG2).trans ksG3).trans ksG4).trans ksG5).trans ksG6).trans ksG7).trans ksG8).trans ksG9).trans ksG10) _ _ (ne_in nLp hrL) hop)), rfl, rfl, _, rfl, iteF ?_⟩
        refine ⟨.ref p, rfl, p, _, rfl, .inl (.inl (((((((((((ksG1).trans ksG2).trans ksG3).trans ksG4).trans ksG5).trans ksG6).trans ksG7).trans ksG8).trans ksG9).trans ksG10) _ _ (ne_in nLp hrL) hop)), rfl, _, _, rfl, _, _, rfl, _, _, rfl, _, _, rfl, rfl, ?_⟩
        refine ⟨.ref la, rfl, (by show 3 ≤ sizeLine; decide), fun pG12 npG12 => ?_⟩
        have nLpG12 : pG12 ∉ L := fun z => hlG10 pG12 z npG12
        have ksG11 : Kp r G10 (upd G10 pG12 (.lst [.str (Str.ofString ""), .str (Str.ofString "zz"), .str (Str.ofString "A")])) := Kp.new Kp.rfl' npG12
        have hRG11 : (upd G10 pG12 (.lst [.str (Str.ofString ""), .str (Str.ofString "zz"), .str (Str.ofString "A")])) r = some (.lst [.int nG2]) := keep_new hRG10 npG12
        have hlG11 : ∀ b ∈ L, (upd G10 pG12 (.lst [.str (Str.ofString ""), .str (Str.ofString "zz"), .str (Str.ofString "A")])) b ≠ none := new_all hlG10
        have hopG12 : (upd G10 pG12 (.lst [.str (Str.ofString ""), .str (Str.ofString "zz"), .str (Str.ofString "A")])) pG12 = some (.lst [.str (Str.ofString ""), .str (Str.ofString "zz"), .str (Str.ofString "A")]) := upd_same
        generalize upd G10 pG12 (.lst [.str (Str.ofString ""), .str (Str.ofString "zz"), .str (Str.ofString "A")]) = G11 at ksG11 hRG11 hlG11 hopG12 ⊢
        refine ⟨la, pG12, all.map tx, [.str (Str.ofString ""), .str (Str.ofString "zz"), .str (Str.ofString "A")], rfl, rfl, (((((((((((ksG1).trans ksG2).trans ksG3).trans ksG4).trans ksG5).trans ksG6).trans ksG7).trans ksG8).trans ksG9).trans ksG10).trans ksG11) _ _ (ne_in nLla hrL) hola, hopG12, (by rw [List.length_map]; exact Nat.le_of_lt (small1000 (by show all.length + 3 ≤ 1000; omega))), fun pG13 npG13 => ?_⟩
        have nLpG13 : pG13 ∉ L := fun z => hlG11 pG13 z npG13
        have ksG12 : Kp r G11 (upd G11 pG13 (.lst (all.map tx ++ [.str (Str.ofString ""), .str (Str.ofString "zz"), .str (Str.ofString "A")]))) := Kp.new Kp.rfl' npG13
        have hRG12 : (upd G11 pG13 (.lst (all.map tx ++ [.str (Str.ofString ""), .str (Str.ofString "zz"), .str (Str.ofString "A")]))) r = some (.lst [.int nG2]) := keep_new hRG11 npG13
        have hlG12 : ∀ b ∈ L, (upd G11 pG13 (.lst (all.map tx ++ [.str (Str.ofString ""), .str (Str.ofString "zz"), .str (Str.ofString "A")]))) b ≠ none := new_all hlG11
        have hopG13 : (upd G11 pG13 (.lst (all.map tx ++ [.str (Str.ofString ""), .str (Str.ofString "zz"), .str (Str.ofString "A")]))) pG13 = some (.lst (all.map tx ++ [.str (Str.ofString ""), .str (Str.ofString "zz"), .str (Str.ofString "A")])) := upd_same
        generalize upd G11 pG13 (.lst (all.map tx ++ [.str (Str.ofString ""), .str (Str.ofString "zz"), .str (Str.ofString "A")])) = G12 at ksG12 hRG12 hlG12 hopG13 ⊢
        refine ⟨.ref r, rfl, .ref la, rfl, la, _, rfl, .inl (.inl (.inl (((((((((((((ksG1).trans ksG2).trans ksG3).trans ksG4).trans ksG5).trans ksG6).trans ksG7).trans ksG8).trans ksG9).trans ksG10).trans ksG11).trans ksG12) _ _ (ne_in nLla hrL) hola))), _, 3, rfl, rfl, r, nG2, _, rfl, hRG12, by rw [List.length_map]; omega, by rw [List.length_map]; omega, fun dG14 nG15 dG14_0 dG14_1 => ?_⟩
        have ksG13 : Kp r G12 (upd G12 r (.lst [.int nG15])) := Kp.own Kp.rfl'
        have hRG13 : (upd G12 r (.lst [.int nG15])) r = some (.lst [.int nG15]) := upd_same
        have hlG13 : ∀ b ∈ L, (upd G12 r (.lst [.int nG15])) b ≠ none := new_all hlG12
        generalize upd G12 r (.lst [.int nG15]) = G13 at ksG13 hRG13 hlG13 ⊢
        obtain ⟨ov, atov, thov⟩ := Th.at (L := L) (H := G13) (n := 0) (m := 10) (vs := all.map tx ++ [.str (Str.ofString ""), .str (Str.ofString "zz"), .str (Str.ofString "A")]) (allApp (fun u hu => by
          obtain ⟨x, hx, rfl⟩ := List.mem_map.mp hu
          exact Th.tx (hall x hx).2 (Nat.le_trans (hall x hx).1 (by decide))) (allC (Th.tx (l := []) (by decide) (by decide)) (allC (Th.tx (l := [122, 122]) (by decide) (by decide)) (allC (Th.tx (l := [65]) (by decide) (by decide)) all0)))) dG14_0 (by rw [List.length_append]; show dG14 < (((all.map tx).length + 3 : Nat) : Int); omega)
        refine ⟨pG13, _, dG14, ov, rfl, rfl, .inl (.inl ((ksG13) _ _ (ne_in nLpG13 hrL) hopG13)), atov, ?_⟩
        refine ⟨_, rfl, _, rfl, _, rfl, _, rfl, (by show 4 ≤ sizeLine; decide), fun pG16 npG16 => ?_⟩
        have nLpG16 : pG16 ∉ L := fun z => hlG13 pG16 z npG16
        have ksG14 : Kp r G13 (upd G13 pG16 (.tup [V.str (Str.ofString "list"), ov, va, vb])) := Kp.new Kp.rfl' npG16
        have hRG14 : (upd G13 pG16 (.tup [V.str (Str.ofString "list"), ov, va, vb])) r = some (.lst [.int nG15]) := keep_new hRG13 npG16
        have hlG14 : ∀ b ∈ L, (upd G13 pG16 (.tup [V.str (Str.ofString "list"), ov, va, vb])) b ≠ none := new_all hlG13
        have hopG16 : (upd G13 pG16 (.tup [V.str (Str.ofString "list"), ov, va, vb])) pG16 = some (.tup [V.str (Str.ofString "list"), ov, va, vb]) := upd_same
        generalize upd G13 pG16 (.tup [V.str (Str.ofString "list"), ov, va, vb]) = G14 at ksG14 hRG14 hlG14 hopG16 ⊢
        have tpG16 : Th L G14 (k' + 4) (bmN (k' + 1)) (.ref pG16) := (Th.tup nLpG16 hopG16 (n := (k' + 2)) (m := (tmN (k' + 1))) (allC ((Th.tx (L := L) (H := G14) (l := [108, 105, 115, 116]) (n := 0) (m := 4) (by decide) (by decide)).mono (by omega) (by omega)) (allC ((thov.kp (ksG14) hrL).mono (by omega) (by omega)) (allC (((ta.kp ((((((((((((((ksG1).trans ksG2).trans ksG3).trans ksG4).trans ksG5).trans ksG6).trans ksG7).trans ksG8).trans ksG9).trans ksG10).trans ksG11).trans ksG12).trans ksG13).trans ksG14) hrL).th hall).mono (by omega) (by omega)) (allC (((tb.kp ((((((((((((((ksG1).trans ksG2).trans ksG3).trans ksG4).trans ksG5).trans ksG6).trans ksG7).trans ksG8).trans ksG9).trans ksG10).trans ksG11).trans ksG12).trans ksG13).trans ksG14) hrL).th hall).mono (by omega) (by omega)) all0))))).mono (by omega) (by show ((tmN (k' + 1)) + 1) * 4 ≤ (bmN (k' + 1)); omega)
        refine ⟨_, rfl, _, rfl, _, rfl, _, rfl, (by show 4 ≤ sizeLine; decide), fun pG17 npG17 => ?_⟩
        have nLpG17 : pG17 ∉ L := fun z => hlG14 pG17 z npG17
        have ksG15 : Kp r G14 (upd G14 pG17 (.tup [V.str (Str.ofString "list"), tx o, vb, va])) := Kp.new Kp.rfl' npG17
        have hRG15 : (upd G14 pG17 (.tup [V.str (Str.ofString "list"), tx o, vb, va])) r = some (.lst [.int nG15]) := keep_new hRG14 npG17
        have hlG15 : ∀ b ∈ L, (upd G14 pG17 (.tup [V.str (Str.ofString "list"), tx o, vb, va])) b ≠ none := new_all hlG14
        have hopG17 : (upd G14 pG17 (.tup [V.str (Str.ofString "list"), tx o, vb, va])) pG17 = some (.tup [V.str (Str.ofString "list"), tx o, vb, va]) := upd_same
        generalize upd G14 pG17 (.tup [V.str (Str.ofString "list"), tx o, vb, va]) = G15 at ksG15 hRG15 hlG15 hopG17 ⊢
        have tpG17 : Th L G15 (k' + 4) (bmN (k' + 1)) (.ref pG17) := (Th.tup nLpG17 hopG17 (n := (k' + 2)) (m := (tmN (k' + 1))) (allC ((Th.tx (L := L) (H := G15) (l := [108, 105, 115, 116]) (n := 0) (m := 4) (by decide) (by decide)).mono (by omega) (by omega)) (allC ((Th.tx (hall o ho).2 (hall o ho).1).mono (n := 0) (by omega) (by omega)) (allC (((tb.kp (((((((((((((((ksG1).trans ksG2).trans ksG3).trans ksG4).trans ksG5).trans ksG6).trans ksG7).trans ksG8).trans ksG9).trans ksG10).trans ksG11).trans ksG12).trans ksG13).trans ksG14).trans ksG15) hrL).th hall).mono (by omega) (by omega)) (allC (((ta.kp (((((((((((((((ksG1).trans ksG2).trans ksG3).trans ksG4).trans ksG5).trans ksG6).trans ksG7).trans ksG8).trans ksG9).trans ksG10).trans ksG11).trans ksG12).trans ksG13).trans ksG14).trans ksG15) hrL).th hall).mono (by omega) (by omega)) all0))))).mono (by omega) (by show ((tmN (k' + 1)) + 1) * 4 ≤ (bmN (k' + 1)); omega)
        refine ⟨_, rfl, _, rfl, _, rfl, (by show 3 ≤ sizeLine; decide), fun pG18 npG18 => ?_⟩
        have nLpG18 : pG18 ∉ L := fun z => hlG15 pG18 z npG18
        have ksG16 : Kp r G15 (upd G15 pG18 (.tup [V.str (Str.ofString "list"), tx o, va])) := Kp.new Kp.rfl' npG18
        have hRG16 : (upd G15 pG18 (.tup [V.str (Str.ofString "list"), tx o, va])) r = some (.lst [.int nG15]) := keep_new hRG15 npG18
        have hlG16 : ∀ b ∈ L, (upd G15 pG18 (.tup [V.str (Str.ofString "list"), tx o, va])) b ≠ none := new_all hlG15
        have hopG18 : (upd G15 pG18 (.tup [V.str (Str.ofString "list"), tx o, va])) pG18 = some (.tup [V.str (Str.ofString "list"), tx o, va]) := upd_same
        generalize upd G15 pG18 (.tup [V.str (Str.ofString "list"), tx o, va]) = G16 at ksG16 hRG16 hlG16 hopG18 ⊢
        have tpG18 : Th L G16 (k' + 4) (bmN (k' + 1)) (.ref pG18) := (Th.tup nLpG18 hopG18 (n := (k' + 2)) (m := (tmN (k' + 1))) (allC ((Th.tx (L := L) (H := G16) (l := [108, 105, 115, 116]) (n := 0) (m := 4) (by decide) (by decide)).mono (by omega) (by omega)) (allC ((Th.tx (hall o ho).2 (hall o ho).1).mono (n := 0) (by omega) (by omega)) (allC (((ta.kp ((((((((((((((((ksG1).trans ksG2).trans ksG3).trans ksG4).trans ksG5).trans ksG6).trans ksG7).trans ksG8).trans ksG9).trans ksG10).trans ksG11).trans ksG12).trans ksG13).trans ksG14).trans ksG15).trans ksG16) hrL).th hall).mono (by omega) (by omega)) all0)))).mono (by omega) (by show ((tmN (k' + 1)) + 1) * 3 ≤ (bmN (k' + 1)); omega)
        refine ⟨_, rfl, _, rfl, _, rfl, _, rfl, _, rfl, (by show 5 ≤ sizeLine; decide), fun pG19 npG19 => ?_⟩
        have nLpG19 : pG19 ∉ L := fun z => hlG16 pG19 z npG19
        have ksG17 : Kp r G16 (upd G16 pG19 (.tup [V.str (Str.ofString "list"), tx o, va, vb, va])) := Kp.new Kp.rfl' npG19
        have hRG17 : (upd G16 pG19 (.tup [V.str (Str.ofString "list"), tx o, va, vb, va])) r = some (.lst [.int nG15]) := keep_new hRG16 npG19
        have hlG17 : ∀ b ∈ L, (upd G16 pG19 (.tup [V.str (Str.ofString "list"), tx o, va, vb, va])) b ≠ none := new_all hlG16
        have hopG19 : (upd G16 pG19 (.tup [V.str (Str.ofString "list"), tx o, va, vb, va])) pG19 = some (.tup [V.str (Str.ofString "list"), tx o, va, vb, va]) := upd_same
        generalize upd G16 pG19 (.tup [V.str (Str.ofString "list"), tx o, va, vb, va]) = G17 at ksG17 hRG17 hlG17 hopG19 ⊢
        have tpG19 : Th L G17 (k' + 4) (bmN (k' + 1)) (.ref pG19) := (Th.tup nLpG19 hopG19 (n := (k' + 2)) (m := (tmN (k' + 1))) (allC ((Th.tx (L := L) (H := G17) (l := [108, 105, 115, 116]) (n := 0) (m := 4) (by decide) (by decide)).mono (by omega) (by omega)) (allC ((Th.tx (hall o ho).2 (hall o ho).1).mono (n := 0) (by omega) (by omega)) (allC (((ta.kp (((((((((((((((((ksG1).trans ksG2).trans ksG3).trans ksG4).trans ksG5).trans ksG6).trans ksG7).trans ksG8).trans ksG9).trans ksG10).trans ksG11).trans ksG12).trans ksG13).trans ksG14).trans ksG15).trans ksG16).trans ksG17) hrL).th hall).mono (by omega) (by omega)) (allC (((tb.kp (((((((((((((((((ksG1).trans ksG2).trans ksG3).trans ksG4).trans ksG5).trans ksG6).trans ksG7).trans ksG8).trans ksG9).trans ksG10).trans ksG11).trans ksG12).trans ksG13).trans ksG14).trans ksG15).trans ksG16).trans ksG17) hrL).th hall).mono (by omega) (by omega)) (allC (((ta.kp (((((((((((((((((ksG1).trans ksG2).trans ksG3).trans ksG4).trans ksG5).trans ksG6).trans ksG7).trans ksG8).trans ksG9).trans ksG10).trans ksG11).trans ksG12).trans ksG13).trans ksG14).trans ksG15).trans ksG16).trans ksG17) hrL).th hall).mono (by omega) (by omega)) all0)))))).mono (by omega) (by show ((tmN (k' + 1)) + 1) * 5 ≤ (bmN (k' + 1)); omega)
        refine ⟨(by show 4 ≤ sizeLine; decide), fun pG20 npG20 => ?_⟩
        have nLpG20 : pG20 ∉ L := fun z => hlG17 pG20 z npG20
        have ksG18 : Kp r G17 (upd G17 pG20 (.lst [.ref pG16, .ref pG17, .ref pG18, .ref pG19])) := Kp.new Kp.rfl' npG20
        have hRG18 : (upd G17 pG20 (.lst [.ref pG16, .ref pG17, .ref pG18, .ref pG19])) r = some (.lst [.int nG15]) := keep_new hRG17 npG20
        have hlG18 : ∀ b ∈ L, (upd G17 pG20 (.lst [.ref pG16, .ref pG17, .ref pG18, .ref pG19])) b ≠ none := new_all hlG17
        have hopG20 : (upd G17 pG20 (.lst [.ref pG16, .ref pG17, .ref pG18, .ref pG19])) pG20 = some (.lst [.ref pG16, .ref pG17, .ref pG18, .ref pG19]) := upd_same
        generalize upd G17 pG20 (.lst [.ref pG16, .ref pG17, .ref pG18, .ref pG19]) = G18 at ksG18 hRG18 hlG18 hopG20 ⊢
        refine ⟨.ref pG20, rfl, .ref p, rfl, p, _, rfl, .inr (.inl (.inl (((((((((((((((((((ksG1).trans ksG2).trans ksG3).trans ksG4).trans ksG5).trans ksG6).trans ksG7).trans ksG8).trans ksG9).trans ksG10).trans ksG11).trans ksG12).trans ksG13).trans ksG14).trans ksG15).trans ksG16).trans ksG17).trans ksG18) _ _ (ne_in nLp hrL) hop))), fun pG21 npG21 => ?_⟩
        have nLpG21 : pG21 ∉ L := fun z => hlG18 pG21 z npG21
        have ksG19 : Kp r G18 (upd G18 pG21 (.lst [V.str (Str.ofString "list"), tx o, va, vb])) := Kp.new Kp.rfl' npG21
        have hRG19 : (upd G18 pG21 (.lst [V.str (Str.ofString "list"), tx o, va, vb])) r = some (.lst [.int nG15]) := keep_new hRG18 npG21
        have hlG19 : ∀ b ∈ L, (upd G18 pG21 (.lst [V.str (Str.ofString "list"), tx o, va, vb])) b ≠ none := new_all hlG18
        have hopG21 : (upd G18 pG21 (.lst [V.str (Str.ofString "list"), tx o, va, vb])) pG21 = some (.lst [V.str (Str.ofString "list"), tx o, va, vb]) := upd_same
        generalize upd G18 pG21 (.lst [V.str (Str.ofString "list"), tx o, va, vb]) = G19 at ksG19 hRG19 hlG19 hopG21 ⊢
        have tpG21 : Th L G19 (k' + 4) (bmN (k' + 1)) (.ref pG21) := (Th.lst nLpG21 hopG21 (n := k' + 2) (m := tmN (k' + 1)) (allC ((Th.tx (L := L) (H := G19) (l := [108, 105, 115, 116]) (n := 0) (m := 4) (by decide) (by decide)).mono (by omega) (by omega)) (allC ((Th.tx (hall o ho).2 (hall o ho).1).mono (n := 0) (by omega) (by omega)) (allC (((ta.kp (((((((((((((((((((ksG1).trans ksG2).trans ksG3).trans ksG4).trans ksG5).trans ksG6).trans ksG7).trans ksG8).trans ksG9).trans ksG10).trans ksG11).trans ksG12).trans ksG13).trans ksG14).trans ksG15).trans ksG16).trans ksG17).trans ksG18).trans ksG19) hrL).th hall).mono (by omega) (by omega)) (allC (((tb.kp (((((((((((((((((((ksG1).trans ksG2).trans ksG3).trans ksG4).trans ksG5).trans ksG6).trans ksG7).trans ksG8).trans ksG9).trans ksG10).trans ksG11).trans ksG12).trans ksG13).trans ksG14).trans ksG15).trans ksG16).trans ksG17).trans ksG18).trans ksG19) hrL).th hall).mono (by omega) (by omega)) all0))))).mono (by omega) (by show (tmN (k' + 1) + 1) * 4 ≤ bmN (k' + 1); omega)
        refine ⟨_, rfl, _, rfl, _, rfl, (by show 4 ≤ sizeLine; decide), fun pG22 npG22 => ?_⟩
        have nLpG22 : pG22 ∉ L := fun z => hlG19 pG22 z npG22
        have ksG20 : Kp r G19 (upd G19 pG22 (.tup [V.str (Str.ofString "list"), .non, va, vb])) := Kp.new Kp.rfl' npG22
        have hRG20 : (upd G19 pG22 (.tup [V.str (Str.ofString "list"), .non, va, vb])) r = some (.lst [.int nG15]) := keep_new hRG19 npG22
        have hlG20 : ∀ b ∈ L, (upd G19 pG22 (.tup [V.str (Str.ofString "list"), .non, va, vb])) b ≠ none := new_all hlG19
        have hopG22 : (upd G19 pG22 (.tup [V.str (Str.ofString "list"), .non, va, vb])) pG22 = some (.tup [V.str (Str.ofString "list"), .non, va, vb]) := upd_same
        generalize upd G19 pG22 (.tup [V.str (Str.ofString "list"), .non, va, vb]) = G20 at ksG20 hRG20 hlG20 hopG22 ⊢
        have tpG22 : Th L G20 (k' + 4) (bmN (k' + 1)) (.ref pG22) := (Th.tup nLpG22 hopG22 (n := (k' + 2)) (m := (tmN (k' + 1))) (allC ((Th.tx (L := L) (H := G20) (l := [108, 105, 115, 116]) (n := 0) (m := 4) (by decide) (by decide)).mono (by omega) (by omega)) (allC (Th.non) (allC (((ta.kp ((((((((((((((((((((ksG1).trans ksG2).trans ksG3).trans ksG4).trans ksG5).trans ksG6).trans ksG7).trans ksG8).trans ksG9).trans ksG10).trans ksG11).trans ksG12).trans ksG13).trans ksG14).trans ksG15).trans ksG16).trans ksG17).trans ksG18).trans ksG19).trans ksG20) hrL).th hall).mono (by omega) (by omega)) (allC (((tb.kp ((((((((((((((((((((ksG1).trans ksG2).trans ksG3).trans ksG4).trans ksG5).trans ksG6).trans ksG7).trans ksG8).trans ksG9).trans ksG10).trans ksG11).trans ksG12).trans ksG13).trans ksG14).trans ksG15).trans ksG16).trans ksG17).trans ksG18).trans ksG19).trans ksG20) hrL).th hall).mono (by omega) (by omega)) all0))))).mono (by omega) (by show ((tmN (k' + 1)) + 1) * 4 ≤ (bmN (k' + 1)); omega)
        refine ⟨_, rfl, _, rfl, (by show 1 ≤ sizeLine; decide), fun pG23 npG23 => ?_⟩
        have nLpG23 : pG23 ∉ L := fun z => hlG20 pG23 z npG23
        have ksG21 : Kp r G20 (upd G20 pG23 (.lst [tx o])) := Kp.new Kp.rfl' npG23
        have hRG21 : (upd G20 pG23 (.lst [tx o])) r = some (.lst [.int nG15]) := keep_new hRG20 npG23
        have hlG21 : ∀ b ∈ L, (upd G20 pG23 (.lst [tx o])) b ≠ none := new_all hlG20
        have hopG23 : (upd G20 pG23 (.lst [tx o])) pG23 = some (.lst [tx o]) := upd_same
        generalize upd G20 pG23 (.lst [tx o]) = G21 at ksG21 hRG21 hlG21 hopG23 ⊢
        have tpG23 : Th L G21 1 7 (.ref pG23) := (Th.lst nLpG23 hopG23 (n := 0) (m := 6) (allC (Th.tx (hall o ho).2 (hall o ho).1) all0)).mono (by omega) (by show (6 + 1) * 1 ≤ 7; omega)
        refine ⟨_, rfl, _, rfl, (by show 4 ≤ sizeLine; decide), fun pG24 npG24 => ?_⟩
        have nLpG24 : pG24 ∉ L := fun z => hlG21 pG24 z npG24
        have ksG22 : Kp r G21 (upd G21 pG24 (.tup [V.str (Str.ofString "list"), .ref pG23, va, vb])) := Kp.new Kp.rfl' npG24
        have hRG22 : (upd G21 pG24 (.tup [V.str (Str.ofString "list"), .ref pG23, va, vb])) r = some (.lst [.int nG15]) := keep_new hRG21 npG24
        have hlG22 : ∀ b ∈ L, (upd G21 pG24 (.tup [V.str (Str.ofString "list"), .ref pG23, va, vb])) b ≠ none := new_all hlG21
        have hopG24 : (upd G21 pG24 (.tup [V.str (Str.ofString "list"), .ref pG23, va, vb])) pG24 = some (.tup [V.str (Str.ofString "list"), .ref pG23, va, vb]) := upd_same
        generalize upd G21 pG24 (.tup [V.str (Str.ofString "list"), .ref pG23, va, vb]) = G22 at ksG22 hRG22 hlG22 hopG24 ⊢
        have tpG24 : Th L G22 (k' + 4) (bmN (k' + 1)) (.ref pG24) := (Th.tup nLpG24 hopG24 (n := (k' + 2)) (m := (tmN (k' + 1))) (allC ((Th.tx (L := L) (H := G22) (l := [108, 105, 115, 116]) (n := 0) (m := 4) (by decide) (by decide)).mono (by omega) (by omega)) (allC ((tpG23.kp (ksG22) hrL).mono (by omega) (by omega)) (allC (((ta.kp ((((((((((((((((((((((ksG1).trans ksG2).trans ksG3).trans ksG4).trans ksG5).trans ksG6).trans ksG7).trans ksG8).trans ksG9).trans ksG10).trans ksG11).trans ksG12).trans ksG13).trans ksG14).trans ksG15).trans ksG16).trans ksG17).trans ksG18).trans ksG19).trans ksG20).trans ksG21).trans ksG22) hrL).th hall).mono (by omega) (by omega)) (allC (((tb.kp ((((((((((((((((((((((ksG1).trans ksG2).trans ksG3).trans ksG4).trans ksG5).trans ksG6).trans ksG7).trans ksG8).trans ksG9).trans ksG10).trans ksG11).trans ksG12).trans ksG13).trans ksG14).trans ksG15).trans ksG16).trans ksG17).trans ksG18).trans ksG19).trans ksG20).trans ksG21).trans ksG22) hrL).th hall).mono (by omega) (by omega)) all0))))).mono (by omega) (by show ((tmN (k' + 1)) + 1) * 4 ≤ (bmN (k' + 1)); omega)
        refine ⟨_, rfl, _, rfl, _, rfl, (by show 4 ≤ sizeLine; decide), fun pG25 npG25 => ?_⟩
        have nLpG25 : pG25 ∉ L := fun z => hlG22 pG25 z npG25
        have ksG23 : Kp r G22 (upd G22 pG25 (.tup [V.str (Str.ofString "list"), tx o, va, .non])) := Kp.new Kp.rfl' npG25
        have hRG23 : (upd G22 pG25 (.tup [V.str (Str.ofString "list"), tx o, va, .non])) r = some (.lst [.int nG15]) := keep_new hRG22 npG25
        have hlG23 : ∀ b ∈ L, (upd G22 pG25 (.tup [V.str (Str.ofString "list"), tx o, va, .non])) b ≠ none := new_all hlG22
        have hopG25 : (upd G22 pG25 (.tup [V.str (Str.ofString "list"), tx o, va, .non])) pG25 = some (.tup [V.str (Str.ofString "list"), tx o, va, .non]) := upd_same
        generalize upd G22 pG25 (.tup [V.str (Str.ofString "list"), tx o, va, .non]) = G23 at ksG23 hRG23 hlG23 hopG25 ⊢
        have tpG25 : Th L G23 (k' + 4) (bmN (k' + 1)) (.ref pG25) := (Th.tup nLpG25 hopG25 (n := (k' + 2)) (m := (tmN (k' + 1))) (allC ((Th.tx (L := L) (H := G23) (l := [108, 105, 115, 116]) (n := 0) (m := 4) (by decide) (by decide)).mono (by omega) (by omega)) (allC ((Th.tx (hall o ho).2 (hall o ho).1).mono (n := 0) (by omega) (by omega)) (allC (((ta.kp (((((((((((((((((((((((ksG1).trans ksG2).trans ksG3).trans ksG4).trans ksG5).trans ksG6).trans ksG7).trans ksG8).trans ksG9).trans ksG10).trans ksG11).trans ksG12).trans ksG13).trans ksG14).trans ksG15).trans ksG16).trans ksG17).trans ksG18).trans ksG19).trans ksG20).trans ksG21).trans ksG22).trans ksG23) hrL).th hall).mono (by omega) (by omega)) (allC (Th.non) all0))))).mono (by omega) (by show ((tmN (k' + 1)) + 1) * 4 ≤ (bmN (k' + 1)); omega)
        refine ⟨(by show 4 ≤ sizeLine; decide), fun pG26 npG26 => ?_⟩
        have nLpG26 : pG26 ∉ L := fun z => hlG23 pG26 z npG26
        have ksG24 : Kp r G23 (upd G23 pG26 (.lst [.ref pG21, .ref pG22, .ref pG24, .ref pG25])) := Kp.new Kp.rfl' npG26
        have hRG24 : (upd G23 pG26 (.lst [.ref pG21, .ref pG22, .ref pG24, .ref pG25])) r = some (.lst [.int nG15]) := keep_new hRG23 npG26
        have hlG24 : ∀ b ∈ L, (upd G23 pG26 (.lst [.ref pG21, .ref pG22, .ref pG24, .ref pG25])) b ≠ none := new_all hlG23
        have hopG26 : (upd G23 pG26 (.lst [.ref pG21, .ref pG22, .ref pG24, .ref pG25])) pG26 = some (.lst [.ref pG21, .ref pG22, .ref pG24, .ref pG25]) := upd_same
        generalize upd G23 pG26 (.lst [.ref pG21, .ref pG22, .ref pG24, .ref pG25]) = G24 at ksG24 hRG24 hlG24 hopG26 ⊢
        refine ⟨pG20, pG26, [.ref pG16, .ref pG17, .ref pG18, .ref pG19], [.ref pG21, .ref pG22, .ref pG24, .ref pG25], rfl, rfl, ((((((ksG19).trans ksG20).trans ksG21).trans ksG22).trans ksG23).trans ksG24) _ _ (ne_in nLpG20 hrL) hopG20, hopG26, (by show 8 ≤ sizeLine; decide), fun pG27 npG27 => ?_⟩
        have nLpG27 : pG27 ∉ L := fun z => hlG24 pG27 z npG27
        have ksG25 : Kp r G24 (upd G24 pG27 (.lst ([.ref pG16, .ref pG17, .ref pG18, .ref pG19] ++ [.ref pG21, .ref pG22, .ref pG24, .ref pG25]))) := Kp.new Kp.rfl' npG27
        have hRG25 : (upd G24 pG27 (.lst ([.ref pG16, .ref pG17, .ref pG18, .ref pG19] ++ [.ref pG21, .ref pG22, .ref pG24, .ref pG25]))) r = some (.lst [.int nG15]) := keep_new hRG24 npG27
        have hlG25 : ∀ b ∈ L, (upd G24 pG27 (.lst ([.ref pG16, .ref pG17, .ref pG18, .ref pG19] ++ [.ref pG21, .ref pG22, .ref pG24, .ref pG25]))) b ≠ none := new_all hlG24
        have hopG27 : (upd G24 pG27 (.lst ([.ref pG16, .ref pG17, .ref pG18, .ref pG19] ++ [.ref pG21, .ref pG22, .ref pG24, .ref pG25]))) pG27 = some (.lst ([.ref pG16, .ref pG17, .ref pG18, .ref pG19] ++ [.ref pG21, .ref pG22, .ref pG24, .ref pG25])) := upd_same
        generalize upd G24 pG27 (.lst ([.ref pG16, .ref pG17, .ref pG18, .ref pG19] ++ [.ref pG21, .ref pG22, .ref pG24, .ref pG25])) = G25 at ksG25 hRG25 hlG25 hopG27 ⊢
        refine ⟨.ref pG27, rfl, _, rfl, _, rfl, _, rfl, (by show 4 ≤ sizeLine; decide), fun pG28 npG28 => ?_⟩
        have nLpG28 : pG28 ∉ L := fun z => hlG25 pG28 z npG28
        have ksG26 : Kp r G25 (upd G25 pG28 (.tup [.str (Str.ofString "dear"), tx o, va, vb])) := Kp.new Kp.rfl' npG28
        have hRG26 : (upd G25 pG28 (.tup [.str (Str.ofString "dear"), tx o, va, vb])) r = some (.lst [.int nG15]) := keep_new hRG25 npG28
        have hlG26 : ∀ b ∈ L, (upd G25 pG28 (.tup [.str (Str.ofString "dear"), tx o, va, vb])) b ≠ none := new_all hlG25
        have hopG28 : (upd G25 pG28 (.tup [.str (Str.ofString "dear"), tx o, va, vb])) pG28 = some (.tup [.str (Str.ofString "dear"), tx o, va, vb]) := upd_same
        generalize upd G25 pG28 (.tup [.str (Str.ofString "dear"), tx o, va, vb]) = G26 at ksG26 hRG26 hlG26 hopG28 ⊢
        have tpG28 : Th L G26 (k' + 4) (bmN (k' + 1)) (.ref pG28) := (Th.tup nLpG28 hopG28 (n := (k' + 2)) (m := (tmN (k' + 1))) (allC ((Th.tx (l := [100, 101, 97, 114]) (by decide) (by decide)).mono (n := 0) (m := 4) (by omega) (by omega)) (allC ((Th.tx (hall o ho).2 (hall o ho).1).mono (n := 0) (by omega) (by omega)) (allC (((ta.kp ((((((((((((((((((((((((((ksG1).trans ksG2).trans ksG3).trans ksG4).trans ksG5).trans ksG6).trans ksG7).trans ksG8).trans ksG9).trans ksG10).trans ksG11).trans ksG12).trans ksG13).trans ksG14).trans ksG15).trans ksG16).trans ksG17).trans ksG18).trans ksG19).trans ksG20).trans ksG21).trans ksG22).trans ksG23).trans ksG24).trans ksG25).trans ksG26) hrL).th hall).mono (by omega) (by omega)) (allC (((tb.kp ((((((((((((((((((((((((((ksG1).trans ksG2).trans ksG3).trans ksG4).trans ksG5).trans ksG6).trans ksG7).trans ksG8).trans ksG9).trans ksG10).trans ksG11).trans ksG12).trans ksG13).trans ksG14).trans ksG15).trans ksG16).trans ksG17).trans ksG18).trans ksG19).trans ksG20).trans ksG21).trans ksG22).trans ksG23).trans ksG24).trans ksG25).trans ksG26) hrL).th hall).mono (by omega) (by omega)) all0))))).mono (by omega) (by show ((tmN (k' + 1)) + 1) * 4 ≤ (bmN (k' + 1)); omega)
        refine ⟨_, rfl, _, rfl, _, rfl, _, rfl, (by show 4 ≤ sizeLine; decide), fun pG29 npG29 => ?_⟩
        have nLpG29 : pG29 ∉ L := fun z => hlG26 pG29 z npG29
        have ksG27 : Kp r G26 (upd G26 pG29 (.tup [V.str (Str.ofString "list"), tx o, .ref p, vb])) := Kp.new Kp.rfl' npG29
        have hRG27 : (upd G26 pG29 (.tup [V.str (Str.ofString "list"), tx o, .ref p, vb])) r = some (.lst [.int nG15]) := keep_new hRG26 npG29
        have hlG27 : ∀ b ∈ L, (upd G26 pG29 (.tup [V.str (Str.ofString "list"), tx o, .ref p, vb])) b ≠ none := new_all hlG26
        have hopG29 : (upd G26 pG29 (.tup [V.str (Str.ofString "list"), tx o, .ref p, vb])) pG29 = some (.tup [V.str (Str.ofString "list"), tx o, .ref p, vb]) := upd_same
        generalize upd G26 pG29 (.tup [V.str (Str.ofString "list"), tx o, .ref p, vb]) = G27 at ksG27 hRG27 hlG27 hopG29 ⊢
        have tpG29 : Th L G27 (k' + 4) (bmN (k' + 1)) (.ref pG29) := (Th.tup nLpG29 hopG29 (n := (k' + 2)) (m := (tmN (k' + 1))) (allC ((Th.tx (L := L) (H := G27) (l := [108, 105, 115, 116]) (n := 0) (m := 4) (by decide) (by decide)).mono (by omega) (by omega)) (allC ((Th.tx (hall o ho).2 (hall o ho).1).mono (n := 0) (by omega) (by omega)) (allC ((tv.kp (((((((((((((((((((((((((((ksG1).trans ksG2).trans ksG3).trans ksG4).trans ksG5).trans ksG6).trans ksG7).trans ksG8).trans ksG9).trans ksG10).trans ksG11).trans ksG12).trans ksG13).trans ksG14).trans ksG15).trans ksG16).trans ksG17).trans ksG18).trans ksG19).trans ksG20).trans ksG21).trans ksG22).trans ksG23).trans ksG24).trans ksG25).trans ksG26).trans ksG27) hrL)) (allC (((tb.kp (((((((((((((((((((((((((((ksG1).trans ksG2).trans ksG3).trans ksG4).trans ksG5).trans ksG6).trans ksG7).trans ksG8).trans ksG9).trans ksG10).trans ksG11).trans ksG12).trans ksG13).trans ksG14).trans ksG15).trans ksG16).trans ksG17).trans ksG18).trans ksG19).trans ksG20).trans ksG21).trans ksG22).trans ksG23).trans ksG24).trans ksG25).trans ksG26).trans ksG27) hrL).th hall).mono (by omega) (by omega)) all0))))).mono (by omega) (by show ((tmN (k' + 1)) + 1) * 4 ≤ (bmN (k' + 1)); omega)
        refine ⟨_, rfl, _, rfl, _, rfl, _, rfl, (by show 4 ≤ sizeLine; decide), fun pG30 npG30 => ?_⟩
        have nLpG30 : pG30 ∉ L := fun z => hlG27 pG30 z npG30
        have ksG28 : Kp r G27 (upd G27 pG30 (.tup [V.str (Str.ofString "list"), tx o, va, .ref p])) := Kp.new Kp.rfl' npG30
        have hRG28 : (upd G27 pG30 (.tup [V.str (Str.ofString "list"), tx o, va, .ref p])) r = some (.lst [.int nG15]) := keep_new hRG27 npG30
        have hlG28 : ∀ b ∈ L, (upd G27 pG30 (.tup [V.str (Str.ofString "list"), tx o, va, .ref p])) b ≠ none := new_all hlG27
        have hopG30 : (upd G27 pG30 (.tup [V.str (Str.ofString "list"), tx o, va, .ref p])) pG30 = some (.tup [V.str (Str.ofString "list"), tx o, va, .ref p]) := upd_same
        generalize upd G27 pG30 (.tup [V.str (Str.ofString "list"), tx o, va, .ref p]) = G28 at ksG28 hRG28 hlG28 hopG30 ⊢
        have tpG30 : Th L G28 (k' + 4) (bmN (k' + 1)) (.ref pG30) := (Th.tup nLpG30 hopG30 (n := (k' + 2)) (m := (tmN (k' + 1))) (allC ((Th.tx (L := L) (H := G28) (l := [108, 105, 115, 116]) (n := 0) (m := 4) (by decide) (by decide)).mono (by omega) (by omega)) (allC ((Th.tx (hall o ho).2 (hall o ho).1).mono (n := 0) (by omega) (by omega)) (allC (((ta.kp ((((((((((((((((((((((((((((ksG1).trans ksG2).trans ksG3).trans ksG4).trans ksG5).trans ksG6).trans ksG7).trans ksG8).trans ksG9).trans ksG10).trans ksG11).trans ksG12).trans ksG13).trans ksG14).trans ksG15).trans ksG16).trans ksG17).trans ksG18).trans ksG19).trans ksG20).trans ksG21).trans ksG22).trans ksG23).trans ksG24).trans ksG25).trans ksG26).trans ksG27).trans ksG28) hrL).th hall).mono (by omega) (by omega)) (allC ((tv.kp ((((((((((((((((((((((((((((ksG1).trans ksG2).trans ksG3).trans ksG4).trans ksG5).trans ksG6).trans ksG7).trans ksG8).trans ksG9).trans ksG10).trans ksG11).trans ksG12).trans ksG13).trans ksG14).trans ksG15).trans ksG16).trans ksG17).trans ksG18).trans ksG19).trans ksG20).trans ksG21).trans ksG22).trans ksG23).trans ksG24).trans ksG25).trans ksG26).trans ksG27).trans ksG28) hrL)) all0))))).mono (by omega) (by show ((tmN (k' + 1)) + 1) * 4 ≤ (bmN (k' + 1)); omega)
        refine ⟨(by show 1 ≤ sizeLine; decide), fun pG31 npG31 => ?_⟩
        have nLpG31 : pG31 ∉ L := fun z => hlG28 pG31 z npG31
        have ksG29 : Kp r G28 (upd G28 pG31 (.tup [.str (Str.ofString "dear")])) := Kp.new Kp.rfl' npG31
        have hRG29 : (upd G28 pG31 (.tup [.str (Str.ofString "dear")])) r = some (.lst [.int nG15]) := keep_new hRG28 npG31
        have hlG29 : ∀ b ∈ L, (upd G28 pG31 (.tup [.str (Str.ofString "dear")])) b ≠ none := new_all hlG28
        have hopG31 : (upd G28 pG31 (.tup [.str (Str.ofString "dear")])) pG31 = some (.tup [.str (Str.ofString "dear")]) := upd_same
        generalize upd G28 pG31 (.tup [.str (Str.ofString "dear")]) = G29 at ksG29 hRG29 hlG29 hopG31 ⊢
        have tpG31 : Th L G29 1 5 (.ref pG31) := (Th.tup nLpG31 hopG31 (n := 0) (m := 4) (allC (Th.tx (l := [100, 101, 97, 114]) (by decide) (by decide)) all0)).mono (by omega) (by show (4 + 1) * 1 ≤ 5; omega)
        refine ⟨(by show 4 ≤ sizeLine; decide), fun pG32 npG32 => ?_⟩
        have nLpG32 : pG32 ∉ L := fun z => hlG29 pG32 z npG32
        have ksG30 : Kp r G29 (upd G29 pG32 (.lst [.ref pG28, .ref pG29, .ref pG30, .ref pG31])) := Kp.new Kp.rfl' npG32
        have hRG30 : (upd G29 pG32 (.lst [.ref pG28, .ref pG29, .ref pG30, .ref pG31])) r = some (.lst [.int nG15]) := keep_new hRG29 npG32
        have hlG30 : ∀ b ∈ L, (upd G29 pG32 (.lst [.ref pG28, .ref pG29, .ref pG30, .ref pG31])) b ≠ none := new_all hlG29
        have hopG32 : (upd G29 pG32 (.lst [.ref pG28, .ref pG29, .ref pG30, .ref pG31])) pG32 = some (.lst [.ref pG28, .ref pG29, .ref pG30, .ref pG31]) := upd_same
        generalize upd G29 pG32 (.lst [.ref pG28, .ref pG29, .ref pG30, .ref pG31]) = G30 at ksG30 hRG30 hlG30 hopG32 ⊢
        refine ⟨pG27, pG32, ([.ref pG16, .ref pG17, .ref pG18, .ref pG19] ++ [.ref pG21, .ref pG22, .ref pG24, .ref pG25]), [.ref pG28, .ref pG29, .ref pG30, .ref pG31], rfl, rfl, (((((ksG26).trans ksG27).trans ksG28).trans ksG29).trans ksG30) _ _ (ne_in nLpG27 hrL) hopG27, hopG32, (by show 12 ≤ sizeLine; decide), fun pG33 npG33 => ?_⟩
        have nLpG33 : pG33 ∉ L := fun z => hlG30 pG33 z npG33
        have ksG31 : Kp r G30 (upd G30 pG33 (.lst (([.ref pG16, .ref pG17, .ref pG18, .ref pG19] ++ [.ref pG21, .ref pG22, .ref pG24, .ref pG25]) ++ [.ref pG28, .ref pG29, .ref pG30, .ref pG31]))) := Kp.new Kp.rfl' npG33
        have hRG31 : (upd G30 pG33 (.lst (([.ref pG16, .ref pG17, .ref pG18, .ref pG19] ++ [.ref pG21, .ref pG22, .ref pG24, .ref pG25]) ++ [.ref pG28, .ref pG29, .ref pG30, .ref pG31]))) r = some (.lst [.int nG15]) := keep_new hRG30 npG33
        have hlG31 : ∀ b ∈ L, (upd G30 pG33 (.lst (([.ref pG16, .ref pG17, .ref pG18, .ref pG19] ++ [.ref pG21, .ref pG22, .ref pG24, .ref pG25]) ++ [.ref pG28, .ref pG29, .ref pG30, .ref pG31]))) b ≠ none := new_all hlG30
        have hopG33 : (upd G30 pG33 (.lst (([.ref pG16, .ref pG17, .ref pG18, .ref pG19] ++ [.ref pG21, .ref pG22, .ref pG24, .ref pG25]) ++ [.ref pG28, .ref pG29, .ref pG30, .ref pG31]))) pG33 = some (.lst (([.ref pG16, .ref pG17, .ref pG18, .ref pG19] ++ [.ref pG21, .ref pG22, .ref pG24, .ref pG25]) ++ [.ref pG28, .ref pG29, .ref pG30, .ref pG31])) := upd_same
        generalize upd G30 pG33 (.lst (([.ref pG16, .ref pG17, .ref pG18, .ref pG19] ++ [.ref pG21, .ref pG22, .ref pG24, .ref pG25]) ++ [.ref pG28, .ref pG29, .ref pG30, .ref pG31])) = G31 at ksG31 hRG31 hlG31 hopG33 ⊢
        refine ⟨.ref pG33, rfl, .ref r, rfl, r, nG15, 12, rfl, hRG31, by decide, by decide, fun dG34 nG35 dG34_0 dG34_1 => ?_⟩
        have ksG32 : Kp r G31 (upd G31 r (.lst [.int nG35])) := Kp.own Kp.rfl'
        have hRG32 : (upd G31 r (.lst [.int nG35])) r = some (.lst [.int nG35]) := upd_same
        have hlG32 : ∀ b ∈ L, (upd G31 r (.lst [.int nG35])) b ≠ none := new_all hlG31
        generalize upd G31 r (.lst [.int nG35]) = G32 at ksG32 hRG32 hlG32 ⊢
        obtain ⟨fv, atfv, thfv⟩ := Th.at (L := L) (H := G32) (n := (k' + 4)) (m := (bmN (k' + 1))) (vs := [.ref pG16, .ref pG17, .ref pG18, .ref pG19, .ref pG21, .ref pG22, .ref pG24, .ref pG25, .ref pG28, .ref pG29, .ref pG30, .ref pG31]) (allC ((tpG16.kp ((((((((((((((((((ksG15).trans ksG16).trans ksG17).trans ksG18).trans ksG19).trans ksG20).trans ksG21).trans ksG22).trans ksG23).trans ksG24).trans ksG25).trans ksG26).trans ksG27).trans ksG28).trans ksG29).trans ksG30).trans ksG31).trans ksG32) hrL)) (allC ((tpG17.kp (((((((((((((((((ksG16).trans ksG17).trans ksG18).trans ksG19).trans ksG20).trans ksG21).trans ksG22).trans ksG23).trans ksG24).trans ksG25).trans ksG26).trans ksG27).trans ksG28).trans ksG29).trans ksG30).trans ksG31).trans ksG32) hrL)) (allC ((tpG18.kp ((((((((((((((((ksG17).trans ksG18).trans ksG19).trans ksG20).trans ksG21).trans ksG22).trans ksG23).trans ksG24).trans ksG25).trans ksG26).trans ksG27).trans ksG28).trans ksG29).trans ksG30).trans ksG31).trans ksG32) hrL)) (allC ((tpG19.kp (((((((((((((((ksG18).trans ksG19).trans ksG20).trans ksG21).trans ksG22).trans ksG23).trans ksG24).trans ksG25).trans ksG26).trans ksG27).trans ksG28).trans ksG29).trans ksG30).trans ksG31).trans ksG32) hrL)) (allC ((tpG21.kp (((((((((((((ksG20).trans ksG21).trans ksG22).trans ksG23).trans ksG24).trans ksG25).trans ksG26).trans ksG27).trans ksG28).trans ksG29).trans ksG30).trans ksG31).trans ksG32) hrL)) (allC ((tpG22.kp ((((((((((((ksG21).trans ksG22).trans ksG23).trans ksG24).trans ksG25).trans ksG26).trans ksG27).trans ksG28).trans ksG29).trans ksG30).trans ksG31).trans ksG32) hrL)) (allC ((tpG24.kp ((((((((((ksG23).trans ksG24).trans ksG25).trans ksG26).trans ksG27).trans ksG28).trans ksG29).trans ksG30).trans ksG31).trans ksG32) hrL)) (allC ((tpG25.kp (((((((((ksG24).trans ksG25).trans ksG26).trans ksG27).trans ksG28).trans ksG29).trans ksG30).trans ksG31).trans ksG32) hrL)) (allC ((tpG28.kp ((((((ksG27).trans ksG28).trans ksG29).trans ksG30).trans ksG31).trans ksG32) hrL)) (allC ((tpG29.kp (((((ksG28).trans ksG29).trans ksG30).trans ksG31).trans ksG32) hrL)) (allC ((tpG30.kp ((((ksG29).trans ksG30).trans ksG31).trans ksG32) hrL)) (allC ((tpG31.kp (((ksG30).trans ksG31).trans ksG32) hrL).mono (by omega) (by omega)) all0)))))))))))) dG34_0 (show dG34 < ((12 : Nat) : Int) from dG34_1)
        refine ⟨pG33, _, dG34, fv, rfl, rfl, .inl (.inl ((ksG32) _ _ (ne_in nLpG33 hrL) hopG33)), atfv, ?_⟩
        exact q fv nG35 _ ((((((((((((((((((((((((((((((((ksG1).trans ksG2).trans ksG3).trans ksG4).trans ksG5).trans ksG6).trans ksG7).trans ksG8).trans ksG9).trans ksG10).trans ksG11).trans ksG12).trans ksG13).trans ksG14).trans ksG15).trans ksG16).trans ksG17).trans ksG18).trans ksG19).trans ksG20).trans ksG21).trans ksG22).trans ksG23).trans ksG24).trans ksG25).trans ksG26).trans ksG27).trans ksG28).trans ksG29).trans ksG30).trans ksG31).trans ksG32) hRG32 (thfv.mono (by omega) (by omega))
theorem ok_bent22 (T : Tx K mg Z) : ∀ k : Nat, FnOk P w K mg base CX0 (k + 2) Z.f_l_bent Z.d_l_bent ["reel", "lists", "tree"] (spBent22 K k)
  | 0 => ok_bent1 T 0 ⟨fun _ _ _ _ h => h.elim, fun _ _ _ _ _ _ _ _ _ _ _ _ _ h => h.elim⟩
  | k + 1 => ok_bent1 T (k + 1) (ok_bent22 T k)

/-! ### the law -/
def spLtreeX (K : PySem.W.Frag) : Sp := fun vs H Q E => ∃ i, i ≤ 5 ∧ spLtree K i vs H Q E
def spLfloorsX (K : PySem.W.Frag) : Sp := fun vs H Q E => ∃ i, i ≤ 5 ∧ spLfloors K i vs H Q E
def spBent22X (K : PySem.W.Frag) : Sp := fun vs H Q E => ∃ i, i ≤ 5 ∧ spBent22 K i vs H Q E
theorem Tr.hide {all : List (List Nat)} {L L' : List Addr} {H : Hp} {k : Nat} {v : V} (h : Tr all L H k v) (hh : ∀ b ys, b ∉ L → H b = some (.tup ys) → b ∉ L') : Tr all L' H k v := by
  induction h with
  | leaf n e s => exact .leaf (hh _ _ n e) e s
  | fork n e ho _ _ iha ihb => exact .fork (hh _ _ n e) e ho iha ihb
theorem Th.sub {L L' : List Addr} {H : Hp} {n m : Nat} {v : V} (h : Th L H n m v) (hs : ∀ b ∈ L', b ∈ L) : Th L' H n m v := by
  obtain ⟨d, f, s, w⟩ := h
  exact ⟨d, f.sub hs, s, w⟩
def spLaw (K : PySem.W.Frag) (Z : Ad) : Sp := fun vs H Q _ => ∃ (a : Addr) (ns : List Int), vs = [.ref a] ∧ SqL K H a (ns.map V.int) ∧ ns.length ≤ 63 ∧ (∀ P ∈ Z.Ps, GxR.TabG H P) ∧ ∀ H', Q (.bl true) H'
set_option maxHeartbeats 16000000 in
theorem ok_law (T : Tx K mg Z) (TB : Tb base mg Z) : FnG P w K mg base 90 Z.f_law Z.d_law ["script"] (spLaw K Z) := by
  have G_l_reel : FnOk P w K mg base CX0 1 Z.f_l_reel Z.d_l_reel ["script", "k"] (spReel K) := ok_reel T
  have G_l_pick : FnOk P w K mg base CX0 1 Z.f_l_pick Z.d_l_pick ["reel", "many"] (spPick K) := ok_pick T
  have G_l_work : FnOk P w K mg base CX0 4 Z.f_l_work Z.d_l_work ["reel", "most", "rows", "many"] (spWork K) := ok_work T
  have G_l_by : FnOk P w K mg base CX0 4 Z.f_l_by Z.d_l_by ["work"] (spLby K) := ok_lby T
  have G_l_tree : FnOk P w K mg base CX0 10 Z.f_l_tree Z.d_l_tree ["reel", "by", "some", "out", "deep"] (spLtreeX K) := fnok_ex fun i hi => (ok_ltree T i).mono (by omega)
  have G_l_floors : FnOk P w K mg base CX0 10 Z.f_l_floors Z.d_l_floors ["work", "most", "tree", "some", "out", "by"] (spLfloorsX K) := fnok_ex fun i hi => (ok_lfloors T i).mono (by omega)
  have G_l_bent : FnOk P w K mg base CX0 7 Z.f_l_bent Z.d_l_bent ["reel", "lists", "tree"] (spBent22X K) := fnok_ex fun i hi => (ok_bent22 T i).mono (by omega)
  have G_l_bent_more : FnOk P w K mg base CX0 5 Z.f_l_bent_more Z.d_l_bent_more ["reel", "columns", "tree"] (spBM K) := ok_bm T
  have G_l_goes : FnOk P w K mg base CX0 65 Z.f_l_goes Z.d_l_goes ["work", "most", "number", "tree", "some", "out", "by"] (spLgoes K 60) := ok_lgoes T 60
  have G_shows : FnOk P w K mg base CX0 80 Z.f_shows Z.d_shows ["work", "room", "number", "thing"] (spShows K Z) := ok_shows T TB
  refine okG T.F_law sc_law (fun vs H Q E h => ?_) (fun cdv A outer s H vs Q E hgd hr h => ?_)
  · obtain ⟨a, ns, rfl, _⟩ := h
    rfl
  · obtain ⟨a, ns, rfl, hS, hlen, tgA, q⟩ := h
    have tg : TG Z.Ps H := tgA
    refine ⟨_, (pss_cons (ps_for PassesOwn.never rfl (pi_range1 (by rfl) T.m_range (pa_cons (pe_callB (call_max2 rfl) (by rfl) T.m_max (by decide +kernel) (pa_cons pe_int (pa_cons (pe_callB (call_min2 rfl) (by rfl) T.m_min (by decide +kernel) (pa_cons pe_int (pa_cons (pe_callB (cLenSq K) (by rfl) T.m_len (by decide +kernel) (pa_cons (pv 0) pa_nil)) pa_nil))) pa_nil))) pa_nil)) (pg_name (i := 1) sc_law.nd rfl (.inl rfl)) (pss_cons (ps_set (i := 2) sc_law.nd rfl (.inr rfl) (pe_call G_l_reel (hr.mono (by omega)) (by rfl) T.g_l_reel T.F_l_reel.kp T.b_l_reel .nil pass0 (pa_cons (pv 0) (pa_cons (pv 1) pa_nil))))
      (pss_cons (ps_set (i := 3) sc_law.nd rfl (.inr rfl) (pe_call G_l_work (hr.mono (by omega)) (by rfl) T.g_l_work T.F_l_work.kp T.b_l_work .nil pass0 (pa_cons (pv 2) (pa_cons (pe_ix (ixL K) (pe_lst (pa_cons pe_int (pa_cons pe_int (pa_cons pe_int pa_nil)))) (pe_call G_l_pick (hr.mono (by omega)) (by rfl) T.g_l_pick T.F_l_pick.kp T.b_l_pick .nil pass0 (pa_cons (pv 2) (pa_cons pe_int pa_nil))) (fun _ _ => rfl)) (pa_cons pe_int (pa_cons pe_int pa_nil))))))
      (pss_cons (ps_set (i := 4) sc_law.nd rfl (.inl rfl) (pe_call G_l_pick (hr.mono (by omega)) (by rfl) T.g_l_pick T.F_l_pick.kp T.b_l_pick .nil pass0 (pa_cons (pv 2) (pa_cons pe_int pa_nil))))
      (pss_cons (ps_set (i := 5) sc_law.nd rfl (.inr rfl) (pe_call G_l_by (hr.mono (by omega)) (by rfl) T.g_l_by T.F_l_by.kp T.b_l_by .nil pass0 (pa_cons (pv 3) pa_nil)))
      (pss_one (ps_for PassesOwn.never rfl (piL K (pe_lst (pa_cons pe_int (pa_cons pe_int pa_nil)))) (pg_name (i := 6) sc_law.nd rfl (.inl rfl)) (pss_cons (ps_set (i := 7) sc_law.nd rfl (.inr rfl) (pe_call G_l_tree (hr.mono (by omega)) (by rfl) T.g_l_tree T.F_l_tree.kp T.b_l_tree .nil pass0 (pa_cons (pv 2) (pa_cons (pv 5) (pa_cons (pe_lst pa_nil) (pa_cons (pe_lst pa_nil) (pa_cons (pv 6) pa_nil)))))))
      (pss_cons (ps_set (i := 8) sc_law.nd rfl (.inl rfl) (pe_minListD (by rfl) (pe_call G_l_floors (hr.mono (by omega)) (by rfl) T.g_l_floors T.F_l_floors.kp T.b_l_floors .nil pass0 (pa_cons (pv 3) (pa_cons (pv 4) (pa_cons (pv 7) (pa_cons (pe_lst pa_nil) (pa_cons (pe_lst pa_nil) (pa_cons (pv 5) pa_nil))))))) pe_int (by rfl) T.m_min))
      (pss_cons (ps_set (i := 9) sc_law.nd rfl (.inl rfl) (pe_op op_cat (pe_lst (pa_cons (pv 7) pa_nil)) (pe_lc (own := [("turn", 15)]) (tt := tYes) (by rfl) sc_law.nd (pi_range1 (by rfl) T.m_range (pa_cons pe_int pa_nil)) (blkOk_by (own := [("turn", 15)]) (by kernel_rfl)) (fun _ _ _ _ _ => (pg_name (i := 15) sc_law.nd rfl (.inl rfl))) (fun _ _ _ _ _ => pts_nil) (fun _ _ _ _ _ => (pe_call G_l_bent (hr.mono (by omega)) (by rfl) T.g_l_bent T.F_l_bent.kp T.b_l_bent .nil pass0 (pa_cons (pv 2) (pa_cons (pe_callTy (call_list_dK rfl) (by rfl) T.m_list (by decide +kernel) (pa_cons (pv 5) pa_nil)) (pa_cons (pv 7) pa_nil))))))))
      (pss_cons (ps_set (i := 9) sc_law.nd rfl (.inl rfl) (pe_op op_cat (pv 9) (pe_lc (own := [("turn", 15)]) (tt := tYes) (by rfl) sc_law.nd (pi_range1 (by rfl) T.m_range (pa_cons pe_int pa_nil)) (blkOk_by (own := [("turn", 15)]) (by kernel_rfl)) (fun _ _ _ _ _ => (pg_name (i := 15) sc_law.nd rfl (.inl rfl))) (fun _ _ _ _ _ => pts_nil) (fun _ _ _ _ _ => (pe_call G_l_bent_more (hr.mono (by omega)) (by rfl) T.g_l_bent_more T.F_l_bent_more.kp T.b_l_bent_more .nil pass0 (pa_cons (pv 2) (pa_cons (pe_ix (ixT K) (pe_ix (ixT K) (pv 3) pe_int (fun _ _ => rfl)) pe_int (fun _ _ => rfl)) (pa_cons (pv 7) pa_nil))))))))
      (pss_one (ps_for PassesOwn.never rfl (piL K (pe_op op_cat (pv 9) (pe_lst (pa_cons pe_non (pa_cons (pe_tup pa_nil) (pa_cons pe_int (pa_cons (pe_lst pa_nil) (pa_cons (pe_tup (pa_cons pe_str (pa_cons pe_str pa_nil))) (pa_cons (pe_tup (pa_cons (pe_lst pa_nil) pa_nil)) (pa_cons (pe_tup (pa_cons pe_str (pa_cons pe_int pa_nil))) pa_nil)))))))))) (pg_name (i := 10) sc_law.nd rfl (.inl rfl)) (pss_cons (ps_set (i := 11) sc_law.nd rfl (.inl rfl) (pe_callB (cReprK K hgd hr) (by rfl) T.m_repr (by decide +kernel) (pa_cons (pv 10) pa_nil)))
      (pss_one (ps_for PassesOwn.never rfl (piL K (pe_lst (pa_cons (pv 8) (pa_cons (pe_op op_add (pv 8) pe_int) pa_nil)))) (pg_name (i := 12) sc_law.nd rfl (.inl rfl)) (pss_cons (ps_set (i := 13) sc_law.nd rfl (.inl rfl) (pe_call G_shows (hr.mono (by omega)) (by rfl) T.g_shows T.F_shows.kp T.b_shows .nil pass0 (pa_cons (pv 3) (pa_cons (pv 4) (pa_cons (pv 12) (pa_cons (pv 10) pa_nil))))))
      (pss_cons (ps_set (i := 14) sc_law.nd rfl (.inl rfl) (pe_call G_l_goes (hr.mono (by omega)) (by rfl) T.g_l_goes T.F_l_goes.kp T.b_l_goes .nil pass0 (pa_cons (pv 3) (pa_cons (pv 4) (pa_cons (pv 12) (pa_cons (pv 10) (pa_cons (pe_lst pa_nil) (pa_cons (pe_lst pa_nil) (pa_cons (pv 5) pa_nil)))))))))
      (pss_one (ps_if (PW.pt (pw_or (pt_not (pt_val (pe_callB (isiK K) (by rfl) T.m_isinstance (by decide +kernel) (pa_cons (pv 13) (pa_cons (pe_bltn (v := .ty "bool") (by rfl) T.m_bool (by decide +kernel) rfl) pa_nil))))) (pw_or (pt_cmpR op_ne (pv 13) (pv 14) (nomark _)) (pw_or1 (pt_cmpR op_ne (pe_callB (cReprK K hgd hr) (by rfl) T.m_repr (by decide +kernel) (pa_cons (pv 10) pa_nil)) (pv 11) (nomark _)))))) (pss_one (ps_ret pe_bl)) pss_nil))))))))))))))))))))
      (pss_one (ps_ret pe_bl))), ?_⟩
    refine ⟨.ref a, rfl, a, _, rfl, .inl hS, 3, _, rfl, 2, _, rfl, _, rfl, ?_, ?_, ?_⟩
    · split <;> (try split) <;> omega
    · split <;> (try split) <;> omega
    generalize hN : (if (if ((ns.map V.int).length : Int) < 3 then ((ns.map V.int).length : Int) else 3) > 2 then (if ((ns.map V.int).length : Int) < 3 then ((ns.map V.int).length : Int) else 3) else 2).toNat = N
    have hN8 : N ≤ 3 := by
      rw [← hN]
      split <;> (try split) <;> omega
    refine for_range (fun i σ H' => ∃ y1 y2 y3 y4 y5 y6 y7 y8 y9 y10 y11 y12 y13 y14 y15 : Option V, σ = [some (.ref a), y1, y2, y3, y4, y5, y6, y7, y8, y9, y10, y11, y12, y13, y14, y15] ∧ SqL K H' a (ns.map V.int) ∧ TG Z.Ps H') ⟨none, none, none, none, none, none, none, none, none, none, none, none, none, none, none, rfl, hS, tg⟩ (fun i σ H0 hi hP => ?_) (fun σ H0 hP => q H0)
    obtain ⟨y1, y2, y3, y4, y5, y6, y7, y8, y9, y10, y11, y12, y13, y14, y15, rfl, hS0, tg0⟩ := hP
    -- reel
    refine ⟨.ref a, rfl, _, rfl, a, ns, i, by rw [Int.zero_add]; rfl, hS0, by omega, fun n0 r nr => ?_⟩
    have sm1 : Same H0 (upd H0 r (.lst [.int n0])) := Same.new (Same.refl H0) nr
    have hR1 : (upd H0 r (.lst [.int n0])) r = some (.lst [.int n0]) := upd_same
    generalize upd H0 r (.lst [.int n0]) = H1 at sm1 hR1 ⊢
    -- work
    refine ⟨.ref r, rfl, (by show 3 ≤ sizeLine; decide), fun Lw nLw => ?_⟩
    have sm2 : Same H0 (upd H1 Lw (.lst [.int 2, .int 2, .int 3])) := Same.new sm1 nLw
    have hR2 : (upd H1 Lw (.lst [.int 2, .int 2, .int 3])) r = some (.lst [.int n0]) := keep_new hR1 nLw
    have hL2 : (upd H1 Lw (.lst [.int 2, .int 2, .int 3])) Lw = some (.lst [.int 2, .int 2, .int 3]) := upd_same
    have nLwr : Lw ≠ r := (ne_of_none hR1 nLw).symm
    generalize upd H1 Lw (.lst [.int 2, .int 2, .int 3]) = H2 at sm2 hR2 hL2 ⊢
    refine ⟨.ref r, rfl, r, n0, 3, rfl, hR2, by decide, by decide, fun d n2 d0 d1 => ?_⟩
    have kp3 : Kp r H2 (upd H2 r (.lst [.int n2])) := Kp.own Kp.rfl'
    have sm3 := Same.kpN sm2 nr kp3
    have hR3 : (upd H2 r (.lst [.int n2])) r = some (.lst [.int n2]) := upd_same
    have hL3 := kp3 _ _ nLwr hL2
    generalize upd H2 r (.lst [.int n2]) = H3 at kp3 sm3 hR3 hL3 ⊢
    obtain ⟨m, hm2, hm3, hat⟩ : ∃ m : Nat, 2 ≤ m ∧ m ≤ 3 ∧ atI [V.int 2, .int 2, .int 3] d = some (.int (m : Int)) := by
      rcases (by omega : d = 0 ∨ d = 1 ∨ d = 2) with rfl | rfl | rfl
      · exact ⟨2, by decide, by decide, rfl⟩
      · exact ⟨2, by decide, by decide, rfl⟩
      · exact ⟨3, by decide, by decide, rfl⟩
    refine ⟨Lw, _, _, .int (m : Int), rfl, rfl, .inl (.inl hL3), hat, ?_⟩
    clear hL3 hL2 hat kp3 sm2 hR2 nLw sm1 hR1
    refine ⟨r, n2, m, 10, 3, rfl, by decide, by decide, hR3, by omega, by omega, by decide, fun cols rows as chg wv n4 H4 kp4 hR4 fW hc hc1 hc2 hrs hrn has hg0 hg1 => ?_⟩
    have sm4 : Same H0 H4 := Same.kpN sm3 nr kp4
    have hcn : cols.length ≤ 4 := by omega
    have lf := lists_four hc.nd hcn
    have hl64 : (listsM cols cols.length).length ≤ 64 := lf
    -- most
    refine ⟨.ref r, rfl, r, n4, 5, rfl, hR4, by decide, by decide, fun mC nC m0 m1 => ?_⟩
    have kt5 : KT H4 (upd H4 r (.lst [.int nC])) := .lst hR4
    have sm5 : Same H0 (upd H4 r (.lst [.int nC])) := Same.mut sm4 nr
    have hR5 : (upd H4 r (.lst [.int nC])) r = some (.lst [.int nC]) := upd_same
    have fW5 := fW.kT kt5
    generalize upd H4 r (.lst [.int nC]) = H5 at kt5 sm5 hR5 fW5 ⊢
    obtain ⟨mm, rfl⟩ : ∃ mm : Nat, mC = (mm : Int) := ⟨mC.toNat, by omega⟩
    clear fW kt5 hR4 kp4 sm4 sm3 hR3
    -- by
    obtain ⟨wa, tv, aa, us, ewv, hwa, fT, haa, fas⟩ := id fW5
    subst ewv
    refine ⟨.ref wa, rfl, .ref wa, cols, rows, as, chg, rfl, fW5, hrs, by omega, hc.nd, hcn, has, fun ba kvs H6 sm6 nba hba6 hby6 hfr => ?_⟩
    have sm06 := Same.trans sm5 sm6
    have hof : ∀ kv ∈ kvs, ∃ pa, kv.2 = V.ref pa ∧ pa ≠ r := fun kv hk => by
      obtain ⟨pa, e1, e2⟩ := hfr kv hk
      exact ⟨pa, e1, fun z => by rw [z, hR5] at e2; cases e2⟩
    have hR6 := sm6 _ _ hR5
    have fW6 := fW5.kT (Same.kT sm6)
    clear fW5 hwa fT haa fas hfr
    -- two trees
    refine ⟨(by show 2 ≤ sizeLine; decide), fun Ld nLd => ?_⟩
    have sm7 := Same.new (o := .lst [.int 5, .int 2]) (Same.refl H6) nLd
    have sm07 := Same.trans sm06 sm7
    have hR7 := sm7 _ _ hR6
    have hba7 := sm7 _ _ hba6
    have fW7 := fW6.kT (Same.kT sm7)
    have hby7 := hby6.kept fun b xs e => sm7 _ _ e
    have hLd : (upd H6 Ld (.lst [.int 5, .int 2])) Ld = some (.lst [.int 5, .int 2]) := upd_same
    have nLdr : Ld ≠ r := (ne_of_none hR6 nLd).symm
    generalize upd H6 Ld (.lst [.int 5, .int 2]) = H7 at sm7 sm07 hR7 hba7 fW7 hby7 hLd ⊢
    clear sm6 sm7 hR6 fW6 hba6 hby6 sm5 sm06 hR5 nba nLd
    have tg7 := tg0.same sm07
    have kT7 : ∀ {G : Hp}, Sx (r :: Z.Ps) H7 G → KT H7 G := fun sx => ⟨fun b xs e => sx b _ (fun z => (List.mem_cons.mp z).elim (fun z => by rw [z, hR7] at e; cases e) (tg7.not e fun q z => nomatch z)) e, fun b o xs e => sx b _ (fun z => (List.mem_cons.mp z).elim (fun z => by rw [z, hR7] at e; cases e) (tg7.not e fun q z => nomatch z)) e⟩
    have lst7 : ∀ {G : Hp} {b : Addr} {xs : List V}, Sx (r :: Z.Ps) H7 G → b ≠ r → H7 b = some (.lst xs) → G b = some (.lst xs) := fun sx nb e => sx _ _ (fun z => (List.mem_cons.mp z).elim nb (tg7.not e fun q z => nomatch z)) e
    have dct7 : ∀ {G : Hp}, Sx (r :: Z.Ps) H7 G → G ba = some (.dK kvs) := fun sx => sx _ _ (fun z => (List.mem_cons.mp z).elim (fun z => by rw [z, hR7] at hba7; cases hba7) (tg7.not hba7 fun q z => nomatch z)) hba7
    have by7 : ∀ {G : Hp}, Sx (r :: Z.Ps) H7 G → ByL cols rows as G kvs := fun sx => ⟨hby7.keys, fun o ho => by
      obtain ⟨pa, e1, e2⟩ := hby7.vals o ho
      refine ⟨pa, e1, lst7 sx (fun z => ?_) e2⟩
      obtain ⟨pb, e3, e4⟩ := hof _ (valV_mem' e1)
      cases e3
      exact e4 z⟩
    have haz : ∀ c ∈ cols, c ≤ 122 := fun c h => (hc.az c h).2
    have hall : ∀ o ∈ listsM cols cols.length, o.length ≤ 6 ∧ ∀ c ∈ o, c < 1000 := fun o ho => by
      obtain ⟨_, ol, _, os⟩ := lists_mem.mp ho
      refine ⟨by omega, fun c h => ?_⟩
      have := haz c (os c h)
      omega
    have line : (4665600 : Nat) < sizeLine := by rw [sizeLine_eq]; decide
    refine ⟨Ld, rfl, ⟨_, .inl (.inl hLd)⟩, for_it (walk_list (xs := [.int 5, .int 2])) (fun j σ H' => ∃ (y6 y7 y8 y9 y10 y11 y12 y13 y14 : Option V) (nz : Int), σ = [some (.ref a), some (.int (0 + (i : Nat))), some (.ref r), some (.ref wa), some (.int (mm : Int)), some (.ref ba), y6, y7, y8, y9, y10, y11, y12, y13, y14, y15] ∧ Sx (r :: Z.Ps) H7 H' ∧ TG Z.Ps H' ∧ H' r = some (.lst [.int nz]))
      ⟨_, _, _, _, _, _, _, _, _, _, rfl, Sx.rfl', tg7, hR7⟩ (fun j σ H' _ hP => ?_) (fun j x σ H8' H8 hj hP hY => ?_) (fun σ H8 hP => ?_)⟩
    · obtain ⟨_, _, _, _, _, _, _, _, _, _, _, sx, _⟩ := hP
      exact .inl (.inl (lst7 sx nLdr hLd))
    rotate_left 1
    · obtain ⟨_, _, _, _, _, _, _, _, _, _, rfl, sx, tg8, _⟩ := hP
      exact ⟨_, _, _, _, _, _, _, _, _, _, _, _, _, _, _, rfl, Sx.seqL tg0 (fun b o nb e => sx b o (fun z => (List.mem_cons.mp z).elim (ne_of_none e nr) nb) (sm07 _ _ e)) hS0, tg8⟩
    obtain ⟨y6, y7, y8, y9, y10, y11, y12, y13, y14, n8, rfl, sx8, tg8, hR8⟩ := hP
    obtain ⟨rfl, hx⟩ := hY
    obtain ⟨dk, hdk, rfl⟩ : ∃ dk : Nat, dk ≤ 5 ∧ x = .int (dk : Int) := by
      match j, hx with
      | 0, hx => cases hx; exact ⟨5, by decide, rfl⟩
      | 1, hx => cases hx; exact ⟨2, by decide, rfl⟩
    -- the tree
    refine ⟨.ref r, rfl, .ref ba, rfl, Nat.zero_le _, fun S1 nS1 => ⟨Nat.zero_le _, fun S2 nS2 => ?_⟩⟩
    have sm9 := Same.new (o := .lst []) (Same.refl H8) nS1
    have hS1 : (upd H8 S1 (.lst [])) S1 = some (.lst (([] : List (List Nat)).map tx)) := upd_same
    have nS1r : S1 ≠ r := (ne_of_none hR8 nS1).symm
    generalize upd H8 S1 (.lst []) = H9 at sm9 hS1 nS2 ⊢
    have sm10 := Same.new (o := .lst []) (Same.refl H9) nS2
    have hS1' := sm10 _ _ hS1
    have sm810 := Same.trans sm9 sm10
    have hR10 := sm810 _ _ hR8
    have hS2 : (upd H9 S2 (.lst [])) S2 = some (.lst (([] : List (List Nat)).map tx)) := upd_same
    have nS2r : S2 ≠ r := (ne_of_none (sm9 _ _ hR8) nS2).symm
    generalize upd H9 S2 (.lst []) = H10 at sm10 sm810 hS1' hR10 hS2 ⊢
    have sx10 : Sx (r :: Z.Ps) H7 H10 := sx8.trans (Same.sx sm810)
    have tg10 := tg8.same sm810
    clear sm9 hS1 nS1 nS2 sm10 sm810
    refine ⟨_, rfl, dk, hdk, r, ba, S1, S2, n8, cols, rows, as, kvs, [], [], rfl, hR10, has, haz, dct7 sx10, by7 sx10, hof, hl64, by omega, hS1', nS1r, by show 0 + dk ≤ 90; omega, hS2, nS2r, by show 0 + 64 * dk ≤ 6000; omega, fun v n11 H11 kp11 hR11 tr11 => ?_⟩
    have tg11 := tg10.kp hR10 kp11
    have sx11 : Sx (r :: Z.Ps) H7 H11 := sx10.trans fun b o nb e => kp11 b o (fun z => nb (by rw [z]; exact List.mem_cons_self)) e
    have trL : Tr (listsM cols cols.length) (r :: Z.Ps) H11 dk v := tr11.hide fun b ys nb e z => (List.mem_cons.mp z).elim (fun z => nb (by rw [z]; exact List.mem_singleton.mpr rfl)) (tg11.not e fun q z => nomatch z)
    clear tr11 hS1' nS1r hS2 nS2r tg10 sx10 kp11 hR10 tg8 sx8 hR8
    -- least
    refine ⟨.ref wa, rfl, .int (mm : Int), rfl, v, rfl, Nat.zero_le _, fun S1 nS1 => ⟨Nat.zero_le _, fun S2 nS2 => ?_⟩⟩
    have sm12 := Same.new (o := .lst []) (Same.refl H11) nS1
    have hS1 : (upd H11 S1 (.lst [])) S1 = some (.lst (([] : List (List Nat)).map tx)) := upd_same
    generalize upd H11 S1 (.lst []) = H12 at sm12 hS1 nS2 ⊢
    have sm13 := Same.new (o := .lst []) sm12 nS2
    have hS1' := keep_new (o := .lst []) hS1 nS2
    have hS2 : (upd H12 S2 (.lst [])) S2 = some (.lst (([] : List (List Nat)).map tx)) := upd_same
    generalize upd H12 S2 (.lst []) = H13 at sm13 hS1' hS2 ⊢
    have sx13 : Sx (r :: Z.Ps) H7 H13 := sx11.trans (Same.sx sm13)
    refine ⟨.ref ba, rfl, dk, hdk, .ref wa, v, ba, S1, S2, mm, cols, rows, as, chg, kvs, [], [], r :: Z.Ps, rfl, fW7.kT (kT7 sx13), by omega, has, hg0, hg1, dct7 sx13, by7 sx13, hl64, by omega, hS1', (fun o h => nomatch h), by show 0 + dk ≤ 90; omega, hS2, by show 0 + 64 * dk ≤ 6000; omega, by omega, trL.same sm13, fun f lns H14 sm14 nf hf hln => ⟨f, rfl, lns, .inl (.inl hf), fun lz hlz => ?_⟩⟩
    obtain ⟨lv, rfl⟩ : ∃ lv : Int, lz = .int lv := by
      rcases hlz with ⟨_, e⟩ | ⟨m, _, _, e⟩
      · exact ⟨0, e⟩
      · exact ⟨m, e⟩
    have sm1114 := Same.trans sm13 sm14
    have tg14 := tg11.same sm1114
    have sx14 : Sx (r :: Z.Ps) H7 H14 := sx11.trans (Same.sx sm1114)
    have tr14 := trL.same sm1114
    have hR14 := sm1114 _ _ hR11
    clear sm12 hS1 nS1 nS2 sm13 hS1' hS2 sx13 sm14 nf hf hln sm1114 tg11 sx11 trL hR11
    have hld14 : ∀ b ∈ r :: Z.Ps, H14 b ≠ none := held_all hR14 tg14
    have tmv : Th (r :: Z.Ps) H14 10 90000 v := (tr14.th hall).mono (by omega) (by
      have : tmN dk ≤ 11604 := by
        rcases (by omega : dk = 0 ∨ dk = 1 ∨ dk = 2 ∨ dk = 3 ∨ dk = 4 ∨ dk = 5) with rfl | rfl | rfl | rfl | rfl | rfl <;> decide
      omega)
    have bmb : bmN dk ≤ 90000 := by
      rcases (by omega : dk = 0 ∨ dk = 1 ∨ dk = 2 ∨ dk = 3 ∨ dk = 4 ∨ dk = 5) with rfl | rfl | rfl | rfl | rfl | rfl <;> decide
    -- things
    refine ⟨v, rfl, (by show 1 ≤ sizeLine; decide), fun T1 nT1 => ?_⟩
    have hrL : r ∈ r :: Z.Ps := List.mem_cons_self
    have nT1L : T1 ∉ r :: Z.Ps := fun z => hld14 T1 z nT1
    have sm15 := Same.new (o := .lst [v]) (Same.refl H14) nT1
    have hT1 : (upd H14 T1 (.lst [v])) T1 = some (.lst [v]) := upd_same
    have hR15 := sm15 _ _ hR14
    have tg15 := tg14.same sm15
    have sx15 : Sx (r :: Z.Ps) H7 (upd H14 T1 (.lst [v])) := sx14.trans (Same.sx sm15)
    have tr15 := tr14.same sm15
    have tv15 := tmv.same sm15
    generalize upd H14 T1 (.lst [v]) = H15 at sm15 hT1 hR15 tg15 sx15 tr15 tv15 ⊢
    clear sm15 hld14 tr14 tmv sx14 tg14 hR14 nT1
    have keysE : kvs.map (fun kv => kV kv.1) = (listsM cols cols.length).map tx := by
      have := congrArg (List.map kV) hby7.keys
      rw [List.map_map, List.map_map] at this
      exact this
    have sxK : ∀ {G G' : Hp}, Sx (r :: Z.Ps) H7 G → Kp r G G' → Sx (r :: Z.Ps) H7 G' := fun s k => s.trans fun b o nb e => k b o (fun z => nb (by rw [z]; exact List.mem_cons_self)) e
    refine ⟨4, rfl, by decide, by decide, fun D nD => lc_range (fun j H' => ∃ (nn : Int) (vs : List V), Kp r H15 H' ∧ H' r = some (.lst [.int nn]) ∧ H' D = some (.lst vs) ∧ vs.length = j ∧ ∀ u ∈ vs, Th (D :: r :: Z.Ps) H' 10 90000 u)
      ⟨_, [], Kp.rfl'.new nD, keep_new hR15 nD, upd_same, rfl, all0⟩ (fun j G hj hP => ?_) (fun H16 hP => ?_)⟩
    · obtain ⟨nn, vs, kpG, hRG, hDG, hvl, hth⟩ := hP
      have tgG := tg15.kp hR15 kpG
      have nDr : D ≠ r := (ne_of_none hR15 nD).symm
      have hldG : ∀ b ∈ D :: r :: Z.Ps, G b ≠ none := cons_all hDG (held_all hRG tgG)
      have trG : Tr (listsM cols cols.length) (D :: r :: Z.Ps) G dk v := (tr15.kp kpG hrL).hide fun b ys nb e z => (List.mem_cons.mp z).elim (fun z => by rw [z, hDG] at e; cases e) nb
      refine ⟨rfl, .ref r, rfl, .ref ba, rfl, ba, kvs, rfl, dct7 (sxK sx15 kpG), fun lb nlb => ?_⟩
      rw [keysE]
      have smG := Same.new (o := .lst ((listsM cols cols.length).map tx)) (Same.refl G) nlb
      have hlb : (upd G lb (.lst ((listsM cols cols.length).map tx))) lb = some (.lst ((listsM cols cols.length).map tx)) := upd_same
      have nlbL : lb ∉ D :: r :: Z.Ps := fun z => hldG lb z nlb
      have hldG2 := same_all hldG smG
      have trG2 := trG.same smG
      generalize upd G lb (.lst ((listsM cols cols.length).map tx)) = G2 at smG hlb hldG2 trG2 ⊢
      refine ⟨v, rfl, dk, hdk, r, lb, nn, v, listsM cols cols.length, D :: r :: Z.Ps, rfl, smG _ _ hRG, List.mem_cons_of_mem _ hrL, trG2, hall, hl64, nlbL, hlb, hldG2, fun v2 n2' G3 kp3 hR3' th3 => ?_⟩
      have kpGG : Kp r G G3 := (Same.kp smG).trans kp3
      have hD3 := kpGG _ _ nDr hDG
      have own : Kp D G3 (upd G3 D (.lst (vs ++ [v2]))) := Kp.own Kp.rfl'
      refine ⟨vs, hD3, small1000 (by omega), n2', vs ++ [v2], (kpG.trans kpGG).mut nD, keep_ne hR3' (Ne.symm nDr), upd_same, by rw [List.length_append, hvl]; rfl, allApp (fun u hu => ((hth u hu).kp kpGG (List.mem_cons_of_mem _ hrL)).kp own List.mem_cons_self) (all1 ((th3.mono (by omega) bmb).kp own List.mem_cons_self))⟩
    obtain ⟨n16, vs1, kp16, hR16, hD16, hv1, th16⟩ := hP
    have hv1' : vs1.length = 4 := hv1
    have tg16 := tg15.kp hR15 kp16
    have nDL : D ∉ r :: Z.Ps := fun z => held_all hR15 tg15 D z nD
    have nT1r : T1 ≠ r := fun z => nT1L (by rw [z]; exact hrL)
    refine ⟨T1, D, [v], vs1, rfl, rfl, kp16 _ _ nT1r hT1, hD16, by show 1 + vs1.length ≤ sizeLine; omega, fun T2 nT2 => ?_⟩
    have sm17 := Same.new (o := .lst ([v] ++ vs1)) (Same.refl H16) nT2
    have th17 : ∀ u ∈ [v] ++ vs1, Th (r :: Z.Ps) (upd H16 T2 (.lst ([v] ++ vs1))) 10 90000 u := allApp (all1 ((tv15.kp kp16 hrL).same sm17)) fun u hu => ((th16 u hu).sub fun b hb => List.mem_cons_of_mem _ hb).same sm17
    have hT2 : (upd H16 T2 (.lst ([v] ++ vs1))) T2 = some (.lst ([v] ++ vs1)) := upd_same
    have hR17 := sm17 _ _ hR16
    have tg17 := tg16.same sm17
    have sx17 : Sx (r :: Z.Ps) H7 (upd H16 T2 (.lst ([v] ++ vs1))) := (sxK sx15 kp16).trans (Same.sx sm17)
    have tr17 := (tr15.kp kp16 hrL).same sm17
    have nT2L : T2 ∉ r :: Z.Ps := fun z => held_all hR16 tg16 T2 z nT2
    have lv2 : ([v] ++ vs1).length = 5 := by rw [List.length_append, hv1']; rfl
    generalize upd H16 T2 (.lst ([v] ++ vs1)) = H17 at sm17 th17 hT2 hR17 tg17 sx17 tr17 ⊢
    generalize [v] ++ vs1 = ws at th17 hT2 lv2 ⊢
    clear sm17 nT2 th16 hD16 tg16 hT1 nT1L kp16 hR16 tr15 tv15 sx15 tg15 hR15 nD nDL hv1 hv1' nT1r
    -- more
    refine ⟨.ref T2, rfl, 3, rfl, by decide, by decide, fun D nD => lc_range (fun j H' => ∃ (nn : Int) (vs : List V), Kp r H17 H' ∧ H' r = some (.lst [.int nn]) ∧ H' D = some (.lst vs) ∧ vs.length = j ∧ ∀ u ∈ vs, Th (D :: r :: Z.Ps) H' 10 90000 u)
      ⟨_, [], Kp.rfl'.new nD, keep_new hR17 nD, upd_same, rfl, all0⟩ (fun j G hj hP => ?_) (fun H18 hP => ?_)⟩
    · obtain ⟨nn, vs, kpG, hRG, hDG, hvl, hth⟩ := hP
      have tgG := tg17.kp hR17 kpG
      have nDr : D ≠ r := (ne_of_none hR17 nD).symm
      have hldG : ∀ b ∈ D :: r :: Z.Ps, G b ≠ none := cons_all hDG (held_all hRG tgG)
      have trG : Tr (listsM cols cols.length) (D :: r :: Z.Ps) G dk v := (tr17.kp kpG hrL).hide fun b ys nb e z => (List.mem_cons.mp z).elim (fun z => by rw [z, hDG] at e; cases e) nb
      obtain ⟨wa', tv, aa, us, ewv, hwa, fT, _, _⟩ := fW7.kT (kT7 (sxK sx17 kpG))
      cases ewv
      obtain ⟨t, R, tvs, rfl, ht, _, _⟩ := tab_open fT
      refine ⟨rfl, .ref r, rfl, .ref wa, rfl, wa, _, 0, .ref t, rfl, rfl, .inl (.inl hwa), rfl, t, _, 0, tx cols, rfl, rfl, .inl (.inl ht), rfl, v, rfl, r, nn, v, cols, listsM cols cols.length, D :: r :: Z.Ps, dk, rfl, hRG, List.mem_cons_of_mem _ hrL, hc, by omega, trG, hall, hldG, fun v2 n2' G3 kp3 hR3' th3 => ?_⟩
      have hD3 := kp3 _ _ nDr hDG
      have own : Kp D G3 (upd G3 D (.lst (vs ++ [v2]))) := Kp.own Kp.rfl'
      refine ⟨vs, hD3, small1000 (by omega), n2', vs ++ [v2], (kpG.trans kp3).mut nD, keep_ne hR3' (Ne.symm nDr), upd_same, by rw [List.length_append, hvl]; rfl, allApp (fun u hu => ((hth u hu).kp kp3 (List.mem_cons_of_mem _ hrL)).kp own List.mem_cons_self) (all1 ((th3.mono (by omega) bmb).kp own List.mem_cons_self))⟩
    obtain ⟨n18, vs2, kp18, hR18, hD18, hv2, th18⟩ := hP
    have hv2' : vs2.length = 3 := hv2
    have tg18 := tg17.kp hR17 kp18
    have nT2r : T2 ≠ r := fun z => nT2L (by rw [z]; exact hrL)
    refine ⟨T2, D, ws, vs2, rfl, rfl, kp18 _ _ nT2r hT2, hD18, by omega, fun T3 nT3 => ?_⟩
    have sm19 := Same.new (o := .lst (ws ++ vs2)) (Same.refl H18) nT3
    have th19 : ∀ u ∈ ws ++ vs2, Th (r :: Z.Ps) (upd H18 T3 (.lst (ws ++ vs2))) 10 90000 u := allApp (fun u hu => ((th17 u hu).kp kp18 hrL).same sm19) fun u hu => ((th18 u hu).sub fun b hb => List.mem_cons_of_mem _ hb).same sm19
    have hoT3 : (upd H18 T3 (.lst (ws ++ vs2))) T3 = some (.lst (ws ++ vs2)) := upd_same
    have hR19 := sm19 _ _ hR18
    have tg19 := tg18.same sm19
    have sx19 : Sx (r :: Z.Ps) H7 (upd H18 T3 (.lst (ws ++ vs2))) := (sxK sx17 kp18).trans (Same.sx sm19)
    have nLT3 : T3 ∉ r :: Z.Ps := fun z => held_all hR18 tg18 T3 z nT3
    have lv3 : (ws ++ vs2).length = 8 := by rw [List.length_append, hv2', lv2]
    generalize upd H18 T3 (.lst (ws ++ vs2)) = H19 at sm19 th19 hoT3 hR19 tg19 sx19 ⊢
    generalize ws ++ vs2 = zs at th19 hoT3 lv3 ⊢
    clear sm19 nT3 th18 hD18 tg18 hT2 nT2L kp18 hR18 tr17 th17 sx17 tg17 hR17 nD hv2 hv2' nT2r lv2
    have hl19 : ∀ b ∈ r :: Z.Ps, H19 b ≠ none := held_all hR19 tg19
    refine ⟨.ref T3, rfl, (by show 0 ≤ sizeLine; decide), fun pG1 npG1 => ?_⟩
    have nLpG1 : pG1 ∉ (r :: Z.Ps) := fun z => hl19 pG1 z npG1
    have ksG1 : Kp r H19 (upd H19 pG1 (.tup [])) := Kp.new Kp.rfl' npG1
    have hRG1 : (upd H19 pG1 (.tup [])) r = some (.lst [.int n18]) := keep_new hR19 npG1
    have hlG1 : ∀ b ∈ (r :: Z.Ps), (upd H19 pG1 (.tup [])) b ≠ none := new_all hl19
    have hopG1 : (upd H19 pG1 (.tup [])) pG1 = some (.tup []) := upd_same
    generalize upd H19 pG1 (.tup []) = G1 at ksG1 hRG1 hlG1 hopG1 ⊢
    have tpG1 : Th (r :: Z.Ps) G1 1 0 (.ref pG1) := (Th.tup nLpG1 hopG1 (n := 0) (m := 0) all0).mono (by omega) (by show (0 + 1) * 0 ≤ 0; omega)
    refine ⟨(by show 0 ≤ sizeLine; decide), fun pG2 npG2 => ?_⟩
    have nLpG2 : pG2 ∉ (r :: Z.Ps) := fun z => hlG1 pG2 z npG2
    have ksG2 : Kp r G1 (upd G1 pG2 (.lst [])) := Kp.new Kp.rfl' npG2
    have hRG2 : (upd G1 pG2 (.lst [])) r = some (.lst [.int n18]) := keep_new hRG1 npG2
    have hlG2 : ∀ b ∈ (r :: Z.Ps), (upd G1 pG2 (.lst [])) b ≠ none := new_all hlG1
    have hopG2 : (upd G1 pG2 (.lst [])) pG2 = some (.lst []) := upd_same
    generalize upd G1 pG2 (.lst []) = G2 at ksG2 hRG2 hlG2 hopG2 ⊢
    have tpG2 : Th (r :: Z.Ps) G2 1 0 (.ref pG2) := (Th.lst nLpG2 hopG2 (n := 0) (m := 0) all0).mono (by omega) (by show (0 + 1) * 0 ≤ 0; omega)
    refine ⟨(by show 2 ≤ sizeLine; decide), fun pG3 npG3 => ?_⟩
    have nLpG3 : pG3 ∉ (r :: Z.Ps) := fun z => hlG2 pG3 z npG3
    have ksG3 : Kp r G2 (upd G2 pG3 (.tup [.str (Str.ofString "list"), .str (Str.ofString "a")])) := Kp.new Kp.rfl' npG3
    have hRG3 : (upd G2 pG3 (.tup [.str (Str.ofString "list"), .str (Str.ofString "a")])) r = some (.lst [.int n18]) := keep_new hRG2 npG3
    have hlG3 : ∀ b ∈ (r :: Z.Ps), (upd G2 pG3 (.tup [.str (Str.ofString "list"), .str (Str.ofString "a")])) b ≠ none := new_all hlG2
    have hopG3 : (upd G2 pG3 (.tup [.str (Str.ofString "list"), .str (Str.ofString "a")])) pG3 = some (.tup [.str (Str.ofString "list"), .str (Str.ofString "a")]) := upd_same
    generalize upd G2 pG3 (.tup [.str (Str.ofString "list"), .str (Str.ofString "a")]) = G3 at ksG3 hRG3 hlG3 hopG3 ⊢
    have tpG3 : Th (r :: Z.Ps) G3 1 10 (.ref pG3) := (Th.tup nLpG3 hopG3 (n := 0) (m := 4) (allC (Th.tx (l := [108, 105, 115, 116]) (by decide) (by decide)) (allC ((Th.tx (l := [97]) (by decide) (by decide)).mono (n := 0) (m := 1) (by omega) (by omega)) all0))).mono (by omega) (by show (4 + 1) * 2 ≤ 10; omega)
    refine ⟨(by show 0 ≤ sizeLine; decide), fun pG4 npG4 => ?_⟩
    have nLpG4 : pG4 ∉ (r :: Z.Ps) := fun z => hlG3 pG4 z npG4
    have ksG4 : Kp r G3 (upd G3 pG4 (.lst [])) := Kp.new Kp.rfl' npG4
    have hRG4 : (upd G3 pG4 (.lst [])) r = some (.lst [.int n18]) := keep_new hRG3 npG4
    have hlG4 : ∀ b ∈ (r :: Z.Ps), (upd G3 pG4 (.lst [])) b ≠ none := new_all hlG3
    have hopG4 : (upd G3 pG4 (.lst [])) pG4 = some (.lst []) := upd_same
    generalize upd G3 pG4 (.lst []) = G4 at ksG4 hRG4 hlG4 hopG4 ⊢
    have tpG4 : Th (r :: Z.Ps) G4 1 0 (.ref pG4) := (Th.lst nLpG4 hopG4 (n := 0) (m := 0) all0).mono (by omega) (by show (0 + 1) * 0 ≤ 0; omega)
    refine ⟨(by show 1 ≤ sizeLine; decide), fun pG5 npG5 => ?_⟩
    have nLpG5 : pG5 ∉ (r :: Z.Ps) := fun z => hlG4 pG5 z npG5
    have ksG5 : Kp r G4 (upd G4 pG5 (.tup [.ref pG4])) := Kp.new Kp.rfl' npG5
    have hRG5 : (upd G4 pG5 (.tup [.ref pG4])) r = some (.lst [.int n18]) := keep_new hRG4 npG5
    have hlG5 : ∀ b ∈ (r :: Z.Ps), (upd G4 pG5 (.tup [.ref pG4])) b ≠ none := new_all hlG4
    have hopG5 : (upd G4 pG5 (.tup [.ref pG4])) pG5 = some (.tup [.ref pG4]) := upd_same
    generalize upd G4 pG5 (.tup [.ref pG4]) = G5 at ksG5 hRG5 hlG5 hopG5 ⊢
    have tpG5 : Th (r :: Z.Ps) G5 2 1 (.ref pG5) := (Th.tup nLpG5 hopG5 (n := 1) (m := 0) (allC ((tpG4.kp (ksG5) hrL)) all0)).mono (by omega) (by show (0 + 1) * 1 ≤ 1; omega)
    refine ⟨(by show 2 ≤ sizeLine; decide), fun pG6 npG6 => ?_⟩
    have nLpG6 : pG6 ∉ (r :: Z.Ps) := fun z => hlG5 pG6 z npG6
    have ksG6 : Kp r G5 (upd G5 pG6 (.tup [.str (Str.ofString "over"), .int 0])) := Kp.new Kp.rfl' npG6
    have hRG6 : (upd G5 pG6 (.tup [.str (Str.ofString "over"), .int 0])) r = some (.lst [.int n18]) := keep_new hRG5 npG6
    have hlG6 : ∀ b ∈ (r :: Z.Ps), (upd G5 pG6 (.tup [.str (Str.ofString "over"), .int 0])) b ≠ none := new_all hlG5
    have hopG6 : (upd G5 pG6 (.tup [.str (Str.ofString "over"), .int 0])) pG6 = some (.tup [.str (Str.ofString "over"), .int 0]) := upd_same
    generalize upd G5 pG6 (.tup [.str (Str.ofString "over"), .int 0]) = G6 at ksG6 hRG6 hlG6 hopG6 ⊢
    have tpG6 : Th (r :: Z.Ps) G6 1 22 (.ref pG6) := (Th.tup nLpG6 hopG6 (n := 0) (m := 10) (allC (Th.tx (l := [111, 118, 101, 114]) (by decide) (by decide)) (allC (Th.intS (by decide) (by decide)) all0))).mono (by omega) (by show (10 + 1) * 2 ≤ 22; omega)
    refine ⟨(by show 7 ≤ sizeLine; decide), fun pG7 npG7 => ?_⟩
    have nLpG7 : pG7 ∉ (r :: Z.Ps) := fun z => hlG6 pG7 z npG7
    have ksG7 : Kp r G6 (upd G6 pG7 (.lst [.non, .ref pG1, .int 7, .ref pG2, .ref pG3, .ref pG5, .ref pG6])) := Kp.new Kp.rfl' npG7
    have hRG7 : (upd G6 pG7 (.lst [.non, .ref pG1, .int 7, .ref pG2, .ref pG3, .ref pG5, .ref pG6])) r = some (.lst [.int n18]) := keep_new hRG6 npG7
    have hlG7 : ∀ b ∈ (r :: Z.Ps), (upd G6 pG7 (.lst [.non, .ref pG1, .int 7, .ref pG2, .ref pG3, .ref pG5, .ref pG6])) b ≠ none := new_all hlG6
    have hopG7 : (upd G6 pG7 (.lst [.non, .ref pG1, .int 7, .ref pG2, .ref pG3, .ref pG5, .ref pG6])) pG7 = some (.lst [.non, .ref pG1, .int 7, .ref pG2, .ref pG3, .ref pG5, .ref pG6]) := upd_same
    generalize upd G6 pG7 (.lst [.non, .ref pG1, .int 7, .ref pG2, .ref pG3, .ref pG5, .ref pG6]) = G7 at ksG7 hRG7 hlG7 hopG7 ⊢
    refine ⟨T3, pG7, zs, [.non, .ref pG1, .int 7, .ref pG2, .ref pG3, .ref pG5, .ref pG6], rfl, rfl, (((((((ksG1).trans ksG2).trans ksG3).trans ksG4).trans ksG5).trans ksG6).trans ksG7) _ _ (ne_in nLT3 hrL) hoT3, hopG7, (by show zs.length + 7 ≤ sizeLine; omega), fun pG8 npG8 => ?_⟩
    have nLpG8 : pG8 ∉ (r :: Z.Ps) := fun z => hlG7 pG8 z npG8
    have ksG8 : Kp r G7 (upd G7 pG8 (.lst (zs ++ [.non, .ref pG1, .int 7, .ref pG2, .ref pG3, .ref pG5, .ref pG6]))) := Kp.new Kp.rfl' npG8
    have hRG8 : (upd G7 pG8 (.lst (zs ++ [.non, .ref pG1, .int 7, .ref pG2, .ref pG3, .ref pG5, .ref pG6]))) r = some (.lst [.int n18]) := keep_new hRG7 npG8
    have hlG8 : ∀ b ∈ (r :: Z.Ps), (upd G7 pG8 (.lst (zs ++ [.non, .ref pG1, .int 7, .ref pG2, .ref pG3, .ref pG5, .ref pG6]))) b ≠ none := new_all hlG7
    have hopG8 : (upd G7 pG8 (.lst (zs ++ [.non, .ref pG1, .int 7, .ref pG2, .ref pG3, .ref pG5, .ref pG6]))) pG8 = some (.lst (zs ++ [.non, .ref pG1, .int 7, .ref pG2, .ref pG3, .ref pG5, .ref pG6])) := upd_same
    generalize upd G7 pG8 (.lst (zs ++ [.non, .ref pG1, .int 7, .ref pG2, .ref pG3, .ref pG5, .ref pG6])) = G8 at ksG8 hRG8 hlG8 hopG8 ⊢
    have thA : ∀ u ∈ zs ++ [.non, .ref pG1, .int 7, .ref pG2, .ref pG3, .ref pG5, .ref pG6], Th (r :: Z.Ps) G8 10 90000 u := allApp (fun u hu => (th19 u hu).kp ((((((((ksG1).trans ksG2).trans ksG3).trans ksG4).trans ksG5).trans ksG6).trans ksG7).trans ksG8) hrL) (allC (Th.non) (allC ((tpG1.kp (((((((ksG2).trans ksG3).trans ksG4).trans ksG5).trans ksG6).trans ksG7).trans ksG8) hrL).mono (by omega) (by omega)) (allC (Th.intS (by decide) (by decide)) (allC ((tpG2.kp ((((((ksG3).trans ksG4).trans ksG5).trans ksG6).trans ksG7).trans ksG8) hrL).mono (by omega) (by omega)) (allC ((tpG3.kp (((((ksG4).trans ksG5).trans ksG6).trans ksG7).trans ksG8) hrL).mono (by omega) (by omega)) (allC ((tpG5.kp (((ksG6).trans ksG7).trans ksG8) hrL).mono (by omega) (by omega)) (allC ((tpG6.kp ((ksG7).trans ksG8) hrL).mono (by omega) (by omega)) all0)))))))
    have kpT := ((((((((ksG1).trans ksG2).trans ksG3).trans ksG4).trans ksG5).trans ksG6).trans ksG7).trans ksG8)
    have hoX := hopG8
    have nLX := nLpG8
    have hRT := hRG8
    have tgT := tg19.kp hR19 kpT
    have sxT := sxK sx19 kpT
    generalize zs ++ [.non, .ref pG1, .int 7, .ref pG2, .ref pG3, .ref pG5, .ref pG6] = xs at thA hoX ⊢
    obtain ⟨HT, rfl⟩ : ∃ G, G = G8 := ⟨_, rfl⟩
    obtain ⟨X, rfl⟩ : ∃ z, z = pG8 := ⟨_, rfl⟩
    have hPsL : ∀ b ∈ Z.Ps, b ∈ r :: Z.Ps := fun b h => List.mem_cons_of_mem _ h
    refine ⟨X, rfl, ⟨_, .inl (.inl hoX)⟩, for_it (walk_list (xs := xs)) (fun j σ H' => ∃ (y10 y11 y12 y13 y14 : Option V), σ = [some (.ref a), some (.int (0 + (i : Nat))), some (.ref r), some (.ref wa), some (.int (mm : Int)), some (.ref ba), some (.int (dk : Int)), some v, some (.int lv), some (.ref T3), y10, y11, y12, y13, y14, y15] ∧ Sx Z.Ps HT H' ∧ TG Z.Ps H')
      ⟨_, _, _, _, _, rfl, Sx.rfl', tgT⟩ (fun j σ H' _ hP => ?_) (fun j x σ H2' H2 hj hP hY => ?_) (fun σ H2 hP => ?_)⟩
    · obtain ⟨_, _, _, _, _, _, sx, _⟩ := hP
      exact .inl (.inl (sx.lst tgT hoX))
    rotate_left 1
    · obtain ⟨y10, y11, y12, y13, y14, rfl, sx, tg2⟩ := hP
      exact ⟨_, _, _, _, _, _, _, _, _, _, rfl, sxT.trans (sx.more hPsL), tg2, sx.lst tgT hRT⟩
    obtain ⟨y10, y11, y12, y13, y14, rfl, sx2, tg2⟩ := hP
    obtain ⟨rfl, hx⟩ := hY
    obtain ⟨d, fd, shd, wdd⟩ := (thA x (List.mem_of_getElem? hx)).sx sx2 hPsL
    have sh2 : Sh 20 100000 d := shd.mono (by decide) (by decide)
    have ddp := shd.dp
    refine ⟨x, rfl, x, d, rfl, Ft.dp _ _ fd.to, sh2, ?_⟩
    refine ⟨_, rfl, _, rfl, _, _, rfl, rfl, (by show 2 ≤ sizeLine; decide), fun LN nLN => ?_⟩
    have sm3 := Same.new (o := .lst [.int lv, .int (lv + 1)]) (Same.refl H2) nLN
    have tg3 := tg2.same sm3
    have sxT3 : Sx (r :: Z.Ps) H7 (upd H2 LN (.lst [.int lv, .int (lv + 1)])) := (sxT.trans (sx2.more hPsL)).trans (Same.sx sm3)
    have hLN : (upd H2 LN (.lst [V.int lv, .int (lv + 1)])) LN = some (.lst [.int lv, .int (lv + 1)]) := upd_same
    have fd3 := fd.same sm3
    have sx23 : Sx Z.Ps HT (upd H2 LN (.lst [.int lv, .int (lv + 1)])) := sx2.trans (Same.sx sm3)
    generalize upd H2 LN (.lst [V.int lv, .int (lv + 1)]) = H3 at sm3 tg3 sxT3 hLN fd3 sx23 ⊢
    refine ⟨LN, rfl, ⟨_, .inl (.inl hLN)⟩, for_it (walk_list (xs := [.int lv, .int (lv + 1)])) (fun j σ H' => ∃ (y12 y13 y14 : Option V), σ = [some (.ref a), some (.int (0 + (i : Nat))), some (.ref r), some (.ref wa), some (.int (mm : Int)), some (.ref ba), some (.int (dk : Int)), some v, some (.int lv), some (.ref T3), some x, some (.str d.shown), y12, y13, y14, y15] ∧ Sx Z.Ps H3 H' ∧ TG Z.Ps H')
      ⟨_, _, _, rfl, Sx.rfl', tg3⟩ (fun j σ H' _ hP => ?_) (fun j u σ H4' H4 hj hP hY => ?_) (fun σ H4 hP => ?_)⟩
    · obtain ⟨_, _, _, _, sx, _⟩ := hP
      exact .inl (.inl (sx.lst tg3 hLN))
    rotate_left 1
    · obtain ⟨y12, y13, y14, rfl, sx, tg4⟩ := hP
      exact ⟨_, _, _, _, _, rfl, sx23.trans sx, tg4⟩
    obtain ⟨y12, y13, y14, rfl, sx4, tg4⟩ := hP
    obtain ⟨rfl, hu⟩ := hY
    obtain ⟨nv, rfl⟩ : ∃ nv : Int, u = .int nv := by
      match j, hu with
      | 0, hu => exact ⟨lv, (Option.some.inj hu).symm⟩
      | 1, hu => exact ⟨lv + 1, (Option.some.inj hu).symm⟩
    have sxT4 := sxT3.trans (sx4.more hPsL)
    have fd4 := fd3.sx sx4 hPsL
    refine ⟨.ref wa, rfl, .int (mm : Int), rfl, .int nv, rfl, x, rfl, .ref wa, x, mm, nv, cols, rows, as, chg, d, rfl, tg4, fW7.kT (kT7 sxT4), hrs, by omega, hc.nd, hcn, has, hg0, hg1, fd4.to, shd.ly, by omega, fun H5 sx5 tg5 => ?_⟩
    have sxT5 := sxT4.trans (sx5.more hPsL)
    have fd5 := fd4.sx sx5 hPsL
    refine ⟨.ref wa, rfl, .int (mm : Int), rfl, .int nv, rfl, x, rfl, Nat.zero_le _, fun S1 nS1 => ⟨Nat.zero_le _, fun S2 nS2 => ?_⟩⟩
    have sm6 := Same.new (o := .lst []) (Same.refl H5) nS1
    have hS1 : (upd H5 S1 (.lst [])) S1 = some (.lst (([] : List (List Nat)).map tx)) := upd_same
    generalize upd H5 S1 (.lst []) = H6 at sm6 hS1 nS2 ⊢
    have sm7 := Same.new (o := .lst []) sm6 nS2
    have hS1' := keep_new (o := .lst []) hS1 nS2
    have hS2 : (upd H6 S2 (.lst [])) S2 = some (.lst (([] : List (List Nat)).map tx)) := upd_same
    generalize upd H6 S2 (.lst []) = H8 at sm7 hS1' hS2 ⊢
    have sxT8 := sxT5.trans (Same.sx sm7)
    refine ⟨.ref ba, rfl, .ref wa, x, ba, S1, S2, mm, nv, cols, rows, as, chg, kvs, [], [], d, rfl, fW7.kT (kT7 sxT8), by omega, has, hg0, hg1, dct7 sxT8, by7 sxT8, hl64, by omega, hS1', (fun o h => nomatch h), by decide, hS2, by decide, (fd5.same sm7).to, by omega, fun H9 sm9 => ?_⟩
    rw [free_all]
    generalize goD cols rows as chg mm nv d [] (listsM cols cols.length) = bv
    have sm59 := Same.trans sm7 sm9
    refine ⟨.bl bv, rfl, .bl bv, .ty "bool", _, _, true, rfl, .ty _, ty_ft (d := .bool bv) (.bl _), kit_bl (.bool bv), _, rfl, iteF ?_⟩
    refine ⟨.bl bv, rfl, .bl bv, rfl, rfl, _, rfl, iteNS rfl ?_⟩
    refine ⟨x, rfl, x, d, rfl, Ft.dp _ _ (fd5.same sm59).to, sh2, .str d.shown, rfl, rfl, _, rfl, iteNS rfl ?_⟩
    exact ⟨_, _, _, rfl, (sx4.trans sx5).trans (Same.sx sm59), tg5.same sm59⟩

end
/-! ### the head: facts by names, the run -/
def df0 : He.DefD := ⟨("lists_of", none), "lists_of", "lists_of", defArgs s_lists_of, defBody s_lists_of, defScope s_lists_of, [], []⟩
def df1 : He.DefD := ⟨("picked", none), "picked", "picked", defArgs s_picked, defBody s_picked, defScope s_picked, [], []⟩
def df2 : He.DefD := ⟨("letters_of", none), "letters_of", "letters_of", defArgs s_letters_of, defBody s_letters_of, defScope s_letters_of, [], []⟩
def df3 : He.DefD := ⟨("spans", none), "spans", "spans", defArgs s_spans, defBody s_spans, defScope s_spans, [], []⟩
def df4 : He.DefD := ⟨("used", none), "used", "used", defArgs s_used, defBody s_used, defScope s_used, [], []⟩
def df5 : He.DefD := ⟨("stretch", none), "stretch", "stretch", defArgs s_stretch, defBody s_stretch, defScope s_stretch, [], []⟩
def df6 : He.DefD := ⟨("price_by", none), "price_by", "price_by", defArgs s_price_by, defBody s_price_by, defScope s_price_by, [], []⟩
def df7 : He.DefD := ⟨("upkeep", none), "upkeep", "upkeep", defArgs s_upkeep, defBody s_upkeep, defScope s_upkeep, [], []⟩
def df8 : He.DefD := ⟨("prices_by", none), "prices_by", "prices_by", defArgs s_prices_by, defBody s_prices_by, defScope s_prices_by, [], []⟩
def df9 : He.DefD := ⟨("Sheet", some "__init__"), "__init__", "Sheet.__init__", defArgs s_Sheet___init__, defBody s_Sheet___init__, defScope s_Sheet___init__, [], []⟩
def df10 : He.DefD := ⟨("Sheet", some "asked"), "asked", "Sheet.asked", defArgs s_Sheet_asked, defBody s_Sheet_asked, defScope s_Sheet_asked, [], []⟩
def df11 : He.DefD := ⟨("Sheet", some "cost"), "cost", "Sheet.cost", defArgs s_Sheet_cost, defBody s_Sheet_cost, defScope s_Sheet_cost, [], []⟩
def df12 : He.DefD := ⟨("Sheet", some "outdoes"), "outdoes", "Sheet.outdoes", defArgs s_Sheet_outdoes, defBody s_Sheet_outdoes, defScope s_Sheet_outdoes, [], []⟩
def df13 : He.DefD := ⟨("left_of", none), "left_of", "left_of", defArgs s_left_of, defBody s_left_of, defScope s_left_of, [], []⟩
def df14 : He.DefD := ⟨("fitting", none), "fitting", "fitting", defArgs s_fitting, defBody s_fitting, defScope s_fitting, [], []⟩
def df15 : He.DefD := ⟨("floor", none), "floor", "floor", defArgs s_floor, defBody s_floor, defScope s_floor, [], []⟩
def df16 : He.DefD := ⟨("is_fork", none), "is_fork", "is_fork", defArgs s_is_fork, defBody s_is_fork, defScope s_is_fork, [], []⟩
def df17 : He.DefD := ⟨("shown", none), "shown", "shown", defArgs s_shown, defBody s_shown, defScope s_shown, [], []⟩
def df18 : He.DefD := ⟨("shows", none), "shows", "shows", defArgs s_shows, defBody s_shows, defScope s_shows, [], []⟩
def df19 : He.DefD := ⟨("_law_reel", none), "_law_reel", "_law_reel", defArgs s_l_reel, defBody s_l_reel, defScope s_l_reel, [], []⟩
def df20 : He.DefD := ⟨("_law_pick", none), "_law_pick", "_law_pick", defArgs s_l_pick, defBody s_l_pick, defScope s_l_pick, [], []⟩
def df21 : He.DefD := ⟨("_law_columns", none), "_law_columns", "_law_columns", defArgs s_l_columns, defBody s_l_columns, defScope s_l_columns, [], []⟩
def df22 : He.DefD := ⟨("_law_table", none), "_law_table", "_law_table", defArgs s_l_table, defBody s_l_table, defScope s_l_table, [], []⟩
def df23 : He.DefD := ⟨("_law_near", none), "_law_near", "_law_near", defArgs s_l_near, defBody s_l_near, defScope s_l_near, [], []⟩
def df24 : He.DefD := ⟨("_law_question", none), "_law_question", "_law_question", defArgs s_l_question, defBody s_l_question, defScope s_l_question, [], []⟩
def df25 : He.DefD := ⟨("_law_used", none), "_law_used", "_law_used", defArgs s_l_used, defBody s_l_used, defScope s_l_used, [], []⟩
def df26 : He.DefD := ⟨("_law_stretch", none), "_law_stretch", "_law_stretch", defArgs s_l_stretch, defBody s_l_stretch, defScope s_l_stretch, [], []⟩
def df27 : He.DefD := ⟨("_law_price_by", none), "_law_price_by", "_law_price_by", defArgs s_l_price_by, defBody s_l_price_by, defScope s_l_price_by, [], []⟩
def df28 : He.DefD := ⟨("_law_work", none), "_law_work", "_law_work", defArgs s_l_work, defBody s_l_work, defScope s_l_work, [], []⟩
def df29 : He.DefD := ⟨("_law_lists", none), "_law_lists", "_law_lists", defArgs s_l_lists, defBody s_l_lists, defScope s_l_lists, [], []⟩
def df30 : He.DefD := ⟨("_law_by", none), "_law_by", "_law_by", defArgs s_l_by, defBody s_l_by, defScope s_l_by, [], []⟩
def df31 : He.DefD := ⟨("_law_least", none), "_law_least", "_law_least", defArgs s_l_least, defBody s_l_least, defScope s_l_least, [], []⟩
def df32 : He.DefD := ⟨("_law_outdone", none), "_law_outdone", "_law_outdone", defArgs s_l_outdone, defBody s_l_outdone, defScope s_l_outdone, [], []⟩
def df33 : He.DefD := ⟨("_law_floor", none), "_law_floor", "_law_floor", defArgs s_l_floor, defBody s_l_floor, defScope s_l_floor, [], []⟩
def df34 : He.DefD := ⟨("_law_goes", none), "_law_goes", "_law_goes", defArgs s_l_goes, defBody s_l_goes, defScope s_l_goes, [], []⟩
def df35 : He.DefD := ⟨("_law_tree", none), "_law_tree", "_law_tree", defArgs s_l_tree, defBody s_l_tree, defScope s_l_tree, [], []⟩
def df36 : He.DefD := ⟨("_law_bent", none), "_law_bent", "_law_bent", defArgs s_l_bent, defBody s_l_bent, defScope s_l_bent, [], []⟩
def df37 : He.DefD := ⟨("_law_floors", none), "_law_floors", "_law_floors", defArgs s_l_floors, defBody s_l_floors, defScope s_l_floors, [], []⟩
def df38 : He.DefD := ⟨("_law_bent_deep", none), "_law_bent_deep", "_law_bent_deep", defArgs s_l_bent_deep, defBody s_l_bent_deep, defScope s_l_bent_deep, [], []⟩
def df39 : He.DefD := ⟨("_law_bent_more", none), "_law_bent_more", "_law_bent_more", defArgs s_l_bent_more, defBody s_l_bent_more, defScope s_l_bent_more, [], []⟩
def df40 : He.DefD := ⟨("law", none), "law", "law", defArgs s_law, defBody s_law, defScope s_law, [], []⟩
def dfs : List He.DefD := [df0, df1, df2, df3, df4, df5, df6, df7, df8, df9, df10, df11, df12, df13, df14, df15, df16, df17, df18, df19, df20, df21, df22, df23, df24, df25, df26, df27, df28, df29, df30, df31, df32, df33, df34, df35, df36, df37, df38, df39, df40]
def fas : List He.Fa := [.glo "lists_of", .glo "picked", .glo "letters_of", .glo "spans", .glo "used", .glo "stretch", .glo "price_by", .glo "upkeep", .glo "prices_by", .mkr "Sheet", .meth "Sheet" "asked", .meth "Sheet" "cost", .meth "Sheet" "outdoes", .glo "left_of", .glo "fitting", .glo "floor", .glo "is_fork", .glo "shown", .glo "shows", .glo "_law_reel", .glo "_law_pick", .glo "_law_columns", .glo "_law_table", .glo "_law_near", .glo "_law_question", .glo "_law_used", .glo "_law_stretch", .glo "_law_price_by", .glo "_law_work", .glo "_law_lists", .glo "_law_by", .glo "_law_least", .glo "_law_outdone", .glo "_law_floor", .glo "_law_goes", .glo "_law_tree", .glo "_law_bent", .glo "_law_floors", .glo "_law_bent_deep", .glo "_law_bent_more", .glo "law", .glo "Sheet", .cls "Sheet", .noat "Sheet" "changes", .noat "Sheet" "lists", .noat "Sheet" "often", .noat "Sheet" "bare", .noat "Sheet" "prices", .free "len", .free "range", .free "list", .free "sorted", .free "tuple", .free "min", .free "max", .free "enumerate", .free "dict", .free "isinstance", .free "zip", .free "int", .free "bool", .free "sum", .free "all", .free "any", .free "str", .free "repr"]
def tfs : List He.Defn := [("picked", none), ("stretch", none), ("upkeep", none), ("left_of", none), ("Sheet", some "outdoes")]
def apart : PySem.W.Frag → Bool := fun K => true
abbrev Rw : PySem.W.OpenRow := PySem.W.OpenLaw.row PySem.Challenge.rw_stretchkeep_k22_trees_looked_at
abbrev hk : PySem.W.Hook := He.hookX 10 fas dfs [] tfs apart
def ob (s : PySem.W.SharedT) : He.AlX := He.obsX 10 fas dfs [] tfs apart (HandSHeadRun.getT s)
theorem ob_eq (s : PySem.W.SharedT) : ob s = hk.obs s.abs := He.obsX_eq (HandSHeadRun.getT_eq s)
def loose1 : List Str := ["_wall", "lists_of", "picked", "letters_of", "spans", "used", "stretch", "price_by", "upkeep", "prices_by", "Sheet", "left_of", "fitting", "floor", "is_fork", "shown", "shows", "_law_reel", "_law_pick", "_law_columns"]
def loose2 : List Str := ["_law_table", "_law_near", "_law_question", "_law_used", "_law_stretch", "_law_price_by", "_law_price_of", "_law_price", "_law_work", "_law_lists", "_law_by", "_law_least", "_law_outdone", "_law_floor", "_law_goes", "_law_tree", "_law_bent", "_law_floors", "_law_bent_deep", "_law_bent_more"]
set_option maxHeartbeats 0 in
theorem run (w : World) : HandSHeadRun.RunEq Rw (PySem.W.view Rw.prog [47]) hk ob 4000 (loose1 ++ loose2) w := by
  intro os
  kernel_rfl
theorem all_mk {l : PySem.W.OpenLaw} {w : World} {K : PySem.W.Frag} {h : Heap} {mg : Str → Option Value} {fa : Addr} (X : K.In h) (G : h.Ns mainGlobals mg) (hfa : mg "law" = some (.ref fa)) (c : He.SaysX fas dfs [] tfs apart w h K) : LawAtG l w K 90 63 "script" mg fa h := by
  obtain ⟨fd0, D0⟩ := c.t.d.def_ 0 (d := df0) rfl
  replace D0 : DefAt K ("lists_of", none) "lists_of" "lists_of" s_lists_of fd0 := D0
  obtain ⟨fd1, D1⟩ := c.t.d.def_ 1 (d := df1) rfl
  replace D1 : DefAt K ("picked", none) "picked" "picked" s_picked fd1 := D1
  obtain ⟨fd2, D2⟩ := c.t.d.def_ 2 (d := df2) rfl
  replace D2 : DefAt K ("letters_of", none) "letters_of" "letters_of" s_letters_of fd2 := D2
  obtain ⟨fd3, D3⟩ := c.t.d.def_ 3 (d := df3) rfl
  replace D3 : DefAt K ("spans", none) "spans" "spans" s_spans fd3 := D3
  obtain ⟨fd4, D4⟩ := c.t.d.def_ 4 (d := df4) rfl
  replace D4 : DefAt K ("used", none) "used" "used" s_used fd4 := D4
  obtain ⟨fd5, D5⟩ := c.t.d.def_ 5 (d := df5) rfl
  replace D5 : DefAt K ("stretch", none) "stretch" "stretch" s_stretch fd5 := D5
  obtain ⟨fd6, D6⟩ := c.t.d.def_ 6 (d := df6) rfl
  replace D6 : DefAt K ("price_by", none) "price_by" "price_by" s_price_by fd6 := D6
  obtain ⟨fd7, D7⟩ := c.t.d.def_ 7 (d := df7) rfl
  replace D7 : DefAt K ("upkeep", none) "upkeep" "upkeep" s_upkeep fd7 := D7
  obtain ⟨fd8, D8⟩ := c.t.d.def_ 8 (d := df8) rfl
  replace D8 : DefAt K ("prices_by", none) "prices_by" "prices_by" s_prices_by fd8 := D8
  obtain ⟨fd9, D9⟩ := c.t.d.def_ 9 (d := df9) rfl
  replace D9 : DefAt K ("Sheet", some "__init__") "__init__" "Sheet.__init__" s_Sheet___init__ fd9 := D9
  obtain ⟨fd10, D10⟩ := c.t.d.def_ 10 (d := df10) rfl
  replace D10 : DefAt K ("Sheet", some "asked") "asked" "Sheet.asked" s_Sheet_asked fd10 := D10
  obtain ⟨fd11, D11⟩ := c.t.d.def_ 11 (d := df11) rfl
  replace D11 : DefAt K ("Sheet", some "cost") "cost" "Sheet.cost" s_Sheet_cost fd11 := D11
  obtain ⟨fd12, D12⟩ := c.t.d.def_ 12 (d := df12) rfl
  replace D12 : DefAt K ("Sheet", some "outdoes") "outdoes" "Sheet.outdoes" s_Sheet_outdoes fd12 := D12
  obtain ⟨fd13, D13⟩ := c.t.d.def_ 13 (d := df13) rfl
  replace D13 : DefAt K ("left_of", none) "left_of" "left_of" s_left_of fd13 := D13
  obtain ⟨fd14, D14⟩ := c.t.d.def_ 14 (d := df14) rfl
  replace D14 : DefAt K ("fitting", none) "fitting" "fitting" s_fitting fd14 := D14
  obtain ⟨fd15, D15⟩ := c.t.d.def_ 15 (d := df15) rfl
  replace D15 : DefAt K ("floor", none) "floor" "floor" s_floor fd15 := D15
  obtain ⟨fd16, D16⟩ := c.t.d.def_ 16 (d := df16) rfl
  replace D16 : DefAt K ("is_fork", none) "is_fork" "is_fork" s_is_fork fd16 := D16
  obtain ⟨fd17, D17⟩ := c.t.d.def_ 17 (d := df17) rfl
  replace D17 : DefAt K ("shown", none) "shown" "shown" s_shown fd17 := D17
  obtain ⟨fd18, D18⟩ := c.t.d.def_ 18 (d := df18) rfl
  replace D18 : DefAt K ("shows", none) "shows" "shows" s_shows fd18 := D18
  obtain ⟨fd19, D19⟩ := c.t.d.def_ 19 (d := df19) rfl
  replace D19 : DefAt K ("_law_reel", none) "_law_reel" "_law_reel" s_l_reel fd19 := D19
  obtain ⟨fd20, D20⟩ := c.t.d.def_ 20 (d := df20) rfl
  replace D20 : DefAt K ("_law_pick", none) "_law_pick" "_law_pick" s_l_pick fd20 := D20
  obtain ⟨fd21, D21⟩ := c.t.d.def_ 21 (d := df21) rfl
  replace D21 : DefAt K ("_law_columns", none) "_law_columns" "_law_columns" s_l_columns fd21 := D21
  obtain ⟨fd22, D22⟩ := c.t.d.def_ 22 (d := df22) rfl
  replace D22 : DefAt K ("_law_table", none) "_law_table" "_law_table" s_l_table fd22 := D22
  obtain ⟨fd23, D23⟩ := c.t.d.def_ 23 (d := df23) rfl
  replace D23 : DefAt K ("_law_near", none) "_law_near" "_law_near" s_l_near fd23 := D23
  obtain ⟨fd24, D24⟩ := c.t.d.def_ 24 (d := df24) rfl
  replace D24 : DefAt K ("_law_question", none) "_law_question" "_law_question" s_l_question fd24 := D24
  obtain ⟨fd25, D25⟩ := c.t.d.def_ 25 (d := df25) rfl
  replace D25 : DefAt K ("_law_used", none) "_law_used" "_law_used" s_l_used fd25 := D25
  obtain ⟨fd26, D26⟩ := c.t.d.def_ 26 (d := df26) rfl
  replace D26 : DefAt K ("_law_stretch", none) "_law_stretch" "_law_stretch" s_l_stretch fd26 := D26
  obtain ⟨fd27, D27⟩ := c.t.d.def_ 27 (d := df27) rfl
  replace D27 : DefAt K ("_law_price_by", none) "_law_price_by" "_law_price_by" s_l_price_by fd27 := D27
  obtain ⟨fd28, D28⟩ := c.t.d.def_ 28 (d := df28) rfl
  replace D28 : DefAt K ("_law_work", none) "_law_work" "_law_work" s_l_work fd28 := D28
  obtain ⟨fd29, D29⟩ := c.t.d.def_ 29 (d := df29) rfl
  replace D29 : DefAt K ("_law_lists", none) "_law_lists" "_law_lists" s_l_lists fd29 := D29
  obtain ⟨fd30, D30⟩ := c.t.d.def_ 30 (d := df30) rfl
  replace D30 : DefAt K ("_law_by", none) "_law_by" "_law_by" s_l_by fd30 := D30
  obtain ⟨fd31, D31⟩ := c.t.d.def_ 31 (d := df31) rfl
  replace D31 : DefAt K ("_law_least", none) "_law_least" "_law_least" s_l_least fd31 := D31
  obtain ⟨fd32, D32⟩ := c.t.d.def_ 32 (d := df32) rfl
  replace D32 : DefAt K ("_law_outdone", none) "_law_outdone" "_law_outdone" s_l_outdone fd32 := D32
  obtain ⟨fd33, D33⟩ := c.t.d.def_ 33 (d := df33) rfl
  replace D33 : DefAt K ("_law_floor", none) "_law_floor" "_law_floor" s_l_floor fd33 := D33
  obtain ⟨fd34, D34⟩ := c.t.d.def_ 34 (d := df34) rfl
  replace D34 : DefAt K ("_law_goes", none) "_law_goes" "_law_goes" s_l_goes fd34 := D34
  obtain ⟨fd35, D35⟩ := c.t.d.def_ 35 (d := df35) rfl
  replace D35 : DefAt K ("_law_tree", none) "_law_tree" "_law_tree" s_l_tree fd35 := D35
  obtain ⟨fd36, D36⟩ := c.t.d.def_ 36 (d := df36) rfl
  replace D36 : DefAt K ("_law_bent", none) "_law_bent" "_law_bent" s_l_bent fd36 := D36
  obtain ⟨fd37, D37⟩ := c.t.d.def_ 37 (d := df37) rfl
  replace D37 : DefAt K ("_law_floors", none) "_law_floors" "_law_floors" s_l_floors fd37 := D37
  obtain ⟨fd38, D38⟩ := c.t.d.def_ 38 (d := df38) rfl
  replace D38 : DefAt K ("_law_bent_deep", none) "_law_bent_deep" "_law_bent_deep" s_l_bent_deep fd38 := D38
  obtain ⟨fd39, D39⟩ := c.t.d.def_ 39 (d := df39) rfl
  replace D39 : DefAt K ("_law_bent_more", none) "_law_bent_more" "_law_bent_more" s_l_bent_more fd39 := D39
  obtain ⟨fd40, D40⟩ := c.t.d.def_ 40 (d := df40) rfl
  replace D40 : DefAt K ("law", none) "law" "law" s_law fd40 := D40
  have e := hfa.symm.trans (He.glo_ok X G (c.t.d.fact 40 (f := .glo "law") rfl))
  cases e
  have F0 := D0.fn
  have b0 := F0.binds (ps := ["columns"]) fun _ _ _ _ _ _ us hl => match us, hl with | [_], _ => rfl
  have F1 := D1.fn
  have b1 := F1.binds (ps := ["columns", "row", "letters"]) fun _ _ _ _ _ _ us hl => match us, hl with | [_, _, _], _ => rfl
  have F2 := D2.fn
  have b2 := F2.binds (ps := ["equals"]) fun _ _ _ _ _ _ us hl => match us, hl with | [_], _ => rfl
  have F3 := D3.fn
  have b3 := F3.binds (ps := ["question"]) fun _ _ _ _ _ _ us hl => match us, hl with | [_], _ => rfl
  have F4 := D4.fn
  have b4 := F4.binds (ps := ["one", "question"]) fun _ _ _ _ _ _ us hl => match us, hl with | [_, _], _ => rfl
  have F5 := D5.fn
  have b5 := F5.binds (ps := ["table", "one", "question"]) fun _ _ _ _ _ _ us hl => match us, hl with | [_, _, _], _ => rfl
  have F6 := D6.fn
  have b6 := F6.binds (ps := ["table", "one", "question"]) fun _ _ _ _ _ _ us hl => match us, hl with | [_, _, _], _ => rfl
  have F7 := D7.fn
  have b7 := F7.binds (ps := ["changes", "choice"]) fun _ _ _ _ _ _ us hl => match us, hl with | [_, _], _ => rfl
  have F8 := D8.fn
  have b8 := F8.binds (ps := ["table", "question", "lists"]) fun _ _ _ _ _ _ us hl => match us, hl with | [_, _, _], _ => rfl
  have F9 := D9.fn
  have b9 := F9.binds (ps := ["self", "work"]) fun _ _ _ _ _ _ us hl => match us, hl with | [_, _], _ => rfl
  have F10 := D10.fn
  have b10 := F10.binds (ps := ["self", "near"]) fun _ _ _ _ _ _ us hl => match us, hl with | [_, _], _ => rfl
  have F11 := D11.fn
  have b11 := F11.binds (ps := ["self", "choice"]) fun _ _ _ _ _ _ us hl => match us, hl with | [_, _], _ => rfl
  have F12 := D12.fn
  have b12 := F12.binds (ps := ["self", "one", "other"]) fun _ _ _ _ _ _ us hl => match us, hl with | [_, _, _], _ => rfl
  have F13 := D13.fn
  have b13 := F13.binds (ps := ["room", "inside"]) fun _ _ _ _ _ _ us hl => match us, hl with | [_, _], _ => rfl
  have F14 := D14.fn
  have b14 := F14.binds (ps := ["room", "inside", "free"]) fun _ _ _ _ _ _ us hl => match us, hl with | [_, _, _], _ => rfl
  have F15 := D15.fn
  have b15 := F15.binds (ps := ["sheet", "room", "inside", "free"]) fun _ _ _ _ _ _ us hl => match us, hl with | [_, _, _, _], _ => rfl
  have F16 := D16.fn
  have b16 := F16.binds (ps := ["free", "thing"]) fun _ _ _ _ _ _ us hl => match us, hl with | [_, _], _ => rfl
  have F17 := D17.fn
  have b17 := F17.binds (ps := ["sheet", "room", "number", "thing", "inside", "free"]) fun _ _ _ _ _ _ us hl => match us, hl with | [_, _, _, _, _, _], _ => rfl
  have F18 := D18.fn
  have b18 := F18.binds (ps := ["work", "room", "number", "thing"]) fun _ _ _ _ _ _ us hl => match us, hl with | [_, _, _, _], _ => rfl
  have F19 := D19.fn
  have b19 := F19.binds (ps := ["script", "k"]) fun _ _ _ _ _ _ us hl => match us, hl with | [_, _], _ => rfl
  have F20 := D20.fn
  have b20 := F20.binds (ps := ["reel", "many"]) fun _ _ _ _ _ _ us hl => match us, hl with | [_, _], _ => rfl
  have F21 := D21.fn
  have b21 := F21.binds (ps := ["reel", "many"]) fun _ _ _ _ _ _ us hl => match us, hl with | [_, _], _ => rfl
  have F22 := D22.fn
  have b22 := F22.binds (ps := ["reel", "most", "rows"]) fun _ _ _ _ _ _ us hl => match us, hl with | [_, _, _], _ => rfl
  have F23 := D23.fn
  have b23 := F23.binds (ps := ["reel", "rows", "at", "row"]) fun _ _ _ _ _ _ us hl => match us, hl with | [_, _, _, _], _ => rfl
  have F24 := D24.fn
  have b24 := F24.binds (ps := ["reel", "table"]) fun _ _ _ _ _ _ us hl => match us, hl with | [_, _], _ => rfl
  have F25 := D25.fn
  have b25 := F25.binds (ps := ["one", "question"]) fun _ _ _ _ _ _ us hl => match us, hl with | [_, _], _ => rfl
  have F26 := D26.fn
  have b26 := F26.binds (ps := ["table", "one", "question"]) fun _ _ _ _ _ _ us hl => match us, hl with | [_, _, _], _ => rfl
  have F27 := D27.fn
  have b27 := F27.binds (ps := ["table", "one", "question"]) fun _ _ _ _ _ _ us hl => match us, hl with | [_, _, _], _ => rfl
  have F28 := D28.fn
  have b28 := F28.binds (ps := ["reel", "most", "rows", "many"]) fun _ _ _ _ _ _ us hl => match us, hl with | [_, _, _, _], _ => rfl
  have F29 := D29.fn
  have b29 := F29.binds (ps := ["columns"]) fun _ _ _ _ _ _ us hl => match us, hl with | [_], _ => rfl
  have F30 := D30.fn
  have b30 := F30.binds (ps := ["work"]) fun _ _ _ _ _ _ us hl => match us, hl with | [_], _ => rfl
  have F31 := D31.fn
  have b31 := F31.binds (ps := ["work", "choice", "by"]) fun _ _ _ _ _ _ us hl => match us, hl with | [_, _, _], _ => rfl
  have F32 := D32.fn
  have b32 := F32.binds (ps := ["by", "one", "some"]) fun _ _ _ _ _ _ us hl => match us, hl with | [_, _, _], _ => rfl
  have F33 := D33.fn
  have b33 := F33.binds (ps := ["work", "most", "some", "out", "by"]) fun _ _ _ _ _ _ us hl => match us, hl with | [_, _, _, _, _], _ => rfl
  have F34 := D34.fn
  have b34 := F34.binds (ps := ["work", "most", "number", "tree", "some", "out", "by"]) fun _ _ _ _ _ _ us hl => match us, hl with | [_, _, _, _, _, _, _], _ => rfl
  have F35 := D35.fn
  have b35 := F35.binds (ps := ["reel", "by", "some", "out", "deep"]) fun _ _ _ _ _ _ us hl => match us, hl with | [_, _, _, _, _], _ => rfl
  have F36 := D36.fn
  have b36 := F36.binds (ps := ["reel", "lists", "tree"]) fun _ _ _ _ _ _ us hl => match us, hl with | [_, _, _], _ => rfl
  have F37 := D37.fn
  have b37 := F37.binds (ps := ["work", "most", "tree", "some", "out", "by"]) fun _ _ _ _ _ _ us hl => match us, hl with | [_, _, _, _, _, _], _ => rfl
  have F38 := D38.fn
  have b38 := F38.binds (ps := ["tree", "other", "way", "deep"]) fun _ _ _ _ _ _ us hl => match us, hl with | [_, _, _, _], _ => rfl
  have F39 := D39.fn
  have b39 := F39.binds (ps := ["reel", "columns", "tree"]) fun _ _ _ _ _ _ us hl => match us, hl with | [_, _, _], _ => rfl
  have F40 := D40.fn
  have b40 := F40.binds (ps := ["script"]) fun _ _ _ _ _ _ us hl => match us, hl with | [_], _ => rfl
  let Z : Ad := ⟨He.fAd K ("lists_of", none), fd0, He.fAd K ("picked", none), fd1, He.codeOf K ("picked", none), He.tabOf K (He.codeOf K ("picked", none)), He.fAd K ("letters_of", none), fd2, He.fAd K ("spans", none), fd3, He.fAd K ("used", none), fd4, He.fAd K ("stretch", none), fd5, He.codeOf K ("stretch", none), He.tabOf K (He.codeOf K ("stretch", none)), He.fAd K ("price_by", none), fd6, He.fAd K ("upkeep", none), fd7, He.codeOf K ("upkeep", none), He.tabOf K (He.codeOf K ("upkeep", none)), He.fAd K ("prices_by", none), fd8, He.fAd K ("Sheet", some "__init__"), fd9, He.fAd K ("Sheet", some "asked"), fd10, He.fAd K ("Sheet", some "cost"), fd11, He.fAd K ("Sheet", some "outdoes"), fd12, He.codeOf K ("Sheet", some "outdoes"), He.tabOf K (He.codeOf K ("Sheet", some "outdoes")), He.fAd K ("left_of", none), fd13, He.codeOf K ("left_of", none), He.tabOf K (He.codeOf K ("left_of", none)), He.fAd K ("fitting", none), fd14, He.fAd K ("floor", none), fd15, He.fAd K ("is_fork", none), fd16, He.fAd K ("shown", none), fd17, He.fAd K ("shows", none), fd18, He.fAd K ("_law_reel", none), fd19, He.fAd K ("_law_pick", none), fd20, He.fAd K ("_law_columns", none), fd21, He.fAd K ("_law_table", none), fd22, He.fAd K ("_law_near", none), fd23, He.fAd K ("_law_question", none), fd24, He.fAd K ("_law_used", none), fd25, He.fAd K ("_law_stretch", none), fd26, He.fAd K ("_law_price_by", none), fd27, He.fAd K ("_law_work", none), fd28, He.fAd K ("_law_lists", none), fd29, He.fAd K ("_law_by", none), fd30, He.fAd K ("_law_least", none), fd31, He.fAd K ("_law_outdone", none), fd32, He.fAd K ("_law_floor", none), fd33, He.fAd K ("_law_goes", none), fd34, He.fAd K ("_law_tree", none), fd35, He.fAd K ("_law_bent", none), fd36, He.fAd K ("_law_floors", none), fd37, He.fAd K ("_law_bent_deep", none), fd38, He.fAd K ("_law_bent_more", none), fd39, He.fAd K ("law", none), fd40, He.ga K "Sheet"⟩
  have T : Tx K mg Z := ⟨F0, b0, He.glo_ok X G (c.t.d.fact 0 (f := .glo "lists_of") rfl), F1, D1.fc, b1, He.glo_ok X G (c.t.d.fact 1 (f := .glo "picked") rfl), F2, b2, He.glo_ok X G (c.t.d.fact 2 (f := .glo "letters_of") rfl), F3, b3, He.glo_ok X G (c.t.d.fact 3 (f := .glo "spans") rfl), F4, b4, He.glo_ok X G (c.t.d.fact 4 (f := .glo "used") rfl), F5, D5.fc, b5, He.glo_ok X G (c.t.d.fact 5 (f := .glo "stretch") rfl), F6, b6, He.glo_ok X G (c.t.d.fact 6 (f := .glo "price_by") rfl), F7, D7.fc, b7, He.glo_ok X G (c.t.d.fact 7 (f := .glo "upkeep") rfl), F8, b8, He.glo_ok X G (c.t.d.fact 8 (f := .glo "prices_by") rfl), F9, b9, He.mkr_ok (c.t.d.fact 9 (f := .mkr "Sheet") rfl), F10, b10, He.meth_ok (c.t.d.fact 10 (f := .meth "Sheet" "asked") rfl), F11, b11, He.meth_ok (c.t.d.fact 11 (f := .meth "Sheet" "cost") rfl), F12, D12.fc, b12, He.meth_ok (c.t.d.fact 12 (f := .meth "Sheet" "outdoes") rfl), F13, D13.fc, b13, He.glo_ok X G (c.t.d.fact 13 (f := .glo "left_of") rfl), F14, b14, He.glo_ok X G (c.t.d.fact 14 (f := .glo "fitting") rfl), F15, b15, He.glo_ok X G (c.t.d.fact 15 (f := .glo "floor") rfl), F16, b16, He.glo_ok X G (c.t.d.fact 16 (f := .glo "is_fork") rfl), F17, b17, He.glo_ok X G (c.t.d.fact 17 (f := .glo "shown") rfl), F18, b18, He.glo_ok X G (c.t.d.fact 18 (f := .glo "shows") rfl), F19, b19, He.glo_ok X G (c.t.d.fact 19 (f := .glo "_law_reel") rfl), F20, b20, He.glo_ok X G (c.t.d.fact 20 (f := .glo "_law_pick") rfl), F21, b21, He.glo_ok X G (c.t.d.fact 21 (f := .glo "_law_columns") rfl), F22, b22, He.glo_ok X G (c.t.d.fact 22 (f := .glo "_law_table") rfl), F23, b23, He.glo_ok X G (c.t.d.fact 23 (f := .glo "_law_near") rfl), F24, b24, He.glo_ok X G (c.t.d.fact 24 (f := .glo "_law_question") rfl), F25, b25, He.glo_ok X G (c.t.d.fact 25 (f := .glo "_law_used") rfl), F26, b26, He.glo_ok X G (c.t.d.fact 26 (f := .glo "_law_stretch") rfl), F27, b27, He.glo_ok X G (c.t.d.fact 27 (f := .glo "_law_price_by") rfl), F28, b28, He.glo_ok X G (c.t.d.fact 28 (f := .glo "_law_work") rfl), F29, b29, He.glo_ok X G (c.t.d.fact 29 (f := .glo "_law_lists") rfl), F30, b30, He.glo_ok X G (c.t.d.fact 30 (f := .glo "_law_by") rfl), F31, b31, He.glo_ok X G (c.t.d.fact 31 (f := .glo "_law_least") rfl), F32, b32, He.glo_ok X G (c.t.d.fact 32 (f := .glo "_law_outdone") rfl), F33, b33, He.glo_ok X G (c.t.d.fact 33 (f := .glo "_law_floor") rfl), F34, b34, He.glo_ok X G (c.t.d.fact 34 (f := .glo "_law_goes") rfl), F35, b35, He.glo_ok X G (c.t.d.fact 35 (f := .glo "_law_tree") rfl), F36, b36, He.glo_ok X G (c.t.d.fact 36 (f := .glo "_law_bent") rfl), F37, b37, He.glo_ok X G (c.t.d.fact 37 (f := .glo "_law_floors") rfl), F38, b38, He.glo_ok X G (c.t.d.fact 38 (f := .glo "_law_bent_deep") rfl), F39, b39, He.glo_ok X G (c.t.d.fact 39 (f := .glo "_law_bent_more") rfl), F40, b40, He.glo_ok X G (c.t.d.fact 40 (f := .glo "law") rfl), He.cls_ok (c.t.d.fact 42 (f := .cls "Sheet") rfl), He.glo_ok X G (c.t.d.fact 41 (f := .glo "Sheet") rfl), He.noat_ok (c.t.d.fact 43 (f := .noat "Sheet" "changes") rfl), He.noat_ok (c.t.d.fact 44 (f := .noat "Sheet" "lists") rfl), He.noat_ok (c.t.d.fact 45 (f := .noat "Sheet" "often") rfl), He.noat_ok (c.t.d.fact 46 (f := .noat "Sheet" "bare") rfl), He.noat_ok (c.t.d.fact 47 (f := .noat "Sheet" "prices") rfl), He.free_ok X G (c.t.d.fact 48 (f := .free "len") rfl), He.free_ok X G (c.t.d.fact 49 (f := .free "range") rfl), He.free_ok X G (c.t.d.fact 50 (f := .free "list") rfl), He.free_ok X G (c.t.d.fact 51 (f := .free "sorted") rfl), He.free_ok X G (c.t.d.fact 52 (f := .free "tuple") rfl), He.free_ok X G (c.t.d.fact 53 (f := .free "min") rfl), He.free_ok X G (c.t.d.fact 54 (f := .free "max") rfl), He.free_ok X G (c.t.d.fact 55 (f := .free "enumerate") rfl), He.free_ok X G (c.t.d.fact 56 (f := .free "dict") rfl), He.free_ok X G (c.t.d.fact 57 (f := .free "isinstance") rfl), He.free_ok X G (c.t.d.fact 58 (f := .free "zip") rfl), He.free_ok X G (c.t.d.fact 59 (f := .free "int") rfl), He.free_ok X G (c.t.d.fact 60 (f := .free "bool") rfl), He.free_ok X G (c.t.d.fact 61 (f := .free "sum") rfl), He.free_ok X G (c.t.d.fact 62 (f := .free "all") rfl), He.free_ok X G (c.t.d.fact 63 (f := .free "any") rfl), He.free_ok X G (c.t.d.fact 64 (f := .free "str") rfl), He.free_ok X G (c.t.d.fact 65 (f := .free "repr") rfl)⟩
  have bA := FunD.bindsA (ps := ["script"]) D40 fun _ _ _ _ _ _ us hl => match us, hl with | [_], _ => rfl
  have each : ∀ {R : Addr × Addr → Prop}, (∀ p ∈ tfs, R (He.cT K p)) → ∀ q ∈ [He.cT K ("picked", none), He.cT K ("stretch", none), He.cT K ("upkeep", none), He.cT K ("left_of", none), He.cT K ("Sheet", some "outdoes")], R q := fun h q hq => by
    obtain ⟨p, hp, rfl⟩ := List.mem_map.mp (show q ∈ tfs.map (He.cT K) from hq)
    exact h p hp
  refine ⟨Z.d_law, [He.cT K ("picked", none), He.cT K ("stretch", none), He.cT K ("upkeep", none), He.cT K ("left_of", none), He.cT K ("Sheet", some "outdoes")], spLaw K Z, each c.empty, each c.out, each fun p hp => PySem.W.codeHd_of_K X (c.hd p hp), fun s v => bA s [v] rfl, fun H a ns hl _ hT hS => ?_, fun base _ _ hTB => ?_⟩
  · refine ⟨a, ns, rfl, hS, hl, fun P hP => ?_, fun _ => rfl⟩
    have hP2 : P ∈ [He.tabOf K (He.codeOf K ("picked", none)), He.tabOf K (He.codeOf K ("stretch", none)), He.tabOf K (He.codeOf K ("upkeep", none)), He.tabOf K (He.codeOf K ("left_of", none)), He.tabOf K (He.codeOf K ("Sheet", some "outdoes"))] := hP
    obtain ⟨p, hp, rfl⟩ : ∃ p ∈ [He.cT K ("picked", none), He.cT K ("stretch", none), He.cT K ("upkeep", none), He.cT K ("left_of", none), He.cT K ("Sheet", some "outdoes")], p.2 = P := by
      simp only [List.mem_cons, List.not_mem_nil, or_false] at hP2
      rcases hP2 with e | e | e | e | e
      · exact ⟨He.cT K ("picked", none), by simp, e.symm⟩
      · exact ⟨He.cT K ("stretch", none), by simp, e.symm⟩
      · exact ⟨He.cT K ("upkeep", none), by simp, e.symm⟩
      · exact ⟨He.cT K ("left_of", none), by simp, e.symm⟩
      · exact ⟨He.cT K ("Sheet", some "outdoes"), by simp, e.symm⟩
    exact ⟨#[], hT p hp, trivial⟩
  · exact ok_law T ⟨hTB (He.cT K ("picked", none)) (by simp), hTB (He.cT K ("stretch", none)) (by simp), hTB (He.cT K ("upkeep", none)) (by simp), hTB (He.cT K ("left_of", none)) (by simp), hTB (He.cT K ("Sheet", some "outdoes")) (by simp)⟩
end My
open PySem PySem.W PySem.Calls PyProof.Rows
set_option maxHeartbeats 0 in
theorem PySem.Challenge.cw_stretchkeep_k22_trees_looked_at_holds : PySem.Challenge.rw_stretchkeep_k22_trees_looked_at.Holds := by
  w_on; o_law
  refine HandSHeadRun.head_any (r := My.Rw) (q := view My.Rw.prog [47]) (H := My.hk) (ob := My.ob) (M := 4000) (loose := My.loose1 ++ My.loose2) (d := HandSHeadRun.topDef My.Rw.prog 47) (kwd := []) My.ob_eq
    (by kernel_rfl) (fun s => by kernel_rfl) My.run (by kernel_rfl) (by kernel_rfl) (by kernel_rfl) (by rfl) (by first | assumption | decide +kernel) (by decide +kernel) ⟨rfl, rfl, rfl, rfl, rfl, by decide +kernel⟩ ?hw ?hc
  case hw => w_witness2
  case hc =>
    refine My.walk_ofTsEG (l := PySem.Challenge.rw_stretchkeep_k22_trees_looked_at) (most := 63) (k := 90) (x := "script") rfl (by decide) (by kernel_rfl) ⟨rfl, by decide, by decide⟩ ?F
    intro w mg fa h Y G hmg0
    obtain ⟨K, KX, c⟩ := Y
    have hmg : mg ("law" : PySem.Str) = some (.ref fa) := by
      have e : (HandSHeadRun.topDef My.Rw.prog 47).name = ("law" : PySem.Str) := by kernel_rfl
      rw [← e]
      exact hmg0
    exact ⟨K, KX, My.all_mk KX G hmg c⟩

