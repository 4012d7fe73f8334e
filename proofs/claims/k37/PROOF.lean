import PyProof.Rows.All
import Wide.All
import OpenK.AllK
import Wide.FinOn
import HandS.ForMost
import HandS.Walk
import HandS.IsInst
import HandS.DictComp
import HandS.SortInts
import HandS.NoneIn
import HandS.Replace
import HandS.TupAny
import HandS.TupLe
import PyProof.ListStr
import PyProof.TupleOfStr
import KE.GoesNew
import HandS.Zip
import HandS.More
import PyProof.StrLawsFirst
import HandS.Conv
import KE.KSortedM
import HandS.AnyAll
import HandS.EndTab
import PyProof.TupleOfGen
import HandS.EndOwn
import KE.KDictPairs
import KE.SortData
import KE.DataCmp
import PyProof.DictWalks
import KE.KDictWalk
import HandS.Style
import PyProof.CollectStr
import PyProof.SliceStr2
import PyProof.TupleOfSeq
import HandS.Star
import HandS.Wide
import KE.DataMinMax
import HandS.GenOver
import HandS.GenList
import KE.DatumIndex
import PyProof.ConsumeWalk
import HandS.SetFor
import PyProof.StrWalks
import PyProof.SetRoads
import PyProof.Rows.StrCase
import HandS.TupMul
import PyProof.ListNew
import HandS.SetBool
import KE.DataMinKey
import HandS.SortKw
import HandS.Strs
import HandS.Deep
import HandS.ListItems
import KE.KDictZip
import KE.GoesMore
import KE.GoesEnum
import PySem.Challenge.RW_stretchkeep_k37_whole_needs_and_question
set_option Elab.async false
set_option linter.all false
set_option maxRecDepth 100000
namespace My
open PySem PySem.Spec PyProof.Rows L2
/-! ### heaps -/
/-- all but r is as it was -/
def Kp (r : Addr) (H H' : Hp) : Prop := ∀ b o, b ≠ r → H b = some o → H' b = some o
theorem Kp.rfl' {r : Addr} {H : Hp} : Kp r H H := fun _ _ _ h => h
theorem Kp.trans {r : Addr} {H H1 H2 : Hp} (a : Kp r H H1) (b : Kp r H1 H2) : Kp r H H2 := fun c o n h => b c o n (a c o n h)
theorem Kp.new {r p : Addr} {H H1 : Hp} {o : HO} (a : Kp r H H1) (n : H1 p = none) : Kp r H (upd H1 p o) := fun b x nb h => by
  have h1 := a b x nb h
  rw [upd_ne (ne_of_none h1 n)]
  exact h1
theorem Kp.own {r : Addr} {H H1 : Hp} {o : HO} (a : Kp r H H1) : Kp r H (upd H1 r o) := fun b x nb h => by
  rw [upd_ne nb]
  exact a b x nb h
/-- an object that H does not know is written -/
theorem Kp.mut {r p : Addr} {H H1 : Hp} {o : HO} (a : Kp r H H1) (n : H p = none) : Kp r H (upd H1 p o) := fun b x nb h => by
  rw [upd_ne (ne_of_none h n)]
  exact a b x nb h
theorem Same.kp {r : Addr} {H H' : Hp} (s : Same H H') : Kp r H H' := fun b o _ h => s b o h
theorem Same.new {p : Addr} {H H1 : Hp} {o : HO} (a : Same H H1) (n : H1 p = none) : Same H (upd H1 p o) := fun b x h => by
  have h1 := a b x h
  rw [upd_ne (ne_of_none h1 n)]
  exact h1
theorem Same.mut {p : Addr} {H H1 : Hp} {o : HO} (a : Same H H1) (n : H p = none) : Same H (upd H1 p o) := fun b x h => by
  rw [upd_ne (ne_of_none h n)]
  exact a b x h
theorem Same.tup {K : PySem.W.Frag} {H H' : Hp} {a : Addr} {xs : List V} (e : Same H H') (h : SqT K H a xs) : SqT K H' a xs := by
  rcases h with (h | ⟨o, h⟩) | h
  · exact .inl (.inl (e _ _ h))
  · exact .inl (.inr ⟨o, e _ _ h⟩)
  · exact .inr h
theorem Kp.none {r p : Addr} {H H' : Hp} (e : Kp r H H') (n : p ≠ r) (h : H' p = Option.none) : H p = Option.none := by
  cases q : H p with
  | none => rfl
  | some o =>
    rw [e p o n q] at h
    cases h
theorem keep_new {H : Hp} {p b : Addr} {o x : HO} (h : H b = some x) (n : H p = Option.none) : (upd H p o) b = some x := by
  rw [upd_ne (ne_of_none h n)]
  exact h
theorem keep_ne {H : Hp} {p b : Addr} {o x : HO} (h : H b = some x) (n : b ≠ p) : (upd H p o) b = some x := by
  rw [upd_ne n]
  exact h
/-! ### a word between a statement and the rest -/
def tMid (t u : TS) : TS := fun D σ H => ∃ M : L2.St → Hp → Prop, t { D with nx := M } σ H ∧ ∀ σ1 H1, M σ1 H1 → u D σ1 H1
theorem pss_mid {X : Cx} {st : Stmt} {r : List Stmt} {t u : TS} (a : PS X st t) (b : PSs X r u) : PSs X (st :: r) (tMid t u) := ⟨fun pins s σ H D I h => by
  obtain ⟨M, hm, hu⟩ := h
  refine wpAny_execs_cons (thn (a.run pins s σ H { D with nx := M } I hm) fun f s1 q => ?_)
  cases f
  case next =>
    obtain ⟨σ1, H1, I1, q1⟩ := q
    exact b.run pins s1 σ1 H1 D I1 (hu σ1 H1 q1)
  all_goals exact q⟩
/-! ### texts -/
/-- a text of these codes; one sign -/
abbrev tx (l : List Nat) : V := .str ⟨l.toArray⟩
abbrev sg (c : Nat) : V := .str ⟨#[c]⟩
theorem signs_vals {x : Str} {acc : Array Value} (h : ItemsOf (SignAt x) acc x.cps.size) : Vals (x.cps.toList.map sg) acc.toList := by
  obtain ⟨hz, hi⟩ := h
  have key : ∀ (l : List Nat) (us : List Value), l.length = us.length → (∀ (j : Nat) (c : Nat) (v : Value), l[j]? = some c → us[j]? = some v → ∃ t, v = Value.str ⟨#[c]⟩ t) → Vals (l.map sg) us := by
    intro l
    induction l with
    | nil =>
      intro us hl _
      cases us with
      | nil => exact .nil
      | cons a b => cases hl
    | cons c l ih =>
      intro us hl hh
      cases us with
      | nil => cases hl
      | cons u us =>
        refine .cons ?_ (ih us (Nat.succ.inj hl) fun j c v h1 h2 => hh (j + 1) c v h1 h2)
        obtain ⟨t, e⟩ := hh 0 c u rfl rfl
        exact ⟨t, e⟩
  refine key _ _ (by rw [Array.length_toList, Array.length_toList, hz]) fun j c v h1 h2 => ?_
  obtain ⟨cc, t, e1, e2⟩ := hi j v (by rw [← Array.getElem?_toList]; exact h2)
  rw [Array.getElem?_toList] at h1
  rw [h1] at e1
  cases e1
  exact ⟨t, e2⟩
/-- the text of one sign -/
abbrev sS (c : Nat) : Str := ⟨#[c]⟩
theorem str_empty : (Str.ofString "").cps = #[] := by decide +kernel
theorem join_signs : ∀ l : List Nat, Txt.join (Str.ofString "") (l.map sS) = ⟨l.toArray⟩ := by
  intro l
  show PySem.Builtin.Str.glued (Str.ofString "") (l.map sS) = _
  rw [PySem.StrLaws.glued_eq_join]
  induction l with
  | nil => rfl
  | cons c l ih =>
    cases l with
    | nil => rfl
    | cons d l =>
      show sS c ++ Str.ofString "" ++ Str.join (Str.ofString "") ((d :: l).map sS) = _
      rw [ih]
      show (⟨(#[c] ++ (Str.ofString "").cps) ++ (d :: l).toArray⟩ : Str) = _
      rw [str_empty]
      simp
theorem ltCps_one {a b : Nat} (h : ltCps [a] [b] = false) : b ≤ a := by
  simp [ltCps] at h
  exact h
theorem rising_signs : ∀ (l : List Nat) (c : Nat), risingS (sS c) (l.map sS) = true → (c :: l).Pairwise (· ≤ ·)
  | [], c, _ => List.pairwise_singleton _ _
  | d :: l, c, h => by
    have h' : (!ltCps [d] [c] && risingS (sS d) (l.map sS)) = true := h
    rw [Bool.and_eq_true, Bool.not_eq_true'] at h'
    have hd := ltCps_one h'.1
    have ih := rising_signs l d h'.2
    refine List.Pairwise.cons (fun x hx => ?_) ih
    rcases List.mem_cons.mp hx with e | hx
    · rw [e]
      exact hd
    · exact Nat.le_trans hd ((List.pairwise_cons.mp ih).1 x hx)
theorem sorted_signs : ∀ (l : List Nat), sortedS (l.map sS) = true → l.Pairwise (· ≤ ·)
  | [], _ => List.Pairwise.nil
  | c :: l, h => rising_signs l c h
theorem perm_signs {ys : List Str} {l : List Nat} (h : ys.Perm (l.map sS)) : ∃ l' : List Nat, ys = l'.map sS ∧ l'.Perm l := by
  let hd : Str → Nat := fun z => z.cps.toList.headD 0
  refine ⟨ys.map hd, ?_, ?_⟩
  · rw [List.map_map]
    have e : ∀ y ∈ ys, (sS ∘ hd) y = y := fun y hy => by
      obtain ⟨c, _, rfl⟩ := List.mem_map.mp (h.mem_iff.mp hy)
      rfl
    conv => lhs; rw [← List.map_id ys]
    exact (List.map_congr_left e).symm
  · have e := h.map hd
    rw [List.map_map] at e
    have e2 : l.map (hd ∘ sS) = l := by
      conv => rhs; rw [← List.map_id l]
      exact List.map_congr_left fun c _ => rfl
    rw [e2] at e
    exact e
theorem strict_of {l : List Nat} (h : l.Pairwise (· ≤ ·)) (n : l.Nodup) : l.Pairwise (· < ·) := by
  refine (h.and n).imp fun {a b} q => ?_
  have h1 := q.1
  have h2 : a ≠ b := q.2
  omega
theorem map_sg (l : List Nat) : l.map sg = (l.map sS).map V.str := by
  rw [List.map_map]
  rfl
theorem erase_map {α β : Type} (f : α → β) : ∀ (l : List α) (k : Nat), (l.map f).eraseIdx k = (l.eraseIdx k).map f
  | [], _ => rfl
  | _ :: _, 0 => rfl
  | a :: l, k + 1 => by
    show f a :: (l.map f).eraseIdx k = f a :: (l.eraseIdx k).map f
    rw [erase_map f l k]
theorem pop_perm : ∀ {l : List Nat} {k : Nat} {y : Nat}, l[k]? = some y → (y :: l.eraseIdx k).Perm l
  | [], k, y, h => by simp at h
  | a :: l, 0, y, h => by
    have e : a = y := Option.some.inj h
    rw [e]
    exact List.Perm.refl _
  | a :: l, k + 1, y, h => by
    have ih := pop_perm (l := l) (k := k) (y := y) h
    exact (List.Perm.swap a y (l.eraseIdx k)).trans (ih.cons a)
theorem popped {l : List Nat} {k : Nat} {y : Nat} (h : l[k]? = some y) (f : List Nat) : (l.eraseIdx k ++ (f ++ [y])).Perm (l ++ f) := by
  have p := pop_perm h
  have p1 : (l.eraseIdx k ++ (f ++ [y])).Perm ([y] ++ (l.eraseIdx k ++ f)) := by
    rw [← List.append_assoc]
    exact List.perm_append_comm
  refine p1.trans ?_
  rw [← List.append_assoc]
  exact p.append_right f
section
variable {X : Cx}
theorem call_list_txt (hc : X.calm = true := by rfl) : CallR X (.type "list") (fun xs H Q => ∃ z : Str, xs = [.str z] ∧ z.length ≤ sizeLine ∧ ∀ l, H l = none → Q (.ref l) (upd H l (.lst (z.cps.toList.map sg)))) := by
  intro pins s σ H xs us Q I r h
  obtain ⟨z, rfl, hz, q⟩ := h
  obtain ⟨u, rfl, rx⟩ := vals1 r
  obtain ⟨t, rfl⟩ := rx
  refine PySem.call_list_str (I.ok.hd hc) z t (fun h' tk acc c kp e hi => ?_) hz
  have hv := signs_vals hi
  exact ⟨.ref s.heap.objs.size, _, I.laid (t' := tk) kp (Nat.le_refl _) (show ObjOk X.prog X.w _ h' _ (.lst (z.cps.toList.map sg)) from ⟨by rw [List.length_map, Array.length_toList]; exact hz, acc.toList, c, hv, by rw [Array.toArray_toList]; exact e⟩), rfl, q _ (I.hok.fresh (Nat.le_refl _))⟩
end
end My

set_option Elab.async false
set_option linter.all false
set_option maxRecDepth 100000
set_option maxHeartbeats 1000000
namespace My
open PySem PySem.Spec PyProof.Rows L2
/-! ### enumerate over a text, over a tuple -/
def ItEg (go : Nat → Hp → Prop) (val : Nat → Hp → V → Prop) (stop : Nat → Hp → Prop) : It :=
  ⟨go, fun i H v H' => ∃ T x, v = .ref T ∧ H T = none ∧ H' = upd H T (.tup [.int (i : Nat), x]) ∧ val i H x, stop⟩
theorem turn_eg {P : Program} {w : World} {K : PySem.W.Frag} {elts : List Expr} {kk : Nat} {tpos : Pos} {e it : Addr} {Sub : Nat → Heap → Prop} {go stop : Nat → Hp → Prop} {val : Nat → Hp → V → Prop} (hne : e ≠ it)
    (obj : ∀ i h, Sub i h → ∃ o, h.get? it = some o ∧ ∀ v, o.data ≠ .cell v)
    (keep : ∀ i h h', Sub i h → (∀ o, h.get? it = some o → h'.get? it = some o) → Sub i h')
    (draw : ∀ (X : Cx) (pins : List (Addr × Obj)) (σ : L2.St) (H : Hp) (s : Shared) (i : Nat), X.prog = P → X.w = w → X.K = K → X.calm = true → Inv X pins σ H s → (∃ old, IsEnum s.heap e it ((i : Nat) : Int) old) → Sub i s.heap → go i H ∨ stop i H →
      ∃ (fp : List Addr) (n : Nat) (Pd : Nat → Value → Prop) (St : Nat → Heap → Prop), Draws P w X.A.in1 it fp n Pd St ∧ St i s.heap ∧ (∀ j h, St j h → Sub j h) ∧ e ∉ fp ∧ (go i H → i < n) ∧ (stop i H → i = n) ∧ (go i H → ∀ u, Pd i u → ∃ x, RelV x u ∧ val i H x)) :
    Turn P w K (.Tuple elts kk tpos) (ItEg go val stop) [e, it] e (fun i h => (∃ old, IsEnum h e it ((i : Nat) : Int) old) ∧ Sub i h) where
  mem := by simp
  obj := fun i h st b hb => by
    obtain ⟨⟨old, he⟩, hs⟩ := st
    have hb2 : b = e ∨ b = it := by simpa using hb
    rcases hb2 with z | z
    · rw [z]
      exact ⟨_, he, fun v q => nomatch q⟩
    · rw [z]
      exact obj i h hs
  keep := fun i h h' st k => by
    obtain ⟨⟨old, he⟩, hs⟩ := st
    exact ⟨⟨old, k e (by simp) _ he⟩, keep i h h' hs fun o q => k it (by simp) o q⟩
  item := by
    intro X hP hw hK hc i pins s σ H E I hf st hg
    obtain ⟨fp, n, Pd, St, D, hst, hsub, hef, hlt, _, hval⟩ := draw X pins σ H s i hP hw hK hc I st.1 st.2 (.inl hg)
    obtain ⟨⟨old, he⟩, hs⟩ := st
    subst hP hw hK
    have hel : e < s.heap.objs.size := Heap.lt_size he
    have hil : it < s.heap.objs.size := by
      obtain ⟨o, q, _⟩ := obj i _ hs
      exact Heap.lt_size q
    refine wpAny_pyNext_enum_itemC D he hst (hlt hg) hne hef fun u h' tk hu ho hst' hT hsz hk => ?_
    obtain ⟨x, ru, hv⟩ := hval hg u hu
    refine ⟨_, rfl, wpAny_letOwnedTupleGo_enum (s := { s with heap := h', toks := tk + 1 }) ho fun h'' he' sb => ?_⟩
    have hT2 : h''.get? s.heap.objs.size = some { cls := .type "tuple", data := .seq #[.int i tk, u] } := (sb.2 _ (Nat.ne_of_gt hel)).trans hT
    have new : ObjOk X.prog X.w (upd H s.heap.objs.size (.tup [.int (i : Nat), x])) h'' s.heap.objs.size (.tup [.int (i : Nat), x]) := ⟨by show 2 ≤ sizeLine; decide, [.int i tk, u], .cons ⟨_, rfl⟩ (.cons ru .nil), ⟨_, hT2, rfl, _, rfl⟩⟩
    have I1 : Inv X pins σ (upd H s.heap.objs.size (.tup [.int (i : Nat), x])) { s with heap := h'', toks := tk + 1 } :=
      I.turnedNew (ch := [e, it]) (fun b ob hb q => (sb.2 b fun z => hb (by simp [z])).trans (hk b ob (fun z => hb (by simp [z])) (fun z => hb (by simp [z])) q)) hf (Nat.le_refl _) new
    refine ⟨.ref s.heap.objs.size, _, I1, rfl, ⟨_, x, rfl, I.hok.fresh (Nat.le_refl _), rfl, hv⟩, ⟨⟨u, ?_⟩, keep _ _ _ (hsub _ _ hst') fun o q => (sb.2 it (Ne.symm hne)).trans q⟩, fun b hb => ?_⟩
    · have e1 : ((i + 1 : Nat) : Int) = (i : Int) + 1 := by omega
      rw [e1]
      exact he'
    · have hb2 : b = e ∨ b = it := by simpa using hb
      have hb' : b < s.heap.objs.size := by
        rcases hb2 with z | z
        · rw [z]
          exact hel
        · rw [z]
          exact hil
      rw [upd_ne (Nat.ne_of_lt hb')]
      exact (hf b hb).1
  done := by
    intro X hP hw hK hc i pins s σ H E I hf st hg
    obtain ⟨fp, n, Pd, St, D, hst, hsub, hef, _, heq, _⟩ := draw X pins σ H s i hP hw hK hc I st.1 st.2 (.inr hg)
    obtain ⟨⟨old, he⟩, hs⟩ := st
    subst hP hw hK
    have ei := heq hg
    subst ei
    obtain ⟨f0, f1, f2, f3, f4, f5⟩ := hf it (by simp)
    exact wpAny_pyNext_enum_endD D he hst fun h' eb => ⟨rfl, I.turned (t' := s.toks) (fun b o hb q => eb b o hb q) f0 f1 f3 f4 f5⟩
  self := fun A i s Q E st h => by
    obtain ⟨⟨old, he⟩, _⟩ := st
    exact wpAny_pyIter_enum he h
/-- the signs of a text with their places -/
def Ites (z : Str) : It := ItEg (fun i _ => i < z.cps.size) (fun i _ x => ∃ c, z.cps[i]? = some c ∧ x = sg c) (fun i _ => i = z.cps.size)
/-- the items of a tuple with their places -/
def Itet (K : PySem.W.Frag) (a : Addr) : It := ItEg (fun i H => ∃ xs, SqT K H a xs ∧ i < xs.length) (fun i H x => ∀ xs, SqT K H a xs → xs[i]? = some x) (fun i H => ∃ xs, SqT K H a xs ∧ i = xs.length)
theorem turn_es {P : Program} {w : World} {K : PySem.W.Frag} {elts : List Expr} {kk : Nat} {tpos : Pos} {e it : Addr} (z : Str) (t : Tok) (hne : e ≠ it) :
    Turn P w K (.Tuple elts kk tpos) (Ites z) [e, it] e (fun i h => (∃ old, IsEnum h e it ((i : Nat) : Int) old) ∧ h.IsStrIter it (strIterType z) z t i) := by
  refine turn_eg hne (fun i h st => ?_) (fun i h h' st k => ?_) (fun X pins σ H s i hP hw hK hc I hen st hg => ?_)
  · obtain ⟨o, e1, c, d⟩ := st
    exact ⟨o, e1, fun v q => by rw [d] at q; cases q⟩
  · obtain ⟨o, ho, r⟩ := st
    exact ⟨o, k o ho, r⟩
  · have hh : X.A.in1.handled = none := I.ok.hd hc
    subst hP hw hK
    refine ⟨_, _, _, _, Draws.text hh it z t, st, fun _ _ q => q, fun q => hne (by simpa using q), fun q => q, fun q => q, fun _ u hu => ?_⟩
    obtain ⟨c, tk, e1, e2⟩ := hu
    exact ⟨sg c, ⟨tk, e2⟩, c, e1, rfl⟩
theorem turn_et {P : Program} {w : World} {K : PySem.W.Frag} {elts : List Expr} {kk : Nat} {tpos : Pos} {e it : Addr} (a : Addr) (hne : e ≠ it) :
    Turn P w K (.Tuple elts kk tpos) (Itet K a) [e, it] e (fun i h => (∃ old, IsEnum h e it ((i : Nat) : Int) old) ∧ h.IsTupleIter it a i) := by
  refine turn_eg hne (fun i h st => ?_) (fun i h h' st k => ?_) (fun X pins σ H s i hP hw hK hc I hen st hg => ?_)
  · obtain ⟨o, e1, c, d⟩ := st
    exact ⟨o, e1, fun v q => by rw [d] at q; cases q⟩
  · obtain ⟨o, ho, r⟩ := st
    exact ⟨o, k o ho, r⟩
  · have hh : X.A.in1.handled = none := I.ok.hd hc
    subst hP hw hK
    have hx : ∃ xs, SqT X.K H a xs := by
      rcases hg with ⟨xs, q, _⟩ | ⟨xs, q, _⟩
      · exact ⟨xs, q⟩
      · exact ⟨xs, q⟩
    obtain ⟨xs, hq⟩ := hx
    obtain ⟨its, rv, p, hz⟩ := I.tuple hq
    have hl := rv.length
    have same : ∀ ys, SqT X.K H a ys → ys.length = its.length := fun ys hy => by
      rw [I.tuple_inj hy hq]
      exact hl
    have hia : a ≠ it := fun z => by
      obtain ⟨o1, h1, c1, _⟩ := st
      obtain ⟨o2, h2, c2, _⟩ := p
      rw [z] at h2
      rw [h1] at h2
      cases h2
      rw [c1] at c2
      exact absurd c2 (by decide)
    have hea : e ≠ a := fun z => by
      obtain ⟨old, he⟩ := hen
      obtain ⟨o2, h2, c2, _⟩ := p
      rw [← z] at h2
      have he' : s.heap.get? e = some _ := he
      rw [he'] at h2
      cases h2
      exact absurd (show Value.type "enumerate" = Value.type "tuple" from c2) (by decide)
    refine ⟨_, _, _, _, Draws.tuple hh it a hia its.toArray, ⟨st, p⟩, fun _ _ q => q.1, fun q => ?_, fun q => ?_, fun q => ?_, fun q u hu => ?_⟩
    · have q2 : e = it ∨ e = a := by simpa using q
      rcases q2 with z | z
      · exact hne z
      · exact hea z
    · obtain ⟨ys, hy, hi⟩ := q
      have := same ys hy
      simp only [List.size_toArray]
      omega
    · obtain ⟨ys, hy, hi⟩ := q
      have := same ys hy
      simp only [List.size_toArray]
      omega
    · have hu2 : its[i]? = some u := by simpa using hu
      have hi : i < xs.length := by
        have := (List.getElem?_eq_some_iff.mp hu2).1
        omega
      obtain ⟨u', hu', ru⟩ := rv.get (List.getElem?_eq_getElem hi)
      rw [hu2] at hu'
      cases hu'
      refine ⟨xs[i], ru, fun ys hy => ?_⟩
      rw [I.tuple_inj hy hq]
      exact List.getElem?_eq_getElem hi
section
variable {X : Cx}
def iEnumS (ta : TA) : TI := fun σ H R => ta σ H fun vs H1 => ∃ z, vs = [.str z] ∧ R (Ites z) H1
def iEnumT (K : PySem.W.Frag) (ta : TA) : TI := fun σ H R => ta σ H fun vs H1 => ∃ a xs, vs = [.ref a] ∧ SqT K H1 a xs ∧ R (Itet K a) H1
theorem fresh2 {pins : List (Addr × Obj)} {σ : L2.St} {H : Hp} {s : Shared} (I : Inv X pins σ H s) : ∀ b ∈ [s.heap.objs.size + 1, s.heap.objs.size], FpOk X pins H b := fun b hb => by
  have hb2 : b = s.heap.objs.size + 1 ∨ b = s.heap.objs.size := by simpa using hb
  have hle : s.heap.objs.size ≤ b := by
    rcases hb2 with z | z
    · rw [z]
      exact Nat.le_succ _
    · rw [z]
      exact Nat.le_refl _
  exact I.fpOk hle (I.hok.fresh hle)
theorem pi_enumS {e : Expr} {ta : TA} {p pos tpos : Pos} {elts : List Expr} {kk : Nat} (hg : Gl X "enumerate") (hm : X.mg "enumerate" = none) (ha : PA X [e] ta) (hs : starEach [e] X.env = [(false, eval e X.env)] := by rfl) :
    PI X (.Tuple elts kk tpos) (.Call (.Name "enumerate" p) [e] [] pos) (iEnumS ta) := by
  refine ⟨fun pins s σ H R I h => ?_⟩
  refine Call_ (ld_blt I hg hm boot_enumerate (PyProof.Rows.callWith_type1 (thn (ha.run pos pins s σ H _ I h) fun us s1 ⟨vs, H1, I1, r1, q1⟩ => ?_) hs rfl))
  obtain ⟨z, rfl, q⟩ := q1
  obtain ⟨u, rfl, ru⟩ := vals1 r1
  obtain ⟨t, rfl⟩ := ru
  refine call_enumerate_str fun h' he hit hsz hk => wpAny_pyIter_enum he ?_
  exact ⟨s1.heap.objs.size + 1, [s1.heap.objs.size + 1, s1.heap.objs.size], _, _, H1, rfl, I1.kept (t' := s1.toks) hk, turn_es z t (Nat.succ_ne_self _), ⟨⟨.none, he⟩, hit⟩, fresh2 I1, q⟩
theorem meets_enumT (l : Addr) (items : Array Value) (n : Nat) (dct : Option Addr) (sl : Array (Option Value)) :
    Meets (Builtin.«enumerate.__new__» ⟨[.type "enumerate", .ref l], []⟩) (fun _ R s => s.heap.get? l = some ⟨.type "tuple", dct, .seq items n, sl⟩ ∧
      R (.ok (.ret (.ref (s.heap.push { cls := .type "tuple_iterator", data := .fields #[.ref l, .int 0 0] }).objs.size)))
        { s with heap := (s.heap.push { cls := .type "tuple_iterator", data := .fields #[.ref l, .int 0 0] }).push { cls := .type "enumerate", data := .fields #[.none, .bool false, .ref s.heap.objs.size, rawInt 0, .none, .none] } }) :=
  .of_wp fun prog w A R s h => by
    obtain ⟨hp, g, d, tk, os⟩ := s
    obtain ⟨hl, h⟩ := h
    have hsub := sub_enumerate
    have hT : Heap.IsTuple (Shared.heap ⟨hp, g, d, tk, os⟩) l items := ⟨_, hl, rfl, n, rfl⟩
    wp_walk using AutoSeq1.wpAny_loadPart' hl
    refine wpAny_stack_any fun st => wpAny_pure ?_
    split
    · rename_i c _ _ _ _ _
      cases (c == Value.type "enumerate") <;> (wp_walk using AutoSeq1.wpAny_loadPart' hl, wpAny_pyIter_tuple hT; exact ⟨_, rfl, h⟩)
    · wp_walk using AutoSeq1.wpAny_loadPart' hl, wpAny_pyIter_tuple hT
      exact ⟨_, rfl, h⟩
theorem call_enumT {prog : Program} {w : World} {A : Around} {E : Value → Shared → Prop} {s : Shared} {l : Addr} {items : Array Value} {Q : Value → Shared → Prop} (hL : s.heap.IsTuple l items)
    (h : ∀ h', IsEnum h' (s.heap.objs.size + 1) s.heap.objs.size 0 .none → h'.IsTupleIter s.heap.objs.size l 0 → (∀ b o, s.heap.get? b = some o → h'.get? b = some o) → Q (.ref (s.heap.objs.size + 1)) { s with heap := h' }) :
    wpAny (model prog w) A (call (.type "enumerate") [.ref l]) Q E s := by
  obtain ⟨⟨c, dct, dt, sl⟩, hl, hc, n, hd⟩ := hL
  have hc' : c = .type "tuple" := hc
  have hd' : dt = .seq items n := hd
  subst hc' hd'
  refine callType_new F.called_enumerate (by decide) (F.typeCall_enumerate_1 _) (F.newCall_enumerate_1 _) (fun obj => F.args_object_init_2 obj _) F.entry_enumerate_new (meets_enumT l items n dct sl) ⟨hl, ?_⟩
  have hz : (s.heap.push { cls := .type "tuple_iterator", data := .fields #[.ref l, .int 0 0] }).objs.size = s.heap.objs.size + 1 := Heap.size_push ..
  show _ ∧ _
  rw [hz]
  have he : IsEnum ((s.heap.push { cls := .type "tuple_iterator", data := .fields #[.ref l, .int 0 0] }).push { cls := .type "enumerate", data := .fields #[.none, .bool false, .ref s.heap.objs.size, rawInt 0, .none, .none] }) (s.heap.objs.size + 1) s.heap.objs.size 0 .none := by
    have := Heap.get?_push_size (s.heap.push { cls := .type "tuple_iterator", data := .fields #[.ref l, .int 0 0] }) (o := { cls := .type "enumerate", data := .fields #[.none, .bool false, .ref s.heap.objs.size, rawInt 0, .none, .none] }) rfl
    rw [hz] at this
    exact this
  exact ⟨⟨_, he, rfl⟩, h _ he ⟨_, Heap.get?_push_of_some _ (Heap.get?_push_size _ rfl), rfl, rfl⟩ fun b o x => Heap.get?_push_of_some _ (Heap.get?_push_of_some _ x)⟩
theorem pi_enumT {e : Expr} {ta : TA} {p pos tpos : Pos} {elts : List Expr} {kk : Nat} (hg : Gl X "enumerate") (hm : X.mg "enumerate" = none) (ha : PA X [e] ta) (hs : starEach [e] X.env = [(false, eval e X.env)] := by rfl) :
    PI X (.Tuple elts kk tpos) (.Call (.Name "enumerate" p) [e] [] pos) (iEnumT X.K ta) := by
  refine ⟨fun pins s σ H R I h => ?_⟩
  refine Call_ (ld_blt I hg hm boot_enumerate (PyProof.Rows.callWith_type1 (thn (ha.run pos pins s σ H _ I h) fun us s1 ⟨vs, H1, I1, r1, q1⟩ => ?_) hs rfl))
  obtain ⟨a, xs, rfl, hq, q⟩ := q1
  obtain ⟨u, rfl, ru⟩ := vals1 r1
  cases ru
  obtain ⟨its, rv, pl, hz⟩ := I1.tuple hq
  refine call_enumT pl fun h' he hit hk => wpAny_pyIter_enum he ?_
  exact ⟨s1.heap.objs.size + 1, [s1.heap.objs.size + 1, s1.heap.objs.size], _, _, H1, rfl, I1.kept (t' := s1.toks) hk, turn_et a (Nat.succ_ne_self _), ⟨⟨.none, he⟩, hit⟩, fresh2 I1, q⟩
end
theorem walk_es {z : Str} : Walk (Ites z) z.cps.size (fun _ => True) (YPair (fun i => some (.int (i : Nat))) (fun i => z.cps[i]?.map sg)) := by
  refine ⟨fun _ _ hi _ => hi, fun _ _ => rfl, fun i H v H' hi _ y => ?_⟩
  obtain ⟨T, x, h1, h2, h3, c, h4, h5⟩ := y
  exact ⟨T, .int (i : Nat), x, h1, h2, h3, rfl, by show Option.map sg z.cps[i]? = some x; rw [h4, h5]; rfl⟩
theorem walk_et {K : PySem.W.Frag} {a : Addr} {xs : List V} : Walk (Itet K a) xs.length (fun H => SqT K H a xs) (YPair (fun i => some (.int (i : Nat))) (fun i => xs[i]?)) := by
  refine ⟨fun _ _ hi q => ⟨xs, q, hi⟩, fun _ q => ⟨xs, q, rfl⟩, fun i H v H' hi q y => ?_⟩
  obtain ⟨T, x, h1, h2, h3, h4⟩ := y
  exact ⟨T, .int (i : Nat), x, h1, h2, h3, rfl, h4 xs q⟩
end My

set_option Elab.async false
set_option linter.all false
set_option maxRecDepth 100000
set_option maxHeartbeats 1000000
namespace My
open PySem PySem.Spec PyProof.Rows L2
/-! ### calls by named readings -/
def rLenSq (K : PySem.W.Frag) : List V → Hp → VK → Prop := fun xs H Q => ∃ p ys, xs = [.ref p] ∧ (SqL K H p ys ∨ SqT K H p ys) ∧ Q (.int (ys.length : Nat)) H
def rListSq (K : PySem.W.Frag) : List V → Hp → VK → Prop := fun xs H Q => ∃ p ys, xs = [.ref p] ∧ (SqL K H p ys ∨ SqT K H p ys) ∧ ∀ l, H l = none → Q (.ref l) (upd H l (.lst ys))
def rTupSq (K : PySem.W.Frag) : List V → Hp → VK → Prop := fun xs H Q => ∃ p ys, xs = [.ref p] ∧ ((SqL K H p ys ∧ ∀ l, H l = none → Q (.ref l) (upd H l (.tup ys))) ∨ (SqT K H p ys ∧ Q (.ref p) H))
section
variable (K : PySem.W.Frag) {X : Cx}
theorem cLenSq (hK : X.K = K := by rfl) : CallR X (.builtin "len") (rLenSq K) := by
  subst hK
  exact call_len_seq
theorem cListSq (hK : X.K = K := by rfl) : CallR X (.type "list") (rListSq K) := by
  subst hK
  exact call_list_of
theorem cTupSq (hK : X.K = K := by rfl) : CallR X (.type "tuple") (rTupSq K) := by
  subst hK
  exact call_tuple_of
theorem ixL (hK : X.K = K := by rfl) : IxR X (rIxL K) := by
  subst hK
  exact ix_list
theorem ixT (hK : X.K = K := by rfl) : IxR X (rIxT K) := by
  subst hK
  exact ix_tup
theorem piL {tg l : Expr} {tl : TE} (hl : PE X l tl) (hK : X.K = K := by rfl) : PI X tg l (iList K tl) := by
  subst hK
  exact pi_list hl
theorem piT {tg l : Expr} {tl : TE} (hl : PE X l tl) (hK : X.K = K := by rfl) : PI X tg l (iTup K tl) := by
  subst hK
  exact pi_tup hl
theorem pgT {es : List Expr} {k : Nat} {t : TGs} {n : Nat} {pos : Pos} (h : PGs X es t) (hK : X.K = K := by rfl) (hc : X.calm = true := by rfl) (hn : (assignEach es X.env).length = n := by rfl) (hst : (assignEach es X.env).findIdx? (·.1) = none := by rfl) : PG X (.Tuple es k pos) (gTup K n t) := by
  subst hK
  exact pg_tup hc h hn hst
theorem inSq (hK : X.K = K := by rfl) : OpR X (compareOp .In) (rIn K false) := by
  subst hK
  exact op_in_seq
theorem notInSq (hK : X.K = K := by rfl) : OpR X (compareOp .NotIn) (rIn K true) := by
  subst hK
  exact op_notIn_seq
theorem eqDK (hu : X.A.units + 64 < cLine) (hK : X.K = K := by rfl) : OpR X (compareOp .Eq) (rEqD K) := by
  subst hK
  exact op_eqD hu
theorem neDK (hu : X.A.units + 64 < cLine) (hK : X.K = K := by rfl) : OpR X (compareOp .NotEq) (rNeD K) := by
  subst hK
  exact op_neD hu
theorem bmK {T id : String} {name : Str} {r : V → List V → Hp → VK → Prop} {o e : Expr} {es : List Expr} {to : TE} {t : TA} {apos cpos : Pos} (pa : PlainAttrs T) (slot : Slot T name id) (hty : typeOf (.builtin id) = pure (.type "method_descriptor")) (hm : MtR X id r) (ho : PE X o to) (ha : PA X (e :: es) t) (hK : X.K = K := by rfl)
    (hbase : attributeBase o name X.env (eval o X.env) = eval o X.env := by rfl)
    (hfew : ((backTo cpos (starEach (e :: es) X.env)).all (fun x => !x.1) && (backToKw cpos (keywordEach [] X.env)).all (fun x => x.1.isSome) && decide ((e :: es).length + ([] : List Keyword).length + (if ([] : List Keyword).isEmpty then 0 else 1) < 30)) = true := by rfl)
    (hline : (apos.endLine == cpos.line) = true := by rfl) (hs : starEach (e :: es) X.env = (false, eval e X.env) :: starEach es X.env := by rfl) (hplain : (backTo cpos (starEach es X.env)).any (·.1) = false := by rfl) :
    PE X (.Call (.Attribute o name apos) (e :: es) [] cpos) (tBM K T r to t) := by
  subst hK
  exact pe_bm pa slot hty hm ho ha hbase hfew hline hs hplain
theorem enumTK {e : Expr} {ta : TA} {p pos tpos : Pos} {elts : List Expr} {kk : Nat} (hg : Gl X "enumerate") (hm : X.mg "enumerate" = none) (ha : PA X [e] ta) (hK : X.K = K := by rfl) (hs : starEach [e] X.env = [(false, eval e X.env)] := by rfl) :
    PI X (.Tuple elts kk tpos) (.Call (.Name "enumerate" p) [e] [] pos) (iEnumT K ta) := by
  subst hK
  exact pi_enumT hg hm ha hs
theorem isiK (hK : X.K = K := by rfl) : CallR X (.builtin "isinstance") (rIsi K) := by
  subst hK
  exact call_isi
end
/-! ### frozen data: numbers, texts, None, truths, tuples of these -/
mutual
inductive Fz (H : Hp) : V → PyData → Prop
  | non : Fz H .non .none
  | bl (b : Bool) : Fz H (.bl b) (.bool b)
  | int (i : Int) : Fz H (.int i) (.int i)
  | str (x : Str) : Fz H (.str x) (.str x)
  | tup {a : Addr} {xs : List V} {ds : List PyData} : H a = some (.tup xs) → FzA H xs ds → Fz H (.ref a) (.tuple ds)
inductive FzA (H : Hp) : List V → List PyData → Prop
  | nil : FzA H [] []
  | cons {v : V} {vs : List V} {d : PyData} {ds : List PyData} : Fz H v d → FzA H vs ds → FzA H (v :: vs) (d :: ds)
end
/-- tuples stay -/
def Kt (H H' : Hp) : Prop := ∀ b xs, H b = some (.tup xs) → H' b = some (.tup xs)
theorem Kt.rfl' {H : Hp} : Kt H H := fun _ _ h => h
theorem Kt.trans {H H1 H2 : Hp} (a : Kt H H1) (b : Kt H1 H2) : Kt H H2 := fun c o h => b c o (a c o h)
theorem Kt.new {H : Hp} {p : Addr} {o : HO} (n : H p = none) : Kt H (upd H p o) := fun b xs h => by
  rw [upd_ne (ne_of_none h n)]
  exact h
theorem Kt.lst {H : Hp} {p : Addr} {xs : List V} {o : HO} (n : H p = some (.lst xs)) : Kt H (upd H p o) := fun b ys h => by
  have e : b ≠ p := fun z => by
    rw [z, n] at h
    cases h
  rw [upd_ne e]
  exact h
theorem Kt.dct {H : Hp} {p : Addr} {xs : List (Key × V)} {o : HO} (n : H p = some (.dK xs)) : Kt H (upd H p o) := fun b ys h => by
  have e : b ≠ p := fun z => by
    rw [z, n] at h
    cases h
  rw [upd_ne e]
  exact h
theorem Kp.kt {r : Addr} {H H' : Hp} {xs : List V} (k : Kp r H H') (h : H r = some (.lst xs)) : Kt H H' := fun b ys e => k b _ (fun z => by
  rw [z, h] at e
  cases e) e
theorem Same.kt {H H' : Hp} (k : Same H H') : Kt H H' := fun b ys e => k b _ e
mutual
theorem Fz.mono {H H' : Hp} (k : Kt H H') : ∀ (d : PyData) (v : V), Fz H v d → Fz H' v d
  | .none, _, .non => .non
  | .bool _, _, .bl b => .bl b
  | .int _, _, .int i => .int i
  | .str _, _, .str x => .str x
  | .tuple ds, _, .tup h a => .tup (k _ _ h) (FzA.mono k ds _ a)
theorem FzA.mono {H H' : Hp} (k : Kt H H') : ∀ (ds : List PyData) (vs : List V), FzA H vs ds → FzA H' vs ds
  | [], _, .nil => .nil
  | d :: ds, _, .cons h a => .cons (Fz.mono k d _ h) (FzA.mono k ds _ a)
end
theorem Fz.kt {H H' : Hp} {v : V} {d : PyData} (h : Fz H v d) (k : Kt H H') : Fz H' v d := Fz.mono k d v h
theorem FzA.kt {H H' : Hp} {vs : List V} {ds : List PyData} (h : FzA H vs ds) (k : Kt H H') : FzA H' vs ds := FzA.mono k ds vs h
mutual
theorem Fz.dp {K : PySem.W.Frag} {H : Hp} : ∀ (d : PyData) (v : V), Fz H v d → Dp K H v d
  | .none, _, .non => .non
  | .bool _, _, .bl b => .bl b
  | .int _, _, .int i => .int i
  | .str _, _, .str x => .str x
  | .tuple ds, _, .tup h a => .tup (.inl (.inl h)) (FzA.dp ds _ a)
theorem FzA.dp {K : PySem.W.Frag} {H : Hp} : ∀ (ds : List PyData) (vs : List V), FzA H vs ds → DpAll K H vs ds
  | [], _, .nil => .nil
  | d :: ds, _, .cons h a => .cons (Fz.dp d _ h) (FzA.dp ds _ a)
end
theorem Fz.to {K : PySem.W.Frag} {H : Hp} {v : V} {d : PyData} (h : Fz H v d) : Dp K H v d := Fz.dp d v h
theorem FzA.len : ∀ {H : Hp} {vs : List V} {ds : List PyData}, FzA H vs ds → vs.length = ds.length
  | _, _, _, .nil => rfl
  | _, _, _, .cons _ a => by
    rw [List.length_cons, List.length_cons, FzA.len a]
theorem FzA.get : ∀ {H : Hp} {vs : List V} {ds : List PyData} {i : Nat} {d : PyData}, FzA H vs ds → ds[i]? = some d → ∃ v, vs[i]? = some v ∧ Fz H v d
  | _, _, _, _, _, .nil, h => by simp at h
  | _, _, _, 0, _, .cons a _, h => ⟨_, rfl, Option.some.inj h ▸ a⟩
  | _, _, _, i + 1, _, .cons _ a, h => FzA.get (i := i) a h
theorem FzA.getV : ∀ {H : Hp} {vs : List V} {ds : List PyData} {i : Nat} {v : V}, FzA H vs ds → vs[i]? = some v → ∃ d, ds[i]? = some d ∧ Fz H v d
  | _, _, _, _, _, .nil, h => by simp at h
  | _, _, _, 0, _, .cons a _, h => ⟨_, rfl, Option.some.inj h ▸ a⟩
  | _, _, _, i + 1, _, .cons _ a, h => FzA.getV (i := i) a h
theorem FzA.app : ∀ {H : Hp} {vs ws : List V} {ds es : List PyData}, FzA H vs ds → FzA H ws es → FzA H (vs ++ ws) (ds ++ es)
  | _, _, _, _, _, .nil, b => b
  | _, _, _, _, _, .cons a r, b => .cons a (FzA.app r b)
theorem FzA.snoc {H : Hp} {vs : List V} {ds : List PyData} {v : V} {d : PyData} (a : FzA H vs ds) (b : Fz H v d) : FzA H (vs ++ [v]) (ds ++ [d]) := a.app (.cons b .nil)
theorem FzA.ints : ∀ {H : Hp} {ns : List Int} {vs : List V}, FzA H vs (ns.map PyData.int) → vs = ns.map V.int
  | _, [], _, .nil => rfl
  | _, n :: ns, _, .cons (.int _) a => by
    rw [FzA.ints (ns := ns) a]
    rfl
theorem FzA.ofInts : ∀ {H : Hp} {ns : List Int}, FzA H (ns.map V.int) (ns.map PyData.int)
  | _, [] => .nil
  | _, n :: ns => .cons (.int n) (FzA.ofInts (ns := ns))
/-- a tuple, opened -/
theorem Fz.open {H : Hp} {v : V} {ds : List PyData} (h : Fz H v (.tuple ds)) : ∃ (a : Addr) (xs : List V), v = .ref a ∧ H a = some (.tup xs) ∧ FzA H xs ds := by
  cases h with
  | tup h a => exact ⟨_, _, rfl, h, a⟩
theorem FzA.one {H : Hp} {vs : List V} {d : PyData} (h : FzA H vs [d]) : ∃ x, vs = [x] ∧ Fz H x d := by
  cases h with
  | cons a r =>
    cases r
    exact ⟨_, rfl, a⟩
theorem FzA.two {H : Hp} {vs : List V} {d e : PyData} (h : FzA H vs [d, e]) : ∃ x y, vs = [x, y] ∧ Fz H x d ∧ Fz H y e := by
  cases h with
  | cons a r =>
    obtain ⟨y, rfl, b⟩ := r.one
    exact ⟨_, y, rfl, a, b⟩
theorem FzA.three {H : Hp} {vs : List V} {d e f : PyData} (h : FzA H vs [d, e, f]) : ∃ x y z, vs = [x, y, z] ∧ Fz H x d ∧ Fz H y e ∧ Fz H z f := by
  cases h with
  | cons a r =>
    obtain ⟨y, z, rfl, b, c⟩ := r.two
    exact ⟨_, y, z, rfl, a, b, c⟩
theorem Fz.isStr {H : Hp} {v : V} {x : Str} (h : Fz H v (.str x)) : v = .str x := by
  cases h
  rfl
theorem Fz.isInt {H : Hp} {v : V} {i : Int} (h : Fz H v (.int i)) : v = .int i := by
  cases h
  rfl
theorem Fz.isNon {H : Hp} {v : V} (h : Fz H v .none) : v = .non := by
  cases h
  rfl
/-- a tuple just made -/
theorem Fz.made {H : Hp} {p : Addr} {xs : List V} {ds : List PyData} (n : H p = Option.none) (h : FzA H xs ds) : Fz (upd H p (.tup xs)) (.ref p) (.tuple ds) := .tup upd_same (h.kt (.new n))
theorem at_ints {ns : List Int} {d : Int} (h0 : 0 ≤ d) (h1 : d < (ns.length : Nat)) : ∃ t ∈ ns, atI (ns.map V.int) d = some (.int t) := by
  have hd : d.toNat < ns.length := by omega
  refine ⟨ns[d.toNat], List.getElem_mem hd, L2.at_of (j := d.toNat) (by omega) ?_⟩
  rw [List.getElem?_map, List.getElem?_eq_getElem hd]
  rfl
/-! ### tables -/
abbrev rowD (row : List Int) : PyData := .tuple (row.map PyData.int)
abbrev rowsD (rows : List (List Int)) : PyData := .tuple (rows.map rowD)
abbrev tabD (cols : List Nat) (rows : List (List Int)) : PyData := .tuple [.str ⟨cols.toArray⟩, rowsD rows]
/-- rising unlike letters -/
structure Cols (l : List Nat) : Prop where
  up : l.Pairwise (· < ·)
  az : ∀ c ∈ l, 97 ≤ c ∧ c ≤ 122
theorem Cols.nd {l : List Nat} (c : Cols l) : l.Nodup := c.up.imp fun {a b} h => by
  have : a < b := h
  omega
def RowOk (n : Nat) (row : List Int) : Prop := row.length = n ∧ ∀ x ∈ row, 0 ≤ x ∧ x < 1000
def RowsOk (n : Nat) (rows : List (List Int)) : Prop := ∀ row ∈ rows, RowOk n row
theorem row_open {H : Hp} {v : V} {row : List Int} (h : Fz H v (rowD row)) : ∃ a, v = .ref a ∧ H a = some (.tup (row.map V.int)) := by
  obtain ⟨a, xs, rfl, ha, f⟩ := h.open
  rw [FzA.ints f] at ha
  exact ⟨a, rfl, ha⟩
theorem row_made {H : Hp} {p : Addr} {row : List Int} (n : H p = none) : Fz (upd H p (.tup (row.map V.int))) (.ref p) (rowD row) := Fz.made n FzA.ofInts
theorem tab_open {H : Hp} {v : V} {cols : List Nat} {rows : List (List Int)} (h : Fz H v (tabD cols rows)) : ∃ (t R : Addr) (vs : List V), v = .ref t ∧ H t = some (.tup [tx cols, .ref R]) ∧ H R = some (.tup vs) ∧ FzA H vs (rows.map rowD) := by
  obtain ⟨t, xs, rfl, ht, f⟩ := h.open
  obtain ⟨x, y, rfl, fx, fy⟩ := f.two
  obtain ⟨R, vs, rfl, hR, fv⟩ := fy.open
  rw [fx.isStr] at ht
  exact ⟨t, R, vs, rfl, ht, hR, fv⟩
theorem can_row (row : List Int) : PyData.canLay0 (rowD row) = true := by
  show PyData.canLayAll0 (row.map PyData.int) = true
  induction row with
  | nil => rfl
  | cons a r ih =>
    show (PyData.canLay0 (.int a) && PyData.canLayAll0 (r.map PyData.int)) = true
    rw [ih]
    rfl
theorem can_rows (rows : List (List Int)) : PyData.canLay0 (rowsD rows) = true := by
  show PyData.canLayAll0 (rows.map rowD) = true
  induction rows with
  | nil => rfl
  | cons a r ih =>
    show (PyData.canLay0 (rowD a) && PyData.canLayAll0 (r.map rowD)) = true
    rw [ih, can_row]
    rfl
theorem dep_row (row : List Int) : PyData.depth (rowD row) ≤ 1 := by
  show PyData.depthAll (row.map PyData.int) + 1 ≤ 1
  induction row with
  | nil => exact Nat.le_refl _
  | cons a r ih =>
    show max (PyData.depth (.int a)) (PyData.depthAll (r.map PyData.int)) + 1 ≤ 1
    have e : PyData.depth (.int a) = 0 := rfl
    rw [e]
    omega
theorem dep_rows (rows : List (List Int)) : PyData.depth (rowsD rows) ≤ 2 := by
  show PyData.depthAll (rows.map rowD) + 1 ≤ 2
  induction rows with
  | nil => decide
  | cons a r ih =>
    show max (PyData.depth (rowD a)) (PyData.depthAll (r.map rowD)) + 1 ≤ 2
    have := dep_row a
    omega
theorem shaped_rows (rows : List (List Int)) : SeqAt.shaped (rowsD rows) = true := by
  unfold SeqAt.shaped
  rw [can_rows, Bool.true_and]
  have := dep_rows rows
  exact decide_eq_true (by omega)
/-! ### questions -/
abbrev eqD (p : Nat × Int) : PyData := .tuple [.str ⟨#[p.1]⟩, .int p.2]
abbrev rchD : Option (Nat × Int × Int) → PyData
  | none => .none
  | some (c, lo, hi) => .tuple [.str ⟨#[c]⟩, .int lo, .int hi]
structure QOk (cols : List Nat) (es : List (Nat × Int)) (rc : Option (Nat × Int × Int)) : Prop where
  up : (es.map (·.1)).Pairwise (· < ·)
  ok : ∀ p ∈ es, p.1 ∈ cols ∧ 0 ≤ p.2 ∧ p.2 < 1000
  len : es.length ≤ cols.length
  rc : ∀ c lo hi, rc = some (c, lo, hi) → c ∈ cols ∧ c ∉ es.map (·.1) ∧ 0 ≤ lo ∧ lo ≤ hi ∧ hi < 1000
theorem idx_first : ∀ {l : List Nat} {c i : Nat}, l[i]? = some c → (∀ k, k < i → l[k]? ≠ some c) → l.idxOf c = i
  | [], c, i, h, _ => by simp at h
  | a :: l, c, 0, h, _ => by
    have e : a = c := Option.some.inj h
    rw [e]
    simp
  | a :: l, c, i + 1, h, hn => by
    have e : a ≠ c := fun z => hn 0 (Nat.succ_pos _) (by rw [z]; rfl)
    have ih := idx_first (l := l) (c := c) (i := i) h fun k hk => hn (k + 1) (Nat.succ_lt_succ hk)
    rw [List.idxOf_cons, ih]
    have eb : (a == c) = false := by simp [e]
    rw [eb]
    rfl
theorem dp_signs {K : PySem.W.Frag} {H : Hp} : ∀ l : List Nat, DpAll K H (l.map sg) (l.map fun c => PyData.str (sS c))
  | [] => .nil
  | c :: l => .cons (.str _) (dp_signs l)
theorem shaped_signs {l : List Nat} (h : ∀ c ∈ l, c ≤ 122) : SeqAt.shaped (.list (l.map fun c => PyData.str (sS c))) = true := by
  have e1 : PyData.canLayAll0 (l.map fun c => PyData.str (sS c)) = true := by
    induction l with
    | nil => rfl
    | cons c l ih =>
      show (PyData.canLay0 (.str (sS c)) && PyData.canLayAll0 (l.map fun c => PyData.str (sS c))) = true
      rw [ih fun d hd => h d (List.mem_cons_of_mem _ hd), Bool.and_true]
      have hc := h c (List.mem_cons_self ..)
      show (#[c] : Array Nat).all (· < 0x110000) = true
      simp
      omega
  have e2 : PyData.depthAll (l.map fun c => PyData.str (sS c)) = 0 := by
    clear h e1
    induction l with
    | nil => rfl
    | cons c l ih =>
      show max (PyData.depth (.str (sS c))) (PyData.depthAll (l.map fun c => PyData.str (sS c))) = 0
      rw [ih]
      rfl
  unfold SeqAt.shaped
  show (PyData.canLayAll0 _ && decide (PyData.depthAll _ + 1 ≤ 64)) = true
  rw [e1, e2]
  rfl
/-- the place of a letter -/
theorem ix_one {l : List Nat} {c : Nat} (h : c ∈ l) : ∃ r, Builtin.Str.occurrences (⟨l.toArray⟩ : Str) ⟨#[c]⟩ 0 (⟨l.toArray⟩ : Str).length 1 = l.idxOf c :: r := by
  have hx : (⟨l.toArray⟩ : Str).cps.toList = l := by simp
  rcases PySem.StrLaws.occ_head (⟨l.toArray⟩ : Str) ⟨#[c]⟩ 1 (Nat.le_refl 1) with ⟨h0, hn⟩ | ⟨i, r, h0, ha, hn⟩
  · exfalso
    obtain ⟨i, hi⟩ := List.mem_iff_getElem?.mp h
    exact hn i ((PySem.StrLaws.subAt_one _ c i).mpr (by rw [hx]; exact hi))
  · refine ⟨r, ?_⟩
    rw [h0]
    have e1 : l[i]? = some c := by
      have := (PySem.StrLaws.subAt_one _ c i).mp ha
      rw [hx] at this
      exact this
    have e3 : l.idxOf c = i := idx_first e1 fun k hk z => hn k hk ((PySem.StrLaws.subAt_one _ c k).mpr (by rw [hx]; exact z))
    rw [e3]
end My

set_option Elab.async false
set_option linter.all false
set_option maxRecDepth 100000
set_option maxHeartbeats 1000000
namespace My
open PySem PySem.Spec PyProof.Rows L2
/-! ### name = {.. for ..} on one line -/
section
variable {X : Cx} {pins : List (Addr × Obj)} {σ : L2.St} {H : Hp} {s : Shared}
/-- an object of the frame's own at C may become anything: all that is known stays -/
theorem past {C : Addr} {h' : Heap} {t' : Nat} (I : Inv X pins σ H s) (f : FpOk X pins H C) (kp : ∀ b u, b ≠ C → s.heap.get? b = some u → h'.get? b = some u) : Inv X pins σ H { s with heap := h', toks := t' } :=
  I.turned kp f.1 f.2.1 f.2.2.2.1 f.2.2.2.2.1 f.2.2.2.2.2
/-- it is neither the frame's dict nor one of its cells -/
theorem apart_of {C a : Addr} {y : Str} (f : FpOk X pins H C) (ha : a = X.env.locals ∨ X.env.cells.lookup y = some a) : C ≠ a := fun z =>
  ha.elim (fun e => f.2.1 (z.trans e)) fun e => f.2.2.2.2.1 y a e z.symm
/-- the dict that was made goes to the name y while the comprehension's frame C is still there -/
theorem kept_at {C L : Addr} {m : Str → Option Value} {i : Nat} {y : Str} {py : Pos} {D : Ends} {E : Value → Shared → Prop} (I : Inv X pins σ H s) (f : FpOk X pins H C) (hn : s.heap.Ns C m) (hN : X.N.Nodup) (hy : X.N[i]? = some y) (hyl : X.env.scope.names.lookup y = some .local)
    (q : D.nx (σ.set i (some (.ref L))) H) : wpAny (model X.prog X.w) X.A (assign (.Name y py) X.env (.ref L)) (fun _ s' => ∃ m', s'.heap.Ns C m' ∧ ∀ h3, Heap.SameBut C s'.heap h3 → SP X pins D .next { s' with heap := h3 }) E s :=
  wpAny_assign_Name (store_ok2 (v := .ref L) I hN hy (.inl hyl) rfl (fun s2 J ⟨_, sb, ha⟩ => ⟨m, hn.sameBut sb (apart_of f ha), fun h3 sb3 => ⟨_, H, past (t' := s2.toks) J f fun b u ne e => (sb3.2 b ne).trans e, q⟩⟩) (.inr hyl))
theorem ps_setDc {i : Nat} {y : Str} {py : Pos} {kx vx tg iter : Expr} {ifs : List Expr} {scope : Scope} {own : List (Str × Nat)} {pos spos : Pos} {wi : TI} {g : TG} {tt : TT} {tk tv : TE} (hc : X.calm = true) (hN : X.N.Nodup) (hy : X.N[i]? = some y) (hyl : X.env.scope.names.lookup y = some .local)
    (hsw : swapsWith (.DictComp kx vx [⟨tg, iter, ifs, 0⟩] scope pos) (some (.Name y py)) spos.line X.env = pure true) (hi : PI X tg iter wi) (ok : BlkOk X.N X.env.scope scope own)
    (hg : ∀ (s : Shared) (H : Hp) (C : Addr) (cl : List (Str × Addr)) (fp : List Addr), PG (X.blk s H scope (compEnvC scope cl C X.env) fp) tg g)
    (ht : ∀ (s : Shared) (H : Hp) (C : Addr) (cl : List (Str × Addr)) (fp : List Addr), PTs (X.blk s H scope (compEnvC scope cl C X.env) fp) ifs tt)
    (kp : ∀ (s : Shared) (H : Hp) (C : Addr) (cl : List (Str × Addr)) (fp : List Addr), PE (X.blk s H scope (compEnvC scope cl C X.env) fp) kx tk)
    (vp : ∀ (s : Shared) (H : Hp) (C : Addr) (cl : List (Str × Addr)) (fp : List Addr), PE (X.blk s H scope (compEnvC scope cl C X.env) fp) vx tv) (hs : ∀ x, foldedSetIterable iter X.env x = pure x := by intro _; rfl) :
    PS X (.Assign [.Name y py] (.DictComp kx vx [⟨tg, iter, ifs, 0⟩] scope pos) spos) (tAsg (tDc wi g tt tk tv (own.map (·.2))) (gName i)) := by
  constructor
  intro pins s σ H D I h
  have made := dc_core (pos := pos) (pos' := firstIterPos [⟨tg, iter, ifs, 0⟩] pos) (use := some (assign (.Name y py) X.env)) (Qf := fun _ s' => SP X pins D .next s') (Q := fun x H1 => gName i x σ H1 D.nx) hc hN I hi ok hg ht kp vp hs h
    fun L C s' m H' I' q hn f => kept_at I' f hn hN hy hyl q
  rw [exec_Assign_Name_used _ _ _ _ hsw]
  exact wpAny_bind (wpAny_standAt (wpAny_bind (wpAny_bind (thn made fun _ _ z => wpAny_pure (wpAny_pure z)))))
end
theorem sw_dict {kx vx : Expr} {gs : List Comprehension} {scope : Scope} {pos py : Pos} {y : Str} {l : Nat} {env : Env} (hk : env.scope.kind = .function) (hy : env.scope.names.lookup y = some .local) (hl : (py.line == pos.line) = true)
    (ha : (scope.names.any fun (n, k) => n == y && (k == .local || k == .cell)) = false) : swapsWith (.DictComp kx vx gs scope pos) (some (.Name y py)) l env = pure true :=
  Eq.trans (b := swapsWith (.ListComp kx gs scope pos) (some (.Name y py)) l env) rfl (sw_true hk hy hl ha)
/-! ### spans: letters with their bounds -/
inductive SpA (H : Hp) : List (Key × V) → List (Nat × Int × Int) → Prop
  | nil : SpA H [] []
  | cons {p : Addr} {c : Nat} {lo hi : Int} {kvs : List (Key × V)} {l : List (Nat × Int × Int)} : H p = some (.tup [.int lo, .int hi]) → SpA H kvs l → SpA H ((Sum.inr (sS c), .ref p) :: kvs) ((c, lo, hi) :: l)
theorem SpA.kt {H H' : Hp} {kvs : List (Key × V)} {l : List (Nat × Int × Int)} (h : SpA H kvs l) (k : Kt H H') : SpA H' kvs l := by
  induction h with
  | nil => exact .nil
  | cons a _ ih => exact .cons (k _ _ a) ih
theorem SpA.snoc {H : Hp} {kvs : List (Key × V)} {l : List (Nat × Int × Int)} {p : Addr} {c : Nat} {lo hi : Int} (h : SpA H kvs l) (hp : H p = some (.tup [.int lo, .int hi])) : SpA H (kvs ++ [(Sum.inr (sS c), .ref p)]) (l ++ [(c, lo, hi)]) := by
  induction h with
  | nil => exact .cons hp .nil
  | cons a _ ih => exact .cons a ih
theorem SpA.len {H : Hp} {kvs : List (Key × V)} {l : List (Nat × Int × Int)} (h : SpA H kvs l) : kvs.length = l.length := by
  induction h with
  | nil => rfl
  | cons _ _ ih => rw [List.length_cons, List.length_cons, ih]
theorem sS_inj {a b : Nat} (h : sS a = sS b) : a = b := by
  have z3 : (#[a] : Array Nat) = #[b] := congrArg Str.cps h
  simpa using z3
theorem SpA.none {H : Hp} {kvs : List (Key × V)} {l : List (Nat × Int × Int)} {c : Nat} (h : SpA H kvs l) (n : c ∉ l.map (·.1)) : valV kvs (Sum.inr (sS c)) = Option.none := by
  induction h with
  | nil => rfl
  | @cons p d lo hi kvs l a r ih =>
    rw [valV_neg (fun z => n ?_)]
    · exact ih fun q => n (List.mem_cons_of_mem _ q)
    · have : d = c := sS_inj (Sum.inr.inj z)
      rw [← this]
      exact List.mem_cons_self ..
/-- at its place: the letter's entry -/
theorem SpA.get {H : Hp} {kvs : List (Key × V)} {l : List (Nat × Int × Int)} (h : SpA H kvs l) {i : Nat} {k : Key} {v : V} (e : kvs[i]? = some (k, v)) : ∃ (p : Addr) (c : Nat) (lo hi : Int), k = Sum.inr (sS c) ∧ v = .ref p ∧ H p = some (.tup [.int lo, .int hi]) ∧ l[i]? = some (c, lo, hi) := by
  induction h generalizing i with
  | nil => simp at e
  | @cons p c lo hi kvs l a r ih =>
    cases i with
    | zero =>
      have z := Option.some.inj e
      cases z
      exact ⟨p, c, lo, hi, rfl, rfl, a, rfl⟩
    | succ i => exact ih (i := i) e
theorem SpA.look {H : Hp} {kvs : List (Key × V)} {l : List (Nat × Int × Int)} (h : SpA H kvs l) (nd : (l.map (·.1)).Nodup) {c : Nat} {lo hi : Int} (m : (c, lo, hi) ∈ l) : ∃ p, valV kvs (Sum.inr (sS c)) = some (.ref p) ∧ H p = some (.tup [.int lo, .int hi]) := by
  induction h with
  | nil => cases m
  | @cons p d lo' hi' kvs l a r ih =>
    rcases List.mem_cons.mp m with z | z
    · cases z
      exact ⟨p, valV_pos rfl, a⟩
    · have nd2 := List.nodup_cons.mp nd
      have hdc : d ≠ c := fun q => nd2.1 (by
        have := List.mem_map_of_mem (f := fun x : Nat × Int × Int => x.1) z
        rw [q]
        exact this)
      obtain ⟨p', h1, h2⟩ := ih nd2.2 z
      refine ⟨p', ?_, h2⟩
      rw [valV_neg (fun q => hdc (sS_inj (Sum.inr.inj q)))]
      exact h1
def spanL (es : List (Nat × Int)) (rc : Option (Nat × Int × Int)) : List (Nat × Int × Int) := es.map (fun p => (p.1, p.2, p.2)) ++ rc.toList
theorem spanL_keys (es : List (Nat × Int)) : (es.map (fun p => (p.1, p.2, p.2))).map (·.1) = es.map (·.1) := by
  rw [List.map_map]
  rfl
theorem spanL_nd {cols : List Nat} {es : List (Nat × Int)} {rc : Option (Nat × Int × Int)} (h : QOk cols es rc) : ((spanL es rc).map (·.1)).Nodup := by
  have h1 : (es.map (·.1)).Nodup := h.up.imp fun {a b} q => by
    have : a < b := q
    omega
  unfold spanL
  rw [List.map_append, spanL_keys]
  cases rc with
  | none => simpa using h1
  | some t =>
    obtain ⟨c, lo, hi⟩ := t
    have := (h.rc c lo hi rfl).2.1
    show (es.map (·.1) ++ [c]).Nodup
    refine List.nodup_append.mpr ⟨h1, by simp, fun a ha b hb z => ?_⟩
    rw [List.mem_singleton.mp hb] at z
    rw [z] at ha
    exact this ha
/-! ### what fits -/
def rowAt (cols : List Nat) (row : List Int) (c : Nat) : Int := row.getD (cols.idxOf c) 0
def spanFit (cols : List Nat) (row : List Int) (p : Nat × Int × Int) : Bool := decide (p.2.1 ≤ rowAt cols row p.1) && decide (rowAt cols row p.1 ≤ p.2.2)
def fitsM (cols : List Nat) (row : List Int) (es : List (Nat × Int)) (rc : Option (Nat × Int × Int)) : Bool := (spanL es rc).all (spanFit cols row)
theorem row_at {cols : List Nat} {row : List Int} {c : Nat} (hl : row.length = cols.length) (h : c ∈ cols) : (row.map V.int)[cols.idxOf c]? = some (.int (rowAt cols row c)) := by
  have hi : cols.idxOf c < row.length := by
    rw [hl]
    exact List.idxOf_lt_length_of_mem h
  unfold rowAt
  rw [List.getElem?_map, List.getElem?_eq_getElem hi, List.getD_eq_getElem?_getD, List.getElem?_eq_getElem hi]
  rfl
/-- the numbers of the rows that fit -/
def ansM (cols : List Nat) (rows : List (List Int)) (es : List (Nat × Int)) (rc : Option (Nat × Int × Int)) : List Int := ((List.range rows.length).filter fun i => fitsM cols (rows.getD i []) es rc).map fun i : Nat => (i : Int)
theorem SpanOk {cols : List Nat} {es : List (Nat × Int)} {rc : Option (Nat × Int × Int)} (h : QOk cols es rc) : ∀ p ∈ spanL es rc, p.1 ∈ cols := fun p hp => by
  unfold spanL at hp
  rcases List.mem_append.mp hp with hp | hp
  · obtain ⟨q, hq, rfl⟩ := List.mem_map.mp hp
    exact (h.ok q hq).1
  · cases rc with
    | none => cases hp
    | some t =>
      have : p = t := by simpa using hp
      obtain ⟨c, lo, hi⟩ := t
      rw [this]
      exact (h.rc c lo hi rfl).1
/-! ### data with lists -/
mutual
inductive Ft (H : Hp) : V → PyData → Prop
  | non : Ft H .non .none
  | bl (b : Bool) : Ft H (.bl b) (.bool b)
  | int (i : Int) : Ft H (.int i) (.int i)
  | str (x : Str) : Ft H (.str x) (.str x)
  | lst {a : Addr} {xs : List V} {ds : List PyData} : H a = some (.lst xs) → FtA H xs ds → Ft H (.ref a) (.list ds)
  | tup {a : Addr} {xs : List V} {ds : List PyData} : H a = some (.tup xs) → FtA H xs ds → Ft H (.ref a) (.tuple ds)
inductive FtA (H : Hp) : List V → List PyData → Prop
  | nil : FtA H [] []
  | cons {v : V} {vs : List V} {d : PyData} {ds : List PyData} : Ft H v d → FtA H vs ds → FtA H (v :: vs) (d :: ds)
end
mutual
theorem Ft.mono {H H' : Hp} (k : Same H H') : ∀ (d : PyData) (v : V), Ft H v d → Ft H' v d
  | .none, _, .non => .non
  | .bool _, _, .bl b => .bl b
  | .int _, _, .int i => .int i
  | .str _, _, .str x => .str x
  | .list ds, _, .lst h a => .lst (k _ _ h) (FtA.mono k ds _ a)
  | .tuple ds, _, .tup h a => .tup (k _ _ h) (FtA.mono k ds _ a)
theorem FtA.mono {H H' : Hp} (k : Same H H') : ∀ (ds : List PyData) (vs : List V), FtA H vs ds → FtA H' vs ds
  | [], _, .nil => .nil
  | d :: ds, _, .cons h a => .cons (Ft.mono k d _ h) (FtA.mono k ds _ a)
end
mutual
theorem Fz.ft {H : Hp} : ∀ (d : PyData) (v : V), Fz H v d → Ft H v d
  | .none, _, .non => .non
  | .bool _, _, .bl b => .bl b
  | .int _, _, .int i => .int i
  | .str _, _, .str x => .str x
  | .tuple ds, _, .tup h a => .tup h (FzA.ft ds _ a)
theorem FzA.ft {H : Hp} : ∀ (ds : List PyData) (vs : List V), FzA H vs ds → FtA H vs ds
  | [], _, .nil => .nil
  | d :: ds, _, .cons h a => .cons (Fz.ft d _ h) (FzA.ft ds _ a)
end
theorem FtA.len : ∀ {H : Hp} {vs : List V} {ds : List PyData}, FtA H vs ds → vs.length = ds.length
  | _, _, _, .nil => rfl
  | _, _, _, .cons _ a => by
    rw [List.length_cons, List.length_cons, FtA.len a]
theorem FtA.getV : ∀ {H : Hp} {vs : List V} {ds : List PyData} {i : Nat} {v : V}, FtA H vs ds → vs[i]? = some v → ∃ d, ds[i]? = some d ∧ Ft H v d
  | _, _, _, _, _, .nil, h => by simp at h
  | _, _, _, 0, _, .cons a _, h => ⟨_, rfl, Option.some.inj h ▸ a⟩
  | _, _, _, i + 1, _, .cons _ a, h => FtA.getV (i := i) a h
theorem FtA.ofInts : ∀ {H : Hp} (ns : List Int), FtA H (ns.map V.int) (ns.map PyData.int)
  | _, [] => .nil
  | _, n :: ns => .cons (.int n) (FtA.ofInts ns)
mutual
def wd : PyData → Nat
  | .list xs => max xs.length (wdA xs)
  | .tuple xs => max xs.length (wdA xs)
  | _ => 0
def wdA : List PyData → Nat
  | [] => 0
  | x :: xs => max (wd x) (wdA xs)
end
/-! ### what isinstance tells of data -/
def tyN : PyData → String
  | .none => "NoneType"
  | .bool _ => "bool"
  | .int _ => "int"
  | .str _ => "str"
  | .list _ => "list"
  | .tuple _ => "tuple"
  | .dict _ => "dict"
def isTp : PyData → Bool
  | .tuple _ => true
  | _ => false
def isSt : PyData → Bool
  | .str _ => true
  | _ => false
theorem ty_ft {K : PySem.W.Frag} {H : Hp} {v : V} {d : PyData} (h : Ft H v d) : TyX K H v (.type (tyN d)) := by
  cases h with
  | non => exact .base .non
  | bl b => exact .base (.bl b)
  | int i => exact .base (.int i)
  | str x => exact .base (.str x)
  | lst h _ => exact .base (.lst h)
  | tup h _ => exact .base (.tup h)
theorem kit_tp {K : PySem.W.Frag} (d : PyData) : PySem.W.kitOne K (.type (tyN d)) (.type "tuple") = some (isTp d) := by
  cases d <;> exact kit_ty (by kernel_rfl)
theorem kit_st {K : PySem.W.Frag} (d : PyData) : PySem.W.kitOne K (.type (tyN d)) (.type "str") = some (isSt d) := by
  cases d <;> exact kit_ty (by kernel_rfl)
theorem depA_ints : ∀ ns : List Int, PyData.depthAll (ns.map PyData.int) = 0
  | [] => rfl
  | n :: ns => by
    show max (PyData.depth (.int n)) (PyData.depthAll (ns.map PyData.int)) = 0
    rw [depA_ints ns]
    rfl
theorem dep_ints (ns : List Int) : PyData.depth (.list (ns.map PyData.int)) = 1 := by
  show PyData.depthAll (ns.map PyData.int) + 1 = 1
  rw [depA_ints]
end My

set_option Elab.async false
set_option linter.all false
set_option maxRecDepth 100000
set_option maxHeartbeats 1000000
namespace My
open PySem PySem.Spec PyProof.Rows L2
/-! ### lists of numbers compared -/
theorem dp_ints {K : PySem.W.Frag} {H : Hp} : ∀ ns : List Int, DpAll K H (ns.map V.int) (ns.map PyData.int)
  | [] => .nil
  | n :: ns => .cons (.int n) (dp_ints ns)
theorem eqvA_ints : ∀ ns : List Int, PyData.eqvAll (ns.map PyData.int) (ns.map PyData.int) = true
  | [] => rfl
  | n :: ns => by
    show (PyData.eqv (.int n) (.int n) && PyData.eqvAll (ns.map PyData.int) (ns.map PyData.int)) = true
    rw [eqvA_ints ns, Bool.and_true]
    show (n == n) = true
    simp
theorem eqv_ints (ns : List Int) : PyData.eqv (.list (ns.map PyData.int)) (.list (ns.map PyData.int)) = true := eqvA_ints ns
theorem can_ints : ∀ ns : List Int, PyData.canLayAll0 (ns.map PyData.int) = true
  | [] => rfl
  | n :: ns => by
    show (PyData.canLay0 (.int n) && PyData.canLayAll0 (ns.map PyData.int)) = true
    rw [can_ints ns]
    rfl
theorem shaped_ints (ns : List Int) : SeqAt.shaped (.list (ns.map PyData.int)) = true := by
  unfold SeqAt.shaped
  show (PyData.canLayAll0 (ns.map PyData.int) && decide (PyData.depth (.list (ns.map PyData.int)) ≤ 64)) = true
  rw [can_ints, dep_ints]
  rfl
/-! ### questions and what fits -/
/-- the letter taken out of equals -/
def fewer (es : List (Nat × Int)) (c : Nat) : List (Nat × Int) := es.filter fun p => !decide (p.1 = c)
theorem QOk.sub {cols : List Nat} {es es' : List (Nat × Int)} {rc : Option (Nat × Int × Int)} (h : QOk cols es rc) (s : es'.Sublist es) : QOk cols es' none :=
  ⟨h.up.sublist (s.map _), fun p hp => h.ok p (s.subset hp), Nat.le_trans s.length_le h.len, fun _ _ _ z => nomatch z⟩
theorem QOk.reach {cols : List Nat} {es : List (Nat × Int)} {rc : Option (Nat × Int × Int)} (h : QOk cols es rc) {c : Nat} {lo hi : Int} (h1 : c ∈ cols) (h2 : c ∉ es.map (·.1)) (h3 : 0 ≤ lo) (h4 : lo ≤ hi) (h5 : hi < 1000) : QOk cols es (some (c, lo, hi)) :=
  ⟨h.up, h.ok, h.len, fun c' lo' hi' z => by
    have z2 := Option.some.inj z
    have e1 : c = c' := congrArg (·.1) z2
    have e2 : lo = lo' := congrArg (·.2.1) z2
    have e3 : hi = hi' := congrArg (·.2.2) z2
    rw [← e1, ← e2, ← e3]
    exact ⟨h1, h2, h3, h4, h5⟩⟩
end My

set_option Elab.async false
set_option linter.all false
set_option maxRecDepth 100000
set_option maxHeartbeats 2000000
namespace My
open PySem PySem.Spec PyProof.Rows L2
/-! ### generator expressions whose element changes nothing -/
/-- the element at a place of the walked thing: what it gives, from any state in which what stood still stands -/
def EltQ (X : Cx) (σ : L2.St) (G : Hp) (P : Addr) (scope : Scope) (x : Str) (elt : Expr) (Pf F : Nat → Value → Prop) : Prop :=
  ∀ (pins : List (Addr × Obj)) (u1 : Shared), Inv X pins σ G u1 → ∀ (ce : Env) (B : Around) (E' : Value → Shared → Prop) (i : Nat) (v : Value) (u2 : Shared) (m2 : Str → Option Value), B.handled = none → ce.scope = scope → ce.cells = cloFrom X.env.cells scope.names [] →
    Pf i v → u2.heap.Ns ce.locals m2 → m2 x = some v → (∀ b o, b ≠ P → u1.heap.get? b = some o → u2.heap.get? b = some o) → wpAny (model X.prog X.w) B (eval elt ce) (fun y u3 => F i y ∧ Keeps u2 u3) E' u2
/-- the generator stands, ready to be walked n times -/
def ReadyQ (X : Cx) (pins : List (Addr × Obj)) (σ : L2.St) (G : Hp) (P : Addr) (n : Nat) (F : Nat → Value → Prop) (g : Addr) (u5 : Shared) : Prop :=
  ∃ (fp wr : List Addr) (Gn : Array GenState → Array GenState → Prop) (St : Nat → Shared → Prop),
    WalksS X.prog X.w X.A.in4 g fp wr Gn n F St ∧ St 0 u5 ∧ (∀ i s, St i s → s.TypeIs (.ref g) "generator") ∧ (∀ b ∈ fp, b < u5.heap.objs.size) ∧ g ∈ fp ∧
    ∀ u', Moved wr Gn u5 u' → ∃ G2, GxR.Tabbed P G G2 ∧ Inv X pins σ G2 u'
/-- what a walk over the value v begins with -/
def Src (X : Cx) (pins : List (Addr × Obj)) (σ : L2.St) (G : Hp) (P : Addr) (v : Value) (n : Nat) (Pf : Nat → Value → Prop) : Prop :=
  ∀ (u1 : Shared), Inv X pins σ G u1 → ∀ (Q : Value → Shared → Prop) (E : Value → Shared → Prop), (∀ (o : Obj) (St : Nat → Heap → Prop) (fps : List Addr),
    (∀ A' : Around, A'.handled = none → Walks X.prog X.w A' u1.heap.objs.size (u1.heap.objs.size :: fps) [u1.heap.objs.size] n Pf St) → St 0 (u1.heap.push o) → (∀ b ∈ fps, b < u1.heap.objs.size ∧ b ≠ P) →
    Q (.ref u1.heap.objs.size) { u1 with heap := u1.heap.push o }) → wpAny (model X.prog X.w) X.A (pyIter v) Q E u1
section
variable {X : Cx} {pins : List (Addr × Obj)} {σ : L2.St} {H : Hp} {s : Shared}
theorem src_str {G : Hp} {P : Addr} (a : Str) (t : Tok) : Src X pins σ G P (.str a t) a.cps.size (SignAt a) := by
  intro u1 I Q E h
  refine wpAny_pyIter_str fun o St W hst => ?_
  exact h o St [] W hst (fun b hb => nomatch hb)
/-- what stood stands: a frame knows what it knew -/
theorem grew {s' : Shared} (I : Inv X pins σ H s) (os : s'.os = s.os) (bare : AllBare s'.gens) (kp : ∀ b u, s.heap.get? b = some u → s'.heap.get? b = some u) : Inv X pins σ H s' :=
  I.call' (ch := []) os (Un.kept kp) (I.hok.kept kp) bare fun _ hb => nomatch hb
/-- the code object of a generator expression comes out of its maker's table, or is made and written into it; then the built-ins are looked up -/
theorem gen_code {c P : Addr} {gpos : Pos} {qn : Str} {scope : Scope} {R : Value → Addr → Shared → Prop} (I : Inv X pins σ H s) (TB : LamX.TabB X.base X.mg c P) (hcode : X.env.code = .ref c) (hT : GxR.TabG H P)
    (h : ∀ (code : Value) (H2 : Hp) (s2 : Shared), GxR.Tabbed P H H2 → Inv X pins σ H2 s2 → (∀ b u, b ≠ P → s.heap.get? b = some u → s2.heap.get? b = some u) → s.heap.objs.size ≤ s2.heap.objs.size → R code builtinsNs s2) :
    wpAny (model X.prog X.w) X.A (genexprCode X.env gpos qn scope) (fun code s3 => wpAny (model X.prog X.w) X.A (builtinsFor X.env.globals X.env.builtins) (R code) X.xe s3) X.xe s := by
  obtain ⟨ps, hP, tri⟩ := hT
  have rawP := I.hok P _ hP
  have hd : PySem.W.CodeHd s.heap c P := TB.code.keeps I.bk
  have go : ∀ (code : Value) (g : Heap) (tk : Nat) (more : Array Value), Heap.ExtBut P s.heap g → s.heap.objs.size ≤ g.objs.size → g.get? P = some { cls := .none, data := .fields (ps ++ more) } → TriplesOk (ps ++ more).toList →
      wpAny (model X.prog X.w) X.A (builtinsFor X.env.globals X.env.builtins) (R code) X.xe { s with heap := g, toks := tk } := fun code g tk more ext le tab tri' => by
    have J : Inv X pins σ (upd H P (.tbl (ps ++ more))) { s with heap := g, toks := tk } := GxR.inv_tab (g' := s.gens) (d' := s.drawn) I hP ext tab I.bare
    obtain ⟨bm, ob, b1, b2, _, _, b5, b6, b7, b8⟩ := TB.bm
    refine wpAny_builtinsFor (m := X.mg) ?_ b1 b2 (J.bk _ _ b5) b6 b7 b8 (h code _ _ ⟨⟨_, upd_same, tri'⟩, fun b ne => upd_ne ne⟩ J ext le)
    rw [J.ok.glob]
    exact J.mod.glob.keeps J.bk
  match hf : codeAmong gpos ps.toList with
  | some cv => exact wpAny_genexprCode_hit hcode (hd.code rawP tri) hf (go cv s.heap s.toks #[] (Heap.ExtBut.refl _ _) (Nat.le_refl _) (by rw [Array.append_empty]; exact rawP) (by rw [Array.append_empty]; exact tri))
  | none =>
    refine wpAny_genexprCodeX hcode (hd.code rawP tri) (hd.tab rawP) hf fun c' g tk ext ge lt isC _ isT _ => go _ g tk _ ext (Nat.le_trans ge (Nat.le_of_lt lt)) isT.2 ?_
    obtain ⟨_, _, _, _, _, _, _, _, _, _, _, _, _, _, _, _, _, _, _, z, _⟩ := isC
    exact z
/-- the generator (elt for x in iter), its element changing nothing -/
theorem gen_q {c P : Addr} {elt iter : Expr} {x : Str} {px gpos : Pos} {scope : Scope} {te : TE} {k : Nat} {Q' : Value → Shared → Prop} {R : V → Hp → Nat → (Nat → Value → Prop) → Prop} {R0 : V → Hp → Prop}
    (hr : Room k X.A) (TB : LamX.TabB X.base X.mg c P) (hcode : X.env.code = .ref c) (S : GxR.GenS X.env scope x) (hi : PE X iter te)
    (hs : ∀ v, genFold iter X.env v = pure v) (I : Inv X pins σ H s)
    (h : te σ H R0) (hc : ∀ v G, R0 v G → ∃ (n : Nat) (Pf F : Nat → Value → Prop), (∀ u, RelV v u → Src X pins σ G P u n Pf) ∧ GxR.TabG G P ∧ EltQ X σ G P scope x elt Pf F ∧ R v G n F)
    (hQ : ∀ v G n F g u5, R v G n F → ReadyQ X pins σ G P n F g u5 → Q' (.ref g) u5) :
    wpAny (model X.prog X.w) X.A (eval (.GeneratorExp elt [⟨.Name x px, iter, [], 0⟩] scope gpos) X.env) Q' X.xe s := by
  have deep : X.A.depth < recursionLimit := by
    have := hr.dp
    omega
  refine wpAny_GeneratorExp_walksQ hr.hd S.co (closure_ok S.free) S.cell S.dot S.loc S.kind deep (thn (hi.run pins s σ H _ I h) fun xv u1 ⟨v, G, I1, rv, h0⟩ => ?_) hs
  obtain ⟨n, Pf, F, src, hT, elq, hR⟩ := hc v G h0
  refine src xv rv u1 I1 _ _ fun o St fps W st0 below => ?_
  -- the walked thing's iterator o at i0; the table at P is older
  generalize hi0 : u1.heap.objs.size = i0 at W below ⊢
  have older : P ≠ i0 := fun z => by
    obtain ⟨ps, e, _⟩ := hT
    rw [I1.hok.fresh (Nat.le_of_eq (hi0.trans z.symm))] at e
    cases e
  have Io : Inv X pins σ G { u1 with heap := u1.heap.push o } := grew I1 rfl I1.bare fun b u e => Heap.get?_push_of_some _ e
  refine ⟨Io.nolimit, gen_code Io TB hcode hT fun code G2 s4 tab I4 kp le => ?_⟩
  have lt4 : i0 < s4.heap.objs.size := Nat.lt_of_lt_of_le (by rw [← hi0, Heap.size_push]; exact Nat.lt_succ_self _) le
  have kp1 : ∀ b u, b ≠ P → u1.heap.get? b = some u → s4.heap.get? b = some u := fun b u ne e => kp b u ne (Heap.get?_push_of_some _ e)
  have fo : FpOk X pins G2 i0 := I1.fpOk (Nat.le_of_eq hi0) ((tab.2 i0 older.symm).trans (I1.hok.fresh (Nat.le_of_eq hi0)))
  refine ⟨i0, i0 :: fps, [i0], n, Pf, St, fun _ => true, F, rfl, W, (W X.A hr.hd).frame _ _ _ st0 fun b hb u e => kp b u ?_ e, fun b hb => ?_, I4.nolimit, fun z => ?_, fun g keep => ⟨?_, fun A' E' i v s₂ m₂ hA hv _ hn hm stay => ?_⟩, fun g h5 tk5 gs bare above size5 stay W5 at5 => ?_⟩
  · exact (List.mem_cons.mp hb).elim (fun z q => older (q.symm.trans z)) fun z => (below b z).2
  · exact (List.mem_cons.mp hb).elim (fun z => z ▸ lt4) fun z => Nat.lt_trans (below b z).1 lt4
  · obtain ⟨_, ns, _⟩ := I1.nolimit
    exact Nat.ne_of_lt (hi0 ▸ ns.lt) (List.mem_singleton.mp z)
  · intro A' E' i v s₂ m₂ _ _ _ _ _
    rw [List.forIn_nil]
    exact wpAny_pure ⟨rfl, GxR.keeps_refl _⟩
  · refine elq pins u1 I1 _ A' E' i v s₂ m₂ hA rfl rfl hv hn hm fun b u ne e => ?_
    have here := kp1 b u ne e
    exact stay b (List.mem_range.mpr (Heap.lt_size here)) (fun z => Nat.ne_of_lt (hi0 ▸ Heap.lt_size e) (List.mem_singleton.mp z)) u (keep b u here)
  · rw [show passing (fun _ => true) n 0 = List.range n from GxR.passing_true n] at W5
    rw [List.length_range] at W5
    have place : ∀ {i : Nat} {y : Value}, (∃ j, (List.range n)[i]? = some j ∧ F j y) → F i y := fun ⟨j, e, fj⟩ => by
      obtain ⟨_, q⟩ := List.getElem?_eq_some_iff.mp e
      rw [List.getElem_range] at q
      rw [q]
      exact fj
    have W6 : WalksS X.prog X.w X.A.in4 g (g :: s4.heap.objs.size :: List.range s4.heap.objs.size) [s4.heap.objs.size, i0] (GenOnlyQ s4.gens.size) n F _ := { W5 with item := fun i s Q E lt st k => W5.item i s Q E lt st fun y s' z => k y s' (place z) }
    refine hQ v G n F g _ hR ⟨_, _, _, _, W6, at5, fun i s st => Heap.IsGen.typeIs st.1, fun b hb => ?_, List.mem_cons_self, fun u' mv => ⟨G2, tab, ?_⟩⟩
    · show b < h5.objs.size
      rw [show h5.objs.size = g + 1 from size5]
      rcases List.mem_cons.mp hb with z | z
      · exact z ▸ Nat.lt_succ_self g
      · refine Nat.lt_succ_of_lt ((List.mem_cons.mp z).elim (fun e => e ▸ above) fun e => Nat.lt_trans (List.mem_range.mp e) above)
    · have J := past (t' := s4.toks) (h' := u'.heap) I4 fo fun b u ne e => mv.heap b u (fun z => (List.mem_cons.mp z).elim (fun q => Nat.ne_of_lt (Heap.lt_size e) q) fun q => ne (List.mem_singleton.mp q)) (stay b u e)
      exact grew J mv.os (AllBare.movedS (I4.bare.push bare) mv) fun _ _ e => e
/-! tuple(elt for x in text): numbers -/
def tTupG (P : Addr) (te : TE) (D : V → L2.St → Hp → List V → Prop) : TE := fun σ H Q => te σ H fun v G => ∃ xs : List V, D v σ G xs ∧ GxR.TabG G P ∧ ∀ G2, GxR.Tabbed P G G2 → ∀ p, G2 p = none → Q (.ref p) (upd G2 p (.tup xs))
theorem vals_of_items : ∀ (xs : List V) (us : List Value), xs.length = us.length → (∀ (j : Nat) (x : V) (u : Value), xs[j]? = some x → us[j]? = some u → RelV x u) → Vals xs us
  | [], [], _, _ => .nil
  | x :: xs, u :: us, hl, hh => .cons (hh 0 x u rfl rfl) (vals_of_items xs us (Nat.succ.inj hl) fun j y w h1 h2 => hh (j + 1) y w h1 h2)
theorem pe_tupG {c P : Addr} {elt iter : Expr} {x : Str} {px p pos gpos : Pos} {scope : Scope} {te : TE} {k : Nat} {D : V → L2.St → Hp → List V → Prop}
    (hr : Room k X.A) (hg : Gl X "tuple") (hm : X.mg "tuple" = none) (TB : LamX.TabB X.base X.mg c P) (hcode : X.env.code = .ref c) (S : GxR.GenS X.env scope x) (hi : PE X iter te)
    (hD : ∀ (pins : List (Addr × Obj)) (σ : L2.St) (G : Hp) (v : V) (xs : List V), D v σ G xs → xs.length ≤ sizeLine ∧ ∃ (Pf F : Nat → Value → Prop), (∀ u, RelV v u → Src X pins σ G P u xs.length Pf) ∧ EltQ X σ G P scope x elt Pf F ∧ ∀ (i : Nat) (y : Value) (z : V), xs[i]? = some z → F i y → RelV z y)
    (hs : ∀ v, genFold iter X.env v = pure v := by intro _; rfl)
    (he : starEach [.GeneratorExp elt [⟨.Name x px, iter, [], 0⟩] scope gpos] X.env = (false, eval (.GeneratorExp elt [⟨.Name x px, iter, [], 0⟩] scope gpos) X.env) :: starEach [] X.env := by rfl) :
    PE X (.Call (.Name "tuple" p) [.GeneratorExp elt [⟨.Name x px, iter, [], 0⟩] scope gpos] [] pos) (tTupG P te D) := by
  refine ⟨fun pins s σ H Q I h => ?_⟩
  refine Call_ (ld_blt I hg hm boot_tuple (PyProof.Rows.callWith_type1 ?_ he))
  rw [he]
  refine Calls.spliced_cons (gen_q (R := fun v G n F => ∃ xs : List V, D v σ G xs ∧ xs.length = n ∧ xs.length ≤ sizeLine ∧ (∀ (i : Nat) (y : Value) (z : V), xs[i]? = some z → F i y → RelV z y) ∧ ∀ G2, GxR.Tabbed P G G2 → ∀ p, G2 p = none → Q (.ref p) (upd G2 p (.tup xs))) hr TB hcode S hi hs I h (fun v G h0 => ?_) fun v G n F g u5 hR hG => ?_)
  · obtain ⟨xs, hd, hT, q⟩ := h0
    obtain ⟨hz, Pf, F, hsrc, hel, hF⟩ := hD pins σ G v xs hd
    exact ⟨xs.length, Pf, F, hsrc, hT, hel, xs, hd, rfl, hz, hF, q⟩
  · obtain ⟨xs, hd, hn, hz, hF, q⟩ := hR
    obtain ⟨fp, wr, Gn, St, W, hst, hty, hfp, hgf, hI⟩ := hG
    refine Calls.spliced_nil ?_
    refine call_tuple_gen W.in4_3 hty hst hfp hgf (fun u' acc mv hit => ?_) (by rw [← hn]; exact hz)
    obtain ⟨G2, hTb, J⟩ := hI u' mv
    have hv : Vals xs acc.toList := vals_of_items _ _ (by rw [show acc.toList.length = acc.size from Array.length_toList, hit.1, hn]) fun j z y h1 h2 => hF j y z h1 (hit.2 j y (by rw [← Array.getElem?_toList]; exact h2))
    have J2 : Inv X pins σ (upd G2 u'.heap.objs.size (.tup xs)) { u' with heap := u'.heap.push { cls := .type "tuple", data := .seq acc } } :=
      J.laid (t' := u'.toks) (fun b o e => Heap.get?_push_of_some _ e) (Nat.le_refl _) (show ObjOk X.prog X.w _ _ _ (.tup xs) from ⟨hz, acc.toList, hv, by rw [Array.toArray_toList]; exact IsTup.new _ _⟩)
    exact ⟨.ref u'.heap.objs.size, _, J2, rfl, q G2 hTb _ (J.hok.fresh (Nat.le_refl _))⟩
/-! all(elt for x in ..) -/
def tAllG (P : Addr) (te : TE) (D : V → L2.St → Hp → List Bool → Prop) : TE := fun σ H Q => te σ H fun v G => ∃ bs : List Bool, D v σ G bs ∧ GxR.TabG G P ∧ ∀ G2, GxR.Tabbed P G G2 → Q (.bl (bs.all id)) G2
theorem all_at (bs : List Bool) : (List.range bs.length).all (fun i => bs.getD i false) = bs.all id := by
  rw [Bool.eq_iff_iff, List.all_eq_true, List.all_eq_true]
  constructor
  · intro h b hb
    obtain ⟨j, hj, e⟩ := List.getElem_of_mem hb
    have q := h j (List.mem_range.mpr hj)
    rw [List.getD_eq_getElem?_getD, List.getElem?_eq_getElem hj, e] at q
    exact q
  · intro h j hj
    have hj' := List.mem_range.mp hj
    rw [List.getD_eq_getElem?_getD, List.getElem?_eq_getElem hj']
    exact h _ (List.getElem_mem hj')
theorem pe_allG {c P : Addr} {elt iter : Expr} {x : Str} {px p pos gpos : Pos} {scope : Scope} {te : TE} {k : Nat} {D : V → L2.St → Hp → List Bool → Prop}
    (hr : Room k X.A) (hg : Gl X "all") (hm : X.mg "all" = none) (TB : LamX.TabB X.base X.mg c P) (hcode : X.env.code = .ref c) (S : GxR.GenS X.env scope x) (hi : PE X iter te)
    (hD : ∀ (pins : List (Addr × Obj)) (σ : L2.St) (G : Hp) (v : V) (bs : List Bool), D v σ G bs → ∃ (Pf F : Nat → Value → Prop), (∀ u, RelV v u → Src X pins σ G P u bs.length Pf) ∧ EltQ X σ G P scope x elt Pf F ∧ ∀ (i : Nat) (y : Value), F i y → y = .bool (bs.getD i false))
    (hb : bootBuiltins "all" = some (.builtin "all") := by decide +kernel) (hs : ∀ v, genFold iter X.env v = pure v := by intro _; rfl)
    (he : starEach [.GeneratorExp elt [⟨.Name x px, iter, [], 0⟩] scope gpos] X.env = (false, eval (.GeneratorExp elt [⟨.Name x px, iter, [], 0⟩] scope gpos) X.env) :: starEach [] X.env := by rfl) :
    PE X (.Call (.Name "all" p) [.GeneratorExp elt [⟨.Name x px, iter, [], 0⟩] scope gpos] [] pos) (tAllG P te D) := by
  refine ⟨fun pins s σ H Q I h => ?_⟩
  refine wpAny_Call_Name_kw (ld_blt I hg hm hb (PyProof.Rows.callWith_builtin1 ?_ he (by rfl)))
  rw [he]
  refine Calls.spliced_cons (gen_q (R := fun v G n F => ∃ bs : List Bool, bs.length = n ∧ (∀ (i : Nat) (y : Value), F i y → y = .bool (bs.getD i false)) ∧ ∀ G2, GxR.Tabbed P G G2 → Q (.bl (bs.all id)) G2) hr TB hcode S hi hs I h (fun v G h0 => ?_) fun v G n F g u5 hR hG => ?_)
  · obtain ⟨bs, hd, hT, q⟩ := h0
    obtain ⟨Pf, F, hsrc, hel, hF⟩ := hD pins σ G v bs hd
    exact ⟨bs.length, Pf, F, hsrc, hT, hel, bs, rfl, hF, q⟩
  · obtain ⟨bs, hn, hF, q⟩ := hR
    obtain ⟨fp, wr, Gn, St, W, hst, hty, hfp, hgf, hI⟩ := hG
    refine Calls.spliced_nil ?_
    refine call_all_walkS (W.in4_1.self 0 _ _ _ hst ⟨g, fp, wr, Gn, n, F, St, (fun i => bs.getD i false), rfl, W.in4_1, hst, ?_, fun u' mv => ?_⟩)
    · intro j y sj Qj Ej hy hQj
      rw [hF j y hy]
      exact wpAny_truthy_bool hQj
    · obtain ⟨G2, hTb, J⟩ := hI u' mv
      refine ⟨.bl _, G2, J, rfl, ?_⟩
      rw [← hn, all_at]
      exact q G2 hTb
/-! ### what a captured name holds -/
theorem clo_look {cells : List (Str × Addr)} {names : List (Str × NameKind)} {y : Str} {c : Addr} (hy : (y, NameKind.free) ∈ names) (hc : cells.lookup y = some c) : (cloFrom cells names []).lookup y = some c := by
  obtain ⟨c', e⟩ := mem_lookup (cloFrom_has (acc := []) (cells := cells) hy)
  have hm : (y, c') ∈ cloFrom cells names [] := by
    have : ∀ {l : List (Str × Addr)} {n : Str} {d : Addr}, l.lookup n = some d → (n, d) ∈ l := by
      intro l
      induction l with
      | nil =>
        intro n d h
        cases h
      | cons p l ih =>
        intro n d h
        rw [List.lookup_cons] at h
        cases hb : n == p.1 with
        | true =>
          rw [hb] at h
          have e1 : n = p.1 := by simpa using hb
          have e2 : p.2 = d := Option.some.inj h
          rw [e1, ← e2]
          exact List.mem_cons_self ..
        | false =>
          rw [hb] at h
          exact List.mem_cons_of_mem _ (ih h)
    exact this e
  rcases cloFrom_mem hm with z | ⟨_, z⟩
  · cases z
  · rw [e, z, hc]
    rfl
theorem capt {G : Hp} {u1 : Shared} {i : Nat} {y : Str} {v : V} {scope : Scope} (I : Inv X pins σ G u1) (hN : X.N[i]? = some y) (hv : σ[i]? = some (some v)) (hk : X.env.scope.names.lookup y = some .cell) (hy : (y, NameKind.free) ∈ scope.names) :
    ∃ u c, RelV v u ∧ (cloFrom X.env.cells scope.names []).lookup y = some c ∧ u1.heap.IsCell c (some u) := by
  obtain ⟨m, hm, hl⟩ := I.loc
  obtain ⟨u, ru, lk⟩ := hl i y v hN hv (.inr (.inl hk))
  rcases lk with ⟨k1, _⟩ | ⟨_, c, hc, hcell⟩
  · have : X.env.kindOf y = some .cell := hk
    rw [this] at k1
    cases k1
  · exact ⟨u, c, ru, clo_look hy hc, hcell⟩
theorem cell_kept {G : Hp} {P c : Addr} {u1 u2 : Shared} {u : Value} (I : Inv X pins σ G u1) (hT : GxR.TabG G P) (hc : u1.heap.IsCell c (some u)) (hk : ∀ b o, b ≠ P → u1.heap.get? b = some o → u2.heap.get? b = some o) : u2.heap.IsCell c (some u) := by
  obtain ⟨o, ho, hd⟩ := hc
  refine ⟨o, hk c o (fun z => ?_) ho, hd⟩
  obtain ⟨ps, hP, _⟩ := hT
  have h1 : u1.heap.get? P = some { cls := .none, data := .fields ps } := I.hok P _ hP
  rw [z, h1] at ho
  cases ho
  cases hd
/-! x in y, y a captured text -/
theorem elt_in {G : Hp} {P : Addr} {scope : Scope} {x y : Str} {p1 p2 p3 : Pos} {i : Nat} {z a : Str} (hT : GxR.TabG G P) (hN : X.N[i]? = some y) (hv : σ[i]? = some (some (.str z))) (hk : X.env.scope.names.lookup y = some .cell)
    (hf : scope.kind = .function) (hx : scope.names.lookup x = some .local) (hy : (y, NameKind.free) ∈ scope.names) (hyl : scope.names.lookup y = some .free) (hd1 : (x == ("__debug__" : Str)) = false := by decide) (hd2 : (y == ("__debug__" : Str)) = false := by decide) (hd3 : (y == ("__classdict__" : Str)) = false := by decide) :
    EltQ X σ G P scope x (.Compare (.Name x p1) [.In] [.Name y p2] p3) (SignAt a) (fun j w => ∃ c, a.cps[j]? = some c ∧ w = .bool (decide (c ∈ z.cps.toList))) := by
  intro pins u1 I ce B E' j v u2 m2 hB hs hcl hP hn hm hk2
  obtain ⟨c, t, hc, rfl⟩ := hP
  obtain ⟨u, cl, ru, hl, hcell⟩ := capt I hN hv hk hy
  obtain ⟨t2, rfl⟩ := ru
  refine wpAny_Compare1 ?_ (by rfl)
  refine wpAny_Name (wpAny_loadName_local (by rw [hs]; exact hf) (show ce.scope.names.lookup x = some .local by rw [hs]; exact hx) hn hm ?_) hd1
  refine wpAny_Name (wpAny_loadName_free (by rw [hs]; exact hf) (show ce.scope.names.lookup y = some .free by rw [hs]; exact hyl) (by rw [hcl]; exact hl) (cell_kept I hT hcell hk2) ?_ hd3) hd2
  refine PyProof.Rows.in_str ⟨⟨c, hc, ?_⟩, GxR.keeps_refl _⟩
  rw [PySem.StrLaws.found_one]
/-! r[y.index(x)], r a captured tuple of numbers, y a captured text -/
theorem elt_row {G : Hp} {P ra : Addr} {scope : Scope} {x y rn : Str} {p1 p2 p3 p4 p5 p6 : Pos} {i j : Nat} {a : Str} {cols : List Nat} {row : List Int} (hT : GxR.TabG G P) (hN : X.N[i]? = some y) (hv : σ[i]? = some (some (tx cols))) (hk : X.env.scope.names.lookup y = some .cell)
    (hN2 : X.N[j]? = some rn) (hv2 : σ[j]? = some (some (.ref ra))) (hk2 : X.env.scope.names.lookup rn = some .cell) (hra : G ra = some (.tup (row.map V.int))) (hrl : row.length = cols.length) (hac : ∀ c ∈ a.cps.toList, c ∈ cols)
    (hf : scope.kind = .function) (hx : scope.names.lookup x = some .local) (hy : (y, NameKind.free) ∈ scope.names) (hyl : scope.names.lookup y = some .free) (hr : (rn, NameKind.free) ∈ scope.names) (hrf : scope.names.lookup rn = some .free)
    (hline : (p3.endLine == p5.line) = true) (hd1 : (x == ("__debug__" : Str)) = false := by decide) (hd2 : (y == ("__debug__" : Str)) = false := by decide) (hd3 : (y == ("__classdict__" : Str)) = false := by decide) (hd4 : (rn == ("__debug__" : Str)) = false := by decide) (hd5 : (rn == ("__classdict__" : Str)) = false := by decide) :
    EltQ X σ G P scope x (.Subscript (.Name rn p1) (.Call (.Attribute (.Name y p2) "index" p3) [.Name x p4] [] p5) p6) (SignAt a) (fun l w => ∃ c t, a.cps[l]? = some c ∧ w = .int (rowAt cols row c) t) := by
  intro pins u1 I ce B E' l v u2 m2 hB hs hcl hP hn hm hk3
  obtain ⟨c, t, hc, rfl⟩ := hP
  obtain ⟨uy, cl, ru, hl, hcell⟩ := capt I hN hv hk hy
  obtain ⟨t2, rfl⟩ := ru
  obtain ⟨ur, cl2, ru2, hl2, hcell2⟩ := capt I hN2 hv2 hk2 hr
  cases ru2
  have hcc : c ∈ cols := hac c (by
    have : a.cps.toList[l]? = some c := by rw [Array.getElem?_toList]; exact hc
    exact List.mem_of_getElem? this)
  obtain ⟨orest, hocc⟩ := ix_one hcc
  have hat := row_at hrl hcc
  obtain ⟨its, rv, pl, hz⟩ := I.tuple (show SqT X.K G ra (row.map V.int) from .inl (.inl hra))
  obtain ⟨w, hw, rw'⟩ := rv.get hat
  obtain ⟨tw, rfl⟩ := rw'
  have pl2 : u2.heap.IsTuple ra its.toArray := by
    obtain ⟨o, ho, r1, r2⟩ := pl
    refine ⟨o, hk3 ra o (fun z => ?_) ho, r1, r2⟩
    obtain ⟨ps, hPp, _⟩ := hT
    rw [z, hPp] at hra
    cases hra
  have hidx : cols.idxOf c < its.length := (List.getElem?_eq_some_iff.mp hw).1
  have kf : ce.scope.kind = .function := by rw [hs]; exact hf
  refine PyProof.Rows.Subscript_ ?_
  refine wpAny_Name (wpAny_loadName_free kf (show ce.scope.names.lookup rn = some .free by rw [hs]; exact hrf) (by rw [hcl]; exact hl2) (cell_kept I hT hcell2 hk3) ?_ hd5) hd4
  refine wpAny_Call_method_late (by rfl) (by rfl) hline rfl ?_
  refine wpAny_Name (wpAny_loadName_free kf (show ce.scope.names.lookup y = some .free by rw [hs]; exact hyl) (by rw [hcl]; exact hl) (cell_kept I hT hcell hk3) ?_ hd3) hd2
  refine ⟨"str", "str.index", PySem.F.plainAttrs_str, PySem.F.slot_str_index, PySem.F.type_str_index, typeIs_str _ _ _, (fun _ z => nomatch z), ?_⟩
  refine Calls.callWith_builtin (by rfl) (Calls.evalArgs_plain ?_)
  refine Calls.spliced_cons (wpAny_Name (wpAny_loadName_local kf (show ce.scope.names.lookup x = some .local by rw [hs]; exact hx) hn hm ?_) hd1)
  refine Calls.spliced_nil ?_
  refine PySem.SC.index hocc ?_
  have hsz : its.length ≤ sizeLine := by
    have := rv.length
    rw [← this]
    exact hz
  have h63 := line63
  refine subscriptTail_builtinR (x := .int (rowAt cols row c) tw) (s := { u2 with toks := u2.toks + 1 }) pl2.typeIs slot_tuple_getitem.lookup ?_ (by rfl)
  refine getItem_tuple (j := cols.idxOf c) (s := { u2 with toks := u2.toks + 1 }) pl2 (by omega) (by omega) ?_ (by simpa using hw) ⟨rfl, ⟨c, tw, hc, rfl⟩, GxR.keeps_tok _ _⟩
  rw [List.size_toArray]
  exact PySem.seqIndex_of (by omega) (by omega)
end
end My

set_option Elab.async false
set_option linter.all false
set_option maxRecDepth 100000
set_option maxHeartbeats 2000000
namespace My
open PySem PySem.Spec PyProof.Rows L2
section
variable {X : Cx} {pins : List (Addr × Obj)} {σ : L2.St} {H : Hp} {s : Shared}
/-! d[x][n], d a captured dict of pairs of numbers -/
theorem elt_want {G : Hp} {P d : Addr} {scope : Scope} {x dn : Str} {p1 p2 p3 p4 p5 : Pos} {i kd : Nat} {n : Int} {a : Str} {kvs : List (Key × V)} {f : Nat → Int} (hT : GxR.TabG G P) (hN : X.N[i]? = some dn) (hv : σ[i]? = some (some (.ref d))) (hk : X.env.scope.names.lookup dn = some .cell)
    (hd : G d = some (.dK kvs)) (hn01 : n = 0 ∨ n = 1) (hac : ∀ c ∈ a.cps.toList, ∃ (p : Addr) (lo hi : Int), valV kvs (Sum.inr (sS c)) = some (.ref p) ∧ G p = some (.tup [.int lo, .int hi]) ∧ f c = (if n = 0 then lo else hi))
    (hf : scope.kind = .function) (hx : scope.names.lookup x = some .local) (hy : (dn, NameKind.free) ∈ scope.names) (hyl : scope.names.lookup dn = some .free)
    (hd1 : (x == ("__debug__" : Str)) = false := by decide) (hd2 : (dn == ("__debug__" : Str)) = false := by decide) (hd3 : (dn == ("__classdict__" : Str)) = false := by decide) :
    EltQ X σ G P scope x (.Subscript (.Subscript (.Name dn p1) (.Name x p2) p3) (.Constant (.int n) kd p4) p5) (SignAt a) (fun l w => ∃ c t, a.cps[l]? = some c ∧ w = .int (f c) t) := by
  intro pins u1 I ce B E' l v u2 m2 hB hs hcl hP hn hm hk3
  obtain ⟨c, t, hc, rfl⟩ := hP
  obtain ⟨ud, cl, ru, hl, hcell⟩ := capt I hN hv hk hy
  cases ru
  obtain ⟨p, lo, hi, hval, hp, hfc⟩ := hac c (by
    have : a.cps.toList[l]? = some c := by rw [Array.getElem?_toList]; exact hc
    exact List.mem_of_getElem? this)
  have neP : ∀ {b : Addr} {o : HO}, G b = some o → (∀ q, o ≠ .tbl q) → b ≠ P := fun {b o} hb ho z => by
    obtain ⟨ps, hPp, _⟩ := hT
    rw [z, hPp] at hb
    exact ho ps (Option.some.inj hb).symm
  obtain ⟨hz, hds, vs, rel, dd⟩ := dk_of I.hok hd
  have hndP : d ≠ P := neP hd (fun q z => nomatch z)
  have dd2 : u2.heap.DictOf (mixKind X.prog X.w) d vs := by
    exact dd.at fun o ho => hk3 d o hndP ho
  obtain ⟨wv, hw, rwv⟩ := RelO.some_of (v := .ref p) (o := valueAt vs (Sum.inr (sS c))) (by rw [← hval]; exact rel.val _)
  cases rwv
  obtain ⟨its, rv, pl, hz2⟩ := I.tuple (show SqT X.K G p [.int lo, .int hi] from .inl (.inl hp))
  have hnpP : p ≠ P := neP hp (fun q z => nomatch z)
  have pl2 : u2.heap.IsTuple p its.toArray := by
    obtain ⟨o, ho, r⟩ := pl
    exact ⟨o, hk3 p o hnpP ho, r⟩
  have kf : ce.scope.kind = .function := by rw [hs]; exact hf
  refine PyProof.Rows.Subscript_ ?_
  refine subD_of PySem.F.slot_dict_getitem.lookup (fun _ _ => rfl) ?_
  refine wpAny_Name (wpAny_loadName_free kf (show ce.scope.names.lookup dn = some .free by rw [hs]; exact hyl) (by rw [hcl]; exact hl) (cell_kept I hT hcell hk3) ?_ hd3) hd2
  refine wpAny_Name (wpAny_loadName_local kf (show ce.scope.names.lookup x = some .local by rw [hs]; exact hx) hn hm ?_) hd1
  refine ⟨dd2.typeIs, wpAny_getItem_of (k := Sum.inr (sS c)) (kV_is (k := Sum.inr (sS c)) ⟨t, rfl⟩) dd2.mapOf hw ?_⟩
  refine wpAny_Constant_int ?_
  have hl2 : its.length = 2 := rv.length.symm
  have two : ∃ (j : Nat) (tw : Tok), j < 2 ∧ n = (j : Int) ∧ its[j]? = some (.int (f c) tw) := by
    rcases hn01 with z | z
    · obtain ⟨w, hw0, rw0⟩ := rv.get (i := 0) rfl
      obtain ⟨tw, rfl⟩ := rw0
      exact ⟨0, tw, by decide, z, by rw [hw0, hfc, if_pos z]⟩
    · obtain ⟨w, hw0, rw0⟩ := rv.get (i := 1) rfl
      obtain ⟨tw, rfl⟩ := rw0
      exact ⟨1, tw, by decide, z, by rw [hw0, hfc, if_neg (by rw [z]; decide)]⟩
  obtain ⟨j, tw, hj2, hnj, hitj⟩ := two
  refine subscriptTail_builtinR (x := .int (f c) tw) pl2.typeIs slot_tuple_getitem.lookup ?_ (by rfl)
  refine getItem_tuple (j := j) pl2 (by omega) (by omega) ?_ (by simpa using hitj) ⟨rfl, ⟨c, tw, hc, rfl⟩, GxR.keeps_tok _ _⟩
  rw [List.size_toArray, hl2, hnj]
  exact PySem.seqIndex_of (by omega) (by omega)
end
end My

set_option Elab.async false
set_option linter.all false
set_option maxRecDepth 100000
set_option maxHeartbeats 2000000
namespace My
open PySem PySem.Spec PyProof.Rows L2
/-! ### tables of code objects: they may grow, all else stays -/
def TG (Ps : List Addr) (H : Hp) : Prop := ∀ P ∈ Ps, GxR.TabG H P
def Sx (Ps : List Addr) (H H' : Hp) : Prop := ∀ b o, b ∉ Ps → H b = some o → H' b = some o
theorem Sx.rfl' {Ps : List Addr} {H : Hp} : Sx Ps H H := fun _ _ _ h => h
theorem Sx.trans {Ps : List Addr} {H H1 H2 : Hp} (a : Sx Ps H H1) (b : Sx Ps H1 H2) : Sx Ps H H2 := fun c o n h => b c o n (a c o n h)
theorem Same.sx {Ps : List Addr} {H H' : Hp} (s : Same H H') : Sx Ps H H' := fun b o _ h => s b o h
theorem TG.same {Ps : List Addr} {H H' : Hp} (t : TG Ps H) (s : Same H H') : TG Ps H' := fun P hP => by
  obtain ⟨ps, h, r⟩ := t P hP
  exact ⟨ps, s _ _ h, r⟩
theorem TG.not {Ps : List Addr} {H : Hp} {b : Addr} {o : HO} (t : TG Ps H) (h : H b = some o) (ho : ∀ q, o ≠ .tbl q) : b ∉ Ps := fun hb => by
  obtain ⟨ps, h2, _⟩ := t b hb
  rw [h2] at h
  exact ho ps (Option.some.inj h).symm
theorem TG.kp {Ps : List Addr} {H H' : Hp} {r : Addr} {xs : List V} (t : TG Ps H) (hr : H r = some (.lst xs)) (k : Kp r H H') : TG Ps H' := fun P hP => by
  obtain ⟨ps, h, q⟩ := t P hP
  refine ⟨ps, k _ _ (fun z => ?_) h, q⟩
  rw [z, hr] at h
  cases h
theorem TG.new {Ps : List Addr} {H : Hp} {p : Addr} {o : HO} (t : TG Ps H) (n : H p = none) : TG Ps (upd H p o) := t.same (Same.new (Same.refl H) n)
theorem Sx.kt {Ps : List Addr} {H H' : Hp} (t : TG Ps H) (s : Sx Ps H H') : Kt H H' := fun b xs h => s b _ (t.not h fun q z => nomatch z) h
theorem Sx.lst {Ps : List Addr} {H H' : Hp} {b : Addr} {xs : List V} (t : TG Ps H) (s : Sx Ps H H') (h : H b = some (.lst xs)) : H' b = some (.lst xs) := s b _ (t.not h fun q z => nomatch z) h
theorem Sx.dct {Ps : List Addr} {H H' : Hp} {b : Addr} {xs : List (Key × V)} (t : TG Ps H) (s : Sx Ps H H') (h : H b = some (.dK xs)) : H' b = some (.dK xs) := s b _ (t.not h fun q z => nomatch z) h
theorem Sx.new {Ps : List Addr} {H H1 : Hp} {p : Addr} {o : HO} (s : Sx Ps H H1) (n : H1 p = none) : Sx Ps H (upd H1 p o) := fun b x nb h => keep_new (s b x nb h) n
theorem Sx.mut {Ps : List Addr} {H H1 : Hp} {p : Addr} {o : HO} (s : Sx Ps H H1) (n : H p = none) : Sx Ps H (upd H1 p o) := fun b x nb h => keep_ne (s b x nb h) (ne_of_none h n)
theorem Sx.free {Ps : List Addr} {H H' : Hp} {p : Addr} (t : TG Ps H') (s : Sx Ps H H') (h : H' p = none) : H p = none := by
  cases q : H p with
  | none => rfl
  | some o =>
    by_cases hp : p ∈ Ps
    · obtain ⟨ps, h2, _⟩ := t p hp
      rw [h] at h2
      cases h2
    · rw [s p o hp q] at h
      cases h
/-- one table of them has grown -/
theorem Tabbed.sx {Ps : List Addr} {P : Addr} {H H' : Hp} (hP : P ∈ Ps) (t : GxR.Tabbed P H H') : Sx Ps H H' := fun b o nb h => by
  rw [t.2 b fun z => nb (z ▸ hP)]
  exact h
theorem Tabbed.tg {Ps : List Addr} {P : Addr} {H H' : Hp} (g : TG Ps H) (t : GxR.Tabbed P H H') : TG Ps H' := fun P' hP' => by
  by_cases e : P' = P
  · rw [e]
    exact t.1
  · obtain ⟨ps, h, q⟩ := g P' hP'
    exact ⟨ps, (t.2 P' e).trans h, q⟩
/-! ### a def whose code object is told -/
def FunC (K : PySem.W.Frag) (x qual : Str) (st : Stmt) (f : Addr) (fd : FuncData) (c : Addr) : Prop :=
  ∃ (oc : Value) (od : Option Addr) (kV doc pm : Value) (an : Option Addr) (ct : Value) (osl : Array (Option Value)), fd = PySem.W.fnOf x qual (defArgs st) (defBody st) (defScope st) .none kV doc pm an (.ref c) ct ∧ K.lookup f = some ⟨oc, od, .func fd, osl⟩ ∧ PySem.W.codeIn K (.ref c) qual = true
theorem FunC.ok {P : Program} {w : World} {K : PySem.W.Frag} {mg : Str → Option Value} {base : Heap} {x qual : Str} {st : Stmt} {f c : Addr} {fd : FuncData} {N ps : List Str} {k : Nat} {sp : Sp} (F : FunC K x qual st f fd c) (S : FnScope N ps (defScope st)) (len : ∀ vs H Q E, sp vs H Q E → vs.length = ps.length)
    (hbody : ∀ (A : Around) (outer : List Env) (s : Shared) (H : Hp) (vs : List V) (Q : VK) (E : XK), Room k (A.deeper (envOfC qual (defScope st) s.heap.objs.size f (.ref c))) → sp vs H Q E →
      ∃ t, PSs (cxOf CX0 P w K mg base N qual (defScope st) f (.ref c) A outer s H E).nox (defBody st) t ∧ t { nx := fun _ H' => Q .non H', rt := Q } (start N vs) H) : FnOk P w K mg base CX0 (k + 1) f fd ps sp := by
  obtain ⟨oc, od, kV, doc, pm, an, ct, osl, rfl, lk, hcd⟩ := F
  refine fn_of lk hcd S len fun A outer s H vs Q E hr hsp => ?_
  obtain ⟨t, h, q⟩ := hbody A outer s H vs Q E hr hsp
  exact ⟨t, h.nox, q⟩
theorem FunC.fn {K : PySem.W.Frag} {x qual : Str} {st : Stmt} {f c : Addr} {fd : FuncData} (F : FunC K x qual st f fd c) (k : PySem.W.keepIn K (.ref f) = true) : Fun K x qual st f fd := by
  obtain ⟨oc, od, kV, doc, pm, an, ct, osl, e, lk, hcd⟩ := F
  exact ⟨⟨oc, od, kV, doc, pm, an, .ref c, ct, osl, e, lk, hcd⟩, k⟩
/-- the generator expression's scope within a def's -/
def genC (sc scope : Scope) (x : Str) : Bool :=
  (match scope.kind with | .function => true | _ => false) && !scope.isCoroutine && (scope.names.all fun y => match y.2 with | .cell => false | .free => (match sc.names.lookup y.1 with | some .cell => true | _ => false) | _ => true) &&
    (match scope.names.lookup (".0" : Str) with | some .local => true | _ => false) && (match scope.names.lookup x with | some .local => true | _ => false)
theorem genS_by {sc scope : Scope} {x : Str} {env : Env} {n : Nat} (h : genC sc scope x = true) (hc : env.cells = cellsFrom n sc.names []) : GxR.GenS env scope x := by
  unfold genC at h
  simp only [Bool.and_eq_true] at h
  obtain ⟨⟨⟨⟨h1, h2⟩, h3⟩, h4⟩, h5⟩ := h
  rw [List.all_eq_true] at h3
  refine ⟨?_, ?_, fun y hy z => ?_, ?_, ?_, fun y hy z => ?_⟩
  · revert h1
    cases scope.kind <;> simp
  · simpa using h2
  · have := h3 y hy
    rw [z] at this
    cases this
  · revert h4
    cases scope.names.lookup (".0" : Str) with
    | none => simp
    | some k => cases k <;> simp
  · revert h5
    cases scope.names.lookup x with
    | none => simp
    | some k => cases k <;> simp
  · have q := h3 y hy
    rw [z] at q
    have q2 : sc.names.lookup y.1 = some .cell := by
      revert q
      cases sc.names.lookup y.1 with
      | none => simp
      | some k => cases k <;> simp
    have := PySem.W.cellsFrom_some sc.names n [] (.inl q2)
    rw [hc]
    exact Option.isSome_iff_exists.mp this
/-! ### the generator expressions that we met -/
def DRow (P : Addr) (i j : Nat) : V → L2.St → Hp → List V → Prop := fun v σ G xs => GxR.TabG G P ∧ ∃ (a : Str) (cols : List Nat) (ra : Addr) (row : List Int), v = .str a ∧ a.length ≤ sizeLine ∧ σ[i]? = some (some (tx cols)) ∧ σ[j]? = some (some (.ref ra)) ∧ G ra = some (.tup (row.map V.int)) ∧ row.length = cols.length ∧ (∀ c ∈ a.cps.toList, c ∈ cols) ∧ xs = a.cps.toList.map fun c => V.int (rowAt cols row c)
theorem hd_row {X : Cx} {P : Addr} {scope : Scope} {x y rn : Str} {p1 p2 p3 p4 p5 p6 : Pos} {i j : Nat} (hN : X.N[i]? = some y) (hk : X.env.scope.names.lookup y = some .cell) (hN2 : X.N[j]? = some rn) (hk2 : X.env.scope.names.lookup rn = some .cell)
    (hf : scope.kind = .function) (hx : scope.names.lookup x = some .local) (hyl : scope.names.lookup y = some .free) (hrf : scope.names.lookup rn = some .free) (hy : (y, NameKind.free) ∈ scope.names) (hr : (rn, NameKind.free) ∈ scope.names) (hline : (p3.endLine == p5.line) = true)
    (hd1 : (x == ("__debug__" : Str)) = false := by decide) (hd2 : (y == ("__debug__" : Str)) = false := by decide) (hd3 : (y == ("__classdict__" : Str)) = false := by decide) (hd4 : (rn == ("__debug__" : Str)) = false := by decide) (hd5 : (rn == ("__classdict__" : Str)) = false := by decide) :
    ∀ (pins : List (Addr × Obj)) (σ : L2.St) (G : Hp) (v : V) (xs : List V), DRow P i j v σ G xs → xs.length ≤ sizeLine ∧ ∃ (Pf F : Nat → Value → Prop), (∀ u, RelV v u → Src X pins σ G P u xs.length Pf) ∧
      EltQ X σ G P scope x (.Subscript (.Name rn p1) (.Call (.Attribute (.Name y p2) "index" p3) [.Name x p4] [] p5) p6) Pf F ∧ ∀ (l : Nat) (y : Value) (z : V), xs[l]? = some z → F l y → RelV z y := by
  intro pins σ G v xs h
  obtain ⟨hT, a, cols, ra, row, rfl, hz, hv, hv2, hra, hrl, hac, rfl⟩ := h
  have hl : (a.cps.toList.map fun c => V.int (rowAt cols row c)).length = a.cps.size := by rw [List.length_map]; exact Array.length_toList
  refine ⟨by rw [hl]; exact hz, _, _, fun u ru => ?_, elt_row hT hN hv hk hN2 hv2 hk2 hra hrl hac hf hx hy hyl hr hrf hline hd1 hd2 hd3 hd4 hd5, fun l y z h1 h2 => ?_⟩
  · obtain ⟨t, rfl⟩ := ru
    rw [hl]
    exact src_str a t
  · obtain ⟨c, t, hc, rfl⟩ := h2
    rw [List.getElem?_map, Array.getElem?_toList, hc] at h1
    cases h1
    exact ⟨t, rfl⟩
def DWant (P : Addr) (i : Nat) (n : Int) : V → L2.St → Hp → List V → Prop := fun v σ G xs => GxR.TabG G P ∧ ∃ (a : Str) (d : Addr) (kvs : List (Key × V)) (f : Nat → Int), v = .str a ∧ a.length ≤ sizeLine ∧ σ[i]? = some (some (.ref d)) ∧ G d = some (.dK kvs) ∧
  (∀ c ∈ a.cps.toList, ∃ (p : Addr) (lo hi : Int), valV kvs (Sum.inr (sS c)) = some (.ref p) ∧ G p = some (.tup [.int lo, .int hi]) ∧ f c = (if n = 0 then lo else hi)) ∧ xs = a.cps.toList.map fun c => V.int (f c)
theorem hd_want {X : Cx} {P : Addr} {scope : Scope} {x dn : Str} {p1 p2 p3 p4 p5 : Pos} {i kd : Nat} {n : Int} (hn01 : n = 0 ∨ n = 1) (hN : X.N[i]? = some dn) (hk : X.env.scope.names.lookup dn = some .cell)
    (hf : scope.kind = .function) (hx : scope.names.lookup x = some .local) (hyl : scope.names.lookup dn = some .free) (hy : (dn, NameKind.free) ∈ scope.names)
    (hd1 : (x == ("__debug__" : Str)) = false := by decide) (hd2 : (dn == ("__debug__" : Str)) = false := by decide) (hd3 : (dn == ("__classdict__" : Str)) = false := by decide) :
    ∀ (pins : List (Addr × Obj)) (σ : L2.St) (G : Hp) (v : V) (xs : List V), DWant P i n v σ G xs → xs.length ≤ sizeLine ∧ ∃ (Pf F : Nat → Value → Prop), (∀ u, RelV v u → Src X pins σ G P u xs.length Pf) ∧
      EltQ X σ G P scope x (.Subscript (.Subscript (.Name dn p1) (.Name x p2) p3) (.Constant (.int n) kd p4) p5) Pf F ∧ ∀ (l : Nat) (y : Value) (z : V), xs[l]? = some z → F l y → RelV z y := by
  intro pins σ G v xs h
  obtain ⟨hT, a, d, kvs, f, rfl, hz, hv, hd, hac, rfl⟩ := h
  have hl : (a.cps.toList.map fun c => V.int (f c)).length = a.cps.size := by rw [List.length_map]; exact Array.length_toList
  refine ⟨by rw [hl]; exact hz, _, _, fun u ru => ?_, elt_want hT hN hv hk hd hn01 hac hf hx hy hyl hd1 hd2 hd3, fun l y z h1 h2 => ?_⟩
  · obtain ⟨t, rfl⟩ := ru
    rw [hl]
    exact src_str a t
  · obtain ⟨c, t, hc, rfl⟩ := h2
    rw [List.getElem?_map, Array.getElem?_toList, hc] at h1
    cases h1
    exact ⟨t, rfl⟩
/-! ### the end: the tables of all defs are empty -/
def OwnTC (K : PySem.W.Frag) (fa : Addr) (h : Heap) : Prop := ∀ (c P : Addr) (o : Obj) (fd : FuncData) (e : Value) (dd : Option Addr) (vs : Array Value) (sl : Array (Option Value)), K.lookup fa = some o → o.data = .func fd → fd.code = .ref c → K.lookup c = some ⟨e, dd, .fields vs, sl⟩ → vs[11]? = some (.ref P) →
  h.get? P = some { cls := .none, data := .fields #[] } ∧ PySem.W.CodeHd h c P
/-- the table of each def that the top has bound is empty, and its code object shows it -/
theorem own_of {q : Program} {loose : List Str} {mean : ExcName → Option Value} {mg mb : Str → Option Value} {h : Heap} {K : PySem.W.Frag} (KX : K.In h) (T : Top q loose mean mg mb h) {nm : Str} {fb : Addr} (hr : ((recsOf q).any fun e => e.name == nm) = true) (hm : mg nm = some (.ref fb)) : OwnTC K fb h := by
  intro c P o fd e dd vs sl lf df cf lc at11
  obtain ⟨d, hd, en⟩ := List.any_eq_true.mp hr
  obtain ⟨fb', o', fd', c', P', h1, h2, h3, h4, isC, isT⟩ := T.tab d hd
  obtain rfl : fb = fb' := Value.ref.inj (Option.some.inj (hm.symm.trans ((congrArg mg (beq_iff_eq.mp en)).symm.trans h1)))
  obtain rfl : o = o' := Option.some.inj ((KX _ _ lf).symm.trans h2)
  obtain rfl : fd = fd' := Data.func.inj (df.symm.trans h3)
  obtain rfl : c = c' := Value.ref.inj (cf.symm.trans h4)
  have hd := PySem.W.CodeHd.of isC isT
  obtain ⟨⟨oc, vc, g1, _, g3, g4⟩, empty⟩ := isT
  obtain rfl := Option.some.inj ((KX _ _ lc).symm.trans g1)
  obtain rfl : vs = vc := Data.fields.inj g3
  obtain rfl : P = P' := Value.ref.inj (Option.some.inj (at11.symm.trans g4))
  exact ⟨empty, hd⟩
theorem walk_ofTabs {l : PySem.W.OpenLaw} {n k : Nat} {q : Program} {loose : List Str} {XP : (Str → Option Value) → Heap → Prop} {YP : World → Heap → Prop} {d : DefRec} {K : Params → PySem.W.Frag} {CX : World → CXT} {x : Str}
    (most : l.most = some n) (short : n ≤ sizeLine) (plain : d.params.defaults = []) (room : Room k callerA) (inK : ∀ (w : World) (h : Heap), YP w h → (K w.params).In h)
    (F : ∀ (w : World) (mg : Str → Option Value) (fa : Addr) (h : Heap), YP w h → (K w.params).In h → h.Ns mainGlobals mg → mg d.name = some (.ref fa) →
      (∀ (nm : Str) (fb : Addr), ((recsOf q).any fun e => e.name == nm) = true → mg nm = some (.ref fb) → OwnTC (K w.params) fb h) → LamX.LawAtS l w (K w.params) (CX w) k n x mg fa h)
    (calm : ∀ (w : World) (H : Hp) (s : Shared) (e : Value) (s' : Shared), CX w [] H s (fun _ _ _ => False) e s' → False) :
    PySem.W.WalkO q loose XP YP l.row.toRowW d [] (fun f vs => PySem.call f vs) :=
  Att.attach_callB most plain fun w _ s₁ _ _ _ _ _ _ _ a _ ns G Y _ _ _ mgF obj isInts len bits gens =>
    have KX := inK w _ Y
    let ⟨_, _, _, empty, out, code, bind, pre, ok⟩ := F w _ _ _ Y KX G.T.g mgF fun _ _ => own_of KX G.T
    LamX.law_callTs KX G.T.g G.T.b G.T.builtins G.T.nolimit gens empty out code G.T.bmain obj isInts (Nat.le_trans len short) room ok bind (fun H tabs list => pre H a ns len bits tabs list) fun H e s' => calm w H s₁ e s'
end My

set_option Elab.async false
set_option linter.all false
set_option maxRecDepth 100000
set_option maxHeartbeats 2000000
namespace My
open PySem PySem.Spec PyProof.Rows L2
/-! ### texts by their codes -/
theorem inV_signs (c : Nat) : ∀ l : List Nat, inV (sg c) (l.map sg) = decide (c ∈ l)
  | [] => rfl
  | d :: l => by
    have ih := inV_signs c l
    show (((sS d) == (sS c)) || inV (sg c) (l.map sg)) = decide (c ∈ d :: l)
    rw [ih]
    by_cases e : d = c
    · rw [e]
      simp
    · have e2 : ((sS d) == (sS c)) = false := by
        rw [Bool.eq_false_iff]
        intro z
        exact e (sS_inj (by simpa using z))
      have e3 : ¬ c = d := fun z => e z.symm
      rw [e2]
      simp [e3]
theorem flat_signs (l : List Nat) : (l.map sg).all flatV = true := by
  rw [List.all_map, List.all_eq_true]
  intro c _
  rfl
theorem cut_take (l : List Nat) (k : Nat) : cutS ⟨l.toArray⟩ none (some (k : Int)) = ⟨(l.take k).toArray⟩ := by
  unfold cutS
  rw [HT.sIx_none, HT.sIx_nat]
  show (⟨((l.toArray.toList.drop 0).take (min k l.toArray.size - 0)).toArray⟩ : Str) = _
  have e1 : l.toArray.toList = l := by simp
  have e2 : l.toArray.size = l.length := by simp
  rw [e1, e2, List.drop_zero, Nat.sub_zero]
  congr 2
  rw [List.take_eq_take_iff]
  omega
theorem cut_one (l : List Nat) (k : Nat) (hk : k ≤ l.length) : cutS ⟨l.toArray⟩ (some (k : Int)) (some ((k : Int) + 1)) = ⟨((l.drop k).take 1).toArray⟩ := by
  unfold cutS
  have e0 : ((k : Int) + 1) = ((k + 1 : Nat) : Int) := by omega
  rw [e0, HT.sIx_nat, HT.sIx_nat]
  show (⟨((l.toArray.toList.drop (min k l.toArray.size)).take (min (k + 1) l.toArray.size - min k l.toArray.size)).toArray⟩ : Str) = _
  have e1 : l.toArray.toList = l := by simp
  have e2 : l.toArray.size = l.length := by simp
  rw [e1, e2, Nat.min_eq_left hk]
  congr 2
  rw [List.take_eq_take_iff, List.length_drop]
  omega
theorem tx_inj {a b : List Nat} (h : tx a = tx b) : a = b := by
  have h2 : (⟨a.toArray⟩ : Str) = ⟨b.toArray⟩ := V.str.inj h
  have h3 : a.toArray = b.toArray := congrArg Str.cps h2
  simpa using h3
/-! ### the letters that a question uses -/
def eqPart (one : List Nat) (es : List (Nat × Int)) : List Nat := one.takeWhile fun c => decide (c ∈ es.map (·.1))
def usedM (one : List Nat) (es : List (Nat × Int)) (rc : Option (Nat × Int × Int)) : List Nat :=
  match rc with
  | none => eqPart one es
  | some (c, _, _) => if (one.drop (eqPart one es).length).take 1 = [c] then one.take ((eqPart one es).length + 1) else eqPart one es
theorem eqPart_take (one : List Nat) (es : List (Nat × Int)) : eqPart one es = one.take (eqPart one es).length := by
  unfold eqPart
  exact List.prefix_iff_eq_take.mp (List.takeWhile_prefix _)
theorem eqPart_le (one : List Nat) (es : List (Nat × Int)) : (eqPart one es).length ≤ one.length := (List.takeWhile_prefix _).length_le
theorem take_while_at {α : Type} (p : α → Bool) : ∀ (l : List α) (k : Nat), k ≤ l.length → (∀ i (h : i < l.length), i < k → p l[i] = true) → (∀ (h : k < l.length), p l[k] = false) → (l.takeWhile p).length = k
  | [], k, hk, _, _ => by
    have : k = 0 := by
      have : k ≤ 0 := hk
      omega
    rw [this]
    rfl
  | a :: l, 0, _, _, h => by
    have := h (by simp)
    rw [List.takeWhile_cons, show p a = false from this]
    rfl
  | a :: l, k + 1, hk, h1, h2 => by
    have e := h1 0 (by simp) (by omega)
    rw [List.takeWhile_cons, show p a = true from e]
    have ih := take_while_at p l k (by have : k + 1 ≤ l.length + 1 := hk; omega) (fun i hi hik => h1 (i + 1) (by simpa using hi) (by omega)) (fun h => h2 (by simpa using h))
    show (a :: l.takeWhile p).length = k + 1
    rw [List.length_cons, ih]
section
variable (K : PySem.W.Frag) {X : Cx}
theorem ltTK (hu : X.A.units < cLine) (hK : X.K = K := by rfl) : OpR X (compareOp .Lt) (rLtT K) := by
  subst hK
  exact op_ltT hu
theorem leTK (hu : X.A.units < cLine) (hK : X.K = K := by rfl) : OpR X (compareOp .LtE) (rLeT K) := by
  subst hK
  exact op_leT hu
end
/-! ### the bounds that a question asks of a letter -/
def spanOf (es : List (Nat × Int)) (rc : Option (Nat × Int × Int)) (c : Nat) : Int × Int := match (spanL es rc).find? (fun t => decide (t.1 = c)) with
  | some t => t.2
  | none => (0, 0)
theorem spanOf_mem {es : List (Nat × Int)} {rc : Option (Nat × Int × Int)} {c : Nat} {lo hi : Int} (nd : ((spanL es rc).map (·.1)).Nodup) (h : (c, lo, hi) ∈ spanL es rc) : spanOf es rc c = (lo, hi) := by
  unfold spanOf
  generalize spanL es rc = l at nd h
  induction l with
  | nil => cases h
  | cons t l ih =>
    rw [List.find?_cons]
    by_cases e : t.1 = c
    · rw [decide_eq_true e]
      rcases List.mem_cons.mp h with z | z
      · rw [← z]
      · have := (List.nodup_cons.mp nd).1
        exfalso
        apply this
        show t.1 ∈ _
        rw [e]
        exact List.mem_map_of_mem (f := fun t : Nat × Int × Int => t.1) z
    · rw [decide_eq_false e]
      rcases List.mem_cons.mp h with z | z
      · exfalso
        apply e
        rw [← z]
      · exact ih (List.nodup_cons.mp nd).2 z
theorem mem_tw {α : Type} (p : α → Bool) : ∀ (l : List α) (a : α), a ∈ l.takeWhile p → p a = true
  | [], _, h => by cases h
  | b :: l, a, h => by
    rw [List.takeWhile_cons] at h
    by_cases e : p b = true
    · rw [if_pos e] at h
      rcases List.mem_cons.mp h with z | z
      · rw [z]
        exact e
      · exact mem_tw p l a z
    · rw [if_neg e] at h
      cases h
theorem used_span {one : List Nat} {es : List (Nat × Int)} {rc : Option (Nat × Int × Int)} {c : Nat} (h : c ∈ usedM one es rc) : ∃ lo hi, (c, lo, hi) ∈ spanL es rc := by
  have eqp : ∀ c ∈ eqPart one es, ∃ lo hi, (c, lo, hi) ∈ spanL es rc := fun c hc => by
    have hm : c ∈ es.map (·.1) := by
      unfold eqPart at hc
      have := mem_tw _ _ _ hc
      exact of_decide_eq_true this
    obtain ⟨p, hp, rfl⟩ := List.mem_map.mp hm
    exact ⟨p.2, p.2, List.mem_append_left _ (List.mem_map_of_mem (f := fun p : Nat × Int => (p.1, p.2, p.2)) hp)⟩
  cases rc with
  | none => exact eqp c h
  | some t =>
    obtain ⟨d, lo, hi⟩ := t
    have h2 : c ∈ (if (one.drop (eqPart one es).length).take 1 = [d] then one.take ((eqPart one es).length + 1) else eqPart one es) := h
    by_cases e : (one.drop (eqPart one es).length).take 1 = [d]
    · rw [if_pos e, List.take_add, ← eqPart_take, e] at h2
      rcases List.mem_append.mp h2 with z | z
      · exact eqp c z
      · rw [List.mem_singleton.mp z]
        exact ⟨lo, hi, List.mem_append_right _ (by simp)⟩
    · rw [if_neg e] at h2
      exact eqp c h2
theorem used_sub {one : List Nat} {es : List (Nat × Int)} {rc : Option (Nat × Int × Int)} : ∃ k, usedM one es rc = one.take k ∧ k ≤ one.length + 1 := by
  have hl := eqPart_le one es
  cases rc with
  | none => exact ⟨_, eqPart_take one es, by omega⟩
  | some t =>
    obtain ⟨d, lo, hi⟩ := t
    show ∃ k, (if (one.drop (eqPart one es).length).take 1 = [d] then one.take ((eqPart one es).length + 1) else eqPart one es) = one.take k ∧ _
    by_cases e : (one.drop (eqPart one es).length).take 1 = [d]
    · rw [if_pos e]
      exact ⟨_, rfl, by omega⟩
    · rw [if_neg e]
      exact ⟨_, eqPart_take one es, by omega⟩
theorem used_in {one : List Nat} {es : List (Nat × Int)} {rc : Option (Nat × Int × Int)} {c : Nat} (h : c ∈ usedM one es rc) : c ∈ one := by
  obtain ⟨k, e, _⟩ := used_sub (one := one) (es := es) (rc := rc)
  rw [e] at h
  exact List.mem_of_mem_take h
theorem used_len (one : List Nat) (es : List (Nat × Int)) (rc : Option (Nat × Int × Int)) : (usedM one es rc).length ≤ one.length := by
  obtain ⟨k, e, _⟩ := used_sub (one := one) (es := es) (rc := rc)
  rw [e, List.length_take]
  exact Nat.min_le_right _ _
theorem TG.mut {Ps : List Addr} {H : Hp} {p : Addr} {xs : List V} {o : HO} (t : TG Ps H) (h : H p = some (.lst xs)) : TG Ps (upd H p o) := fun P hP => by
  obtain ⟨ps, h2, q⟩ := t P hP
  refine ⟨ps, ?_, q⟩
  rw [upd_ne (fun z => ?_)]
  · exact h2
  · rw [z, h] at h2
    cases h2
theorem row_at_fz {H : Hp} {p : Addr} {row : List Int} (h : H p = some (.tup (row.map V.int))) : Fz H (.ref p) (rowD row) := .tup h FzA.ofInts
/-! ### stretches -/
def keyM (cols : List Nat) (row : List Int) (ls : List Nat) : List Int := ls.map (rowAt cols row)
def leK (ns ms : List Int) : Bool := Ob.lexAt (fun j => decide (ns.getD j 0 = ms.getD j 0)) (fun j => decide (ns.getD j 0 ≤ ms.getD j 0)) (decide (ns.length ≤ ms.length)) 0 (min ns.length ms.length)
def loM (es : List (Nat × Int)) (rc : Option (Nat × Int × Int)) (u : List Nat) : List Int := u.map fun c => (spanOf es rc c).1
def hiM (es : List (Nat × Int)) (rc : Option (Nat × Int × Int)) (u : List Nat) : List Int := u.map fun c => (spanOf es rc c).2
def aheadM (cols : List Nat) (rows : List (List Int)) (one : List Nat) (es : List (Nat × Int)) (rc : Option (Nat × Int × Int)) : Nat := (rows.filter fun row => HT.lexLt (keyM cols row (usedM one es rc)) (loM es rc (usedM one es rc))).length
def behindM (cols : List Nat) (rows : List (List Int)) (one : List Nat) (es : List (Nat × Int)) (rc : Option (Nat × Int × Int)) : Nat := (rows.filter fun row => leK (keyM cols row (usedM one es rc)) (hiM es rc (usedM one es rc))).length
end My

set_option Elab.async false
set_option linter.all false
set_option maxRecDepth 100000
set_option maxHeartbeats 2000000
namespace My
open PySem PySem.Spec PyProof.Rows L2
/-! ### tuples whose own object is told: without a dict of its own -/
def rTupF (K : PySem.W.Frag) : List V → Hp → VK → Prop := fun xs H Q => ∃ (p : Addr) (ys : List V), xs = [.ref p] ∧ SqL K H p ys ∧ ∀ (l : Addr) (o : Obj), H l = none → o.dict = none → Q (.ref l) (upd H l (.frz o (.tup ys)))
section
variable (K : PySem.W.Frag) {X : Cx}
theorem cTupF (hK : X.K = K := by rfl) : CallR X (.type "tuple") (rTupF K) := by
  subst hK
  intro pins s σ H xs us Q I r h
  obtain ⟨p, ys, rfl, hq, q⟩ := h
  obtain ⟨u, rfl, rx⟩ := vals1 r
  cases rx
  obtain ⟨its, rv, pl, hz⟩ := I.list hq
  have hlen := rv.length
  refine call_tuple_list pl.isList (fun h2 kp => ?_) (by rw [List.size_toArray]; omega)
  have I1 : Inv X pins σ H { s with heap := h2 } := I.kept (t' := s.toks) kp
  have new : ObjOk X.prog X.w (upd H h2.objs.size (.frz { cls := .type "tuple", data := .seq its.toArray } (.tup ys))) (h2.push { cls := .type "tuple", data := .seq its.toArray }) h2.objs.size (.frz { cls := .type "tuple", data := .seq its.toArray } (.tup ys)) := ⟨Heap.get?_push_size _ rfl, hz, its, rv, IsTup.new _ _⟩
  have I2 := I1.laid (t' := s.toks) (fun b o e => Heap.get?_push_of_some _ e) (Nat.le_refl _) new
  exact ⟨.ref h2.objs.size, _, I2, rfl, q _ _ (I1.hok.fresh (Nat.le_refl _)) rfl⟩
end
theorem app_txt (a b : List Nat) : ((⟨a.toArray⟩ : Str) ++ (⟨b.toArray⟩ : Str)) = ⟨(a ++ b).toArray⟩ := by
  show (⟨a.toArray ++ b.toArray⟩ : Str) = _
  rw [List.append_toArray]
/-! ### questions: their equals are such a tuple -/
def KT (H H' : Hp) : Prop := Kt H H' ∧ ∀ b o xs, H b = some (.frz o (.tup xs)) → H' b = some (.frz o (.tup xs))
theorem KT.rfl' {H : Hp} : KT H H := ⟨Kt.rfl', fun _ _ _ h => h⟩
theorem KT.trans {H H1 H2 : Hp} (a : KT H H1) (b : KT H1 H2) : KT H H2 := ⟨a.1.trans b.1, fun c o xs h => b.2 c o xs (a.2 c o xs h)⟩
theorem Same.kT {H H' : Hp} (s : Same H H') : KT H H' := ⟨Same.kt s, fun b o xs h => s b _ h⟩
theorem Kp.kT {r : Addr} {H H' : Hp} {xs : List V} (k : Kp r H H') (hr : H r = some (.lst xs)) : KT H H' := ⟨k.kt hr, fun b o ys h => k b _ (fun z => by
  rw [z, hr] at h
  cases h) h⟩
theorem Sx.kT {Ps : List Addr} {H H' : Hp} (t : TG Ps H) (s : Sx Ps H H') : KT H H' := ⟨s.kt t, fun b o xs h => s b _ (t.not h fun q z => nomatch z) h⟩
theorem KT.new {H : Hp} {p : Addr} {o : HO} (n : H p = none) : KT H (upd H p o) := ⟨Kt.new n, fun b u xs h => keep_new h n⟩
theorem KT.lst {H : Hp} {p : Addr} {xs : List V} {o : HO} (n : H p = some (.lst xs)) : KT H (upd H p o) := ⟨Kt.lst n, fun b u ys h => keep_ne h fun z => by
  rw [z, n] at h
  cases h⟩
def EZ (H : Hp) (ev : V) (es : List (Nat × Int)) : Prop := ∃ (ea : Addr) (o : Obj) (ps : List V), ev = .ref ea ∧ o.dict = none ∧ H ea = some (.frz o (.tup ps)) ∧ FzA H ps (es.map eqD)
def QZ (H : Hp) (qv : V) (es : List (Nat × Int)) (rc : Option (Nat × Int × Int)) : Prop := ∃ (qa : Addr) (ev y : V), qv = .ref qa ∧ H qa = some (.tup [ev, y]) ∧ EZ H ev es ∧ Fz H y (rchD rc)
theorem EZ.kT {H H' : Hp} {ev : V} {es : List (Nat × Int)} (h : EZ H ev es) (k : KT H H') : EZ H' ev es := by
  obtain ⟨ea, o, ps, rfl, h1, h2, h3⟩ := h
  exact ⟨ea, o, ps, rfl, h1, k.2 _ _ _ h2, h3.kt k.1⟩
theorem QZ.kT {H H' : Hp} {qv : V} {es : List (Nat × Int)} {rc : Option (Nat × Int × Int)} (h : QZ H qv es rc) (k : KT H H') : QZ H' qv es rc := by
  obtain ⟨qa, ev, y, rfl, h1, h2, h3⟩ := h
  exact ⟨qa, ev, y, rfl, k.1 _ _ h1, h2.kT k, h3.kt k.1⟩
theorem EZ.made {H : Hp} {te : Addr} {o : Obj} {ps : List V} {es : List (Nat × Int)} (n : H te = none) (ho : o.dict = none) (f : FzA H ps (es.map eqD)) : EZ (upd H te (.frz o (.tup ps))) (.ref te) es := ⟨te, o, ps, rfl, ho, upd_same, f.kt (.new n)⟩
theorem QZ.made {H : Hp} {v : Addr} {ev y : V} {es : List (Nat × Int)} {rc : Option (Nat × Int × Int)} (n : H v = none) (e : EZ H ev es) (f : Fz H y (rchD rc)) : QZ (upd H v (.tup [ev, y])) (.ref v) es rc := ⟨v, ev, y, rfl, upd_same, e.kT (.new n), f.kt (.new n)⟩
end My

set_option Elab.async false
set_option linter.all false
set_option maxRecDepth 100000
set_option maxHeartbeats 2000000
namespace My
open PySem PySem.Spec PyProof.Rows L2
section
variable (K : PySem.W.Frag) {X : Cx}
end
/-! ### the order of keys, by a sign -/
theorem lexAt_shift {e r : Nat → Bool} {z : Bool} : ∀ (k i : Nat), Ob.lexAt e r z (i + 1) k = Ob.lexAt (fun j => e (j + 1)) (fun j => r (j + 1)) z i k
  | 0, i => rfl
  | k + 1, i => by
    show (if e (i + 1) = true then Ob.lexAt e r z (i + 1 + 1) k else r (i + 1)) = (if e (i + 1) = true then Ob.lexAt (fun j => e (j + 1)) (fun j => r (j + 1)) z (i + 1) k else r (i + 1))
    rw [lexAt_shift k (i + 1)]
theorem leK_cons (a b : Int) (as bs : List Int) : leK (a :: as) (b :: bs) = if a = b then leK as bs else decide (a ≤ b) := by
  unfold leK
  have e : min (a :: as).length (b :: bs).length = min as.length bs.length + 1 := by
    rw [List.length_cons, List.length_cons]
    omega
  rw [e, Ob.lexAt_succ, lexAt_shift]
  simp only [List.getD_cons_zero, List.getD_cons_succ, List.length_cons, Nat.add_le_add_iff_right, decide_eq_true_eq]
def sgn (k lo hi : Int) : Int := (if decide (hi < k) = true then 1 else 0) - (if decide (k < lo) = true then 1 else 0)
def signF (k lo hi : Nat → Int) (u : List Nat) (s : Int) : Int := u.foldl (fun s c => if s = 0 then sgn (k c) (lo c) (hi c) else s) s
theorem signF_stay (k lo hi : Nat → Int) : ∀ (u : List Nat) (s : Int), s ≠ 0 → signF k lo hi u s = s
  | [], s, _ => rfl
  | c :: u, s, h => by
    show signF k lo hi u (if s = 0 then sgn (k c) (lo c) (hi c) else s) = s
    rw [if_neg h]
    exact signF_stay k lo hi u s h
def Thin (lo hi : Nat → Int) : List Nat → Prop
  | [] => True
  | c :: r => lo c ≤ hi c ∧ (r ≠ [] → lo c = hi c) ∧ Thin lo hi r
theorem Thin.all {lo hi : Nat → Int} : ∀ {l : List Nat}, (∀ c ∈ l, lo c = hi c) → Thin lo hi l
  | [], _ => trivial
  | c :: l, h => ⟨by rw [h c (by simp)]; exact Int.le_refl _, fun _ => h c (by simp), Thin.all fun d hd => h d (by simp [hd])⟩
theorem Thin.app {lo hi : Nat → Int} {d : Nat} (hd : lo d ≤ hi d) : ∀ {l : List Nat}, (∀ c ∈ l, lo c = hi c) → Thin lo hi (l ++ [d])
  | [], _ => ⟨hd, fun z => absurd rfl z, trivial⟩
  | c :: l, h => ⟨by rw [h c (by simp)]; exact Int.le_refl _, fun _ => h c (by simp), Thin.app hd fun e he => h e (by simp [he])⟩
theorem sign_lex (k lo hi : Nat → Int) : ∀ (u : List Nat), Thin lo hi u → HT.lexLt (u.map k) (u.map lo) = decide (signF k lo hi u 0 < 0) ∧ leK (u.map k) (u.map hi) = decide (signF k lo hi u 0 < 1)
  | [], _ => ⟨rfl, rfl⟩
  | c :: u, h => by
    obtain ⟨h1, h2, h3⟩ := h
    have ih := sign_lex k lo hi u h3
    rw [List.map_cons, List.map_cons, List.map_cons, HT.lexLt_cons, leK_cons]
    show _ = decide (signF k lo hi u (if (0 : Int) = 0 then sgn (k c) (lo c) (hi c) else 0) < 0) ∧ _ = decide (signF k lo hi u (if (0 : Int) = 0 then sgn (k c) (lo c) (hi c) else 0) < 1)
    rw [if_pos rfl]
    rcases Int.lt_or_le (k c) (lo c) with e | e
    · have es : sgn (k c) (lo c) (hi c) = -1 := by
        unfold sgn
        rw [decide_eq_false (show ¬ hi c < k c by omega), decide_eq_true e]
        rfl
      rw [es, signF_stay _ _ _ _ _ (by decide), if_neg (show ¬ k c = lo c by omega), if_neg (show ¬ k c = hi c by omega), decide_eq_true e, decide_eq_true (show k c ≤ hi c by omega)]
      exact ⟨rfl, rfl⟩
    · rcases Int.lt_or_le (hi c) (k c) with f | f
      · have es : sgn (k c) (lo c) (hi c) = 1 := by
          unfold sgn
          rw [decide_eq_false (show ¬ k c < lo c by omega), decide_eq_true f]
          rfl
        rw [es, signF_stay _ _ _ _ _ (by decide), if_neg (show ¬ k c = lo c by omega), if_neg (show ¬ k c = hi c by omega), decide_eq_false (show ¬ k c < lo c by omega), decide_eq_false (show ¬ k c ≤ hi c by omega)]
        exact ⟨rfl, rfl⟩
      · have es : sgn (k c) (lo c) (hi c) = 0 := by
          unfold sgn
          rw [decide_eq_false (show ¬ k c < lo c by omega), decide_eq_false (show ¬ hi c < k c by omega)]
          rfl
        rw [es]
        by_cases hu : u = []
        · subst hu
          show (if k c = lo c then false else decide (k c < lo c)) = false ∧ (if k c = hi c then true else decide (k c ≤ hi c)) = true
          rw [decide_eq_false (show ¬ k c < lo c by omega), decide_eq_true f]
          exact ⟨by split <;> rfl, by split <;> rfl⟩
        · have e2 := h2 hu
          rw [if_pos (show k c = lo c by omega), if_pos (show k c = hi c by omega)]
          exact ih
def signM (cols : List Nat) (row : List Int) (es : List (Nat × Int)) (rc : Option (Nat × Int × Int)) (u : List Nat) : Int := signF (rowAt cols row) (fun c => (spanOf es rc c).1) (fun c => (spanOf es rc c).2) u 0
theorem span_eq {cols : List Nat} {es : List (Nat × Int)} {rc : Option (Nat × Int × Int)} (hok : QOk cols es rc) {c : Nat} {v : Int} (h : (c, v) ∈ es) : spanOf es rc c = (v, v) := spanOf_mem (spanL_nd hok) (List.mem_append_left _ (List.mem_map_of_mem (f := fun p : Nat × Int => (p.1, p.2, p.2)) h))
theorem span_rc {cols : List Nat} {es : List (Nat × Int)} {c : Nat} {lo hi : Int} (hok : QOk cols es (some (c, lo, hi))) : spanOf es (some (c, lo, hi)) c = (lo, hi) := spanOf_mem (spanL_nd hok) (List.mem_append_right _ (by simp))
theorem used_thin {cols one : List Nat} {es : List (Nat × Int)} {rc : Option (Nat × Int × Int)} (hok : QOk cols es rc) : Thin (fun c => (spanOf es rc c).1) (fun c => (spanOf es rc c).2) (usedM one es rc) := by
  have eqp : ∀ c ∈ eqPart one es, (spanOf es rc c).1 = (spanOf es rc c).2 := fun c hc => by
    have hm0 := mem_tw (fun c => decide (c ∈ es.map fun p : Nat × Int => p.1)) one c hc
    have hm : c ∈ es.map (·.1) := of_decide_eq_true hm0
    obtain ⟨p, hp, rfl⟩ := List.mem_map.mp hm
    rw [span_eq hok (c := p.1) (v := p.2) hp]
  cases rc with
  | none => exact Thin.all eqp
  | some t =>
    obtain ⟨d, lo, hi⟩ := t
    show Thin _ _ (if (one.drop (eqPart one es).length).take 1 = [d] then one.take ((eqPart one es).length + 1) else eqPart one es)
    by_cases e : (one.drop (eqPart one es).length).take 1 = [d]
    · rw [if_pos e, List.take_add, ← eqPart_take, e]
      refine Thin.app ?_ eqp
      show (spanOf es (some (d, lo, hi)) d).1 ≤ (spanOf es (some (d, lo, hi)) d).2
      rw [span_rc hok]
      exact (hok.rc d lo hi rfl).2.2.2.1
    · rw [if_neg e]
      exact Thin.all eqp
theorem ahead_sign {cols : List Nat} {rows : List (List Int)} {one : List Nat} {es : List (Nat × Int)} {rc : Option (Nat × Int × Int)} (hok : QOk cols es rc) : aheadM cols rows one es rc = (rows.filter fun row => decide (signM cols row es rc (usedM one es rc) < 0)).length := by
  unfold aheadM
  congr 2
  funext row
  exact (sign_lex (rowAt cols row) (fun c => (spanOf es rc c).1) (fun c => (spanOf es rc c).2) _ (used_thin hok)).1
theorem behind_sign {cols : List Nat} {rows : List (List Int)} {one : List Nat} {es : List (Nat × Int)} {rc : Option (Nat × Int × Int)} (hok : QOk cols es rc) : behindM cols rows one es rc = (rows.filter fun row => decide (signM cols row es rc (usedM one es rc) < 1)).length := by
  unfold behindM
  congr 2
  funext row
  exact (sign_lex (rowAt cols row) (fun c => (spanOf es rc c).1) (fun c => (spanOf es rc c).2) _ (used_thin hok)).2
end My

set_option Elab.async false
set_option linter.all false
set_option maxRecDepth 100000
set_option maxHeartbeats 2000000
namespace My
open PySem PySem.Spec PyProof.Rows L2
/-! ### entries: a key of numbers, and a number; sorted -/
abbrev Ent := List Int × Int
def entD (b : Ent) : PyData := .tuple [rowD b.1, .int b.2]
def entLt (b c : Ent) : Bool := if b.1 = c.1 then decide (b.2 < c.2) else decide (b.1 < c.1)
def entLe (b c : Ent) : Bool := !entLt c b
theorem eqvA_int : ∀ ns ms : List Int, PyData.eqvAll (ns.map PyData.int) (ms.map PyData.int) = decide (ns = ms)
  | [], [] => rfl
  | [], m :: ms => by
    show false = _
    simp
  | n :: ns, [] => by
    show false = _
    simp
  | n :: ns, m :: ms => by
    show (PyData.eqv (.int n) (.int m) && PyData.eqvAll (ns.map PyData.int) (ms.map PyData.int)) = _
    rw [eqvA_int ns ms]
    show ((n == m) && _) = _
    by_cases e : n = m
    · subst e
      simp
    · have e2 : (n == m) = false := by simp [e]
      rw [e2]
      simp [e]
theorem dataLt_ent (b c : Ent) : W.dataLt (entD b) (entD c) = entLt b c := by
  unfold entD
  rw [W.dataLt_pair (by show W.alike (.tuple _) (.tuple _) = true; rw [W.alike]; exact W.alike_ints _ _) (by simp [W.alike]), W.dataLt_int]
  have e1 : PyData.eqv (rowD b.1) (rowD c.1) = decide (b.1 = c.1) := eqvA_int _ _
  have e2 : W.dataLt (rowD b.1) (rowD c.1) = decide (b.1 < c.1) := by
    show W.dataLt (.tuple _) (.tuple _) = _
    rw [W.dataLt_tuple]
    exact W.dataLt_ints _ _
  rw [e1, e2]
  unfold entLt
  by_cases e : b.1 = c.1
  · rw [decide_eq_true e, if_pos rfl, if_pos e]
    show (if (b.2 == c.2) = true then false else decide (b.2 < c.2)) = _
    by_cases f : b.2 = c.2
    · rw [f]
      simp
    · simp [f]
  · rw [decide_eq_false e, if_neg (by decide), if_neg e]
def rSortE (K : PySem.W.Frag) : List V → Hp → VK → Prop := fun xs H Q => ∃ (p : Addr) (bs : List (V × Ent)), xs = [.ref p] ∧ SqL K H p (bs.map (·.1)) ∧ (∀ b ∈ bs, Fz H b.1 (entD b.2)) ∧ ∀ l, H l = none → Q (.ref l) (upd H l (.lst ((bs.mergeSort fun b c => entLe b.2 c.2).map (·.1))))
section
variable (K : PySem.W.Frag) {X : Cx}
theorem dep_ent (b : Ent) : (entD b).depth = 2 := by
  show PyData.depthAll [rowD b.1, .int b.2] + 1 = 2
  have : PyData.depth (rowD b.1) = 1 := by
    show PyData.depthAll (b.1.map PyData.int) + 1 = 1
    rw [W.depth_ints]
  show max (PyData.depth (rowD b.1)) (max 0 0) + 1 = 2
  rw [this]
  rfl
theorem each_of {R : Value → V × Ent → Prop} : ∀ {bs : List (V × Ent)} {its : List Value}, Vals (bs.map (·.1)) its → (∀ b ∈ bs, ∀ v, RelV b.1 v → R v b) → W.EachIs R its bs
  | [], _, r, _ => by
    cases r
    exact .nil
  | b :: bs, _, r, h => by
    rw [List.map_cons] at r
    cases r with
    | cons h1 h2 => exact .cons (h b (by simp) _ h1) (each_of h2 fun c hc => h c (by simp [hc]))
theorem vals_each : ∀ {bs : List (V × Ent)} {its : List Value}, W.EachIs (fun v b => RelV b.1 v) its bs → Vals (bs.map (·.1)) its
  | _, _, .nil => .nil
  | _, _, .cons h t => .cons h (vals_each t)
theorem cSortE {k : Nat} (hr : Room k X.A) (hK : X.K = K := by rfl) : CallR X (.builtin "sorted") (rSortE K) := by
  subst hK
  intro pins s σ H xs us Q I r h
  obtain ⟨p, bs, rfl, hq, hf, q⟩ := h
  obtain ⟨u, rfl, rx⟩ := vals1 r
  cases rx
  obtain ⟨its, rv, pl, hz⟩ := I.list hq
  have hun := hr.un
  have e : W.EachIs (fun v (b : V × Ent) => RelV b.1 v) its bs := each_of rv fun b _ v h => h
  have er : W.EachIs (fun v (b : V × Ent) => ∃ as, Reads s.heap v (entD b.2) as) its bs := each_of rv fun b hb v h => Dp.reads I _ _ _ (hf b hb).to h
  rw [List.length_map] at hz
  refine W.sorted_data (enc := fun b : V × Ent => entD b.2) pl.isList e er (W.AllAlike.of fun b c => ?_) (W.Sortable.tuples fun b => ⟨_, _, rfl⟩) hz (fun b _ => ?_) fun out ho eo => ?_
  · show W.alike (.tuple [rowD b.2.1, .int b.2.2]) (.tuple [rowD c.2.1, .int c.2.2]) = true
    rw [W.alike, W.alikeAll, W.alikeAll]
    have : W.alike (rowD b.2.1) (rowD c.2.1) = true := by
      show W.alike (.tuple _) (.tuple _) = true
      rw [W.alike]
      exact W.alike_ints _ _
    rw [this]
    simp [W.alike, W.alikeAll]
  · show X.A.units + 2 + (entD b.2).depth < cLine
    rw [dep_ent]
    omega
  · have ele : W.dataLe false (fun b : V × Ent => entD b.2) = fun b c => entLe b.2 c.2 := by
      funext b c
      show (!W.dataLt (entD c.2) (entD b.2)) = _
      rw [dataLt_ent]
      rfl
    rw [ele] at eo
    obtain ⟨ep, he⟩ := PyProof.Rows.sortedAll_at s.heap its out.toArray
    have hlen : ((bs.mergeSort fun b c => entLe b.2 c.2).map (·.1)).length ≤ sizeLine := by
      rw [List.length_map, List.length_mergeSort]
      exact hz
    have new : ObjOk X.prog X.w (upd H (s.heap.objs.size + 1) (.lst ((bs.mergeSort fun b c => entLe b.2 c.2).map (·.1)))) (sortedAll s.heap its out.toArray) (s.heap.objs.size + 1) (.lst ((bs.mergeSort fun b c => entLe b.2 c.2).map (·.1))) := ⟨hlen, out, ep, vals_each eo, he⟩
    exact ⟨.ref _, _, I.laid (t' := s.toks) (fun _ _ => PyProof.Rows.sortedAll_old) (Nat.le_succ _) new, rfl, q _ (I.hok.fresh (Nat.le_succ _))⟩
end
end My

set_option Elab.async false
set_option linter.all false
set_option maxRecDepth 100000
set_option maxHeartbeats 2000000
namespace My
open PySem PySem.Spec PyProof.Rows L2
/-! ### rows sorted by a list -/
def entAt (cols : List Nat) (rows : List (List Int)) (one : List Nat) (i : Nat) : Ent := (keyM cols (rows.getD i []) one, (i : Int))
def entsM (cols : List Nat) (rows : List (List Int)) (one : List Nat) : List Ent := (List.range rows.length).map (entAt cols rows one)
def sortM (cols : List Nat) (rows : List (List Int)) (one : List Nat) : List Int := ((entsM cols rows one).mergeSort entLe).map (·.2)
theorem sortM_of {cols : List Nat} {rows : List (List Int)} {one : List Nat} {bs : List (V × Ent)} (h : bs.map (·.2) = entsM cols rows one) : (bs.mergeSort fun b c => entLe b.2 c.2).map (·.2.2) = sortM cols rows one := by
  unfold sortM
  rw [← h, ← List.map_mergeSort (r := fun b c : V × Ent => entLe b.2 c.2) (fun a _ b _ => rfl), List.map_map]
  rfl
theorem entLt_irrefl (a : Ent) : entLt a a = false := by
  unfold entLt
  rw [if_pos rfl]
  simp
theorem entLt_trans {a b c : Ent} (h1 : entLt a b = true) (h2 : entLt b c = true) : entLt a c = true := by
  unfold entLt at *
  by_cases e1 : a.1 = b.1
  · rw [if_pos e1] at h1
    by_cases e2 : b.1 = c.1
    · rw [if_pos e2] at h2
      rw [if_pos (e1.trans e2)]
      simp at *
      omega
    · rw [if_neg e2] at h2
      rw [if_neg (by rw [e1]; exact e2), e1]
      exact h2
  · rw [if_neg e1] at h1
    by_cases e2 : b.1 = c.1
    · rw [if_neg (by rw [← e2]; exact e1), ← e2]
      exact h1
    · rw [if_neg e2] at h2
      have t : a.1 < c.1 := List.lt_trans (of_decide_eq_true h1) (of_decide_eq_true h2)
      have ne : a.1 ≠ c.1 := fun z => List.lt_irrefl _ (z ▸ t)
      rw [if_neg ne]
      exact decide_eq_true t
theorem entLt_tri (a b : Ent) : entLt a b = true ∨ a = b ∨ entLt b a = true := by
  unfold entLt
  by_cases e : a.1 = b.1
  · rw [if_pos e, if_pos e.symm]
    rcases Int.lt_trichotomy a.2 b.2 with z | z | z
    · exact .inl (decide_eq_true z)
    · exact .inr (.inl (Prod.ext e z))
    · exact .inr (.inr (decide_eq_true z))
  · rw [if_neg e, if_neg (fun z => e z.symm)]
    by_cases l : a.1 < b.1
    · exact .inl (decide_eq_true l)
    · have l2 : b.1 ≤ a.1 := List.not_lt.mp l
      rcases List.le_iff_lt_or_eq.mp l2 with z | z
      · exact .inr (.inr (decide_eq_true z))
      · exact absurd z.symm e
theorem entLt_asym {a b : Ent} (h : entLt a b = true) : entLt b a = false := by
  cases e : entLt b a with
  | false => rfl
  | true =>
    have := entLt_trans h e
    rw [entLt_irrefl] at this
    cases this
theorem entLe_trans (a b c : Ent) (h1 : entLe a b = true) (h2 : entLe b c = true) : entLe a c = true := by
  unfold entLe at *
  simp only [Bool.not_eq_true'] at *
  rcases entLt_tri c a with z | z | z
  · rcases entLt_tri a b with y | y | y
    · rw [entLt_trans z y] at h2
      cases h2
    · rw [← y] at h2
      rw [h2] at z
      cases z
    · rw [h1] at y
      cases y
  · rw [z]
    exact entLt_irrefl _
  · exact entLt_asym z
theorem entLe_total (a b : Ent) : (entLe a b || entLe b a) = true := by
  unfold entLe
  rcases entLt_tri a b with z | z | z
  · rw [entLt_asym z]
    rfl
  · rw [z, entLt_irrefl]
    rfl
  · rw [entLt_asym z]
    simp
/-! ### a number put in behind all that are not greater -/
theorem leK_le : ∀ (a b : List Int), leK a b = !decide (b < a)
  | [], b => by
    have e1 : leK [] b = true := by
      unfold leK
      simp [Ob.lexAt_zero]
    rw [e1]
    simp
  | a :: as, [] => by
    have e1 : leK (a :: as) [] = false := by
      unfold leK
      simp [Ob.lexAt_zero]
    rw [e1]
    simp
  | a :: as, b :: bs => by
    rw [leK_cons, leK_le as bs]
    by_cases e : a = b
    · subst e
      simp [List.cons_lt_cons_iff]
    · have e2 : ¬ b = a := fun z => e z.symm
      rw [if_neg e]
      by_cases l : a ≤ b
      · have : ¬ b < a := by omega
        simp [List.cons_lt_cons_iff, this, e2, l]
      · have : b < a := by omega
        simp [List.cons_lt_cons_iff, this, l]
end My

set_option Elab.async false
set_option linter.all false
set_option maxRecDepth 100000
set_option maxHeartbeats 2000000
namespace My
open PySem PySem.Spec PyProof.Rows L2
section
variable (K : PySem.W.Frag) {X : Cx}
end
/-! ### put in -/
theorem split_mono {α : Type} (p : α → Bool) : ∀ {l : List α}, l.Pairwise (fun a b => p b = true → p a = true) → (∀ x ∈ l.take (l.filter p).length, p x = true) ∧ ∀ x ∈ l.drop (l.filter p).length, p x = false
  | [], _ => ⟨fun x h => by simp at h, fun x h => by simp at h⟩
  | a :: l, h => by
    obtain ⟨h1, h2⟩ := List.pairwise_cons.mp h
    obtain ⟨i1, i2⟩ := split_mono p h2
    by_cases e : p a = true
    · rw [List.filter_cons, if_pos e, List.length_cons, List.take_succ_cons, List.drop_succ_cons]
      refine ⟨fun x hx => ?_, i2⟩
      rcases List.mem_cons.mp hx with z | z
      · rw [z]
        exact e
      · exact i1 x z
    · have e2 : p a = false := by simpa using e
      have none : l.filter p = [] := by
        rw [List.filter_eq_nil_iff]
        intro b hb z
        exact e (h1 b hb z)
      rw [List.filter_cons, if_neg e, none]
      refine ⟨fun x hx => by simp at hx, fun x hx => ?_⟩
      rcases List.mem_cons.mp (show x ∈ a :: l from hx) with z | z
      · rw [z]
        exact e2
      · cases y : p x with
        | false => rfl
        | true => exact absurd (h1 x z y) e
theorem lt_le {a b : List Int} (h : ¬ b < a) : a < b ∨ a = b := List.le_iff_lt_or_eq.mp (List.not_lt.mp h)
end My

set_option Elab.async false
set_option linter.all false
set_option maxRecDepth 100000
set_option maxHeartbeats 2000000
namespace My
open PySem PySem.Spec PyProof.Rows L2
section
variable (K : PySem.W.Frag) {X : Cx}
theorem slLK (hK : X.K = K := by rfl) : SlR X (rSlL K) := by
  subst hK
  exact sl_list
theorem sortIK (hK : X.K = K := by rfl) : CallR X (.builtin "sorted") (rSortedI K) := by
  subst hK
  exact cr_sortedI
end
theorem cutV_nat (xs : List V) (a b : Nat) (hab : a ≤ b) (hb : b ≤ xs.length) : cutV xs (some (a : Int)) (some (b : Int)) = (xs.drop a).take (b - a) := by
  unfold cutV
  rw [HT.sIx_nat, HT.sIx_nat, Nat.min_eq_left hb, Nat.min_eq_left (Nat.le_trans hab hb)]
/-! ### what a stretch of the sorted rows holds -/
theorem lexLt_lt : ∀ a b : List Int, HT.lexLt a b = decide (a < b)
  | [], [] => by
    rw [HT.lexLt_nil_nil]
    simp
  | [], b :: bs => by
    rw [HT.lexLt_nil_cons]
    simp
  | a :: as, [] => by
    rw [HT.lexLt_cons_nil]
    simp
  | a :: as, b :: bs => by
    rw [HT.lexLt_cons, lexLt_lt as bs]
    by_cases e : a = b
    · subst e
      simp [List.cons_lt_cons_iff]
    · rw [if_neg e]
      simp [List.cons_lt_cons_iff, e]
theorem take_lt : ∀ (k : Nat) (xs ys : List Int), xs.take k < ys.take k → xs < ys
  | 0, xs, ys, h => by
    simp at h
  | k + 1, [], [], h => by
    simp at h
  | k + 1, [], y :: ys, _ => by simp
  | k + 1, x :: xs, [], h => by
    simp at h
  | k + 1, x :: xs, y :: ys, h => by
    rw [List.take_succ_cons, List.take_succ_cons, List.cons_lt_cons_iff] at h
    rw [List.cons_lt_cons_iff]
    rcases h with z | ⟨z, y2⟩
    · exact .inl z
    · exact .inr ⟨z, take_lt k xs ys y2⟩
theorem signF_zero (k lo hi : Nat → Int) : ∀ u : List Nat, (∀ c ∈ u, lo c ≤ k c ∧ k c ≤ hi c) → signF k lo hi u 0 = 0
  | [], _ => rfl
  | c :: u, h => by
    show signF k lo hi u (if (0 : Int) = 0 then sgn (k c) (lo c) (hi c) else 0) = 0
    have h1 := h c (by simp)
    have e : sgn (k c) (lo c) (hi c) = 0 := by
      unfold sgn
      rw [decide_eq_false (show ¬ hi c < k c by omega), decide_eq_false (show ¬ k c < lo c by omega)]
      rfl
    rw [if_pos rfl, e]
    exact signF_zero k lo hi u fun d hd => h d (by simp [hd])
theorem fits_sign {cols : List Nat} {row : List Int} {one : List Nat} {es : List (Nat × Int)} {rc : Option (Nat × Int × Int)} (hok : QOk cols es rc) (h : fitsM cols row es rc = true) : signM cols row es rc (usedM one es rc) = 0 := by
  refine signF_zero _ _ _ _ fun c hc => ?_
  obtain ⟨lo, hi, hm⟩ := used_span hc
  have e := spanOf_mem (spanL_nd hok) hm
  have f := List.all_eq_true.mp h _ hm
  unfold spanFit at f
  simp only [Bool.and_eq_true, decide_eq_true_eq] at f
  show (spanOf es rc c).1 ≤ rowAt cols row c ∧ rowAt cols row c ≤ (spanOf es rc c).2
  rw [e]
  exact f
def idxM (cols : List Nat) (rows : List (List Int)) (one : List Nat) : List Nat := (List.range rows.length).mergeSort fun i j => entLe (entAt cols rows one i) (entAt cols rows one j)
theorem idx_sort (cols : List Nat) (rows : List (List Int)) (one : List Nat) : sortM cols rows one = (idxM cols rows one).map fun i : Nat => (i : Int) := by
  unfold sortM entsM idxM
  rw [← List.map_mergeSort (r := fun i j : Nat => entLe (entAt cols rows one i) (entAt cols rows one j)) (fun a _ b _ => rfl), List.map_map]
  rfl
theorem idx_perm (cols : List Nat) (rows : List (List Int)) (one : List Nat) : (idxM cols rows one).Perm (List.range rows.length) := List.mergeSort_perm _ _
theorem idx_pw (cols : List Nat) (rows : List (List Int)) (one : List Nat) : (idxM cols rows one).Pairwise fun i j => entLe (entAt cols rows one i) (entAt cols rows one j) = true := List.pairwise_mergeSort (le := fun i j : Nat => entLe (entAt cols rows one i) (entAt cols rows one j)) (fun a b c => entLe_trans (entAt cols rows one a) (entAt cols rows one b) (entAt cols rows one c)) (fun a b => entLe_total (entAt cols rows one a) (entAt cols rows one b)) _
theorem key_take {cols : List Nat} {rows : List (List Int)} {one : List Nat} {k a b : Nat} (h : entLe (entAt cols rows one a) (entAt cols rows one b) = true) : ¬ keyM cols (rows.getD b []) (one.take k) < keyM cols (rows.getD a []) (one.take k) := fun z => by
  unfold keyM at z
  rw [List.map_take, List.map_take] at z
  have z2 := take_lt k _ _ z
  unfold entLe entLt at h
  have h2 : (if (entAt cols rows one b).1 = (entAt cols rows one a).1 then decide ((entAt cols rows one b).2 < (entAt cols rows one a).2) else decide ((entAt cols rows one b).1 < (entAt cols rows one a).1)) = false := by simpa using h
  by_cases e : (entAt cols rows one b).1 = (entAt cols rows one a).1
  · have z3 : (entAt cols rows one b).1 < (entAt cols rows one a).1 := z2
    rw [e] at z3
    exact List.lt_irrefl _ z3
  · rw [if_neg e] at h2
    exact of_decide_eq_false h2 z2
def below (cols : List Nat) (rows : List (List Int)) (es : List (Nat × Int)) (rc : Option (Nat × Int × Int)) (u : List Nat) (n : Int) (o : Nat) : Bool := decide (signM cols (rows.getD o []) es rc u < n)
theorem below_mono {cols : List Nat} {rows : List (List Int)} {one : List Nat} {es : List (Nat × Int)} {rc : Option (Nat × Int × Int)} (hok : QOk cols es rc) {n : Int} (hn : n = 0 ∨ n = 1) :
    (idxM cols rows one).Pairwise fun a b => below cols rows es rc (usedM one es rc) n b = true → below cols rows es rc (usedM one es rc) n a = true := by
  refine (idx_pw cols rows one).imp fun {a b} h => ?_
  obtain ⟨k, ek, _⟩ := used_sub (one := one) (es := es) (rc := rc)
  have hk := key_take (k := k) h
  rw [← ek] at hk
  have sa := sign_lex (rowAt cols (rows.getD a [])) (fun c => (spanOf es rc c).1) (fun c => (spanOf es rc c).2) _ (used_thin (one := one) hok)
  have sb := sign_lex (rowAt cols (rows.getD b [])) (fun c => (spanOf es rc c).1) (fun c => (spanOf es rc c).2) _ (used_thin (one := one) hok)
  rcases hn with z | z
  · subst z
    unfold below signM
    rw [← sa.1, ← sb.1, lexLt_lt, lexLt_lt]
    intro y
    refine decide_eq_true ?_
    have y2 := of_decide_eq_true y
    rcases lt_le hk with l | l
    · exact List.lt_trans l y2
    · have l2 : List.map (rowAt cols (rows.getD a [])) (usedM one es rc) = List.map (rowAt cols (rows.getD b [])) (usedM one es rc) := l
      rw [l2]
      exact y2
  · subst z
    unfold below signM
    rw [← sa.2, ← sb.2, leK_le, leK_le]
    intro y
    have y2 : ¬ (usedM one es rc).map (fun c => (spanOf es rc c).2) < (usedM one es rc).map (rowAt cols (rows.getD b [])) := by simpa using y
    have y3 : ¬ (usedM one es rc).map (fun c => (spanOf es rc c).2) < (usedM one es rc).map (rowAt cols (rows.getD a [])) := fun x => by
      rcases lt_le hk with l | l
      · exact y2 (List.lt_trans x l)
      · have l2 : List.map (rowAt cols (rows.getD a [])) (usedM one es rc) = List.map (rowAt cols (rows.getD b [])) (usedM one es rc) := l
        rw [l2] at x
        exact y2 x
    rw [decide_eq_false y3]
    rfl
theorem rows_range (rows : List (List Int)) : (List.range rows.length).map (fun i => rows.getD i []) = rows := by
  apply List.ext_getElem
  · simp
  · intro i h1 h2
    simp [List.getD_eq_getElem?_getD, List.getElem?_eq_getElem h2]
theorem count_idx (cols : List Nat) (rows : List (List Int)) (one : List Nat) (q : List Int → Bool) : ((idxM cols rows one).filter fun o => q (rows.getD o [])).length = (rows.filter q).length := by
  rw [((idx_perm cols rows one).filter _).length_eq]
  conv => rhs; rw [← rows_range rows, List.filter_map, List.length_map]
  rfl
theorem cut_filter {α : Type} (l : List α) (f p q : α → Bool) (a b : Nat) (hab : a ≤ b) (h1 : ∀ x ∈ l.take a, p x = true) (h2 : ∀ x ∈ l.drop b, q x = false) (hf : ∀ x, f x = true → p x = false ∧ q x = true) : ((l.drop a).take (b - a)).filter f = l.filter f := by
  have e1 : (l.take a).filter f = [] := by
    rw [List.filter_eq_nil_iff]
    intro x hx z
    have := (hf x z).1
    rw [h1 x hx] at this
    cases this
  have e2 : (l.drop b).filter f = [] := by
    rw [List.filter_eq_nil_iff]
    intro x hx z
    have := (hf x z).2
    rw [h2 x hx] at this
    cases this
  have e3 : l = l.take a ++ ((l.drop a).take (b - a) ++ l.drop b) := by
    have : l.drop b = (l.drop a).drop (b - a) := by
      rw [List.drop_drop]
      congr 1
      omega
    rw [this, List.take_append_drop, List.take_append_drop]
  conv => rhs; rw [e3, List.filter_append, List.filter_append, e1, e2, List.nil_append, List.append_nil]
theorem ahead_le {cols : List Nat} {rows : List (List Int)} {one : List Nat} {es : List (Nat × Int)} {rc : Option (Nat × Int × Int)} (hok : QOk cols es rc) : aheadM cols rows one es rc ≤ behindM cols rows one es rc := by
  rw [ahead_sign hok, behind_sign hok]
  induction rows with
  | nil => exact Nat.le_refl _
  | cons r rows ih =>
    rw [List.filter_cons, List.filter_cons]
    by_cases e : signM cols r es rc (usedM one es rc) < 0
    · rw [decide_eq_true e, decide_eq_true (show signM cols r es rc (usedM one es rc) < 1 by omega), if_pos rfl, if_pos rfl, List.length_cons, List.length_cons]
      omega
    · rw [decide_eq_false e, if_neg (by decide)]
      split
      · rw [List.length_cons]
        omega
      · exact ih
theorem behind_le (cols : List Nat) (rows : List (List Int)) (one : List Nat) (es : List (Nat × Int)) (rc : Option (Nat × Int × Int)) : behindM cols rows one es rc ≤ rows.length := List.length_filter_le _ _
/-- the rows of the stretch that fit are all that fit -/
theorem read_fits {cols : List Nat} {rows : List (List Int)} {one : List Nat} {es : List (Nat × Int)} {rc : Option (Nat × Int × Int)} (hok : QOk cols es rc) :
    (((idxM cols rows one).drop (aheadM cols rows one es rc)).take (behindM cols rows one es rc - aheadM cols rows one es rc)).filter (fun o => fitsM cols (rows.getD o []) es rc) = (idxM cols rows one).filter fun o => fitsM cols (rows.getD o []) es rc := by
  have m1 := split_mono _ (below_mono (rows := rows) (one := one) hok (.inl rfl))
  have m2 := split_mono _ (below_mono (rows := rows) (one := one) hok (.inr rfl))
  have c1 : ((idxM cols rows one).filter (below cols rows es rc (usedM one es rc) 0)).length = aheadM cols rows one es rc := by
    rw [ahead_sign hok]
    exact count_idx cols rows one fun row => decide (signM cols row es rc (usedM one es rc) < 0)
  have c2 : ((idxM cols rows one).filter (below cols rows es rc (usedM one es rc) 1)).length = behindM cols rows one es rc := by
    rw [behind_sign hok]
    exact count_idx cols rows one fun row => decide (signM cols row es rc (usedM one es rc) < 1)
  rw [c1] at m1
  rw [c2] at m2
  refine cut_filter _ _ (below cols rows es rc (usedM one es rc) 0) (below cols rows es rc (usedM one es rc) 1) _ _ (ahead_le hok) m1.1 m2.2 fun x hx => ?_
  have := fits_sign (one := one) hok hx
  unfold below
  rw [this]
  exact ⟨rfl, rfl⟩
theorem ints_one : ∀ {l k : List Int}, l.Pairwise (· ≤ ·) → k.Pairwise (· ≤ ·) → l.Perm k → l = k
  | [], k, _, _, p => (List.nil_perm.mp p).symm
  | a :: l, [], _, _, p => absurd p.length_eq (by simp)
  | a :: l, b :: k, hl, hk, p => by
    have e : a = b := by
      have ha : a ∈ b :: k := p.mem_iff.mp (by simp)
      have hb : b ∈ a :: l := p.mem_iff.mpr (by simp)
      rcases List.mem_cons.mp ha with z | z
      · exact z
      · rcases List.mem_cons.mp hb with y | y
        · exact y.symm
        · exact Int.le_antisymm ((List.pairwise_cons.mp hl).1 b y) ((List.pairwise_cons.mp hk).1 a z)
    subst e
    rw [ints_one (List.pairwise_cons.mp hl).2 (List.pairwise_cons.mp hk).2 (List.perm_cons a |>.mp p)]
theorem ans_pw (cols : List Nat) (rows : List (List Int)) (es : List (Nat × Int)) (rc : Option (Nat × Int × Int)) : (ansM cols rows es rc).Pairwise (· ≤ ·) := by
  unfold ansM
  rw [List.pairwise_map]
  refine (List.pairwise_lt_range.filter _).imp fun {a b} h => ?_
  have : a < b := h
  omega
theorem read_ans {cols : List Nat} {rows : List (List Int)} {one : List Nat} {es : List (Nat × Int)} {rc : Option (Nat × Int × Int)} (hok : QOk cols es rc) {ns : List Int} (hs : ns.Pairwise (· ≤ ·))
    (hp : ns.Perm (((((idxM cols rows one).drop (aheadM cols rows one es rc)).take (behindM cols rows one es rc - aheadM cols rows one es rc)).filter (fun o => fitsM cols (rows.getD o []) es rc)).map fun i : Nat => (i : Int))) : ns = ansM cols rows es rc := by
  refine ints_one hs (ans_pw cols rows es rc) (hp.trans ?_)
  rw [read_fits hok]
  unfold ansM
  exact ((idx_perm cols rows one).filter _).map _
end My

set_option Elab.async false
set_option linter.all false
set_option maxRecDepth 100000
set_option maxHeartbeats 2000000
namespace My
open PySem PySem.Spec PyProof.Rows L2
/-! ### a walk over a dict's keys, texts of one sign -/
theorem kv_at {kvs : List (Key × V)} {vs : List (Key × Value)} (r : KV kvs vs) : vs.map (·.1) = kvs.map (·.1) := by
  induction r with
  | nil => rfl
  | cons h t ih =>
    rw [List.map_cons, List.map_cons, ih, h.1]
section
variable {X : Cx} {pins : List (Addr × Obj)} {σ : L2.St}
theorem src_dict {G : Hp} {P d : Addr} {kvs : List (Key × V)} {cs : List Nat} (hT : GxR.TabG G P) (hd : G d = some (.dK kvs)) (hk : kvs.map (·.1) = cs.map fun c => (Sum.inr (sS c) : Key)) : Src X pins σ G P (.ref d) cs.length (SignAt ⟨cs.toArray⟩) := by
  intro u1 I Q E h
  obtain ⟨hz, hsys, vs, rel, o, es, ep, h1, h2, h3, h4, h5, h6⟩ := dk_of I.hok hd
  have hm : u1.heap.DictAt (mixKind X.prog X.w) d vs ep := ⟨o, es, h1, h2, h3, h4, h5, h6⟩
  have hkv : vs.map (·.1) = cs.map fun c => (Sum.inr (sS c) : Key) := (kv_at rel).trans hk
  have hl : vs.length = cs.length := by
    have := congrArg List.length hkv
    rw [List.length_map, List.length_map] at this
    exact this
  have hdl : d < u1.heap.objs.size := Heap.lt_size h1
  have hdP : d ≠ P := fun z => by
    obtain ⟨ps, hP, _⟩ := hT
    rw [z, hP] at hd
    cases hd
  refine wpAny_pyIter_dict hsys hm ?_
  refine h _ (fun i g => g.IsKeyIter u1.heap.objs.size d i vs.length ep ∧ g.DictAt (mixKind X.prog X.w) d vs ep) [d] (fun A' hh => ?_) ⟨⟨_, Heap.get?_push_size _ rfl, rfl, rfl⟩, hm.at' fun o e => Heap.get?_push_of_some _ e⟩ (fun b hb => ?_)
  · rw [← hl]
    refine (Walks.dictKeys hh u1.heap.objs.size d (Nat.ne_of_lt hdl) vs ep).mono_item fun i v hi hv => ?_
    obtain ⟨k, x, hkx, hkey⟩ := hv
    have e1 : (vs.map (·.1))[i]? = some k := by rw [List.getElem?_map, hkx]; rfl
    rw [hkv, List.getElem?_map] at e1
    obtain ⟨c, hc, rfl⟩ := Option.map_eq_some_iff.mp e1
    have hkey2 : keyIs (Sum.inr (sS c)) v = true := hkey
    rcases keyIs_shape hkey2 with ⟨_, _, z, _⟩ | ⟨y, t, z, rfl⟩
    · cases z
    · cases z
      exact ⟨c, t, by simpa using hc, rfl⟩
  · rw [List.mem_singleton.mp hb]
    exact ⟨hdl, hdP⟩
end
def DIn (P : Addr) (i : Nat) : V → L2.St → Hp → List Bool → Prop := fun v σ G bs => GxR.TabG G P ∧ ∃ (d : Addr) (kvs : List (Key × V)) (cs ls : List Nat), v = .ref d ∧ G d = some (.dK kvs) ∧ kvs.map (·.1) = cs.map (fun c => (Sum.inr (sS c) : Key)) ∧ σ[i]? = some (some (tx ls)) ∧ bs = cs.map fun c => decide (c ∈ ls)
theorem hd_in {X : Cx} {P : Addr} {scope : Scope} {x y : Str} {p1 p2 p3 : Pos} {i : Nat} (hN : X.N[i]? = some y) (hk : X.env.scope.names.lookup y = some .cell)
    (hf : scope.kind = .function) (hx : scope.names.lookup x = some .local) (hyl : scope.names.lookup y = some .free) (hy : (y, NameKind.free) ∈ scope.names)
    (hd1 : (x == ("__debug__" : Str)) = false := by decide) (hd2 : (y == ("__debug__" : Str)) = false := by decide) (hd3 : (y == ("__classdict__" : Str)) = false := by decide) :
    ∀ (pins : List (Addr × Obj)) (σ : L2.St) (G : Hp) (v : V) (bs : List Bool), DIn P i v σ G bs → ∃ (Pf F : Nat → Value → Prop), (∀ u, RelV v u → Src X pins σ G P u bs.length Pf) ∧
      EltQ X σ G P scope x (.Compare (.Name x p1) [.In] [.Name y p2] p3) Pf F ∧ ∀ (l : Nat) (w : Value), F l w → w = .bool (bs.getD l false) := by
  intro pins σ G v bs h
  obtain ⟨hT, d, kvs, cs, ls, rfl, hd, hkk, hv, rfl⟩ := h
  refine ⟨_, _, fun u ru => ?_, elt_in (a := ⟨cs.toArray⟩) hT hN hv hk hf hx hy hyl hd1 hd2 hd3, fun l w h2 => ?_⟩
  · cases ru
    rw [List.length_map]
    exact src_dict hT hd hkk
  · obtain ⟨c, hc, rfl⟩ := h2
    have hc2 : cs[l]? = some c := by simpa using hc
    rw [List.getD_eq_getElem?_getD, List.getElem?_map, hc2]
    simp
theorem SpA.keys {H : Hp} {kvs : List (Key × V)} {l : List (Nat × Int × Int)} (h : SpA H kvs l) : kvs.map (·.1) = (l.map (·.1)).map fun c => (Sum.inr (sS c) : Key) := by
  induction h with
  | nil => rfl
  | cons _ _ ih =>
    rw [List.map_cons, List.map_cons, List.map_cons, ih]
end My

set_option Elab.async false
set_option linter.all false
set_option maxRecDepth 100000
set_option maxHeartbeats 2000000
namespace My
open PySem PySem.Spec PyProof.Rows L2
/-! ### one stretch -/
def stM (cols : List Nat) (rows : List (List Int)) (one : List Nat) (es : List (Nat × Int)) (rc : Option (Nat × Int × Int)) : List Nat := ((idxM cols rows one).drop (aheadM cols rows one es rc)).take (behindM cols rows one es rc - aheadM cols rows one es rc)
theorem st_len {cols : List Nat} {rows : List (List Int)} {one : List Nat} {es : List (Nat × Int)} {rc : Option (Nat × Int × Int)} : (stM cols rows one es rc).length = behindM cols rows one es rc - aheadM cols rows one es rc := by
  unfold stM
  have h1 : (idxM cols rows one).length = rows.length := by rw [(idx_perm cols rows one).length_eq, List.length_range]
  have h2 := behind_le cols rows one es rc
  rw [List.length_take, List.length_drop, h1]
  omega
theorem sgn_zero {k lo hi : Int} (h : lo ≤ hi) (z : sgn k lo hi = 0) : lo ≤ k ∧ k ≤ hi := by
  unfold sgn at z
  by_cases h1 : hi < k
  · rw [decide_eq_true h1, decide_eq_false (show ¬ k < lo by omega)] at z
    exact absurd z (by decide)
  · by_cases h2 : k < lo
    · rw [decide_eq_false h1, decide_eq_true h2] at z
      exact absurd z (by decide)
    · omega
theorem signF_all {k lo hi : Nat → Int} : ∀ {u : List Nat}, (∀ c ∈ u, lo c ≤ hi c) → signF k lo hi u 0 = 0 → ∀ c ∈ u, lo c ≤ k c ∧ k c ≤ hi c
  | [], _, _, c, h => by cases h
  | d :: u, hl, z, c, h => by
    have z2 : signF k lo hi u (if (0 : Int) = 0 then sgn (k d) (lo d) (hi d) else 0) = 0 := z
    rw [if_pos rfl] at z2
    by_cases e : sgn (k d) (lo d) (hi d) = 0
    · rw [e] at z2
      rcases List.mem_cons.mp h with y | y
      · rw [y]
        exact sgn_zero (hl d (by simp)) e
      · exact signF_all (fun c hc => hl c (by simp [hc])) z2 c y
    · rw [signF_stay _ _ _ _ _ e] at z2
      exact absurd z2 e
theorem span_le {cols : List Nat} {es : List (Nat × Int)} {rc : Option (Nat × Int × Int)} (hok : QOk cols es rc) {c : Nat} {lo hi : Int} (h : (c, lo, hi) ∈ spanL es rc) : lo ≤ hi := by
  rcases List.mem_append.mp h with z | z
  · obtain ⟨p, _, e⟩ := List.mem_map.mp z
    have e1 : p.2 = lo := congrArg (·.2.1) e
    have e2 : p.2 = hi := congrArg (·.2.2) e
    omega
  · cases rc with
    | none => simp at z
    | some t =>
      have e : (c, lo, hi) = t := by simpa using z
      rw [← e] at hok
      exact (hok.rc c lo hi rfl).2.2.2.1
/-- where the list serves the question all of the stretch fits -/
theorem serves_fits {cols : List Nat} {rows : List (List Int)} {one : List Nat} {es : List (Nat × Int)} {rc : Option (Nat × Int × Int)} (hok : QOk cols es rc) (hs : ((spanL es rc).all fun t => decide (t.1 ∈ usedM one es rc)) = true) :
    (stM cols rows one es rc).filter (fun o => fitsM cols (rows.getD o []) es rc) = stM cols rows one es rc := by
  rw [List.filter_eq_self]
  intro o ho
  have m1 := split_mono _ (below_mono (rows := rows) (one := one) hok (.inl rfl))
  have m2 := split_mono _ (below_mono (rows := rows) (one := one) hok (.inr rfl))
  have c1 : ((idxM cols rows one).filter (below cols rows es rc (usedM one es rc) 0)).length = aheadM cols rows one es rc := by
    rw [ahead_sign hok]
    exact count_idx cols rows one fun row => decide (signM cols row es rc (usedM one es rc) < 0)
  have c2 : ((idxM cols rows one).filter (below cols rows es rc (usedM one es rc) 1)).length = behindM cols rows one es rc := by
    rw [behind_sign hok]
    exact count_idx cols rows one fun row => decide (signM cols row es rc (usedM one es rc) < 1)
  rw [c1] at m1
  rw [c2] at m2
  have n1 : below cols rows es rc (usedM one es rc) 0 o = false := m1.2 o (List.mem_of_mem_take ho)
  have n2 : below cols rows es rc (usedM one es rc) 1 o = true := by
    refine m2.1 o ?_
    have h1 : stM cols rows one es rc = ((idxM cols rows one).take (behindM cols rows one es rc)).drop (aheadM cols rows one es rc) := by
      unfold stM
      rw [List.drop_take]
    rw [h1] at ho
    exact List.mem_of_mem_drop ho
  have z : signM cols (rows.getD o []) es rc (usedM one es rc) = 0 := by
    have a1 : ¬ signM cols (rows.getD o []) es rc (usedM one es rc) < 0 := of_decide_eq_false n1
    have a2 : signM cols (rows.getD o []) es rc (usedM one es rc) < 1 := of_decide_eq_true n2
    omega
  have hall := signF_all (k := rowAt cols (rows.getD o [])) (lo := fun c => (spanOf es rc c).1) (hi := fun c => (spanOf es rc c).2) (u := usedM one es rc) (fun c hc => by
    obtain ⟨lo, hi, hm⟩ := used_span hc
    show (spanOf es rc c).1 ≤ (spanOf es rc c).2
    rw [spanOf_mem (spanL_nd hok) hm]
    exact span_le hok hm) z
  unfold fitsM
  rw [List.all_eq_true]
  intro t ht
  obtain ⟨c, lo, hi⟩ := t
  have hu : c ∈ usedM one es rc := of_decide_eq_true (List.all_eq_true.mp hs _ ht)
  have h1 := hall c hu
  rw [spanOf_mem (spanL_nd hok) ht] at h1
  unfold spanFit
  rw [decide_eq_true h1.1, decide_eq_true h1.2]
  rfl
theorem serves_len {cols : List Nat} {rows : List (List Int)} {one : List Nat} {es : List (Nat × Int)} {rc : Option (Nat × Int × Int)} (hok : QOk cols es rc) (hs : ((spanL es rc).all fun t => decide (t.1 ∈ usedM one es rc)) = true) : (stM cols rows one es rc).length = (ansM cols rows es rc).length := by
  rw [← serves_fits hok hs]
  unfold stM ansM
  rw [read_fits hok, List.length_map]
  exact ((idx_perm cols rows one).filter _).length_eq
/-! the used beginning -/
theorem tw_all {α : Type} (p : α → Bool) : ∀ {l : List α}, (∀ x ∈ l, p x = true) → l.takeWhile p = l
  | [], _ => rfl
  | a :: l, h => by
    rw [List.takeWhile_cons, if_pos (h a (by simp)), tw_all p fun x hx => h x (by simp [hx])]
theorem tw_stop {α : Type} (p : α → Bool) {d : α} (hd : p d = false) (r : List α) : ∀ {l : List α}, (∀ x ∈ l, p x = true) → (l ++ d :: r).takeWhile p = l
  | [], _ => by
    show (d :: r).takeWhile p = []
    rw [List.takeWhile_cons, hd]
    rfl
  | a :: l, h => by
    show (a :: (l ++ d :: r)).takeWhile p = a :: l
    rw [List.takeWhile_cons, if_pos (h a (by simp)), tw_stop p hd r fun x hx => h x (by simp [hx])]
theorem eqPart_in {one : List Nat} {es : List (Nat × Int)} : ∀ c ∈ eqPart one es, decide (c ∈ es.map fun p : Nat × Int => p.1) = true := fun c hc => mem_tw (fun c => decide (c ∈ es.map fun p : Nat × Int => p.1)) one c hc
/-! the letters of the question, the reach's behind, serve it -/
theorem serving {cols first more : List Nat} {es : List (Nat × Int)} {rc : Option (Nat × Int × Int)} (hok : QOk cols es rc) (hf : first.Perm (es.map (·.1))) (hm : ∀ c ∈ more, c ∉ first) : ((spanL es rc).all fun t => decide (t.1 ∈ usedM (first ++ rc.toList.map (·.1) ++ more) es rc)) = true := by
  have hfe : ∀ c ∈ first, decide (c ∈ es.map fun p : Nat × Int => p.1) = true := fun c hc => decide_eq_true (hf.mem_iff.mp hc)
  have hme : ∀ c ∈ more, decide (c ∈ es.map fun p : Nat × Int => p.1) = false := fun c hc => decide_eq_false fun z => hm c hc (hf.mem_iff.mpr z)
  rw [List.all_eq_true]
  intro t ht
  refine decide_eq_true ?_
  cases rc with
  | none =>
    have e1 : first ++ (Option.toList (none : Option (Nat × Int × Int))).map (·.1) ++ more = first ++ more := by simp
    rw [e1]
    have e2 : usedM (first ++ more) es none = first := by
      show eqPart (first ++ more) es = first
      cases more with
      | nil =>
        rw [List.append_nil]
        exact tw_all (fun c => decide (c ∈ es.map fun p : Nat × Int => p.1)) hfe
      | cons d r => exact tw_stop (fun c => decide (c ∈ es.map fun p : Nat × Int => p.1)) (hme d (by simp)) r hfe
    rw [e2]
    refine hf.mem_iff.mpr ?_
    rcases List.mem_append.mp ht with z | z
    · obtain ⟨p, hp, rfl⟩ := List.mem_map.mp z
      exact List.mem_map_of_mem (f := fun p : Nat × Int => p.1) hp
    · simp at z
  | some t3 =>
    obtain ⟨d, lo, hi⟩ := t3
    have hd := (hok.rc d lo hi rfl).2.1
    have e1 : first ++ (Option.toList (some (d, lo, hi))).map (·.1) ++ more = first ++ d :: more := by simp
    rw [e1]
    have e2 : eqPart (first ++ d :: more) es = first := tw_stop (fun c => decide (c ∈ es.map fun p : Nat × Int => p.1)) (decide_eq_false hd) more hfe
    have e3 : usedM (first ++ d :: more) es (some (d, lo, hi)) = first ++ [d] := by
      show (if ((first ++ d :: more).drop (eqPart (first ++ d :: more) es).length).take 1 = [d] then (first ++ d :: more).take ((eqPart (first ++ d :: more) es).length + 1) else eqPart (first ++ d :: more) es) = _
      rw [e2, List.drop_left, if_pos (show List.take 1 (d :: more) = [d] from rfl), List.take_add, List.take_left, List.drop_left]
      rfl
    rw [e3]
    rcases List.mem_append.mp ht with z | z
    · obtain ⟨p, hp, rfl⟩ := List.mem_map.mp z
      exact List.mem_append_left _ (hf.mem_iff.mpr (List.mem_map_of_mem (f := fun p : Nat × Int => p.1) hp))
    · have : t = (d, lo, hi) := by simpa using z
      rw [this]
      simp
end My

set_option Elab.async false
set_option linter.all false
set_option maxRecDepth 100000
set_option maxHeartbeats 2000000
namespace My
open PySem PySem.Spec PyProof.Rows L2
theorem nodup_sub_len : ∀ {l m : List Nat}, l.Nodup → (∀ c ∈ l, c ∈ m) → l.length ≤ m.length
  | [], _, _, _ => Nat.zero_le _
  | a :: l, m, h, hs => by
    have h2 := List.nodup_cons.mp h
    have ha := hs a (by simp)
    have ih := nodup_sub_len (m := m.erase a) h2.2 (fun c hc => (List.mem_erase_of_ne (fun e => h2.1 (by rw [← e]; exact hc))).mpr (hs c (by simp [hc])))
    rw [List.length_erase_of_mem ha] at ih
    have hp : 0 < m.length := List.length_pos_of_mem ha
    rw [List.length_cons]
    omega
end My

set_option Elab.async false
set_option linter.all false
set_option maxRecDepth 100000
set_option maxHeartbeats 2000000
namespace My
open PySem PySem.Spec PyProof.Rows L2
section
variable {X : Cx}
/-! ### text[::-1] -/
end
section
variable {prog : Program} {w : World} {A : Around} {E : Value → Shared → Prop} {s : Shared}
/-- sorted of what is collected as fewer than 64 texts -/
theorem sorted_texts {x : Value} {Q : Value → Shared → Prop} (got : wpAny (model prog w) A.in1 (collect x) (fun out s1 => ∃ zs, StrsAre out zs ∧ out.length < 64 ∧ ∀ (ys : List Str) (us : List Value) (c : Nat) (h' : Heap),
      StrsAre us ys → ys.Perm zs → sortedS ys = true → h'.get? s1.heap.objs.size = some (seqObj "list" us.toArray c) → (∀ b u, s1.heap.get? b = some u → h'.get? b = some u) → Q (.ref s1.heap.objs.size) { s1 with heap := h' }) E s) :
    wpAny (model prog w) A (call (.builtin "sorted") [x]) Q E s := by
  refine Calls.call_function_entry kind_sorted plain_sorted entry_sorted (args_sorted1 _) (wpAny_bind (wpAny_pure (wpAny_bind (wpAny_mono got ?_ fun _ _ z => z))))
  rintro out s1 ⟨zs, ht, l64, goal⟩
  have le : out.length ≤ sizeLine := by rw [sizeLine_eq]; omega
  refine wpAny_bind (wpAny_newList ?_ le)
  have hp : (s1.heap.push (seqObj "list" out.toArray 0)).get? s1.heap.objs.size = some (seqObj "list" out.toArray 0) := Heap.get?_push_size _ rfl
  refine wpAny_bind (wpAny_holding (wpAny_call_entry slot_list_sort ⟨_, hp, rfl⟩ entry_list_sort (list_sort_treeK strKind_oneLt (s := { s1 with heap := _ }) hp ht.keysOf (fun _ _ _ e => keyKind_strs (e ▸ ht)) l64 fun st pm so => ⟨_, rfl, ?_⟩) (args_list_sort _)))
  have ⟨ys, y1, y2, y3⟩ := sorted_out_str ht pm so
  have ⟨c, hc⟩ := sortedHeap_at (vs := out) (out := (arrOf st).map (·.2)) hp
  refine wpAny_pure ⟨_, rfl, goal ys _ c _ y1 y2 y3 (by rw [Array.toArray_toList]; exact hc) fun b u e => ?_⟩
  have lt := Heap.lt_size e
  exact (sortedHeap_old (Nat.ne_of_lt lt) (by rw [size_push']; exact Nat.lt_succ_of_lt lt)).trans (Heap.get?_push_of_some _ e)
end
section
variable {X : Cx}
/-! ### sorted(text) -/
def rSortTx : List V → Hp → VK → Prop := fun xs H Q => ∃ l : List Nat, xs = [tx l] ∧ l.length < 64 ∧ ∀ (l' : List Nat) (p : Addr), l'.Perm l → l'.Pairwise (· ≤ ·) → H p = none → Q (.ref p) (upd H p (.lst (l'.map sg)))
theorem cSortTx (hcalm : X.calm = true := by rfl) : CallR X (.builtin "sorted") rSortTx := by
  rintro pins s σ H xs us Q I r ⟨l, rfl, l64, q⟩
  obtain ⟨_, rfl, t, rfl⟩ := vals1 r
  have n : (⟨l.toArray⟩ : Str).cps.size = l.length := by simp
  have few : l.length ≤ sizeLine := by rw [sizeLine_eq]; omega
  refine sorted_texts (wpAny_collect_str (A := X.A.in1) (I.ok.hd hcalm) ⟨l.toArray⟩ t (fun s1 acc old hg hd ho hacc => ?_) (n ▸ few))
  obtain ⟨h1, g, d, tk, os⟩ := s1
  obtain ⟨rfl, rfl, rfl⟩ : g = s.gens ∧ d = s.drawn ∧ os = s.os := ⟨hg, hd, ho⟩
  have I1 : Inv X pins σ H { s with heap := h1, toks := tk } := I.kept old
  have hv := signs_vals hacc
  rw [show (⟨l.toArray⟩ : Str).cps.toList.map sg = (l.map sS).map V.str from map_sg ..] at hv
  refine ⟨l.map sS, hv.strs, by rw [Array.length_toList, hacc.1, n]; exact l64, fun ys us c h' y1 y2 y3 hp old2 => ?_⟩
  obtain ⟨l', rfl, pm⟩ := perm_signs y2
  have vs := vals_of_strs y1
  rw [← map_sg] at vs
  exact ⟨.ref h1.objs.size, _, I1.laid (t' := tk) (o := .lst (l'.map sg)) old2 (Nat.le_refl _) ⟨by rw [List.length_map, pm.length_eq]; exact few, us, c, vs, hp⟩, rfl, q l' _ pm (sorted_signs l' y3) (I1.hok.fresh (Nat.le_refl _))⟩
end
theorem eqvA_signs : ∀ ns ms : List Nat, PyData.eqvAll (ns.map fun c => PyData.str (sS c)) (ms.map fun c => PyData.str (sS c)) = decide (ns = ms)
  | [], [] => rfl
  | [], m :: ms => by
    show false = _
    simp
  | n :: ns, [] => by
    show false = _
    simp
  | n :: ns, m :: ms => by
    show (PyData.eqv (.str (sS n)) (.str (sS m)) && PyData.eqvAll (ns.map fun c => PyData.str (sS c)) (ms.map fun c => PyData.str (sS c))) = _
    rw [eqvA_signs ns ms]
    show ((sS n == sS m) && _) = _
    by_cases e : n = m
    · subst e
      simp
    · have e2 : (sS n == sS m) = false := by
        rw [Bool.eq_false_iff]
        intro z
        exact e (sS_inj (by simpa using z))
      rw [e2]
      simp [e]
theorem eqv_signs (ns ms : List Nat) : PyData.eqv (.list (ns.map fun c => PyData.str (sS c))) (.list (ms.map fun c => PyData.str (sS c))) = decide (ns = ms) := eqvA_signs ns ms
theorem le_perm_eq : ∀ {l m : List Nat}, l.Perm m → l.Pairwise (· ≤ ·) → m.Pairwise (· ≤ ·) → l = m := fun h h1 h2 => List.Perm.eq_of_pairwise (le := fun a b => a ≤ b) (fun a b _ _ h3 h4 => Nat.le_antisymm h3 h4) h1 h2 h
end My

set_option Elab.async false
set_option linter.all false
set_option maxRecDepth 100000
set_option maxHeartbeats 2000000
namespace My
open PySem PySem.Spec PyProof.Rows L2
section
variable (K : PySem.W.Frag) {X : Cx}
/-! ### the least of a list -/
end
/-! ### keys of a merged dict -/
/-! ### choices: texts in a row -/
abbrev txS (l : List Nat) : Str := ⟨l.toArray⟩
theorem txS_inj {a b : List Nat} (h : txS a = txS b) : a = b := tx_inj (congrArg V.str h)
theorem txS_of (z : Str) : txS z.cps.toList = z := by
  cases z
  simp
/-! ### prices -/
end My

set_option Elab.async false
set_option linter.all false
set_option maxRecDepth 100000
set_option maxHeartbeats 2000000
namespace My
open PySem PySem.Spec PyProof.Rows L2
theorem signs_len (l : List Nat) : ((l.map sS).map fun x : Str => x.length).sum = l.length := by
  induction l with
  | nil => rfl
  | cons a k ih =>
    rw [List.map_cons, List.map_cons, List.sum_cons, ih, List.length_cons]
    show 1 + k.length = k.length + 1
    omega
/-! ### texts cut -/
theorem cut_from (l : List Nat) (a : Nat) : cutS ⟨l.toArray⟩ (some (a : Int)) none = ⟨(l.drop a).toArray⟩ := by
  unfold cutS
  rw [HT.sIx_nat, HT.sIx_none]
  have e1 : (⟨l.toArray⟩ : Str).cps.toList = l := by simp
  have e2 : (⟨l.toArray⟩ : Str).length = l.length := by simp [Str.length]
  rw [e1, e2]
  congr 2
  by_cases h : a ≤ l.length
  · rw [Nat.min_eq_left h, List.take_of_length_le (by rw [List.length_drop]; omega)]
  · rw [List.drop_of_length_le (by omega), List.drop_of_length_le (by omega), List.take_nil]
theorem starts_txt (a b : List Nat) : Txt.startswith (txS a) (txS b) = decide (a.take b.length = b) := by
  unfold Txt.startswith
  rw [PySem.StrLaws.subAt_eq]
  have e1 : (txS a).cps.toList = a := by simp
  have e2 : (txS b).cps.toList = b := by simp
  have e3 : (txS a).length = a.length := by simp [Str.length]
  have e4 : (txS b).length = b.length := by simp [Str.length]
  rw [e1, e2, e3, e4, List.drop_zero, Nat.zero_add]
  by_cases h : a.take b.length = b
  · have hl : b.length ≤ a.length := by
      have := congrArg List.length h
      rw [List.length_take] at this
      omega
    rw [decide_eq_true h, decide_eq_true hl, h]
    simp
  · rw [decide_eq_false h]
    have : (a.take b.length == b) = false := by simpa using h
    rw [this, Bool.and_false]
/-! ### list(x), x a text or a row -/
/-! ### a need and a list: two ways to look -/
def snM (one es rc : List Nat) : Bool := decide ((one.take es.length).Perm es) && decide ((one.drop es.length).take rc.length = rc)
end My

set_option Elab.async false
set_option linter.all false
set_option maxRecDepth 100000
set_option maxHeartbeats 2000000
namespace My
open PySem PySem.Spec PyProof.Rows L2
/-! ### sorted again -/
/-! ### rows of lists of numbers -/
mutual
theorem Ft.dp {K : PySem.W.Frag} {H : Hp} : ∀ (d : PyData) (v : V), Ft H v d → Dp K H v d
  | .none, _, .non => .non
  | .bool _, _, .bl b => .bl b
  | .int _, _, .int i => .int i
  | .str _, _, .str z => .str z
  | .list ds, _, .lst h a => .lst (.inl (.inl h)) (FtA.dp ds _ a)
  | .tuple ds, _, .tup h a => .tup (.inl (.inl h)) (FtA.dp ds _ a)
theorem FtA.dp {K : PySem.W.Frag} {H : Hp} : ∀ (ds : List PyData) (vs : List V), FtA H vs ds → DpAll K H vs ds
  | [], _, .nil => .nil
  | d :: ds, _, .cons h a => .cons (Ft.dp d _ h) (FtA.dp ds _ a)
end
theorem FtA.snoc {H : Hp} : ∀ {vs : List V} {ds : List PyData} {v : V} {d : PyData}, FtA H vs ds → Ft H v d → FtA H (vs ++ [v]) (ds ++ [d])
  | _, _, _, _, .nil, h => .cons h .nil
  | _, _, _, _, .cons a r, h => .cons a (r.snoc h)
end My
namespace My
open PySem PySem.Spec PyProof.Rows L2
end My

set_option Elab.async false
set_option linter.all false
set_option maxRecDepth 100000
set_option maxHeartbeats 2000000
namespace My
open PySem PySem.Spec PyProof.Rows L2
/-! ### generator expressions whose element calls defs -/
/-- the context of a generator expression's own frame -/
abbrev gxC (X : Cx) (A : Around) (s : Shared) (H : Hp) (cenv : Env) (fp : List Addr) (pn : List (Addr × Obj)) : Cx :=
  { X with A := A, s_0 := s, H_0 := H, env := cenv, outer := X.stack, stack := cenv :: X.stack, ex := fp, fn := fun _ => false, pn := pn, xe := fun _ _ => False }
theorem over_gen {A : Around} {elt : Expr} {gs : List Comprehension} {scope : Scope} {pos : Pos} {it acc : Value} {env : Env} : A.over (.compLoop (.GeneratorExp elt gs scope pos) 0 it acc env) [] = A.deeper env := rfl
section
variable {X : Cx} {pins : List (Addr × Obj)} {σ : L2.St} {H : Hp} {s : Shared}
/-- what its consumer wrote at S while it slept -/
theorem woke {S : Addr} {o o' : Obj} {pins0 : List (Addr × Obj)} {s' : Shared} (I : Inv X ((S, o) :: pins0) σ H s) (h0 : X.s_0.heap.objs.size ≤ S) (hc : ∀ x c, X.env.cells.lookup x = some c → c ≠ S) (hpn : ∀ p ∈ X.pn ++ pins0, p.1 ≠ S)
    (os : s'.os = s.os) (bare : AllBare s'.gens) (keep : ∀ b u, b ≠ S → s.heap.get? b = some u → s'.heap.get? b = some u) (own : s'.heap.get? S = some o') (hd : ∀ v, o'.data ≠ .cell v) : Inv X ((S, o') :: pins0) σ H s' := by
  obtain ⟨p1, p2, p3, p4, p5⟩ := I.pin (S, o) (List.mem_append_right _ List.mem_cons_self)
  have I0 : Inv X pins0 σ H s := I.pins_of fun p hp => I.pin p (List.mem_append_right _ (List.mem_cons_of_mem _ hp))
  have J : Inv X pins0 σ H { s with heap := s'.heap, toks := s.toks } := I0.turned (t' := s.toks) keep p2 p3 (.inr h0) hc hpn
  have J2 : Inv X pins0 σ H s' := J.call' (ch := []) os (Un.kept fun b o e => e) J.hok bare (fun b hb => absurd hb (by simp))
  refine J2.pins_of fun p hp => ?_
  rcases List.mem_cons.mp hp with z | z
  · rw [z]
    exact ⟨own, p2, p3, p4, hd⟩
  · exact J2.pin p (List.mem_append_right _ z)
/-- a scope without cells makes none -/
theorem none_made : ∀ {names : List (Str × NameKind)}, (∀ y ∈ names, y.2 ≠ .cell) → (∀ n acc, cellsFrom n names acc = acc) ∧ ∀ h, pushCells h names = h
  | [], _ => ⟨fun _ _ => rfl, fun _ => rfl⟩
  | y :: r, no => by
    have hy : (y.2 == NameKind.cell) = false := beq_eq_false_iff_ne.mpr (no y List.mem_cons_self)
    have ⟨p, q⟩ := none_made (names := r) fun z hz => no z (List.mem_cons_of_mem y hz)
    exact ⟨fun n acc => by rw [cellsFrom, hy]; exact p n acc, fun h => by rw [pushCells, hy]; exact q h⟩
/-- names keep their places when only their kinds change -/
theorem lookup_kinds {f : Str × NameKind → Str × NameKind} (same : ∀ p, (f p).1 = p.1) {x : Str} {k : NameKind} : ∀ {names : List (Str × NameKind)}, names.lookup x = some k → (names.map f).lookup x = some (f (x, k)).2
  | [], e => nomatch e
  | (n, j) :: r, e => by
    rw [List.map_cons, show f (n, j) = (n, (f (n, j)).2) from Prod.ext (same _) rfl]
    cases hx : x == n with
    | true =>
      rw [List.lookup_cons, hx] at e ⊢
      obtain rfl : j = k := Option.some.inj e
      rw [eq_of_beq hx]
    | false =>
      rw [List.lookup_cons, hx] at e ⊢
      exact lookup_kinds same e
/-- a free name stays free or is a cell in the block's scope -/
theorem relab_free {env : Env} {scope : Scope} {x : Str} (e : scope.names.lookup x = some .free) : (relabel scope env).names.lookup x = some .cell ∨ (relabel scope env).names.lookup x = some .free := by
  unfold relabel
  rw [lookup_kinds (fun p => ?_) e]
  · dsimp only
    split
    · exact .inl rfl
    · exact .inr rfl
  · dsimp only
    split <;> rfl
/-- the generator's frame as it begins: what a block's frame would know, with the iterator under its own name -/
theorem gx_start {scope : Scope} {own : List (Str × Nat)} {fp : List Addr} {A : Around} {code : Value} {it : Value} {h' : Heap} {go : Obj} {G : Array GenState} {tk : Nat} (I : Inv X pins σ H s) (ok : BlkOk X.N X.env.scope scope own) (hcell : ∀ y ∈ scope.names, y.2 ≠ .cell) (hN : X.N.Nodup)
    (hfp : ∀ b ∈ fp, FpOk X pins H b ∧ b < s.heap.objs.size) (hA : A.handled = none) (hfr : A.frames = some X.stack) (hn : h'.Ns s.heap.objs.size (fun y => if y = ".0" then some it else none))
    (hs : Heap.SameBut s.heap.objs.size (s.heap.push { cls := .type "frame", data := .dict #[] }) h') (hG : AllBare G) (hgp : (h'.push go).get? h'.objs.size = some go) (hgd : ∀ v, go.data ≠ .cell v) :
    Inv (gxC X (A.deeper (genEnv scope (cloFrom X.env.cells scope.names []) s.heap.objs.size code builtinsNs X.env)) s H (genEnv scope (cloFrom X.env.cells scope.names []) s.heap.objs.size code builtinsNs X.env) fp [(h'.objs.size, go)]) [] (wipe σ (own.map (·.2))) H
      { s with gens := G, toks := tk, heap := h'.push go } := by
  have J := block_start I ok hN hfp
  rw [(none_made hcell).1, (none_made hcell).2] at J
  have lt : s.heap.objs.size < h'.objs.size := hn.lt
  have kp : ∀ b o, s.heap.get? b = some o → (h'.push go).get? b = some o := fun b o e => Heap.get?_push_of_some _ (hs.extBut b o (Nat.ne_of_lt (Heap.lt_size e)) (Heap.get?_push_of_some _ e))
  have cells : ∀ {c : Addr} {v : Option Value}, (s.heap.push { cls := .type "dict", data := .dict #[] }).IsCell c v → (h'.push go).IsCell c v := by
    rintro c v ⟨o, e, d⟩
    have ne : c ≠ s.heap.objs.size := fun z => by
      rw [z, Heap.get?_push_size _ rfl] at e
      rw [← Option.some.inj e] at d
      cases d
    exact ⟨o, kp c o (Heap.get?_push_ne _ _ _ ne ▸ e), d⟩
  have outside : ∀ {y : Str}, scope.names.lookup y = some .cell ∨ scope.names.lookup y = some .free → (relabel scope X.env).names.lookup y = some .cell ∨ (relabel scope X.env).names.lookup y = some .free := fun z => z.elim (fun e => absurd rfl (hcell _ (PySem.mem_of_lookup e))) relab_free
  refine { ok := { mod := J.ok.mod, kind := ok.kind, glob := J.ok.glob, blt := rfl, above := Nat.le_refl _, inj := J.ok.inj, has := fun y z => J.ok.has y (outside z), cab := (fun _ _ z => nomatch z), hd := fun _ => hA, frames := Around.frames_deeper hfr, stk := .inr ⟨rfl, rfl⟩,
                   exf := J.ok.exf, bs := J.ok.bs, bsz := J.ok.bsz, noex := J.ok.noex, exfs := J.ok.exfs, funs := J.ok.funs, frf := J.ok.frf }
           os := rfl, bare := hG, base := Un.kept kp, loc := ⟨_, hn.push go, fun i y v hy hv vis => ?_⟩, cell := fun y c e => (J.cell y c e).imp fun _ => cells, free := J.free, freeC := J.freeC, pin := ?_, hok := I.hok.kept kp, len := J.len }
  · obtain ⟨m, hm, all⟩ := J.loc
    have blank : m y = none := hm.agree (Heap.Ns.new s.heap (.type "dict")) y
    have get := all i y v hy hv
    rcases vis with l | l
    · have l2 : (relabel scope X.env).names.lookup y = some .local := lookup_relabel_local l
      obtain ⟨u, _, z | z⟩ := get (.inl l2)
      · rw [blank] at z
        exact nomatch z.2
      · rcases z.1 with z | z <;> exact nomatch l2.symm.trans z
    · obtain ⟨u, r, z | ⟨_, c, e, k⟩⟩ := get (.inr (outside l))
      · rw [blank] at z
        exact nomatch z.2
      · exact ⟨u, r, .inr ⟨l, c, e, cells k⟩⟩
  · intro p hp
    obtain rfl : p = (h'.objs.size, go) := by simpa using hp
    refine ⟨hgp, I.hok.fresh (Nat.le_of_lt lt), Nat.ne_of_gt lt, fun z => ?_, hgd⟩
    rcases List.mem_cons.mp (I.stkSub _ z) with e | e
    · exact Nat.lt_irrefl _ (Nat.lt_trans lt (show h'.objs.size < _ from (show h'.objs.size = X.env.locals from e) ▸ I.lt))
    · exact I.nofs (Nat.le_of_lt lt) e
end
end My

set_option Elab.async false
set_option linter.all false
set_option maxRecDepth 100000
set_option maxHeartbeats 2000000
namespace My
open PySem PySem.Spec PyProof.Rows L2
/-- where such a generator stands: i items are out; S: what its consumer keeps -/
structure GxAt (X : Cx) (fp : List Addr) (tn : Nat → Heap → Prop) (σ0 : L2.St) (W : Nat → Hp → Prop) (S : Addr) (i : Nat) (o : Obj) (H : Hp) (s : Shared) : Prop where
  inv : Inv X [(S, o)] σ0 H s
  st : tn i s.heap
  nfp : ∀ b ∈ fp, H b = none
  w : W i H
/-- the consumer wrote at S alone -/
structure Wrote (S : Addr) (s s' : Shared) (o' : Obj) : Prop where
  os : s'.os = s.os
  bare : AllBare s'.gens
  keep : ∀ b u, b ≠ S → s.heap.get? b = some u → s'.heap.get? b = some u
  own : s'.heap.get? S = some o'
  nc : ∀ v, o'.data ≠ .cell v
def gxY (X : Cx) (fp : List Addr) (tn : Nat → Heap → Prop) (σ0 : L2.St) (W : Nat → Hp → Prop) (S : Addr) (n : Nat) (F : Nat → V) : Protocol := fun m s₀ v s kap =>
  ∃ i o H, m + i + 1 = n ∧ RelV (F i) v ∧ s₀.heap.get? S = some o ∧ GxAt X fp tn σ0 W S (i + 1) o H s ∧ ∀ s'' o', Wrote S s s'' o' → kap (.send .none) s''
def gxP (X : Cx) (σ0 : L2.St) (W : Nat → Hp → Prop) (S : Addr) (n : Nat) : Nat → Shared → Shared → Prop := fun m s₀ s₁ => m = 0 ∧ ∃ o H, Inv X [(S, o)] σ0 H s₁ ∧ W n H
section
variable {X : Cx}
/-- one item's reading -/
def gxStep (J : It) (g : L2.TG) (te : TE) (vs : List Nat) (σ0 : L2.St) (W : Nat → Hp → Prop) (n : Nat) (F : Nat → V) : Prop :=
  ∀ i H, W i H → (i < n → J.go i H ∧ ∀ x H', J.yld i H x H' → g x σ0 H' fun σ2 H2 => wipe σ2 vs = σ0 ∧ te σ2 H2 fun y H3 => y = F i ∧ W (i + 1) H3) ∧ (i = n → J.stop i H)
theorem gx_loop {A : Around} {elt tg iter : Expr} {scope : Scope} {pos : Pos} {J : It} {fp : List Addr} {it : Addr} {tn : Nat → Heap → Prop} {g : L2.TG} {te : TE} {vs : List Nat} {σ0 : L2.St} {W : Nat → Hp → Prop} {n : Nat} {F : Nat → V} {S : Addr}
    (hA : A.deeper X.env = X.A) (T : Turn X.prog X.w X.K tg J fp it tn) (hc : X.calm = true) (hex : X.ex = fp) (hSf : S ∉ fp) (hpf : ∀ p ∈ X.pn, p.1 ∉ fp) (hxe : ∀ e s, X.xe e s → False) (hco : X.env.scope.isCoroutine = false)
    (h0 : X.s_0.heap.objs.size ≤ S) (hcs : ∀ x c, X.env.cells.lookup x = some c → c ≠ S) (hpS : ∀ p ∈ X.pn, p.1 ≠ S)
    (pg : PG X tg g) (pe : PE X elt te) (step : gxStep J g te vs σ0 W n F) :
    ∀ (k i : Nat) (s₀ s : Shared) (o : Obj) (H : Hp), i + k = n → s₀.heap.get? S = some o → GxAt X fp tn σ0 W S i o H s →
      Seg (model X.prog X.w) A (fun m s₀ r s₁ => r = .ok .next ∧ gxP X σ0 W S n m s₀ s₁) (gxY X fp tn σ0 W S n F) k s₀
        (.compLoop (.GeneratorExp elt [⟨tg, iter, [], 0⟩] scope pos) 0 (.ref it) .none X.env)
        ((model X.prog X.w).den (.compLoop (.GeneratorExp elt [⟨tg, iter, [], 0⟩] scope pos) 0 (.ref it) .none X.env)) [] s := by
  have stat : ∀ {o : Obj} {σ' : L2.St} {H' : Hp} {s' : Shared}, Inv X [(S, o)] σ' H' s' → (∀ b ∈ fp, H' b = none) → ∀ b ∈ fp, FpOk X [(S, o)] H' b := fun {o σ' H' s'} I' hn b hb =>
    ⟨hn b hb, (I'.ok.exf b (hex ▸ hb)).1, I'.ok.exfs b (hex ▸ hb), .inl (hex ▸ hb), fun x c e => (I'.ok.exf b (hex ▸ hb)).2 x c e, fun p hp z => by
      rcases List.mem_append.mp hp with q | q
      · exact hpf p q (z ▸ hb)
      · have e : p = (S, o) := by simpa using q
        rw [e] at z
        exact hSf (by rw [show S = b from z]; exact hb)⟩
  intro k
  induction k with
  | zero =>
    intro i s₀ s o H hk hs0 G
    have hin : i = n := by omega
    subst hin
    show Seg _ A _ _ _ s₀ _ ((compTurn (.GeneratorExp elt [⟨tg, iter, [], 0⟩] scope pos) 0 (.ref it) .none X.env).onRaise (leaving X.env)) [] s
    rw [compTurn_gen, Sem.onRaise_eq_wrap]
    refine seg_bind_wrap (wpAny_standAt ?_)
    refine seg_bind_wrap ?_
    rw [over_gen, hA]
    refine thnF (T.done X rfl rfl rfl hc i [(S, o)] s σ0 H (fun _ _ => False) G.inv (stat G.inv G.nfp) G.st ((step i H G.w).2 rfl)) fun r s6 ⟨hr, I6⟩ => ?_
    subst hr
    exact seg_end (.ok .next) ⟨rfl, rfl, o, H, I6, G.w⟩
  | succ k ih =>
    intro i s₀ s o H hk hs0 G
    have hlt : i < n := by omega
    obtain ⟨go, st⟩ := (step i H G.w).1 hlt
    show Seg _ A _ _ _ s₀ _ ((compTurn (.GeneratorExp elt [⟨tg, iter, [], 0⟩] scope pos) 0 (.ref it) .none X.env).onRaise (leaving X.env)) [] s
    rw [compTurn_gen, Sem.onRaise_eq_wrap]
    refine seg_bind_wrap (wpAny_standAt ?_)
    refine seg_bind_wrap ?_
    rw [over_gen, hA]
    refine thnF (T.item X rfl rfl rfl hc i [(S, o)] s σ0 H (fun _ _ => False) G.inv (stat G.inv G.nfp) G.st go) fun r s6 ⟨u, hr, h6⟩ => ?_
    subst hr
    refine seg_bind_wrap ?_
    rw [over_gen, hA]
    refine thnF h6 fun _ s7 ⟨x, H7, I7, r7, y7, st7, n7⟩ => ?_
    have I7' := I7.pinned (stat I7 n7) (T.obj _ _ st7)
    refine seg_bind_wrap ?_
    rw [over_gen, hA]
    refine wpAny_mono (pg.run _ s7 _ H7 x u _ I7' r7 (st x H7 y7)) (fun _ s8 h8 => ?_) (fun e s' z => (hxe e s' z).elim)
    obtain ⟨σ8, H8, I8, hw8, q8⟩ := h8
    refine seg_bind_wrap (wpAny_tests_nil ?_)
    simp only [if_true]
    have hy : ∀ v, yieldOut X.env v = yieldValue v := fun v => by simp only [yieldOut, hco, Bool.false_eq_true, if_false]
    simp only [hy]
    rw [Sem.bind_eq_wrap', Sem.bind_eq_wrap', Sem.wrap_wrap, Sem.wrap_wrap]
    refine seg_wrap ?_
    rw [over_gen, hA]
    refine wpAny_mono (pe.run _ s8 σ8 H8 _ I8 q8) (fun yv s10 h10 => ?_) (fun e s' z => (hxe e s' z).elim)
    obtain ⟨y, H10, I10, r10, ey, w10⟩ := h10
    have pin' : ∀ b ∈ fp, ∀ ob, s7.heap.get? b = some ob → s10.heap.get? b = some ob ∧ H10 b = none := fun b hb ob e =>
      let z := I10.pin (b, ob) (List.mem_append_right _ (List.mem_append_right _ (mem_pinsAt hb e)))
      ⟨z.1, z.2.1⟩
    have hl : σ0.length = σ8.length := by rw [← hw8, wipe_length]
    have I11 : Inv X [(S, o)] σ0 H10 s10 := (I10.unpinned (pins := [(S, o)])).weak hl fun j v e => by
      rw [← hw8] at e
      exact (wipe_some e).1
    have G11 : GxAt X fp tn σ0 W S (i + 1) o H10 s10 := ⟨I11, T.keep _ _ _ st7 fun b hb ob e => (pin' b hb ob e).1, fun b hb => by
      obtain ⟨ob, e, _⟩ := T.obj _ _ st7 b hb
      exact (pin' b hb ob e).2, w10⟩
    refine seg_at (seg_yield rfl rfl rfl ⟨i, o, H10, by omega, by rw [← ey]; exact r10, hs0, G11, fun s'' o' z => ?_⟩)
    refine seg_again rfl (ih (i + 1) s'' s'' o' H10 (by omega) z.own ⟨woke G11.inv h0 hcs (fun p hp => hpS p (by simpa using hp)) z.os z.bare z.keep z.own z.nc, T.keep _ _ _ G11.st fun b hb ob e => z.keep b ob (fun q => hSf (q ▸ hb)) e, G11.nfp, G11.w⟩)
/-- from its beginning -/
theorem gx_begin {A : Around} {elt tg iter : Expr} {scope : Scope} {pos : Pos} {J : It} {fp : List Addr} {it : Addr} {tn : Nat → Heap → Prop} {R : GenEnd} {Y : Protocol} {k : Nat} {s₀ s : Shared} (T : Turn X.prog X.w X.K tg J fp it tn) (st : tn 0 s.heap)
    (loop : Seg (model X.prog X.w) A R Y k s₀ (.compLoop (.GeneratorExp elt [⟨tg, iter, [], 0⟩] scope pos) 0 (.ref it) .none X.env)
        ((model X.prog X.w).den (.compLoop (.GeneratorExp elt [⟨tg, iter, [], 0⟩] scope pos) 0 (.ref it) .none X.env)) [] s) :
    Seg (model X.prog X.w) A R Y k s₀ (.compStart (.GeneratorExp elt [⟨tg, iter, [], 0⟩] scope pos) 0 (.ref it) .none X.env)
        ((model X.prog X.w).den (.compStart (.GeneratorExp elt [⟨tg, iter, [], 0⟩] scope pos) 0 (.ref it) .none X.env)) [] s := by
  show Seg _ A _ _ _ s₀ _ ((compStart (.GeneratorExp elt [⟨tg, iter, [], 0⟩] scope pos) 0 (.ref it) .none X.env).onRaise (leaving X.env)) [] s
  unfold compStart
  rw [Sem.onRaise_eq_wrap]
  show Seg _ A _ _ _ s₀ _ ((ask >>= _).wrap _ _ _ _) [] s
  refine seg_bind_wrap (wpAny_askSetting ?_)
  split
  · exact seg_again rfl loop
  · refine seg_bind_wrap (wpAny_rule ?_)
    show Seg _ A _ _ _ s₀ _ ((standAt iter.pos >>= _).wrap _ _ _ _) [] s
    exact seg_bind_wrap (wpAny_standAt (seg_bind_wrap (T.self _ 0 s _ _ st (seg_again rfl loop))))
end
end My

set_option Elab.async false
set_option linter.all false
set_option maxRecDepth 100000
set_option maxHeartbeats 2000000
namespace My
open PySem PySem.Spec PyProof.Rows L2
section
variable {X : Cx}
/-- what sum() walks: the generator at a sleeps, k items are still to come -/
structure GxSt (X : Cx) (A : Around) (fp : List Addr) (tn : Nat → Heap → Prop) (σ0 : L2.St) (W : Nat → Hp → Prop) (S : Addr) (n : Nat) (F : Nat → V) (a : Addr) (g k : Nat) (s : Shared) : Prop where
  gen : s.heap.IsGen a g
  lim : s.heap.NoLimit
  bare : AllBare s.gens
  go : ∃ gs, s.gens[g]? = some gs ∧ ∀ s'' o', Wrote S s s'' o' → gs.Goes (model X.prog X.w) A (fun m s₀ r s₁ => r = .ok .next ∧ gxP X σ0 W S n m s₀ s₁) (gxY X fp tn σ0 W S n F) k (.send .none) s''
end
end My

set_option Elab.async false
set_option linter.all false
set_option maxRecDepth 100000
set_option maxHeartbeats 2000000
namespace My
open PySem PySem.Spec PyProof.Rows L2
section
variable {X : Cx} {pins : List (Addr × Obj)} {σ : L2.St} {H : Hp} {s : Shared}
/-- the generator expression's scope -/
structure GxS (X : Cx) (scope : Scope) (own : List (Str × Nat)) : Prop where
  blk : BlkOk X.N X.env.scope scope own
  co : scope.isCoroutine = false
  cell : ∀ y ∈ scope.names, y.2 ≠ .cell
  dot : scope.names.lookup (".0" : Str) = some NameKind.local
/-- the generator at a, as it was made -/
def GxNew (X : Cx) (pins : List (Addr × Obj)) (σ : L2.St) (elt tg iter : Expr) (scope : Scope) (pos : Pos) (own : List (Str × Nat)) (J : It) (H2 : Hp) (a : Addr) (s5 : Shared) : Prop :=
  ∃ (s4 : Shared) (code : Value) (cenv : Env) (fp : List Addr) (it : Addr) (tn : Nat → Heap → Prop) (go : Obj),
    cenv = genEnv scope (cloFrom X.env.cells scope.names []) s4.heap.objs.size code builtinsNs X.env ∧ Inv X pins σ H2 s4 ∧ (∀ b ∈ fp, FpOk X pins H2 b ∧ b < s4.heap.objs.size) ∧ Turn X.prog X.w X.K tg J fp it tn ∧ tn 0 s5.heap ∧
    s5.gens = s4.gens.push (.fresh (.compStart (.GeneratorExp elt [⟨tg, iter, [], 0⟩] scope pos) 0 (.ref it) .none cenv)) ∧ (∀ h : Heap, h.get? a = some go → h.IsGen a s4.gens.size) ∧ s5.heap.get? a = some go ∧ s4.heap.objs.size < a ∧
    (∀ A : Around, A.handled = none → A.frames = some X.stack → Inv (gxC X (A.deeper cenv) s4 H2 cenv fp [(a, go)]) [] (wipe σ (own.map (·.2))) H2 s5)
theorem gx_make {c P : Addr} {elt tg iter : Expr} {gpos : Pos} {scope : Scope} {own : List (Str × Nat)} {wi : TI} {k : Nat} {Q' : Value → Shared → Prop} {R : It → Hp → Prop}
    (hr : Room k X.A) (TB : LamX.TabB X.base X.mg c P) (hcode : X.env.code = .ref c) (S : GxS X scope own) (hN : X.N.Nodup) (hi : PI X tg iter wi)
    (hs : ∀ v, genFold iter X.env v = pure v) (I : Inv X pins σ H s) (h : wi σ H fun J H1 => GxR.TabG H1 P ∧ R J H1)
    (hQ : ∀ J H1 H2 a s5, R J H1 → GxR.Tabbed P H1 H2 → GxNew X pins σ elt tg iter scope gpos own J H2 a s5 → Q' (.ref a) s5) :
    wpAny (model X.prog X.w) X.A (eval (.GeneratorExp elt [⟨tg, iter, [], 0⟩] scope gpos) X.env) Q' X.xe s := by
  have caught : ∀ y ∈ scope.names, y.2 = .free → ∃ c, X.env.cells.lookup y.1 = some c := fun y hy e => I.ok.has _ (S.blk.free y hy e)
  have deep : X.A.depth < recursionLimit := by
    have := hr.dp
    omega
  refine wpAny_GeneratorExp_make S.co (closure_ok caught) S.cell S.dot S.blk.kind deep (thn (hi.run pins s σ H _ I h) fun xv s1 hx => thn hx fun itv s2 h2 => ?_) hs
  obtain ⟨it, fp, tn, J, H1, rfl, I2, T, st2, f2, hT, hR⟩ := h2
  refine ⟨I2.nolimit, gen_code I2 TB hcode hT fun code H2 s4 tab I4 kp _ h' hn' hs' => ?_⟩
  have apart : ∀ b ∈ fp, b ≠ P := fun b hb z => by
    obtain ⟨_, e, _⟩ := hT
    rw [← z, (f2 b hb).1] at e
    cases e
  have kp5 : ∀ (go : Obj) b u, s4.heap.get? b = some u → (h'.push go).get? b = some u := fun go b u e => Heap.get?_push_of_some _ (hs'.extBut b u (Nat.ne_of_lt (Heap.lt_size e)) (Heap.get?_push_of_some _ e))
  have f4 : ∀ b ∈ fp, FpOk X pins H2 b ∧ b < s4.heap.objs.size := fun b hb => by
    obtain ⟨o, e, _⟩ := T.obj _ _ st2 b hb
    exact ⟨⟨(tab.2 b (apart b hb)).trans (f2 b hb).1, (f2 b hb).2⟩, Heap.lt_size (kp b o (apart b hb) e)⟩
  generalize hgo : ({ cls := .type "generator", data := .fields #[.int s4.gens.size 0, .str "<genexpr>" (s4.toks + 1), .str (X.env.qual ++ "<genexpr>") (s4.toks + 1 + 1)] } : Obj) = go
  have hgp : (h'.push go).get? h'.objs.size = some go := Heap.get?_push_size _ (by rw [← hgo]; rfl)
  have hgd : ∀ v, go.data ≠ .cell v := fun v z => by
    rw [← hgo] at z
    cases z
  exact hQ J H1 H2 h'.objs.size _ hR tab ⟨s4, code, _, fp, it, tn, go, rfl, I4, f4, T, T.keep _ _ _ st2 fun b hb u e => kp5 go b u (kp b u (apart b hb) e), rfl, fun hh e => ⟨go, _, _, e, by rw [← hgo], by rw [← hgo], by rw [← hgo]⟩, hgp, hn'.lt,
    fun A hA hfr => gx_start I4 S.blk S.cell hN f4 hA hfr hn' hs' (I4.bare.push rfl) hgp hgd⟩
end
end My

set_option Elab.async false
set_option linter.all false
set_option maxRecDepth 100000
set_option maxHeartbeats 2000000
namespace My
open PySem PySem.Spec PyProof.Rows L2
def gxCk (scope : Scope) : Bool := !scope.isCoroutine && (scope.names.all fun y => match y.2 with | .cell => false | _ => true) && (match scope.names.lookup (".0" : Str) with | some .local => true | _ => false)
theorem gxS_by {X : Cx} {scope : Scope} {own : List (Str × Nat)} (b : BlkOk X.N X.env.scope scope own) (h : gxCk scope = true) : GxS X scope own := by
  unfold gxCk at h
  simp only [Bool.and_eq_true] at h
  obtain ⟨⟨h1, h2⟩, h3⟩ := h
  rw [List.all_eq_true] at h2
  refine ⟨b, by simpa using h1, fun y hy z => ?_, ?_⟩
  · have q := h2 y hy
    rw [z] at q
    cases q
  · revert h3
    cases scope.names.lookup (".0" : Str) with
    | none => simp
    | some k => cases k <;> simp
/-! sums -/
/-! works -/
end My

set_option Elab.async false
set_option linter.all false
set_option maxRecDepth 100000
set_option maxHeartbeats 2000000
namespace My
open PySem PySem.Spec PyProof.Rows L2
/-! ### slices of a tuple of its own, sorted(tuple of texts) -/
def strD (o : List Nat) : PyData := .str (txS o)
/-! ### prices of more lists -/
end My

set_option Elab.async false
set_option linter.all false
set_option maxRecDepth 100000
set_option maxHeartbeats 2000000
namespace My
open PySem PySem.Spec PyProof.Rows L2
/-! ### a promise where no repr is under way -/
/-! ### repr of data -/
structure Sh (n m : Nat) (d : PyData) : Prop where
  ok : d.showable = true
  nd : d.hasDict = false
  sh : d.leavesShort 100 = true
  dp : d.depth ≤ n
  wt : d.weight ≤ m
  ly : d.canLay0 = true
theorem Sh.mono {n n' m m' : Nat} {d : PyData} (h : Sh n m d) (h1 : n ≤ n') (h2 : m ≤ m') : Sh n' m' d := ⟨h.ok, h.nd, h.sh, Nat.le_trans h.dp h1, Nat.le_trans h.wt h2, h.ly⟩
theorem Sh.none {n m : Nat} : Sh n m .none := ⟨rfl, rfl, rfl, Nat.zero_le _, Nat.zero_le _, rfl⟩
theorem Sh.bool {n m : Nat} (b : Bool) : Sh n m (.bool b) := ⟨rfl, rfl, rfl, Nat.zero_le _, Nat.zero_le _, rfl⟩
theorem Sh.str {n m : Nat} {l : List Nat} (h : ∀ c ∈ l, c < 1000) (hl : l.length ≤ m) : Sh n m (.str (txS l)) := by
  refine ⟨rfl, rfl, ?_, Nat.zero_le _, ?_, ?_⟩
  · have e : l.toArray.toList = l := by simp
    simp only [PyData.leavesShort, List.all_eq_true, decide_eq_true_eq]
    intro c hc
    have := h c hc
    omega
  · show l.toArray.size ≤ m
    simpa using hl
  · show (txS l).cps.all (· < 0x110000) = true
    rw [Array.all_eq_true']
    intro c hc
    have hc2 : c ∈ l := by simpa using hc
    have := h c hc2
    exact decide_eq_true (by omega)
theorem log2_small {i : Int} (h : i.natAbs < 10 ^ 60) : i.natAbs.log2 < 200 := by
  by_cases e : i.natAbs = 0
  · rw [e]
    decide
  · rw [Nat.log2_lt e]
    exact Nat.lt_of_lt_of_le h (by decide)
theorem Sh.int {n m : Nat} {i : Int} (h : i.natAbs < 10 ^ 60) (hm : 200 ≤ m) : Sh n m (.int i) := by
  have h1 := log2_small h
  refine ⟨?_, rfl, ?_, Nat.zero_le _, ?_, rfl⟩
  · simp only [PyData.showable, decide_eq_true_eq]
    omega
  · simp only [PyData.leavesShort, decide_eq_true_eq]
    show (Str.ofString (toString i)).length ≤ 100
    have h2 := int_text_length_le10 (a := i) (k := 60) (by decide) h
    rw [PySem.ofString_length]
    omega
  · simp only [PyData.weight]
    split <;> omega
theorem sh_all {n m : Nat} : ∀ {xs : List PyData}, (∀ x ∈ xs, Sh n m x) → PyData.showableAll xs = true ∧ PyData.hasDictAll xs = false ∧ PyData.leavesShortAll 100 xs = true ∧ PyData.depthAll xs ≤ n ∧ PyData.weightAll xs ≤ (m + 1) * xs.length ∧ PyData.canLayAll0 xs = true
  | [], _ => ⟨rfl, rfl, rfl, Nat.zero_le _, Nat.zero_le _, rfl⟩
  | x :: xs, h => by
    obtain ⟨a1, a2, a3, a4, a5, a6⟩ := sh_all (xs := xs) fun y hy => h y (List.mem_cons_of_mem _ hy)
    have b := h x (List.mem_cons_self ..)
    refine ⟨by simp only [PyData.showableAll, b.ok, a1, Bool.and_self], by simp only [PyData.hasDictAll, b.nd, a2, Bool.or_self], by simp only [PyData.leavesShortAll, b.sh, a3, Bool.and_self], ?_, ?_, by simp only [PyData.canLayAll0, b.ly, a6, Bool.and_self]⟩
    · have := b.dp
      simp only [PyData.depthAll]
      omega
    · have := b.wt
      simp only [PyData.weightAll, List.length_cons, Nat.mul_add, Nat.mul_one]
      omega
theorem Sh.lst {n m : Nat} {xs : List PyData} (h : ∀ x ∈ xs, Sh n m x) : Sh (n + 1) ((m + 1) * xs.length) (.list xs) := by
  obtain ⟨a1, a2, a3, a4, a5, a6⟩ := sh_all h
  exact ⟨a1, a2, a3, Nat.succ_le_succ a4, a5, a6⟩
theorem Sh.tup {n m : Nat} {xs : List PyData} (h : ∀ x ∈ xs, Sh n m x) : Sh (n + 1) ((m + 1) * xs.length) (.tuple xs) := by
  obtain ⟨a1, a2, a3, a4, a5, a6⟩ := sh_all h
  exact ⟨a1, a2, a3, Nat.succ_le_succ a4, a5, a6⟩
theorem Sh.fits {d : PyData} (h : Sh 20 100000 d) : d.shown.length ≤ sizeLine := by
  have h1 := PyData.shown_le 100 (by decide) d h.sh
  have h2 := h.wt
  rw [sizeLine_eq]
  omega
/-! ### the law's own call -/
section
variable {P : Program} {w : World} {K : PySem.W.Frag} {mg mb : Str → Option Value} {cs : List (Addr × Addr)} {a : Addr} {vs : List Value} {ns : List Int} {s : Shared} {H : Hp}
open Classical in
end
end My

set_option Elab.async false
set_option linter.all false
set_option maxRecDepth 100000
set_option maxHeartbeats 2000000
namespace My
open PySem PySem.Spec PyProof.Rows L2
/-! ### all(elt for target in iter), any(..), the element of any kind -/
section
variable {X : Cx}
theorem repin {A : Around} {s s' : Shared} {H H' : Hp} {cenv : Env} {fp : List Addr} {pn pins : List (Addr × Obj)} {σ : L2.St} (I : Inv (gxC X A s H cenv fp pn) pins σ H' s') : Inv (gxC X A s H cenv fp []) (pn ++ pins) σ H' s' :=
  ⟨⟨I.ok.mod, I.ok.kind, I.ok.glob, I.ok.blt, I.ok.above, I.ok.inj, I.ok.has, I.ok.cab, I.ok.hd, I.ok.frames, I.ok.stk, I.ok.exf, I.ok.bs, I.ok.bsz, I.ok.noex, I.ok.exfs, I.ok.funs, I.ok.frf⟩, I.os, I.bare, I.base, I.loc, I.cell, I.free, I.freeC, I.pin, I.hok, I.len⟩
theorem all_loopC {A : Around} {fp : List Addr} {tn : Nat → Heap → Prop} {σ0 : L2.St} {W : Nat → Hp → Prop} {n : Nat} {tr : Nat → Bool} {a : Addr} {g : Nat} {go : Obj} {R : Result → Shared → Prop}
    (hh : A.handled = none) (hd : A.depth < recursionLimit) (hgo : ∀ h : Heap, h.get? a = some go → h.IsGen a g) (hnc : ∀ v, go.data ≠ .cell v)
    (hR1 : ∀ s' o H, (∀ j, j < n → tr j = true) → Inv X [(a, o)] σ0 H s' → W n H → R (.ok (.ret (.bool true))) s')
    (hR0 : ∀ s' o H j, j < n → tr j = false → (∀ i, i < j → tr i = true) → Inv X [(a, o)] σ0 H s' → W (j + 1) H → R (.ok (.ret (.bool false))) s') :
    ∀ (k i : Nat) (s : Shared), i + k = n → (∀ j, j < i → tr j = true) → GxSt X A.in1.in1 fp tn σ0 W a n (fun i => .bl (tr i)) a g k s → s.heap.get? a = some go →
      codeAny (model X.prog X.w) A (.builtin "all.loop" ⟨[.ref a], []⟩) R s := by
  intro k
  induction k with
  | zero =>
    intro i s hk hall Z hS
    have hin : i = n := by omega
    subst hin
    obtain ⟨hg, hl, hb, gs, hgs, hgoes⟩ := Z
    refine codeAny_builtin F.entry_all_loop ?_
    rw [Around.under_plainId F.plain_all_loop _]
    show wpAny _ A.in1 (pyNext (.ref a) >>= _) _ _ s
    refine wpAny_bind (wpAny_pyNext_genexpQ (A := A.in1) hh hl hd hg hgs (hgoes (s.setGen g .running) _ ⟨rfl, allBare_setGen hb rfl, fun b u _ e => e, hS, hnc⟩) (fun v s₁ gs' hbare hv => ?_) fun s₁ hp h' hk' => ?_)
    · obtain ⟨i', o, H, _, _, _, G, hkap⟩ := hv
      obtain ⟨p1, _, _, _, p5⟩ := G.inv.pin (a, o) (List.mem_append_right _ List.mem_cons_self)
      exact (hkap s₁ o ⟨rfl, G.inv.bare, fun b u _ e => e, p1, p5⟩).elim
    · obtain ⟨_, o, H, I, w⟩ := hp
      refine wpAny_bind (wpAny_rule (wpAny_pure (hR1 _ o H hall ?_ w)))
      exact I.call' (ch := []) rfl (Un.kept hk') (I.hok.kept hk') (allBare_setGen I.bare rfl) (fun b hb => absurd hb (by simp))
  | succ k ih =>
    intro i s hk hall Z hS
    have hlt : i < n := by omega
    obtain ⟨hg, hl, hb, gs, hgs, hgoes⟩ := Z
    have hgl : g < s.gens.size := (Array.getElem?_eq_some_iff.mp hgs).1
    refine codeAny_builtin F.entry_all_loop ?_
    rw [Around.under_plainId F.plain_all_loop _]
    show wpAny _ A.in1 (pyNext (.ref a) >>= _) _ _ s
    refine wpAny_bind (GenW.wpAny_gsz (n := g + 1) hgl (wpAny_pyNext_genexpQ (A := A.in1) hh hl hd hg hgs (hgoes (s.setGen g .running) _ ⟨rfl, allBare_setGen hb rfl, fun b u _ e => e, hS, hnc⟩) (fun v s₁ gs' hbare hv => ?_) fun s₁ hp h' hk' => ?_))
    · intro hsz
      obtain ⟨i', o, H, hi', hrel, hs0, G, hkap⟩ := hv
      have ei : i' = i := by omega
      subst ei
      obtain rfl : v = .bool (tr i') := hrel
      have eo : o = go := by
        have h1 : s.heap.get? a = some o := hs0
        rw [hS] at h1
        exact (Option.some.inj h1).symm
      subst eo
      obtain ⟨p1, _, _, _, p5⟩ := G.inv.pin (a, o) (List.mem_append_right _ List.mem_cons_self)
      refine wpAny_bind (wpAny_holding (wpAny_truthy_bool (wpAny_bind (wpAny_letGo ?_))))
      cases hb : tr i' with
      | true =>
        simp only [if_true]
        have hsz1 : g < s₁.gens.size := by
          have q : (s₁.setGen g gs').gens.size = s₁.gens.size := GenW.setGen_size _ _ _
          have hsz' : g + 1 ≤ (s₁.setGen g gs').gens.size := hsz
          omega
        refine wpAny_pure ⟨plainId_quiet F.plain_all_loop _, ih (i' + 1) _ (by omega) (fun j hj => ?_) ⟨hgo _ p1, G.inv.nolimit, allBare_setGen (s := s₁) G.inv.bare hbare, gs', setGen_at (s := s₁) hsz1, fun s'' o'' z => ?_⟩ p1⟩
        · by_cases e : j = i'
          · rw [e]
            exact hb
          · exact hall j (by omega)
        · exact hkap s'' o'' ⟨z.os, z.bare, z.keep, z.own, z.nc⟩
      | false =>
        simp only [Bool.false_eq_true, if_false]
        refine wpAny_bind (wpAny_rule (wpAny_pure (hR0 _ o H i' hlt hb hall ?_ G.w)))
        exact G.inv.call' (ch := []) rfl (Un.kept fun b u e => e) G.inv.hok (allBare_setGen G.inv.bare hbare) (fun b hb => absurd hb (by simp))
    · exact absurd hp.1 (Nat.succ_ne_zero k)
/-- all(..) -/
def tAllC (P : Addr) (wi : TI) (g : L2.TG) (te : TE) (vs : List Nat) : TE := fun σ H Q => wi σ H fun J H1 => GxR.TabG H1 P ∧ ∀ H2, GxR.Tabbed P H1 H2 →
  ∃ (n : Nat) (tr : Nat → Bool) (W : Nat → Hp → Prop), W 0 H2 ∧ gxStep J g te vs (wipe σ vs) W n (fun i => .bl (tr i)) ∧ (∀ H3, W n H3 → (∀ j, j < n → tr j = true) → Q (.bl true) H3) ∧ ∀ j H3, j < n → tr j = false → (∀ i, i < j → tr i = true) → W (j + 1) H3 → Q (.bl false) H3
theorem pe_allC {c P : Addr} {elt tg iter : Expr} {p pos gpos : Pos} {scope : Scope} {own : List (Str × Nat)} {wi : TI} {g : L2.TG} {te : TE} {k : Nat}
    (hr : Room (k + 3) X.A) (hg : Gl X "all") (hm : X.mg "all" = none) (TB : LamX.TabB X.base X.mg c P) (hcode : X.env.code = .ref c) (S : GxS X scope own) (hN : X.N.Nodup) (hc : X.calm = true) (hi : PI X tg iter wi)
    (pg : ∀ (A : Around) (s : Shared) (H : Hp) (C : Addr) (cl : List (Str × Addr)) (code : Value) (fp : List Addr) (pn : List (Addr × Obj)), PG (gxC X A s H (genEnv scope cl C code builtinsNs X.env) fp pn) tg g)
    (pe : ∀ (A : Around) (s : Shared) (H : Hp) (C : Addr) (cl : List (Str × Addr)) (code : Value) (fp : List Addr) (pn : List (Addr × Obj)), Room k A → PE (gxC X A s H (genEnv scope cl C code builtinsNs X.env) fp pn) elt te)
    (hb : bootBuiltins "all" = some (.builtin "all") := by decide +kernel) (hs : ∀ v, genFold iter X.env v = pure v := by intro _; rfl)
    (he : starEach [.GeneratorExp elt [⟨tg, iter, [], 0⟩] scope gpos] X.env = (false, eval (.GeneratorExp elt [⟨tg, iter, [], 0⟩] scope gpos) X.env) :: starEach [] X.env := by rfl) :
    PE X (.Call (.Name "all" p) [.GeneratorExp elt [⟨tg, iter, [], 0⟩] scope gpos] [] pos) (tAllC P wi g te (own.map (·.2))) := by
  refine ⟨fun pins s σ H Q I h => ?_⟩
  refine wpAny_Call_Name_kw (ld_blt I hg hm hb (PyProof.Rows.callWith_builtin1 ?_ he (by rfl)))
  rw [he]
  refine Calls.spliced_cons (gx_make hr TB hcode S hN hi hs I h fun J H1 H2 a s5 hR hTb hG => ?_)
  refine Calls.spliced_nil ?_
  obtain ⟨n, tr, W, w0, step, hend1, hend0⟩ := hR H2 hTb
  obtain ⟨s4, code, cenv, fp, it, tn, go, ec, I4, f4, T, st5, egs, hgen, hga, hlt, hInv⟩ := hG
  have I5 := repin (hInv X.A.in1.in1 hr.hd I4.ok.frames)
  have hroom : Room k (X.A.in1.in1.deeper cenv) := hr.in1.in1.deeper cenv
  have pg' := pg (X.A.in1.in1.deeper cenv) s4 H2 s4.heap.objs.size (cloFrom X.env.cells scope.names []) code fp []
  have pe' := pe (X.A.in1.in1.deeper cenv) s4 H2 s4.heap.objs.size (cloFrom X.env.cells scope.names []) code fp [] hroom
  rw [← ec] at pg' pe'
  have hgen5 : s5.heap.IsGen a s4.gens.size := hgen _ hga
  obtain ⟨_, ga, gb, gc, hnc⟩ := I5.pin (a, go) (by simp)
  have haf : a ∉ fp := fun hb => Nat.lt_irrefl _ (Nat.lt_trans (f4 a hb).2 hlt)
  have hcl : ∀ x c, cenv.cells.lookup x = some c → c ≠ a := fun x c e z => by
    obtain ⟨v, o, e1, e2⟩ := I5.cell x c e
    rw [z, hga] at e1
    cases e1
    exact hnc _ e2
  refine call_function_tree F.kind_all F.plain_all F.entry_all (F.args_all1 _) ?_
  unfold Builtin.«all»
  refine wpAny_bind (m := oneArg "all" _) (wpAny_pure ?_)
  refine wpAny_bind (wpAny_pyIter_gen hgen5 ?_)
  refine wpAny_pure ⟨plainId_quiet F.plain_all_loop _, all_loopC (X := gxC X (X.A.in1.in1.deeper cenv) s4 H2 cenv fp []) (A := X.A) (fp := fp) (tn := tn) (σ0 := wipe σ (own.map (·.2))) (W := W) (n := n) (tr := tr) (a := a) (g := s4.gens.size) (go := go)
    hr.hd (by have := hr.dp; omega) hgen hnc (fun s' o H3 hdone I' w' => ?_) (fun s' o H3 j hj hsj hal I' w' => ?_) n 0 _ (Nat.zero_add n) (fun j hj => absurd hj (Nat.not_lt_zero j)) ⟨hgen5, I5.nolimit, I5.bare, .fresh (.compStart (.GeneratorExp elt [⟨tg, iter, [], 0⟩] scope gpos) 0 (.ref it) .none cenv), ?_, fun s'' o' z => ⟨rfl, ?_⟩⟩ hga⟩
  · refine ⟨.bl true, H3, ?_, rfl, hend1 H3 w' hdone⟩
    exact I4.call' (ch := fp) I'.os I'.base I'.hok I'.bare fun b hb => ⟨(f4 b hb).1.2.2.2.1, (f4 b hb).1.2.1, (f4 b hb).1.2.2.2.2.1, (f4 b hb).1.2.2.2.2.2⟩
  · refine ⟨.bl false, H3, ?_, rfl, hend0 j H3 hj hsj hal w'⟩
    exact I4.call' (ch := fp) I'.os I'.base I'.hok I'.bare fun b hb => ⟨(f4 b hb).1.2.2.2.1, (f4 b hb).1.2.1, (f4 b hb).1.2.2.2.2.1, (f4 b hb).1.2.2.2.2.2⟩
  · show s5.gens[s4.gens.size]? = _
    rw [egs]
    exact Array.getElem?_push_size ..
  · have Iz : Inv (gxC X (X.A.in1.in1.deeper cenv) s4 H2 cenv fp []) [(a, o')] (wipe σ (own.map (·.2))) H2 s'' := woke I5 (Nat.le_of_lt hlt) hcl (fun p hp => absurd hp (by simp)) z.os z.bare z.keep z.own z.nc
    have stz : tn 0 s''.heap := T.keep _ _ _ st5 fun b hb u e => z.keep b u (fun q => haf (q ▸ hb)) e
    exact gx_begin (X := gxC X (X.A.in1.in1.deeper cenv) s4 H2 cenv fp []) T stz (gx_loop (X := gxC X (X.A.in1.in1.deeper cenv) s4 H2 cenv fp []) rfl T hc rfl haf (fun p hp => absurd hp List.not_mem_nil) (fun _ _ q => q) (by rw [ec]; exact S.co) (Nat.le_of_lt hlt) hcl (fun p hp => absurd hp List.not_mem_nil) pg' pe' step n 0 s'' s'' o' H2 (Nat.zero_add n) z.own ⟨Iz, stz, fun b hb => (f4 b hb).1.1, w0⟩)
end
end My

set_option Elab.async false
set_option linter.all false
set_option maxRecDepth 100000
set_option maxHeartbeats 2000000
namespace My
open PySem PySem.Spec PyProof.Rows L2
theorem gx_step {J : It} {n : Nat} {G : Hp → Prop} {Y : Nat → Hp → V → Hp → Prop} (w : Walk J n G Y) {g : L2.TG} {te : TE} {vs : List Nat} {σ0 : L2.St} {F : Nat → V} {Pv : Nat → Hp → Prop}
    (hG : ∀ i H, i ≤ n → Pv i H → G H) (hs : ∀ i x H H', i < n → Pv i H → Y i H x H' → g x σ0 H' fun σ2 H2 => wipe σ2 vs = σ0 ∧ te σ2 H2 fun y H3 => y = F i ∧ i + 1 ≤ n ∧ Pv (i + 1) H3) :
    gxStep J g te vs σ0 (fun i H => i ≤ n ∧ Pv i H) n F := fun i H hW => ⟨fun hi => ⟨w.goes i H hi (hG i H hW.1 hW.2), fun x H' y => hs i x H H' hi hW.2 (w.yields i H x H' hi (hG i H hW.1 hW.2) y)⟩, fun e => by
    subst e
    exact w.stops H (hG i H hW.1 hW.2)⟩
/-! ### data that lies away from some places -/
def hidS (L : List Addr) (H : Hp) : Hp := fun b => if b ∈ L then none else H b
theorem hid_some {L : List Addr} {H : Hp} {b : Addr} {o : HO} : hidS L H b = some o ↔ b ∉ L ∧ H b = some o := by
  unfold hidS
  split
  · rename_i h
    exact ⟨(fun z => nomatch z), (fun z => absurd h z.1)⟩
  · rename_i h
    exact ⟨fun z => ⟨h, z⟩, fun z => z.2⟩
abbrev Fl (L : List Addr) (H : Hp) (v : V) (d : PyData) : Prop := Ft (hidS L H) v d
abbrev FlA (L : List Addr) (H : Hp) (vs : List V) (ds : List PyData) : Prop := FtA (hidS L H) vs ds
theorem hid_same {L : List Addr} {H : Hp} : Same (hidS L H) H := fun _ _ e => (hid_some.mp e).2
theorem hid_keep {L : List Addr} {H H' : Hp} (k : ∀ b o, b ∉ L → H b = some o → H' b = some o) : Same (hidS L H) (hidS L H') := fun b o e => hid_some.mpr ⟨(hid_some.mp e).1, k b o (hid_some.mp e).1 (hid_some.mp e).2⟩
theorem hid_sub {L L' : List Addr} {H : Hp} (h : ∀ b ∈ L', b ∈ L) : Same (hidS L H) (hidS L' H) := fun b o e => hid_some.mpr ⟨fun z => (hid_some.mp e).1 (h b z), (hid_some.mp e).2⟩
theorem Fl.to {L : List Addr} {H : Hp} {v : V} {d : PyData} (h : Fl L H v d) : Ft H v d := Ft.mono hid_same _ _ h
theorem FlA.to {L : List Addr} {H : Hp} {vs : List V} {ds : List PyData} (h : FlA L H vs ds) : FtA H vs ds := FtA.mono hid_same _ _ h
theorem Fl.keep {L : List Addr} {H H' : Hp} {v : V} {d : PyData} (h : Fl L H v d) (k : ∀ b o, b ∉ L → H b = some o → H' b = some o) : Fl L H' v d := Ft.mono (hid_keep k) _ _ h
theorem FlA.keep {L : List Addr} {H H' : Hp} {vs : List V} {ds : List PyData} (h : FlA L H vs ds) (k : ∀ b o, b ∉ L → H b = some o → H' b = some o) : FlA L H' vs ds := FtA.mono (hid_keep k) _ _ h
theorem Fl.sub {L L' : List Addr} {H : Hp} {v : V} {d : PyData} (h : Fl L H v d) (hs : ∀ b ∈ L', b ∈ L) : Fl L' H v d := Ft.mono (hid_sub hs) _ _ h
theorem FlA.sub {L L' : List Addr} {H : Hp} {vs : List V} {ds : List PyData} (h : FlA L H vs ds) (hs : ∀ b ∈ L', b ∈ L) : FlA L' H vs ds := FtA.mono (hid_sub hs) _ _ h
theorem Fl.same {L : List Addr} {H H' : Hp} {v : V} {d : PyData} (h : Fl L H v d) (k : Same H H') : Fl L H' v d := h.keep fun b o _ e => k b o e
theorem FlA.same {L : List Addr} {H H' : Hp} {vs : List V} {ds : List PyData} (h : FlA L H vs ds) (k : Same H H') : FlA L H' vs ds := h.keep fun b o _ e => k b o e
theorem Fl.sx {Ps L : List Addr} {H H' : Hp} {v : V} {d : PyData} (h : Fl L H v d) (k : Sx Ps H H') (hs : ∀ b ∈ Ps, b ∈ L) : Fl L H' v d := h.keep fun b o nb e => k b o (fun z => nb (hs b z)) e
theorem FlA.sx {Ps L : List Addr} {H H' : Hp} {vs : List V} {ds : List PyData} (h : FlA L H vs ds) (k : Sx Ps H H') (hs : ∀ b ∈ Ps, b ∈ L) : FlA L H' vs ds := h.keep fun b o nb e => k b o (fun z => nb (hs b z)) e
theorem Fl.kp {r : Addr} {L : List Addr} {H H' : Hp} {v : V} {d : PyData} (h : Fl L H v d) (k : Kp r H H') (hs : r ∈ L) : Fl L H' v d := h.keep fun b o nb e => k b o (fun z => nb (z ▸ hs)) e
theorem FlA.kp {r : Addr} {L : List Addr} {H H' : Hp} {vs : List V} {ds : List PyData} (h : FlA L H vs ds) (k : Kp r H H') (hs : r ∈ L) : FlA L H' vs ds := h.keep fun b o nb e => k b o (fun z => nb (z ▸ hs)) e
theorem Fl.tup {L : List Addr} {H : Hp} {p : Addr} {xs : List V} {ds : List PyData} (n : p ∉ L) (h : H p = some (.tup xs)) (a : FlA L H xs ds) : Fl L H (.ref p) (.tuple ds) := Ft.tup (hid_some.mpr ⟨n, h⟩) a
theorem Fl.lst {L : List Addr} {H : Hp} {p : Addr} {xs : List V} {ds : List PyData} (n : p ∉ L) (h : H p = some (.lst xs)) (a : FlA L H xs ds) : Fl L H (.ref p) (.list ds) := Ft.lst (hid_some.mpr ⟨n, h⟩) a
theorem Fl.isStr {L : List Addr} {H : Hp} {v : V} {z : Str} (h : Fl L H v (.str z)) : v = .str z := by
  cases h
  rfl
theorem Fl.isInt {L : List Addr} {H : Hp} {v : V} {i : Int} (h : Fl L H v (.int i)) : v = .int i := by
  cases h
  rfl
theorem FlA.one {L : List Addr} {H : Hp} {vs : List V} {a : PyData} (h : FlA L H vs [a]) : ∃ x, vs = [x] ∧ Fl L H x a := by
  cases h with
  | cons f g =>
    cases g
    exact ⟨_, rfl, f⟩
theorem FlA.two {L : List Addr} {H : Hp} {vs : List V} {a b : PyData} (h : FlA L H vs [a, b]) : ∃ x y, vs = [x, y] ∧ Fl L H x a ∧ Fl L H y b := by
  cases h with
  | cons f g =>
    obtain ⟨y, rfl, fy⟩ := FlA.one g
    exact ⟨_, y, rfl, f, fy⟩
theorem FlA.three {L : List Addr} {H : Hp} {vs : List V} {a b c : PyData} (h : FlA L H vs [a, b, c]) : ∃ x y z, vs = [x, y, z] ∧ Fl L H x a ∧ Fl L H y b ∧ Fl L H z c := by
  cases h with
  | cons f g =>
    obtain ⟨y, z, rfl, fy, fz⟩ := FlA.two g
    exact ⟨_, y, z, rfl, f, fy, fz⟩
theorem FlA.at {L : List Addr} {H : Hp} {vs : List V} {ds : List PyData} (h : FlA L H vs ds) {i : Int} (h0 : 0 ≤ i) (h1 : i < ds.length) : ∃ v d, atI vs i = some v ∧ ds[i.toNat]? = some d ∧ Fl L H v d := by
  have hl := FtA.len h
  have hi : i.toNat < vs.length := by omega
  obtain ⟨d, e, f⟩ := FtA.getV h (List.getElem?_eq_getElem hi)
  refine ⟨_, d, ?_, e, f⟩
  have e2 := atI_nat (List.getElem?_eq_getElem hi)
  rw [show ((i.toNat : Nat) : Int) = i by omega] at e2
  exact e2
theorem FlA.app {L : List Addr} {H : Hp} : ∀ {vs us : List V} {ds es : List PyData}, FlA L H vs ds → FlA L H us es → FlA L H (vs ++ us) (ds ++ es)
  | _, _, _, _, .nil, h => h
  | _, _, _, _, .cons a r, h => .cons a (FlA.app r h)
theorem FlA.take {L : List Addr} {H : Hp} : ∀ (n : Nat) {vs : List V} {ds : List PyData}, FlA L H vs ds → FlA L H (vs.take n) (ds.take n)
  | 0, _, _, _ => .nil
  | _ + 1, _, _, .nil => .nil
  | n + 1, _, _, .cons a r => .cons a (FlA.take n r)
theorem FlA.drop {L : List Addr} {H : Hp} : ∀ (n : Nat) {vs : List V} {ds : List PyData}, FlA L H vs ds → FlA L H (vs.drop n) (ds.drop n)
  | 0, _, _, h => h
  | _ + 1, _, _, .nil => .nil
  | n + 1, _, _, .cons _ r => FlA.drop n r
theorem FlA.rev {L : List Addr} {H : Hp} : ∀ {vs : List V} {ds : List PyData}, FlA L H vs ds → FlA L H vs.reverse ds.reverse
  | _, _, .nil => .nil
  | _, _, .cons a r => by
    rw [List.reverse_cons, List.reverse_cons]
    exact (FlA.rev r).app (.cons a .nil)
/-! ### what isinstance tells of data, more -/
/-! ### questions, of any data -/
def risB : List Nat → Bool
  | a :: b :: l => decide (a < b) && risB (b :: l)
  | _ => true
theorem ris_get : ∀ (l : List Nat), risB l = true ↔ ∀ i, i + 1 < l.length → l.getD i 0 < l.getD (i + 1) 0
  | [] => by simp [risB]
  | [a] => by simp [risB]
  | a :: b :: l => by
    have ih := ris_get (b :: l)
    unfold risB
    rw [Bool.and_eq_true, decide_eq_true_eq, ih]
    constructor
    · rintro ⟨h1, h2⟩ i hi
      cases i with
      | zero => exact h1
      | succ i => exact h2 i (by simpa using hi)
    · intro h
      exact ⟨h 0 (by simp), fun i hi => h (i + 1) (by simpa using hi)⟩
end My
namespace My
open PySem PySem.Spec PyProof.Rows L2
theorem shA_mem {n m : Nat} : ∀ {ds : List PyData}, PyData.showableAll ds = true → PyData.hasDictAll ds = false → PyData.leavesShortAll 100 ds = true → PyData.depthAll ds ≤ n → PyData.weightAll ds ≤ m → PyData.canLayAll0 ds = true → ∀ d ∈ ds, Sh n m d
  | [], _, _, _, _, _, _, d, h => nomatch h
  | x :: xs, h1, h2, h3, h4, h5, h6, d, h => by
    simp only [PyData.canLayAll0, Bool.and_eq_true] at h6
    simp only [PyData.showableAll, Bool.and_eq_true] at h1
    simp only [PyData.hasDictAll, Bool.or_eq_false_iff] at h2
    simp only [PyData.leavesShortAll, Bool.and_eq_true] at h3
    simp only [PyData.depthAll] at h4
    simp only [PyData.weightAll] at h5
    rcases List.mem_cons.mp h with e | e
    · rw [e]
      exact ⟨h1.1, h2.1, h3.1, by omega, by omega, h6.1⟩
    · exact shA_mem h1.2 h2.2 h3.2 (by omega) (by omega) h6.2 d e
theorem Sh.memT {n m : Nat} {ds : List PyData} (h : Sh n m (.tuple ds)) : ∀ d ∈ ds, Sh n m d := by
  have h4 : PyData.depthAll ds + 1 ≤ n := h.dp
  exact shA_mem h.ok h.nd h.sh (by omega) h.wt h.ly
theorem Sh.len {n m : Nat} {z : Str} (h : Sh n m (.str z)) (hm : m ≤ 100000) : z.length ≤ sizeLine := by
  have h1 : z.cps.size ≤ m := h.wt
  have h2 : z.length = z.cps.size := rfl
  rw [sizeLine_eq, h2]
  omega
theorem tp_open {d : PyData} (h : isTp d = true) : ∃ ds, d = .tuple ds := by
  cases d with
  | tuple ds => exact ⟨ds, rfl⟩
  | _ => cases h
theorem st_open {d : PyData} (h : isSt d = true) : ∃ z, d = .str z := by
  cases d with
  | str z => exact ⟨z, rfl⟩
  | _ => cases h
theorem cps_lt (a b : Nat) : decide ((sS a).cps.toList < (sS b).cps.toList) = decide (a < b) := by
  refine decide_eq_decide.mpr ?_
  show [a] < [b] ↔ a < b
  constructor
  · intro h
    cases h with
    | rel h => exact h
    | cons h => cases h
  · exact fun h => List.Lex.rel h
/-- a frozen thing among data away from places that hold no tuple -/
theorem Fz.fl {L : List Addr} {H : Hp} (hL : ∀ b ∈ L, ∀ xs, H b ≠ some (.tup xs)) : ∀ {d : PyData} {v : V}, Fz H v d → Fl L H v d := by
  have key : ∀ n, ∀ (d : PyData) (v : V), d.depth < n → Fz H v d → Fl L H v d := by
    intro n
    induction n with
    | zero => exact fun d v h => absurd h (Nat.not_lt_zero _)
    | succ n ih =>
      intro d v hd f
      have all : ∀ (ds : List PyData) (vs : List V), PyData.depthAll ds < n → FzA H vs ds → FlA L H vs ds := by
        intro ds
        induction ds with
        | nil =>
          intro vs _ g
          cases g
          exact .nil
        | cons d ds ih2 =>
          intro vs hn g
          simp only [PyData.depthAll] at hn
          cases g with
          | cons a r => exact .cons (ih d _ (by omega) a) (ih2 _ (by omega) r)
      cases f with
      | non => exact .non
      | bl b => exact .bl b
      | int i => exact .int i
      | str x => exact .str x
      | tup h a =>
        have h4 : PyData.depthAll _ + 1 < n + 1 := hd
        exact Fl.tup (fun z => hL _ z _ h) h (all _ _ (by omega) a)
  exact fun {d v} f => key (d.depth + 1) d v (Nat.lt_succ_self _) f
end My

set_option Elab.async false
set_option linter.all false
set_option maxRecDepth 100000
set_option maxHeartbeats 4000000
namespace My
open PySem PySem.Spec PyProof.Rows L2
/-! ### sets of texts that can be walked

A table is told by the list of the texts in it, each with its token; a set is a table whose texts are all different. -/
/-- a text in a table -/
def entS (w : World) (p : Str × Tok) : Int × Value := (hashStr w p.1, .str p.1 p.2)
/-- the table holds these texts, and the model tells its order -/
structure TxTab (w : World) (es : Array (Int × Value)) (t : SetTable) (ps : List (Str × Tok)) : Prop where
  all : es.toList.Perm (ps.map (entS w))
  few : ps.length < scanBound
  told : t.fits es.size = true ∧ Ris t.place.toList ∧ (w.params.followText "set-order" = true ∨ t.led = true)
/-- an object that is a set without members -/
abbrev blankS (w : World) : Obj := { cls := .type "set", dict := none, data := .set #[] 0 (.fresh 0 0 (!w.params.followText "set-order")) }
/-- the set of texts at a: ks its members -/
def SetS (w : World) (h : Heap) (a : Addr) (ks : List Str) : Prop :=
  ks.Nodup ∧ ∃ (o : Obj) (es : Array (Int × Value)) (ep : Nat) (t : SetTable) (ps : List (Str × Tok)), h.get? a = some o ∧ o.ExactSet ∧ o.data = .set es ep t ∧ TxTab w es t ps ∧ ks = ps.map Prod.fst
section
variable {w : World} {es : Array (Int × Value)} {t : SetTable} {ps : List (Str × Tok)} {h h' : Heap} {a : Addr} {ks : List Str} {k : Str} {tk : Tok}
theorem TxTab.none (w : World) : TxTab w #[] (.fresh 0 0 (!w.params.followText "set-order")) [] where
  all := .nil
  few := by decide
  told := ⟨rfl, .nil, by cases e : w.params.followText "set-order" <;> simp [SetTable.fresh]⟩
theorem TxTab.size (T : TxTab w es t ps) : es.size = ps.length := by
  have := T.all.length_eq
  simpa using this
theorem TxTab.small (T : TxTab w es t ps) : es.size < scanBound := T.size ▸ T.few
theorem TxTab.kind (T : TxTab w es t ps) (P : Program) : ElemsOf (PySem.strKind P w) es.toList := by
  intro e he
  obtain ⟨p, _, rfl⟩ := List.mem_map.mp (T.all.mem_iff.mp he)
  exact ⟨⟨p.1, strKind_is P w p.1 p.2, rfl⟩, rfl⟩
theorem is_entS {P : Program} {p : Str × Tok} : (PySem.strKind P w).is k (entS w p).2 = true ↔ p.1 = k := by
  refine ⟨fun q => ?_, fun q => q ▸ strKind_is P w p.1 p.2⟩
  have ⟨_, z⟩ := Value.isStrOf_shape (x := k) (v := .str p.1 p.2) q
  exact (Value.str.inj z).1
/-- the search in the table -/
theorem TxTab.search (T : TxTab w es t ps) (P : Program) (k : Str) : (es.toList.findIdx? fun e => (PySem.strKind P w).is k e.2).isSome = decide (k ∈ ps.map Prod.fst) := by
  rw [List.findIdx?_isSome, Bool.eq_iff_iff, List.any_eq_true, decide_eq_true_iff, List.mem_map]
  constructor
  · rintro ⟨e, he, q⟩
    obtain ⟨p, hp, rfl⟩ := List.mem_map.mp (T.all.mem_iff.mp he)
    exact ⟨p, hp, is_entS.mp q⟩
  · rintro ⟨p, hp, q⟩
    exact ⟨entS w p, T.all.mem_iff.mpr (List.mem_map_of_mem hp), is_entS.mpr q⟩
/-- one text more -/
theorem TxTab.lay (T : TxTab w es t ps) (k : Str) (tk : Tok) (room : ps.length + 1 < scanBound) : TxTab w (layNew t es (hashStr w k) (.str k tk)).1 (layNew t es (hashStr w k) (.str k tk)).2.1 ((k, tk) :: ps) where
  all := by
    refine (layNew_perm t es _ _).trans ?_
    rw [Array.toList_push]
    exact List.perm_append_comm.trans (T.all.cons _)
  few := room
  told := ⟨layNew_fits .., layNew_ris _ _ _ _ T.told.2.1, by rw [layNew_led]; exact T.told.2.2⟩
theorem TxTab.relay (T : TxTab w es t ps) (n : Nat) : TxTab w (relayAll t es n).1 (relayAll t es n).2.1 ps where
  all := (relayAll_perm t es n).trans T.all
  few := T.few
  told := ⟨relayAll_fits .., relayAll_ris .., by rw [relayAll_led]; exact T.told.2.2⟩
theorem TxTab.off (T : TxTab w es t ps) : TxTab w es { t with plain := false } ps := ⟨T.all, T.few, SetTable.fits_plain_off T.told.1, T.told.2⟩
theorem SetS.at (R : SetS w h a ks) (k : ∀ o, h.get? a = some o → h'.get? a = some o) : SetS w h' a ks :=
  let ⟨nd, o, es, ep, t, ps, ho, r⟩ := R
  ⟨nd, o, es, ep, t, ps, k o ho, r⟩
theorem SetS.obj (R : SetS w h a ks) : ∃ o, h.get? a = some o ∧ o.ExactSet :=
  let ⟨_, o, _, _, _, _, ho, hex, _⟩ := R
  ⟨o, ho, hex⟩
theorem SetS.blank (ho : h.get? a = some (blankS w)) : SetS w h a [] :=
  ⟨.nil, _, _, _, _, [], ho, ⟨rfl, rfl, rfl⟩, rfl, TxTab.none w, rfl⟩
/-- a table stored -/
theorem TxTab.stored {o : Obj} {e0 : Array (Int × Value)} {ep : Nat} {t0 : SetTable} (T : TxTab w es t ps) (ho : h.get? a = some o) (hex : o.ExactSet) (hd : o.data = .set e0 ep t0) (nd : (ps.map Prod.fst).Nodup) : SetS w (h.update a (Obj.putSet es t)) a (ps.map Prod.fst) :=
  ⟨nd, _, es, ep + 1, t, ps, store_at ho hd, hex, rfl, T, rfl⟩
end
section
variable {P : Program} {w : World} {A : Around} {E : Value → Shared → Prop} {s : Shared} {a : Addr} {ks : List Str}
/-- what only tells the log of rules -/
theorem wp_told {b : Bool} {m : Bool → Sem Unit} {Q : Unit → Shared → Prop} (h1 : ∃ r, m true = rule r) (h2 : m false = pure ()) (q : Q () s) : wpAny (model P w) A (m b) Q E s := by
  obtain ⟨r, h1⟩ := h1
  cases b
  · rw [h2]; exact wpAny_pure q
  · rw [h1]; exact wpAny_rule q
theorem setS_add {k : Str} {tk : Tok} {Q : Bool → Shared → Prop} (R : SetS w s.heap a ks) (room : ks.length + 1 < scanBound)
    (hQ : ∀ h' b, Heap.SameBut a s.heap h' → SetS w h' a (if k ∈ ks then ks else k :: ks) → Q b { s with heap := h' }) :
    wpAny (model P w) A (setAddHashed a (.str k tk) ((PySem.strKind P w).hash k)) Q E s := by
  have R0 := R
  obtain ⟨nd, o, es, ep, t, ps, ho, hex, hd, T, rfl⟩ := R
  have look := T.search P k
  unfold setAddHashed setAddHashedIn setAddByScan
  refine wpAny_holding (wpAny_bind (wpAny_setState_of ho hd T.told.1 ?_))
  simp only [byScan_of (x := Value.str k tk) rfl T.small (T.kind P), if_true, bind_assoc]
  refine wpAny_bind (wpAny_rule (wpAny_bind (wpAny_setScan_of (strKind_is P w k tk) ho hd T.told.1 (T.kind P) ?_)))
  by_cases hin : k ∈ ps.map Prod.fst
  · rw [decide_eq_true hin, Option.isSome_iff_exists] at look
    obtain ⟨j, e⟩ := look
    rw [if_pos hin] at hQ
    rw [e]
    exact wpAny_bind (wpAny_pure (wpAny_pure (hQ _ false (Heap.SameBut.refl a s.heap) R0)))
  · rw [decide_eq_false hin, Option.isSome_eq_false_iff, Option.isNone_iff_eq_none] at look
    rw [if_neg hin] at hQ
    rw [look]
    have T1 := T.lay k tk (by simpa using room)
    have nd1 : (((k, tk) :: ps).map Prod.fst).Nodup := List.nodup_cons.mpr ⟨hin, nd⟩
    rw [show hashStr w k = (PySem.strKind P w).hash k from rfl] at T1
    generalize layNew t es ((PySem.strKind P w).hash k) (.str k tk) = Y at T1 ⊢
    obtain ⟨es1, t1, wd, gave⟩ := Y
    refine wpAny_bind (wpAny_bind (wp_told (b := gave) ⟨_, rfl⟩ rfl ?_))
    simp only [show hashByValue 8 (.str k tk) = pure false from hashByValue_scannable 8 rfl, pure_bind, Bool.false_eq_true, if_false, if_true]
    split
    have T2 := T1.off
    generalize ({ t1 with plain := false } : SetTable) = t2 at T2 ⊢
    rotate_left
    have T2 := T1
    generalize t1 = t2 at T2 ⊢
    all_goals
      refine wpAny_bind (wpAny_storeSet_of ho hd ?_ (fits_of_scanBound T2.small))
      have sb := Heap.SameBut.update s.heap a (Obj.putSet es1 t2)
      split
      · have T3 := T2.relay (SetTable.grown es1.size)
        generalize relayAll t2 es1 (SetTable.grown es1.size) = Y3 at T3 ⊢
        have h1 := store_at (es' := es1) (t' := t2) ho hd
        refine wpAny_bind (wp_told (b := Y3.2.2) ⟨_, rfl⟩ rfl ?_)
        refine wpAny_bind (wpAny_storeSet_of h1 rfl ?_ (fits_of_scanBound T3.small))
        exact wpAny_pure (wpAny_pure (hQ _ true (sb.trans (.update _ a _)) (T3.stored h1 hex rfl nd1)))
      · exact wpAny_pure (wpAny_pure (hQ _ true sb (T2.stored ho hex hd nd1)))
end
section
variable {prog : Program} {w : World} {A : Around} {I S : Addr} {fp wr : List Addr} {G : Array GenState → Array GenState → Prop} {n : Nat} {Pv : Nat → Value → Prop} {St : Nat → Shared → Prop} {zs : List Str}
/-- the set at S has met the first i of the texts zs -/
def MetAt (w : World) (zs : List Str) (S : Addr) (i : Nat) (h : Heap) : Prop := ∃ ks : List Str, ks.length ≤ i ∧ (∀ x, x ∈ ks ↔ x ∈ zs.take i) ∧ SetS w h S ks
theorem MetAt.start {h : Heap} (R : SetS w h S []) : MetAt w zs S 0 h := ⟨[], Nat.le_refl 0, fun x => by rw [List.take_zero], R⟩
theorem MetAt.at {h h' : Heap} {i : Nat} (M : MetAt w zs S i h) (k : ∀ o, h.get? S = some o → h'.get? S = some o) : MetAt w zs S i h' :=
  let ⟨ks, a, b, R⟩ := M
  ⟨ks, a, b, R.at k⟩
theorem met_more {ks : List Str} {i : Nat} {x : Str} (hx : zs[i]? = some x) (l : ks.length ≤ i) (m : ∀ y, y ∈ ks ↔ y ∈ zs.take i) {h : Heap} (R : SetS w h S (if x ∈ ks then ks else x :: ks)) : MetAt w zs S (i + 1) h := by
  refine ⟨_, ?_, fun y => ?_, R⟩
  · split
    · omega
    · exact Nat.succ_le_succ l
  · rw [List.take_add_one, hx, Option.toList_some, List.mem_append, List.mem_singleton, ← m]
    split
    · rename_i hin
      exact ⟨.inl, fun z => z.elim id fun e => e ▸ hin⟩
    · rw [List.mem_cons, or_comm]
/-- a set takes what an iterator of texts gives -/
theorem met_loop (W : WalksS prog w A.in1 I fp wr G n Pv St) (away : S ∉ fp) (texts : ∀ i v, i < n → Pv i v → ∃ x t, zs[i]? = some x ∧ v = .str x t) (few : n + 1 < scanBound) {R : Result → Shared → Prop} (i : Nat) (s : Shared) (le : i ≤ n) (st : St i s)
    (M : MetAt w zs S i s.heap) (goal : ∀ s', Moved (S :: wr) G s s' → MetAt w zs S n s'.heap → R (.ok (.ret .none)) s') : codeAny (model prog w) A (.builtin "set.update.loop" ⟨[.ref S, .ref I], []⟩) R s := by
  have apart : ∀ {s s' : Shared}, Moved wr G s s' → ∀ o, s.heap.get? S = some o → s'.heap.get? S = some o := fun mv o e => mv.heap S o (away ∘ W.sub S) e
  refine codeAny_builtin F.entry_set_update_loop (Eq.mpr (by rw [Around.under_plainId F.plain_set_update_loop _]) ?_)
  unfold Builtin.«set.update.loop»
  refine wpAny_bind ?_
  by_cases lt : i < n
  · refine W.item i s _ _ lt st fun v s1 hP st1 mv => ?_
    obtain ⟨x, t, hx, rfl⟩ := texts i v lt hP
    obtain ⟨ks, l, m, R1⟩ := M.at (apart mv)
    refine wpAny_bind (wpAny_holding (wpAny_holding (wpAny_bind ((PySem.strKind prog w).pyHash (strKind_is prog w x t) ?_))))
    refine setS_add (s := { s1 with toks := s1.toks + 1 }) R1 (by omega) fun h2 _ same R2 => wpAny_pure ⟨plainId_quiet F.plain_set_update_loop _, ?_⟩
    have other : ∀ b o, b ≠ S → s1.heap.get? b = some o → h2.get? b = some o := fun b o ne e => (same.2 b ne).trans e
    refine met_loop W away texts few (i + 1) _ lt (W.frame _ s1 h2 _ st1 (Nat.le_succ _) fun b hb o e => other b o (fun z => away (z ▸ hb)) e) (met_more hx l m R2) fun s3 mv3 M3 => goal s3 (.trans W.gtrans (.then_heap (mv.mono fun b => List.mem_cons_of_mem S) (Nat.le_succ _) ?_) mv3) M3
    exact fun b o hb e => other b o (fun z => hb (z ▸ List.mem_cons_self)) e
  · obtain rfl : i = n := by omega
    exact W.done s _ _ st fun s1 mv => wpAny_pure (goal s1 (mv.mono fun b => List.mem_cons_of_mem S) (M.at (apart mv)))
termination_by n - i
end
section
variable {prog : Program} {w : World} {A : Around} {E : Value → Shared → Prop} {s : Shared}
/-- an iterable of texts: its type is none that a set would take otherwise, and its iterator gives the texts zs -/
structure Giv (prog : Program) (w : World) (x : Value) (zs : List Str) (s : Shared) : Prop where
  ty : ∃ T, s.TypeIs x T ∧ isSubtype (.type T) (.type "set") = pure false ∧ isSubtype (.type T) (.type "frozenset") = pure false ∧ (Value.type T == Value.type "dict") = false
  it : ∀ {A : Around} {E : Value → Shared → Prop} {Q : Value → Shared → Prop}, (∀ (o : Obj) (fp : List Addr) (Pv : Nat → Value → Prop) (St : Nat → Heap → Prop), (∀ A : Around, A.handled = none → Walks prog w A s.heap.objs.size fp [s.heap.objs.size] zs.length Pv St) →
    (∀ b ∈ fp, b = s.heap.objs.size ∨ x = .ref b) → (∀ i v, i < zs.length → Pv i v → ∃ y t, zs[i]? = some y ∧ v = .str y t) → St 0 (s.heap.push o) → Q (.ref s.heap.objs.size) { s with heap := s.heap.push o }) → wpAny (model prog w) A (pyIter x) Q E s
/-- a blank set takes the texts of an iterable -/
theorem init_texts {S : Addr} {x : Value} {zs : List Str} {Q : Fin → Shared → Prop} (calm : A.handled = none) (hS : s.heap.get? S = some (blankS w)) (g : Giv prog w x zs s) (ne : x ≠ .ref S) (few : zs.length + 1 < scanBound)
    (goal : ∀ (h' : Heap) (tk : Nat), MetAt w zs S zs.length h' → (∀ b o, b ≠ S → s.heap.get? b = some o → h'.get? b = some o) → Q (.done (.ret .none)) { s with heap := h', toks := tk }) :
    wpAny (model prog w) A (Builtin.«set.__init__» ⟨[.ref S, x], []⟩) Q E s := by
  obtain ⟨T, hT, n1, n2, n3⟩ := g.ty
  have sS : S < s.heap.objs.size := Heap.lt_size hS
  have : s.TypeIs (.ref S) "set" := ⟨_, hS, rfl⟩
  unfold Builtin.«set.__init__» noKeywords Builtin.Frozenset.updateFrom
  generalize hPI : pyIter = PI
  wp_walk
  subst hPI
  refine g.it fun o fp Pv St W own texts st => wpAny_bind (wpAny_runValue ?_)
  refine met_loop (zs := zs) (W _ (by simp [calm])).toS (fun z => ?_) texts few 0 _ (Nat.zero_le _) st (.start (.blank (Heap.get?_push_of_some _ hS))) ?_
  · exact (own S z).elim (Nat.ne_of_lt sS) ne
  rintro ⟨h', g', d', tk, os'⟩ mv M
  obtain ⟨rfl, rfl, rfl⟩ : g' = s.gens ∧ d' = s.drawn ∧ os' = s.os := ⟨mv.gens, mv.drawn, mv.os⟩
  refine wpAny_pure (wpAny_pure (goal h' tk M fun b o nb e => mv.heap b o ?_ (Heap.get?_push_of_some _ e)))
  simp [nb, Nat.ne_of_lt (Heap.lt_size e)]
set_option maxHeartbeats 8000000 in
/-- set(an iterable of texts) -/
theorem set_made {x : Value} {zs : List Str} {Q : Value → Shared → Prop} (calm : A.handled = none) (g : Giv prog w x zs { s with heap := s.heap.push (blankS w) }) (ne : x ≠ .ref s.heap.objs.size) (few : zs.length + 1 < scanBound) (tc : checkTypeCall "set" ⟨[x], []⟩ = pure ())
    (goal : ∀ (h' : Heap) (tk : Nat), MetAt w zs s.heap.objs.size zs.length h' → (∀ b o, s.heap.get? b = some o → h'.get? b = some o) → Q (.ref s.heap.objs.size) { s with heap := h', toks := tk }) :
    wpAny (model prog w) A (call (.type "set") [x]) Q E s := by
  have ft := F.called_set
  have ⟨_, _, m⟩ := ft.mro
  have := ft.made
  have := ft.sub
  have := ft.notType
  have := ft.canCreate
  refine wpAny_call (codeAny_of_tree (wpAny_pure ⟨Code.quiet_builtin _ (by decide +kernel), codeAny_builtin F.entry_type_call (Eq.mpr (by rw [Around.under_plain (weight_type_call_type "set" [x] []) rfl]) ?_)⟩))
  repeat (any_goals (first | assumption | wp_step))
  refine codeAny_mono (code_set_led1 x (E := E) (Q₁ := fun v s1 => v = .ref s.heap.objs.size ∧ s1 = { s with heap := s.heap.push (blankS w) }) ⟨rfl, rfl⟩) ?_
  rintro (e | (v | _)) s1 hr
  all_goals first | exact hr | exact hr.elim | skip
  obtain ⟨rfl, rfl⟩ := hr
  have new : (s.heap.push (blankS w)).get? s.heap.objs.size = some (blankS w) := Heap.get?_push_size _ rfl
  have ty : Shared.TypeIs { s with heap := s.heap.push (blankS w) } (.ref s.heap.objs.size) "set" := ⟨_, new, rfl⟩
  have := ft.init.lookup
  have := ft.init.bind (.ref s.heap.objs.size)
  repeat (any_goals (first | assumption | wp_step))
  have made : codeAny (model prog w) A.in1 (.call (.builtin "set.__init__") ⟨[.ref s.heap.objs.size, x], []⟩) (wants (fun v s2 => v = .none ∧ Q (.ref s.heap.objs.size) s2) E) { s with heap := s.heap.push (blankS w) } := by
    refine codeAny_call_builtin ft.init.plain F.entry_set_init (check_set_init_1 ty ?_)
    refine init_texts (by simp [calm]) new g ne few fun h' tk M old => ⟨rfl, goal h' tk M fun b o e => old b o (Nat.ne_of_lt (Heap.lt_size e)) (Heap.get?_push_of_some _ e)⟩
  refine codeAny_mono made ?_
  rintro (e | (v | _)) s2 hr
  all_goals first | exact hr | exact hr.elim | skip
  obtain ⟨rfl, q⟩ := hr
  repeat (any_goals (first | assumption | wp_step))
/-- set(text) -/
theorem set_text {x : Str} {t : Tok} {Q : Value → Shared → Prop} (calm : A.handled = none) (few : x.cps.size + 1 < scanBound)
    (goal : ∀ (h' : Heap) (tk : Nat), MetAt w (x.cps.toList.map sS) s.heap.objs.size x.cps.size h' → (∀ b o, s.heap.get? b = some o → h'.get? b = some o) → Q (.ref s.heap.objs.size) { s with heap := h', toks := tk }) :
    wpAny (model prog w) A (call (.type "set") [.str x t]) Q E s := by
  have n : (x.cps.toList.map sS).length = x.cps.size := by simp
  refine set_made (zs := x.cps.toList.map sS) calm ⟨⟨"str", rfl, by rw [isSubtype_type]; kernel_rfl, by rw [isSubtype_type]; kernel_rfl, by decide⟩, fun q => ?_⟩ (fun z => nomatch z) (n ▸ few) (F.typeCall_set_1 _) (n ▸ goal)
  refine wpAny_pyIter_str fun o St W st => q o _ _ St (n ▸ W) (fun b z => .inl (List.mem_singleton.mp z)) (fun i v _ hv => ?_) st
  obtain ⟨c, tt, hc, rfl⟩ := hv
  exact ⟨_, tt, by rw [List.getElem?_map, Array.getElem?_toList, hc]; rfl, rfl⟩
end
end My

set_option Elab.async false
set_option linter.all false
set_option maxRecDepth 100000
set_option maxHeartbeats 2000000
namespace My
open PySem PySem.Spec PyProof.Rows L2
/-! ### len(set(text)) -/
theorem len_nodup {l : List Nat} {ks : List Str} (k1 : ks.Nodup) (mem : ∀ x, x ∈ ks ↔ x ∈ l.map sS) : ks.length ≤ l.length ∧ (ks.length = l.length ↔ l.Nodup) := by
  have inj : ∀ a b : Nat, sS a = sS b → a = b := fun a b h => by
    have h2 := congrArg (fun z : Str => z.cps.toList) h
    simpa [sS] using h2
  have hle : ks.length ≤ (l.map sS).length := List.Nodup.length_le_of_subset k1 fun x hx => (mem x).mp hx
  rw [List.length_map] at hle
  refine ⟨hle, fun e => ?_, fun nd => ?_⟩
  · have nm : (l.map sS).Nodup := by
      have hp : ks ⊆ l.map sS := fun x hx => (mem x).mp hx
      refine Classical.byContradiction fun hn => ?_
      obtain ⟨ds, d1, d2, d3⟩ : ∃ ds : List Str, ds.Nodup ∧ (∀ x, x ∈ ds ↔ x ∈ l.map sS) ∧ (ds.length < (l.map sS).length) := by
        have key : ∀ m : List Str, ¬ m.Nodup → ∃ ds : List Str, ds.Nodup ∧ (∀ x, x ∈ ds ↔ x ∈ m) ∧ ds.length < m.length := by
          have all : ∀ m : List Str, ∃ ds : List Str, ds.Nodup ∧ (∀ x, x ∈ ds ↔ x ∈ m) ∧ ds.length ≤ m.length := by
            intro m
            induction m with
            | nil => exact ⟨[], List.nodup_nil, fun x => Iff.rfl, Nat.le_refl _⟩
            | cons a m ih =>
              obtain ⟨ds, d1, d2, d3⟩ := ih
              by_cases ha : a ∈ m
              · refine ⟨ds, d1, fun x => ?_, by rw [List.length_cons]; omega⟩
                rw [d2, List.mem_cons]
                exact ⟨.inr, fun z => z.elim (fun y => by rw [y]; exact ha) id⟩
              · refine ⟨a :: ds, List.nodup_cons.mpr ⟨fun z => ha ((d2 a).mp z), d1⟩, fun x => by rw [List.mem_cons, List.mem_cons, d2], by rw [List.length_cons, List.length_cons]; omega⟩
          intro m
          induction m with
          | nil => exact fun h => absurd List.nodup_nil h
          | cons a m ih =>
            intro h
            by_cases ha : a ∈ m
            · obtain ⟨ds, d1, d2, d3⟩ := all m
              refine ⟨ds, d1, fun x => ?_, by rw [List.length_cons]; omega⟩
              rw [d2, List.mem_cons]
              exact ⟨.inr, fun z => z.elim (fun y => by rw [y]; exact ha) id⟩
            · obtain ⟨ds, d1, d2, d3⟩ := ih fun z => h (List.nodup_cons.mpr ⟨ha, z⟩)
              exact ⟨a :: ds, List.nodup_cons.mpr ⟨fun z => ha ((d2 a).mp z), d1⟩, fun x => by rw [List.mem_cons, List.mem_cons, d2], by rw [List.length_cons, List.length_cons]; omega⟩
        exact key _ hn
      have h3 : ks.length ≤ ds.length := List.Nodup.length_le_of_subset k1 fun x hx => (d2 x).mpr ((mem x).mp hx)
      rw [List.length_map] at d3
      omega
    exact (List.pairwise_map.mp nm).imp fun {a b} h z => h (by rw [z])
  · have nm : (l.map sS).Nodup := List.pairwise_map.mpr (nd.imp fun {a b} h z => h (inj a b z))
    have h3 : (l.map sS).length ≤ ks.length := List.Nodup.length_le_of_subset nm fun x hx => (mem x).mpr hx
    rw [List.length_map] at h3
    omega
section
variable {X : Cx}
def tLenSet (te : TE) : TE := fun σ H Q => te σ H fun x H1 => ∃ l : List Nat, x = tx l ∧ l.length ≤ 1000 ∧ ∀ n : Nat, n ≤ l.length → (n = l.length ↔ l.Nodup) → Q (.int n) H1
theorem pe_lenSet {e : Expr} {te : TE} {p1 p2 q1 q2 : Pos} (hc : X.calm = true) (hg : Gl X "len") (hm : X.mg "len" = none) (hg2 : Gl X "set") (hm2 : X.mg "set" = none) (he : PE X e te)
    (hb : bootBuiltins "len" = some (.builtin "len") := by decide +kernel) (hb2 : bootBuiltins "set" = some (.type "set") := by decide +kernel)
    (hs : starEach [.Call (.Name "set" q1) [e] [] q2] X.env = (false, eval (.Call (.Name "set" q1) [e] [] q2) X.env) :: starEach [] X.env := by rfl) (hs2 : starEach [e] X.env = (false, eval e X.env) :: starEach [] X.env := by rfl) :
    PE X (.Call (.Name "len" p1) [.Call (.Name "set" q1) [e] [] q2] [] p2) (tLenSet te) := by
  refine ⟨fun pins s σ H Q I h => ?_⟩
  refine wpAny_Call_Name_kw (ld_blt I hg hm hb (PyProof.Rows.callWith_builtin1 ?_ hs (by rfl)))
  rw [hs]
  refine Calls.spliced_cons (wpAny_Call_Name_kw (ld_blt I hg2 hm2 hb2 ?_))
  refine PyProof.Rows.callWith_type1 ?_ hs2 (by rfl)
  rw [hs2]
  refine Calls.spliced_cons (thn (he.run pins s σ H _ I h) fun u s1 ⟨x, H1, I1, r1, l, ex, hl, q⟩ => ?_)
  refine Calls.spliced_nil ?_
  subst ex
  obtain ⟨t, rfl⟩ := r1
  have hsz : (⟨l.toArray⟩ : Str).cps.size = l.length := by simp
  refine set_text (I1.ok.hd hc) (by rw [hsz]; unfold scanBound; omega) fun h' tk hT hk => ?_
  rw [hsz] at hT
  obtain ⟨ks, _, k2, R⟩ := hT
  have k3 : ∀ x, x ∈ ks ↔ x ∈ l.map sS := fun x => by rw [k2, List.take_of_length_le (by simp)]
  obtain ⟨a1, a2⟩ := len_nodup R.1 k3
  obtain ⟨_, o, es, ep, tb, ps, ho, hex, hd, T, rfl⟩ := R
  have hn : es.size = (ps.map Prod.fst).length := by rw [T.size, List.length_map]
  have I2 : Inv X pins σ H1 { s1 with heap := h', toks := tk } := I1.kept hk
  refine Calls.spliced_nil ?_
  refine call_len_set ho hex hd T.told.1 (by rw [hn]; omega) ?_
  rw [hn]
  exact ⟨.int _, H1, I2.tok _ |>.tok _, ⟨_, rfl⟩, q _ a1 a2⟩
end
end My

set_option Elab.async false
set_option linter.all false
set_option maxRecDepth 100000
set_option maxHeartbeats 2000000
namespace My
open PySem PySem.Spec PyProof.Rows L2
/-! ### lists of columns, of any data -/
def isListL (cols l : List Nat) : Bool := !l.isEmpty && decide l.Nodup && l.all fun c => decide (c ∈ cols)
def isListD (cols : List Nat) : PyData → Bool
  | .str z => isListL cols z.cps.toList
  | _ => false
theorem list_of_str {cols : List Nat} {l : List Nat} : isListD cols (.str (txS l)) = isListL cols l := by
  show isListL cols l.toArray.toList = _
  simp
theorem cat_tx (l k : List Nat) : V.str ((⟨l.toArray⟩ : Str) ++ ⟨k.toArray⟩) = tx (l ++ k) := by
  show V.str ⟨l.toArray ++ k.toArray⟩ = V.str ⟨(l ++ k).toArray⟩
  simp
end My

set_option Elab.async false
set_option linter.all false
set_option maxRecDepth 100000
set_option maxHeartbeats 2000000
namespace My
open PySem PySem.Spec PyProof.Rows L2
/-! ### calls of defs that are promised where no repr is under way -/
/-! ### tables, of any data -/
theorem Sh.codes {n m : Nat} {l : List Nat} (h : Sh n m (.str (txS l))) : ∀ c ∈ l, c < 0x110000 := fun c hc => by
  have h1 : (txS l).cps.all (· < 0x110000) = true := h.ly
  rw [Array.all_eq_true'] at h1
  exact of_decide_eq_true (h1 c (by simpa using hc))
end My
namespace My
open PySem PySem.Spec PyProof.Rows L2
end My

set_option Elab.async false
set_option linter.all false
set_option maxRecDepth 100000
set_option maxHeartbeats 2000000
namespace My
open PySem PySem.Spec PyProof.Rows L2
/-! ### what is a need -/
def needL (cols e r : List Nat) : Bool := risB e && (decide (r.length ≤ 1) && isListL cols (e ++ r))
def isNeedD (cols : List Nat) : PyData → Bool
  | .tuple [.str e, .str r] => needL cols e.cps.toList r.cps.toList
  | _ => false
theorem need_of_str {cols e r : List Nat} : isNeedD cols (.tuple [.str (txS e), .str (txS r)]) = needL cols e r := by
  show needL cols e.toArray.toList r.toArray.toList = _
  simp
theorem need_l {cols : List Nat} {d1 d2 : PyData} (h : isSt d1 = false) : isNeedD cols (.tuple [d1, d2]) = false := by
  cases d1 with
  | str z => cases h
  | _ => rfl
theorem need_r {cols : List Nat} {d1 d2 : PyData} (h : isSt d2 = false) : isNeedD cols (.tuple [d1, d2]) = false := by
  cases d1 with
  | str z =>
    cases d2 with
    | str y => cases h
    | _ => rfl
  | _ => rfl
theorem risB_pw : ∀ (l : List Nat), risB l = true ↔ l.Pairwise (· < ·)
  | [] => by simp [risB]
  | [a] => by simp [risB]
  | a :: b :: l => by
    have ih := risB_pw (b :: l)
    unfold risB
    rw [Bool.and_eq_true, decide_eq_true_eq, ih, List.pairwise_cons (a := a)]
    constructor
    · rintro ⟨h1, h2⟩
      refine ⟨fun x hx => ?_, h2⟩
      rcases List.mem_cons.mp hx with e | e
      · omega
      · have := (List.pairwise_cons.mp h2).1 x e
        omega
    · rintro ⟨h1, h2⟩
      exact ⟨h1 b (by simp), h2⟩
theorem Sh.lim {n m : Nat} {l : List Nat} (h : Sh n m (.str (txS l))) : ∀ c ∈ l, c < 0x110000 := fun c hc => by
  have e1 : (txS l).cps.all (· < 0x110000) = true := h.ly
  rw [Array.all_eq_true'] at e1
  exact of_decide_eq_true (e1 c (by simpa using hc))
theorem Sh.cat {n m m' : Nat} {a b : List Nat} (h1 : Sh n m (.str (txS a))) (h2 : Sh n m' (.str (txS b))) : Sh n (m + m') (.str (txS (a ++ b))) := by
  refine ⟨rfl, rfl, ?_, h1.dp, ?_, ?_⟩
  · have e1 := h1.sh
    have e2 := h2.sh
    simp only [PyData.leavesShort, List.all_eq_true, decide_eq_true_eq] at e1 e2 ⊢
    simp at e1 e2 ⊢
    intro c hc
    rcases hc with z | z
    · exact e1 c z
    · exact e2 c z
  · have e1 : a.toArray.size ≤ m := h1.wt
    have e2 : b.toArray.size ≤ m' := h2.wt
    show (a ++ b).toArray.size ≤ m + m'
    simp at e1 e2 ⊢
    omega
  · have e1 : (txS a).cps.all (· < 0x110000) = true := h1.ly
    have e2 : (txS b).cps.all (· < 0x110000) = true := h2.ly
    show (txS (a ++ b)).cps.all (· < 0x110000) = true
    rw [Array.all_eq_true'] at e1 e2 ⊢
    intro c hc
    have hc2 : c ∈ a ∨ c ∈ b := by simpa using hc
    rcases hc2 with z | z
    · exact e1 c (by simpa using z)
    · exact e2 c (by simpa using z)
end My

set_option Elab.async false
set_option linter.all false
set_option maxRecDepth 100000
set_option maxHeartbeats 2000000
namespace My
open PySem PySem.Spec PyProof.Rows L2
/-! ### tuples of texts as data -/
theorem depA_texts : ∀ fs : List (List Nat), PyData.depthAll (fs.map strD) = 0
  | [] => rfl
  | o :: fs => by
    show max (PyData.depth (strD o)) (PyData.depthAll (fs.map strD)) = 0
    rw [depA_texts fs]
    rfl
end My

set_option Elab.async false
set_option linter.all false
set_option maxRecDepth 100000
set_option maxHeartbeats 2000000
namespace My
open PySem PySem.Spec PyProof.Rows L2
/-! ### needs, one ahead of the other -/
abbrev Nd2 := List Nat × List Nat
def ahd (p q : Nd2) : Bool := !decide (p = q) && (p.1 ++ p.2).all fun c => decide (c ∈ q.1)
structure NdOk (p : Nd2) : Prop where
  up : p.1.Pairwise (· < ·)
  one : p.2.length ≤ 1
  out : ∀ c ∈ p.2, c ∉ p.1
theorem ahd_iff {p q : Nd2} : ahd p q = true ↔ p ≠ q ∧ ∀ c ∈ p.1 ++ p.2, c ∈ q.1 := by
  unfold ahd
  rw [Bool.and_eq_true, List.all_eq_true]
  constructor
  · rintro ⟨h1, h2⟩
    exact ⟨by simpa using h1, fun c hc => of_decide_eq_true (h2 c hc)⟩
  · rintro ⟨h1, h2⟩
    exact ⟨by simpa using h1, fun c hc => decide_eq_true (h2 c hc)⟩
theorem up_ext {a b : List Nat} (ha : a.Pairwise (· < ·)) (hb : b.Pairwise (· < ·)) (h : ∀ c, c ∈ a ↔ c ∈ b) : a = b := by
  have nda : a.Nodup := ha.imp fun {a b} z => by omega
  have ndb : b.Nodup := hb.imp fun {a b} z => by omega
  have pm : a.Perm b := (List.perm_ext_iff_of_nodup nda ndb).mpr h
  exact le_perm_eq pm (ha.imp fun {a b} z => by omega) (hb.imp fun {a b} z => by omega)
theorem nd_eq {p q : Nd2} (hp : NdOk p) (hq : NdOk q) (h1 : ∀ c ∈ p.1 ++ p.2, c ∈ q.1) (h2 : ∀ c ∈ q.1 ++ q.2, c ∈ p.1) : p = q := by
  have e2 : p.2 = [] := List.eq_nil_iff_forall_not_mem.mpr fun c hc => hp.out c hc (h2 c (List.mem_append_left _ (h1 c (List.mem_append_right _ hc))))
  have f2 : q.2 = [] := List.eq_nil_iff_forall_not_mem.mpr fun c hc => hq.out c hc (h1 c (List.mem_append_left _ (h2 c (List.mem_append_right _ hc))))
  have e1 : p.1 = q.1 := up_ext hp.up hq.up fun c => ⟨fun h => h1 c (List.mem_append_left _ h), fun h => h2 c (List.mem_append_left _ h)⟩
  exact Prod.ext e1 (e2.trans f2.symm)
theorem ahd_trans {a b c : Nd2} (ha : NdOk a) (hb : NdOk b) (h1 : ahd a b = true) (h2 : ahd b c = true) : ahd a c = true := by
  obtain ⟨n1, s1⟩ := ahd_iff.mp h1
  obtain ⟨n2, s2⟩ := ahd_iff.mp h2
  refine ahd_iff.mpr ⟨fun e => ?_, fun x hx => s2 x (List.mem_append_left _ (s1 x hx))⟩
  rw [← e] at s2
  exact n1 (nd_eq ha hb s1 s2)
/-! whether one list may serve both -/
def wthn (a b : List Nat) : Bool := a.all fun c => decide (c ∈ b)
theorem wthn_iff {a b : List Nat} : wthn a b = true ↔ ∀ c ∈ a, c ∈ b := by
  unfold wthn
  rw [List.all_eq_true]
  exact ⟨fun h c hc => of_decide_eq_true (h c hc), fun h c hc => decide_eq_true (h c hc)⟩
def stps (p : Nd2) : List (List Nat) := [p.1, p.1 ++ p.2]
def agr (p q : Nd2) : Bool := (stps p).all fun s => (stps q).all fun o => wthn s o || wthn o s
theorem agr_half {p q : Nd2} (hp : NdOk p) (hq : NdOk q) (h1 : ∀ c ∈ p.1, c ∈ q.1) (h3 : (∀ c ∈ p.1 ++ p.2, c ∈ q.1) ∨ ∀ c ∈ q.1, c ∈ p.1 ++ p.2)
    (h4 : (∀ c ∈ p.1 ++ p.2, c ∈ q.1 ++ q.2) ∨ ∀ c ∈ q.1 ++ q.2, c ∈ p.1 ++ p.2) : p = q ∨ ahd p q = true ∨ ahd q p = true := by
  by_cases e : p = q
  · exact .inl e
  refine .inr ?_
  rcases h3 with h3 | h3
  · exact .inl (ahd_iff.mpr ⟨e, h3⟩)
  obtain ⟨p1, p2⟩ := p
  obtain ⟨q1, q2⟩ := q
  dsimp only at *
  match p2, hp with
  | [], hp => exact .inl (ahd_iff.mpr ⟨e, fun c hc => h1 c (by simpa using hc)⟩)
  | [r], hp =>
    by_cases hr : r ∈ q1
    · refine .inl (ahd_iff.mpr ⟨e, fun c hc => ?_⟩)
      rcases List.mem_append.mp hc with z | z
      · exact h1 c z
      · rw [List.mem_singleton.mp z]
        exact hr
    have h5 : ∀ c ∈ q1, c ∈ p1 := fun c hc => by
      rcases List.mem_append.mp (h3 c hc) with z | z
      · exact z
      · rw [List.mem_singleton.mp z] at hc
        exact absurd hc hr
    have e1 : p1 = q1 := up_ext hp.up hq.up fun c => ⟨h1 c, h5 c⟩
    match q2, hq with
    | [], hq => exact .inr (ahd_iff.mpr ⟨fun z => e z.symm, fun c hc => h5 c (by simpa using hc)⟩)
    | [t], hq =>
      exfalso
      apply e
      have ht : t ∉ q1 := hq.out t (by simp)
      have ert : r = t := by
        rcases h4 with h4 | h4
        · rcases List.mem_append.mp (h4 r (by simp)) with z | z
          · exact absurd z hr
          · exact List.mem_singleton.mp z
        · rcases List.mem_append.mp (h4 t (by simp)) with z | z
          · exact absurd (h1 t z) ht
          · exact (List.mem_singleton.mp z).symm
      rw [e1, ert]
    | a :: b :: l, hq => exact absurd hq.one (by simp)
  | a :: b :: l, hp => exact absurd hp.one (by simp)
theorem agr_no {p q : Nd2} (hp : NdOk p) (hq : NdOk q) (h : agr p q = true) : p = q ∨ ahd p q = true ∨ ahd q p = true := by
  unfold agr stps at h
  simp only [List.all_cons, List.all_nil, Bool.and_true, Bool.and_eq_true, Bool.or_eq_true, wthn_iff] at h
  obtain ⟨⟨h1, h2⟩, h3, h4⟩ := h
  rcases h1 with h1 | h1
  · exact agr_half hp hq h1 h3 h4
  · rcases agr_half hq hp h1 (h2.symm) (h4.symm) with z | z | z
    · exact .inl z.symm
    · exact .inr (.inr z)
    · exact .inr (.inl z)
/-! ### pairs, one right ahead of the other -/
structure Mt (n : Nat) (R : Nat → Nat → Bool) (m : Nat → Option Nat) : Prop where
  edge : ∀ j a, m j = some a → j < n ∧ a < n ∧ R a j = true
  inj : ∀ j k a, m j = some a → m k = some a → j = k
def Cl (n : Nat) (R : Nat → Nat → Bool) (m : Nat → Option Nat) (F : Nat → Prop) : Prop := ∀ t, F t → ∃ a, m t = some a ∧ ∀ j, j < n → R a j = true → F j
def FlM (n : Nat) (R : Nat → Nat → Bool) (m : Nat → Option Nat) (a : Nat) : Prop := ∃ F : Nat → Prop, Cl n R m F ∧ ∀ j, j < n → R a j = true → F j
def putM (m : Nat → Option Nat) (j a : Nat) : Nat → Option Nat := fun x => if x = j then some a else m x
theorem putM_at {m : Nat → Option Nat} {j a : Nat} : putM m j a j = some a := if_pos rfl
theorem putM_ne {m : Nat → Option Nat} {j a x : Nat} (h : x ≠ j) : putM m j a x = m x := if_neg h
structure FbF (n : Nat) (R : Nat → Nat → Bool) (m : Nat → Option Nat) (a : Nat) (T T' : List Nat) : Prop where
  sub : ∀ t ∈ T, t ∈ T'
  all : ∀ j, j < n → R a j = true → j ∈ T'
  new : ∀ t ∈ T', t ∉ T → ∃ b, m t = some b ∧ ∀ j, j < n → R b j = true → j ∈ T'
structure FbT (n : Nat) (R : Nat → Nat → Bool) (m m' : Nat → Option Nat) (a : Nat) (T : List Nat) : Prop where
  edge : ∀ j b, m' j = some b → j < n ∧ b < n ∧ R b j = true
  same : ∀ t ∈ T, m' t = m t
  has : ∃ j, j ∉ T ∧ m' j = some a
  inj : ∀ j k b, m' j = some b → m' k = some b → (b = a → j ∉ T ∧ k ∉ T) → j = k
  val : ∀ t b, m' t = some b → m t = some b ∨ b = a ∨ ∃ t0, t0 ∉ T ∧ m t0 = some b
  keep : ∀ t b, m t = some b → ∃ t', m' t' = some b
  cl : ∀ F, Cl n R m F → ∀ t, F t → m' t = m t
  no : ∀ F, Cl n R m F → ¬ ∀ j, j < n → R a j = true → F j
theorem FbT.base {n : Nat} {R : Nat → Nat → Bool} {m : Nat → Option Nat} {a j : Nat} {T : List Nat} (M : Mt n R m) (hj : j < n) (ha : a < n) (hr : R a j = true) (hT : j ∉ T) (hm : m j = none) (hp : ∀ t, m t = some a → t ∈ T) : FbT n R m (putM m j a) a T := by
  refine ⟨fun k b e => ?_, fun t ht => ?_, ⟨j, hT, putM_at⟩, fun k l b e1 e2 h => ?_, fun t b e => ?_, fun t b e => ?_, fun F hF t ht => ?_, fun F hF h => ?_⟩
  · by_cases z : k = j
    · rw [z, putM_at] at e
      cases e
      exact ⟨z ▸ hj, ha, z ▸ hr⟩
    · rw [putM_ne z] at e
      exact M.edge k b e
  · exact putM_ne fun z => hT (z ▸ ht)
  · by_cases z1 : k = j
    · by_cases z2 : l = j
      · rw [z1, z2]
      · rw [z1, putM_at] at e1
        cases e1
        rw [putM_ne z2] at e2
        exact absurd (hp l e2) (h rfl).2
    · rw [putM_ne z1] at e1
      by_cases z2 : l = j
      · rw [z2, putM_at] at e2
        cases e2
        exact absurd (hp k e1) (h rfl).1
      · rw [putM_ne z2] at e2
        exact M.inj k l b e1 e2
  · by_cases z : t = j
    · rw [z, putM_at] at e
      cases e
      exact .inr (.inl rfl)
    · rw [putM_ne z] at e
      exact .inl e
  · refine ⟨t, ?_⟩
    rw [putM_ne (show t ≠ j from fun z => by rw [z, hm] at e; cases e)]
    exact e
  · refine putM_ne fun z => ?_
    obtain ⟨b, e, _⟩ := hF t ht
    rw [z, hm] at e
    cases e
  · obtain ⟨b, e, _⟩ := hF j (h j hj hr)
    rw [hm] at e
    cases e
theorem FbT.step {n : Nat} {R : Nat → Nat → Bool} {m m1 : Nat → Option Nat} {a b j : Nat} {T T1 : List Nat} (M : Mt n R m) (hj : j < n) (ha : a < n) (hr : R a j = true) (hT : j ∉ T) (hm : m j = some b) (hp : ∀ t, m t = some a → t ∈ T)
    (h1 : ∀ t ∈ T, t ∈ T1) (hj1 : j ∈ T1) (h : FbT n R m m1 b T1) : FbT n R m (putM m1 j a) a T := by
  have e1j : m1 j = some b := (h.same j hj1).trans hm
  have hab : a ≠ b := fun z => hT (hp j (by rw [hm, z]))
  refine ⟨fun k c e => ?_, fun t ht => ?_, ⟨j, hT, putM_at⟩, fun k l c e1 e2 hh => ?_, fun t c e => ?_, fun t c e => ?_, fun F hF t ht => ?_, fun F hF hh => ?_⟩
  · by_cases z : k = j
    · rw [z, putM_at] at e
      cases e
      exact ⟨z ▸ hj, ha, z ▸ hr⟩
    · rw [putM_ne z] at e
      exact h.edge k c e
  · rw [putM_ne (show t ≠ j from fun z => hT (by rw [← z]; exact ht))]
    exact h.same t (h1 t ht)
  · have key : ∀ l, l ≠ j → m1 l = some a → l ∉ T → False := fun l z e hl => by
      rcases h.val l a e with q | q | ⟨t0, q1, q2⟩
      · exact hl (hp l q)
      · exact hab q
      · exact q1 (h1 t0 (hp t0 q2))
    by_cases z1 : k = j
    · by_cases z2 : l = j
      · rw [z1, z2]
      · rw [z1, putM_at] at e1
        cases e1
        rw [putM_ne z2] at e2
        exact (key l z2 e2 (hh rfl).2).elim
    · rw [putM_ne z1] at e1
      by_cases z2 : l = j
      · rw [z2, putM_at] at e2
        cases e2
        exact (key k z1 e1 (hh rfl).1).elim
      · rw [putM_ne z2] at e2
        have off : ∀ k, k ≠ j → m1 k = some b → k ∉ T1 := fun k z e hk => by
          rw [h.same k hk] at e
          exact z (M.inj k j b e hm)
        exact h.inj k l c e1 e2 fun z => ⟨off k z1 (z ▸ e1), off l z2 (z ▸ e2)⟩
  · by_cases z : t = j
    · rw [z, putM_at] at e
      cases e
      exact .inr (.inl rfl)
    · rw [putM_ne z] at e
      rcases h.val t c e with q | q | ⟨t0, q1, q2⟩
      · exact .inl q
      · exact .inr (.inr ⟨j, hT, by rw [hm, q]⟩)
      · exact .inr (.inr ⟨t0, fun z => q1 (h1 t0 z), q2⟩)
  · obtain ⟨t', e'⟩ := h.keep t c e
    by_cases z : t' = j
    · rw [z, e1j] at e'
      cases e'
      obtain ⟨k, k1, k2⟩ := h.has
      exact ⟨k, by rw [putM_ne (show k ≠ j from fun z => k1 (by rw [z]; exact hj1))]; exact k2⟩
    · exact ⟨t', by rw [putM_ne z]; exact e'⟩
  · have hjF : ¬ F j := fun z => by
      obtain ⟨c, e, hc⟩ := hF j z
      rw [hm] at e
      cases e
      exact h.no F hF hc
    rw [putM_ne (show t ≠ j from fun z => hjF (by rw [← z]; exact ht))]
    exact h.cl F hF t ht
  · obtain ⟨c, e, hc⟩ := hF j (hh j hj hr)
    rw [hm] at e
    cases e
    exact h.no F hF hc
/-- as many pairs as can be -/
structure Mx (n : Nat) (R : Nat → Nat → Bool) (k : Nat) (m : Nat → Option Nat) : Prop where
  mt : Mt n R m
  low : ∀ t a, m t = some a → a < k
  tot : ∀ a, a < k → (∃ t, m t = some a) ∨ FlM n R m a
theorem Mx.nil {n : Nat} {R : Nat → Nat → Bool} : Mx n R 0 (fun _ => none) := ⟨⟨(fun _ _ e => nomatch e), (fun _ _ _ e => nomatch e)⟩, (fun _ _ e => nomatch e), fun a h => absurd h (Nat.not_lt_zero a)⟩
theorem Mx.no {n k : Nat} {R : Nat → Nat → Bool} {m : Nat → Option Nat} {T' : List Nat} (M : Mx n R k m) (h : FbF n R m k [] T') : Mx n R (k + 1) m := by
  refine ⟨M.mt, fun t a e => Nat.lt_succ_of_lt (M.low t a e), fun a ha => ?_⟩
  by_cases z : a = k
  · rw [z]
    exact .inr ⟨(· ∈ T'), fun t ht => h.new t ht (by simp), h.all⟩
  · exact M.tot a (by omega)
theorem Mx.yes {n k : Nat} {R : Nat → Nat → Bool} {m m' : Nat → Option Nat} (M : Mx n R k m) (h : FbT n R m m' k []) : Mx n R (k + 1) m' := by
  refine ⟨⟨h.edge, fun j l a e1 e2 => h.inj j l a e1 e2 fun _ => ⟨by simp, by simp⟩⟩, fun t a e => ?_, fun a ha => ?_⟩
  · rcases h.val t a e with q | q | ⟨t0, _, q⟩
    · exact Nat.lt_succ_of_lt (M.low t a q)
    · omega
    · exact Nat.lt_succ_of_lt (M.low t0 a q)
  · by_cases z : a = k
    · obtain ⟨j, _, e⟩ := h.has
      exact .inl ⟨j, by rw [z]; exact e⟩
    · rcases M.tot a (by omega) with ⟨t, e⟩ | ⟨F, hF, h2⟩
      · exact .inl (h.keep t a e)
      · refine .inr ⟨F, fun t ht => ?_, h2⟩
        obtain ⟨b, e, hb⟩ := hF t ht
        exact ⟨b, (h.cl F hF t ht).trans e, hb⟩
end My

set_option Elab.async false
set_option linter.all false
set_option maxRecDepth 100000
set_option maxHeartbeats 2000000
namespace My
open PySem PySem.Spec PyProof.Rows L2
/-! ### as many needs apart as there are chains -/
/-- where the look goes: W waiting, L looked at, B behind -/
structure Kg (n : Nat) (R : Nat → Nat → Bool) (m : Nat → Option Nat) (lasts W L B : List Nat) : Prop where
  wl : ∀ l, l ∈ W ∨ l ∈ L → l < n ∧ FlM n R m l ∧ (l ∈ lasts ∨ ∃ b ∈ B, m b = some l)
  bn : ∀ b ∈ B, b < n ∧ (∃ a, m b = some a ∧ (a ∈ W ∨ a ∈ L)) ∧ ∃ l ∈ L, R l b = true
  nd : B.Nodup
  lb : ∀ l ∈ L, ∀ j, j < n → R l j = true → j ∈ B
  la : ∀ l ∈ lasts, l ∈ W ∨ l ∈ L
structure Lst (n : Nat) (m : Nat → Option Nat) (lasts : List Nat) : Prop where
  mem : ∀ a, a ∈ lasts ↔ a < n ∧ ∀ t, m t ≠ some a
  nd : lasts.Nodup
theorem Kg.start {n : Nat} {R : Nat → Nat → Bool} {m : Nat → Option Nat} {lasts : List Nat} (M : Mx n R n m) (hl : Lst n m lasts) : Kg n R m lasts lasts [] [] := by
  refine ⟨fun l h => ?_, (fun b hb => nomatch hb), List.nodup_nil, (fun l hl => nomatch hl), fun l h => .inl h⟩
  rcases h with h | h
  · obtain ⟨h1, h2⟩ := (hl.mem l).mp h
    refine ⟨h1, ?_, .inl h⟩
    rcases M.tot l h1 with ⟨t, e⟩ | z
    · exact absurd e (h2 t)
    · exact z
  · cases h
/-- what is ahead of a need that is met is there -/
theorem FlM.met {n : Nat} {R : Nat → Nat → Bool} {m : Nat → Option Nat} {l b : Nat} (h : FlM n R m l) (hb : b < n) (hr : R l b = true) : ∃ a, m b = some a ∧ FlM n R m a := by
  obtain ⟨F, hF, h2⟩ := h
  obtain ⟨a, e, ha⟩ := hF b (h2 b hb hr)
  exact ⟨a, e, F, hF, ha⟩
theorem len_filter (p : Nat → Bool) : ∀ l : List Nat, (l.filter p).length + (l.filter fun x => !p x).length = l.length
  | [] => rfl
  | x :: l => by
    have ih := len_filter p l
    cases h : p x
    · simp only [List.filter_cons, h, Bool.not_false, if_true, List.length_cons, Bool.false_eq_true, if_false]
      omega
    · simp only [List.filter_cons, h, Bool.not_true, if_true, List.length_cons, Bool.false_eq_true, if_false]
      omega
def apM (n : Nat) (L B : List Nat) : List Nat := (List.range n).filter fun a => decide (a ∈ L) && !decide (a ∈ B)
theorem apM_mem {n : Nat} {L B : List Nat} {a : Nat} : a ∈ apM n L B ↔ a < n ∧ a ∈ L ∧ a ∉ B := by
  unfold apM
  rw [List.mem_filter, List.mem_range]
  simp
theorem Kg.many {n : Nat} {R : Nat → Nat → Bool} {m : Nat → Option Nat} {lasts L B : List Nat} (M : Mx n R n m) (hl : Lst n m lasts) (k : Kg n R m lasts [] L B) (tr : ∀ a b c, R a b = true → R b c = true → R a c = true) : (apM n L B).length = lasts.length := by
  have inL : ∀ l, l ∈ L ↔ l ∈ lasts ∨ ∃ b ∈ B, m b = some l := fun l => by
    constructor
    · intro h
      exact (k.wl l (.inr h)).2.2
    · rintro (h | ⟨b, hb, e⟩)
      · rcases k.la l h with z | z
        · cases z
        · exact z
      · obtain ⟨_, ⟨a, e2, z⟩, _⟩ := k.bn b hb
        rw [e] at e2
        cases e2
        rcases z with z | z
        · cases z
        · exact z
  have BL : ∀ b ∈ B, b ∈ L := fun b hb => by
    obtain ⟨hbn, _, l, hlL, hr⟩ := k.bn b hb
    by_cases z : b ∈ lasts
    · exact (inL b).mpr (.inl z)
    · have h2 : ∃ t, m t = some b := by
        refine Classical.byContradiction fun hh => z ((hl.mem b).mpr ⟨hbn, fun t e => hh ⟨t, e⟩⟩)
      obtain ⟨t, e⟩ := h2
      obtain ⟨htn, _, hrt⟩ := M.mt.edge t b e
      exact (inL b).mpr (.inr ⟨t, k.lb l hlL t htn (tr _ _ _ hr hrt), e⟩)
  -- all that were looked at
  have pm : ((List.range n).filter fun a => decide (a ∈ L)).Perm (lasts ++ B.filterMap m) := by
    refine (List.perm_ext_iff_of_nodup (List.Pairwise.filter _ List.nodup_range) ?_).mpr fun a => ?_
    · rw [List.nodup_append]
      refine ⟨hl.nd, ?_, fun a ha b hb z => ?_⟩
      · have : ∀ B : List Nat, B.Nodup → (B.filterMap m).Nodup := by
          intro B
          induction B with
          | nil => intro _; exact List.nodup_nil
          | cons b B ih =>
            intro hn
            obtain ⟨h1, h2⟩ := List.nodup_cons.mp hn
            cases e : m b with
            | none =>
              rw [List.filterMap_cons_none e]
              exact ih h2
            | some c =>
              rw [List.filterMap_cons_some e]
              refine List.nodup_cons.mpr ⟨fun hc => ?_, ih h2⟩
              obtain ⟨b2, hb2, e2⟩ := List.mem_filterMap.mp hc
              exact h1 (by rw [M.mt.inj b b2 c e e2]; exact hb2)
        exact this B k.nd
      · obtain ⟨b2, _, e2⟩ := List.mem_filterMap.mp hb
        exact ((hl.mem a).mp ha).2 b2 (by rw [e2, z])
    · rw [List.mem_filter, List.mem_range, decide_eq_true_eq, List.mem_append, List.mem_filterMap]
      constructor
      · rintro ⟨_, h⟩
        exact (inL a).mp h
      · intro h
        have h2 := (inL a).mpr h
        exact ⟨(k.wl a (.inr h2)).1, h2⟩
  have lenB : (B.filterMap m).length = B.length := by
    have : ∀ C : List Nat, (∀ b ∈ C, b ∈ B) → (C.filterMap m).length = C.length := by
      intro C
      induction C with
      | nil => intro _; rfl
      | cons b C ih =>
        intro h
        obtain ⟨_, ⟨a, e, _⟩, _⟩ := k.bn b (h b (by simp))
        rw [List.filterMap_cons_some e, List.length_cons, List.length_cons, ih fun c hc => h c (by simp [hc])]
    exact this B fun b h => h
  have pB : (((List.range n).filter fun a => decide (a ∈ L)).filter fun a => decide (a ∈ B)).Perm B := by
    refine (List.perm_ext_iff_of_nodup (List.Pairwise.filter _ (List.Pairwise.filter _ List.nodup_range)) k.nd).mpr fun a => ?_
    rw [List.mem_filter, List.mem_filter, List.mem_range, decide_eq_true_eq, decide_eq_true_eq]
    exact ⟨fun h => h.2, fun h => ⟨⟨(k.bn a h).1, BL a h⟩, h⟩⟩
  have e1 := len_filter (fun a => decide (a ∈ B)) ((List.range n).filter fun a => decide (a ∈ L))
  have e2 := pm.length_eq
  have e3 := pB.length_eq
  have e4 : (((List.range n).filter fun a => decide (a ∈ L)).filter fun x => !decide (x ∈ B)) = apM n L B := by
    rw [List.filter_filter]
    unfold apM
    congr 1
    funext a
    exact Bool.and_comm _ _
  rw [e4] at e1
  rw [List.length_append, lenB] at e2
  omega
theorem Kg.apart {n : Nat} {R : Nat → Nat → Bool} {m : Nat → Option Nat} {lasts L B : List Nat} (k : Kg n R m lasts [] L B) {a b : Nat} (ha : a ∈ apM n L B) (hb : b ∈ apM n L B) : R a b = false := by
  obtain ⟨_, h2, _⟩ := apM_mem.mp ha
  obtain ⟨g1, _, g3⟩ := apM_mem.mp hb
  refine eq_false_of_ne_true fun z => g3 (k.lb a h2 b g1 z)
/-- one turn of the look: l is looked at; the first i numbers are gone through -/
structure Kgt (n : Nat) (R : Nat → Nat → Bool) (m : Nat → Option Nat) (lasts W L B : List Nat) (l i : Nat) : Prop where
  wl : ∀ l', l' ∈ W ∨ l' ∈ L → l' < n ∧ FlM n R m l' ∧ (l' ∈ lasts ∨ ∃ b ∈ B, m b = some l')
  bn : ∀ b ∈ B, b < n ∧ (∃ a, m b = some a ∧ (a ∈ W ∨ a ∈ L)) ∧ ∃ l ∈ L, R l b = true
  nd : B.Nodup
  lb : ∀ l' ∈ L, ∀ j, j < n → (l' = l → j < i) → R l' j = true → j ∈ B
  la : ∀ l' ∈ lasts, l' ∈ W ∨ l' ∈ L
  me : l ∈ L
theorem Kg.pop {n : Nat} {R : Nat → Nat → Bool} {m : Nat → Option Nat} {lasts W W' L L' B : List Nat} {l : Nat} (k : Kg n R m lasts W L B) (hW : W = W' ++ [l]) (hL : ∀ x, x ∈ L' ↔ x = l ∨ x ∈ L) : Kgt n R m lasts W' L' B l 0 := by
  have e : ∀ x, x ∈ W' ∨ x ∈ L' ↔ x ∈ W ∨ x ∈ L := fun x => by
    rw [hW, hL, List.mem_append, List.mem_singleton]
    constructor
    · rintro (h | h | h)
      · exact .inl (.inl h)
      · exact .inl (.inr h)
      · exact .inr h
    · rintro ((h | h) | h)
      · exact .inl h
      · exact .inr (.inl h)
      · exact .inr (.inr h)
  refine ⟨fun x hx => k.wl x ((e x).mp hx), fun b hb => ?_, k.nd, fun x hx j hj hi hr => ?_, fun x hx => (e x).mpr (k.la x hx), (hL l).mpr (.inl rfl)⟩
  · obtain ⟨h1, ⟨a, h2, h3⟩, x, h4, h5⟩ := k.bn b hb
    exact ⟨h1, ⟨a, h2, (e a).mpr h3⟩, x, (hL x).mpr (.inr h4), h5⟩
  · by_cases z : x = l
    · exact absurd (hi z) (Nat.not_lt_zero j)
    · rcases (hL x).mp hx with q | q
      · exact absurd q z
      · exact k.lb x q j hj hr
theorem Kgt.skip {n : Nat} {R : Nat → Nat → Bool} {m : Nat → Option Nat} {lasts W L B : List Nat} {l i : Nat} (k : Kgt n R m lasts W L B l i) (h : R l i = true → i ∈ B) : Kgt n R m lasts W L B l (i + 1) := by
  refine ⟨k.wl, k.bn, k.nd, fun x hx j hj hi hr => ?_, k.la, k.me⟩
  by_cases z : x = l ∧ j = i
  · rw [z.2]
    rw [z.1, z.2] at hr
    exact h hr
  · refine k.lb x hx j hj (fun q => ?_) hr
    have := hi q
    have : j ≠ i := fun y => z ⟨q, y⟩
    omega
theorem Kgt.more {n : Nat} {R : Nat → Nat → Bool} {m : Nat → Option Nat} {lasts W L B : List Nat} {l i a : Nat} (M : Mt n R m) (k : Kgt n R m lasts W L B l i) (hi : i < n) (hB : i ∉ B) (hr : R l i = true) (hm : m i = some a) (hf : FlM n R m a) : Kgt n R m lasts (W ++ [a]) L (B ++ [i]) l (i + 1) := by
  have e : ∀ x, x ∈ W ++ [a] ∨ x ∈ L ↔ x = a ∨ (x ∈ W ∨ x ∈ L) := fun x => by
    rw [List.mem_append, List.mem_singleton]
    constructor
    · rintro ((h | h) | h)
      · exact .inr (.inl h)
      · exact .inl h
      · exact .inr (.inr h)
    · rintro (h | h | h)
      · exact .inl (.inr h)
      · exact .inl (.inl h)
      · exact .inr h
  refine ⟨fun x hx => ?_, fun b hb => ?_, ?_, fun x hx j hj hji hrj => ?_, fun x hx => (e x).mpr (.inr (k.la x hx)), k.me⟩
  · rcases (e x).mp hx with z | z
    · rw [z]
      exact ⟨(M.edge i a hm).2.1, hf, .inr ⟨i, by simp, hm⟩⟩
    · obtain ⟨h1, h2, h3⟩ := k.wl x z
      refine ⟨h1, h2, ?_⟩
      rcases h3 with q | ⟨b, q1, q2⟩
      · exact .inl q
      · exact .inr ⟨b, List.mem_append_left _ q1, q2⟩
  · rcases List.mem_append.mp hb with z | z
    · obtain ⟨h1, ⟨c, h2, h3⟩, h4⟩ := k.bn b z
      exact ⟨h1, ⟨c, h2, (e c).mpr (.inr h3)⟩, h4⟩
    · rw [List.mem_singleton.mp z]
      exact ⟨hi, ⟨a, hm, (e a).mpr (.inl rfl)⟩, l, k.me, hr⟩
  · rw [List.nodup_append]
    refine ⟨k.nd, by simp, fun x hx y hy z => hB ?_⟩
    rw [← List.mem_singleton.mp hy, ← z]
    exact hx
  · by_cases z : x = l ∧ j = i
    · rw [z.2]
      simp
    · refine List.mem_append_left _ (k.lb x hx j hj (fun q => ?_) hrj)
      have := hji q
      have : j ≠ i := fun y => z ⟨q, y⟩
      omega
theorem Kgt.done {n : Nat} {R : Nat → Nat → Bool} {m : Nat → Option Nat} {lasts W L B : List Nat} {l : Nat} (k : Kgt n R m lasts W L B l n) : Kg n R m lasts W L B := ⟨k.wl, k.bn, k.nd, fun x hx j hj hr => k.lb x hx j hj (fun _ => hj) hr, k.la⟩
theorem nodup_lt_len {n : Nat} {B : List Nat} (hn : B.Nodup) (h : ∀ b ∈ B, b < n) : B.length ≤ n := by
  have := nodup_sub_len hn (m := List.range n) fun b hb => List.mem_range.mpr (h b hb)
  rw [List.length_range] at this
  exact this
/-! ### chains -/
inductive Dn (m : Nat → Option Nat) (l : Nat) : Nat → Prop
  | refl : Dn m l l
  | step {t i : Nat} : Dn m l t → m t = some i → Dn m l i
theorem up_lasts {n : Nat} {R : Nat → Nat → Bool} {m : Nat → Option Nat} {lasts : List Nat} (M : Mt n R m) (hl : Lst n m lasts) (tr : ∀ a b c, R a b = true → R b c = true → R a c = true) (ir : ∀ a, R a a = false) : ∀ (k i : Nat), i < n → ((List.range n).filter fun x => R i x).length ≤ k → ∃ l ∈ lasts, Dn m l i := by
  intro k
  induction k with
  | zero =>
    intro i hi h
    refine ⟨i, (hl.mem i).mpr ⟨hi, fun t e => ?_⟩, .refl⟩
    obtain ⟨h1, _, h3⟩ := M.edge t i e
    have : t ∈ (List.range n).filter fun x => R i x := List.mem_filter.mpr ⟨List.mem_range.mpr h1, h3⟩
    rw [List.length_eq_zero_iff.mp (Nat.le_zero.mp h)] at this
    cases this
  | succ k ih =>
    intro i hi h
    by_cases z : ∃ t, m t = some i
    · obtain ⟨t, e⟩ := z
      obtain ⟨h1, _, h3⟩ := M.edge t i e
      have hlt : ((List.range n).filter fun x => R t x).length < ((List.range n).filter fun x => R i x).length := by
        have nd : (t :: (List.range n).filter fun x => R t x).Nodup := by
          refine List.nodup_cons.mpr ⟨fun hm => ?_, List.Pairwise.filter _ List.nodup_range⟩
          have h4 : R t t = true := (List.mem_filter.mp hm).2
          rw [ir t] at h4
          cases h4
        have hs := nodup_sub_len nd (m := (List.range n).filter fun x => R i x) fun x hx => by
          rcases List.mem_cons.mp hx with q | q
          · rw [q]
            exact List.mem_filter.mpr ⟨List.mem_range.mpr h1, h3⟩
          · obtain ⟨q1, q2⟩ := List.mem_filter.mp q
            exact List.mem_filter.mpr ⟨q1, tr _ _ _ h3 q2⟩
        rw [List.length_cons] at hs
        omega
      obtain ⟨l, hl1, hd⟩ := ih t h1 (by omega)
      exact ⟨l, hl1, .step hd e⟩
    · exact ⟨i, (hl.mem i).mpr ⟨hi, fun t e => z ⟨t, e⟩⟩, .refl⟩
theorem below_lt {n : Nat} {R : Nat → Nat → Bool} {a t : Nat} (ha : a < n) (hr : R a t = true) (tr : ∀ a b c, R a b = true → R b c = true → R a c = true) (ir : ∀ a, R a a = false) : ((List.range n).filter fun x => R x a).length < ((List.range n).filter fun x => R x t).length := by
  have nd : (a :: (List.range n).filter fun x => R x a).Nodup := by
    refine List.nodup_cons.mpr ⟨fun hm => ?_, List.Pairwise.filter _ List.nodup_range⟩
    have h4 : R a a = true := (List.mem_filter.mp hm).2
    rw [ir a] at h4
    cases h4
  have hs := nodup_sub_len nd (m := (List.range n).filter fun x => R x t) fun x hx => by
    rcases List.mem_cons.mp hx with q | q
    · rw [q]
      exact List.mem_filter.mpr ⟨List.mem_range.mpr ha, hr⟩
    · obtain ⟨q1, q2⟩ := List.mem_filter.mp q
      exact List.mem_filter.mpr ⟨q1, tr _ _ _ q2 hr⟩
  rw [List.length_cons] at hs
  omega
/-! ### a list for a chain -/
def addL (one : List Nat) (ls : List Nat) : List Nat := ls.foldl (fun o c => if c ∈ o then o else o ++ [c]) one
def lstM (ch : List Nd2) : List Nat := ch.foldl (fun o p => addL o (p.1 ++ p.2)) []
theorem addL_spec : ∀ (ls one : List Nat), one.Nodup → (addL one ls).Nodup ∧ (∃ y, addL one ls = one ++ y) ∧ ∀ c, c ∈ addL one ls ↔ c ∈ one ∨ c ∈ ls
  | [], one, h => ⟨h, ⟨[], by simp [addL]⟩, fun c => by simp [addL]⟩
  | x :: ls, one, h => by
    by_cases hx : x ∈ one
    · have e : addL one (x :: ls) = addL one ls := by simp [addL, hx]
      obtain ⟨h1, h2, h3⟩ := addL_spec ls one h
      rw [e]
      refine ⟨h1, h2, fun c => ?_⟩
      rw [h3 c, List.mem_cons]
      constructor
      · rintro (q | q)
        · exact .inl q
        · exact .inr (.inr q)
      · rintro (q | q | q)
        · exact .inl q
        · exact .inl (by rw [q]; exact hx)
        · exact .inr q
    · have e : addL one (x :: ls) = addL (one ++ [x]) ls := by simp [addL, hx]
      have hn : (one ++ [x]).Nodup := by
        rw [List.nodup_append]
        refine ⟨h, by simp, fun a ha b hb z => hx ?_⟩
        rw [← List.mem_singleton.mp hb, ← z]
        exact ha
      obtain ⟨h1, ⟨y, h2⟩, h3⟩ := addL_spec ls (one ++ [x]) hn
      rw [e]
      refine ⟨h1, ⟨x :: y, by rw [h2]; simp⟩, fun c => ?_⟩
      rw [h3 c, List.mem_cons, List.mem_append, List.mem_singleton]
      constructor
      · rintro ((q | q) | q)
        · exact .inl q
        · exact .inr (.inl q)
        · exact .inr (.inr q)
      · rintro (q | q | q)
        · exact .inl (.inl q)
        · exact .inl (.inr q)
        · exact .inr q
/-- the list one serves the need -/
def srv (one : List Nat) (p : Nd2) : Prop := ∃ x y, one = x ++ (p.2 ++ y) ∧ x.Perm p.1
theorem srv.more {one : List Nat} {p : Nd2} (h : srv one p) (z : List Nat) : srv (one ++ z) p := by
  obtain ⟨x, y, e, pm⟩ := h
  exact ⟨x, y ++ z, by rw [e]; simp, pm⟩
theorem addL_app (one a b : List Nat) : addL one (a ++ b) = addL (addL one a) b := by
  unfold addL
  rw [List.foldl_append]
theorem srv_add {one : List Nat} {p : Nd2} (hp : NdOk p) (hn : one.Nodup) (hs : ∀ c ∈ one, c ∈ p.1) : srv (addL one (p.1 ++ p.2)) p ∧ ∀ c, c ∈ addL one (p.1 ++ p.2) ↔ c ∈ p.1 ++ p.2 := by
  obtain ⟨h1, _, h3⟩ := addL_spec p.1 one hn
  have h4 : ∀ c, c ∈ addL one p.1 ↔ c ∈ p.1 := fun c => by
    rw [h3 c]
    exact ⟨fun q => q.elim (hs c) id, .inr⟩
  have pm : (addL one p.1).Perm p.1 := (List.perm_ext_iff_of_nodup h1 (hp.up.imp fun {a b} z => by omega)).mpr h4
  have e2 : addL one (p.1 ++ p.2) = addL one p.1 ++ p.2 := by
    rw [addL_app]
    match hp2 : p.2 with
    | [] => simp [addL]
    | [r] =>
      have : r ∉ addL one p.1 := fun z => hp.out r (by rw [hp2]; simp) ((h4 r).mp z)
      simp [addL] at this ⊢
      simp [this]
    | a :: b :: l =>
      have := hp.one
      rw [hp2] at this
      exact absurd this (by simp)
  refine ⟨⟨addL one p.1, [], by rw [e2]; simp, pm⟩, fun c => ?_⟩
  rw [e2, List.mem_append, List.mem_append, h4 c]
theorem lstM_snoc (ch : List Nd2) (p : Nd2) : lstM (ch ++ [p]) = addL (lstM ch) (p.1 ++ p.2) := by
  unfold lstM
  rw [List.foldl_append]
  rfl
/-- each behind the one ahead of it -/
def Chn (ch : List Nd2) : Prop := ch.Pairwise fun p q => ahd p q = true
theorem lstM_spec : ∀ (k : Nat) (ch : List Nd2), ch.length = k → (∀ p ∈ ch, NdOk p) → Chn ch → (lstM ch).Nodup ∧ (∀ p ∈ ch, srv (lstM ch) p) ∧ ∀ c, c ∈ lstM ch ↔ ∃ p ∈ ch, c ∈ p.1 ++ p.2 := by
  intro k
  induction k with
  | zero =>
    intro ch h _ _
    rw [List.length_eq_zero_iff.mp h]
    exact ⟨List.nodup_nil, (fun p hp => nomatch hp), fun c => by simp [lstM]⟩
  | succ k ih =>
    intro ch h hok hch
    have hne : ch ≠ [] := fun z => by
      rw [z] at h
      cases h
    obtain ⟨ch', q, rfl⟩ : ∃ ch' q, ch = ch' ++ [q] := ⟨ch.dropLast, ch.getLast hne, (List.dropLast_concat_getLast hne).symm⟩
    have hl : ch'.length = k := by
      rw [List.length_append] at h
      simpa using h
    obtain ⟨c1, _, c3⟩ := List.pairwise_append.mp hch
    obtain ⟨h1, h2, h3⟩ := ih ch' hl (fun p hp => hok p (List.mem_append_left _ hp)) c1
    have hsub : ∀ c ∈ lstM ch', c ∈ q.1 := fun c hc => by
      obtain ⟨p, hp, hcp⟩ := (h3 c).mp hc
      exact (ahd_iff.mp (c3 p hp q (by simp))).2 c hcp
    obtain ⟨g1, g2⟩ := srv_add (hok q (by simp)) h1 hsub
    obtain ⟨g3, ⟨y, g4⟩, _⟩ := addL_spec (q.1 ++ q.2) (lstM ch') h1
    rw [lstM_snoc]
    refine ⟨g3, fun p hp => ?_, fun c => ?_⟩
    · rcases List.mem_append.mp hp with z | z
      · rw [g4]
        exact (h2 p z).more y
      · rw [List.mem_singleton.mp z]
        exact g1
    · rw [g2 c]
      constructor
      · intro z
        exact ⟨q, by simp, z⟩
      · rintro ⟨p, hp, hcp⟩
        rcases List.mem_append.mp hp with z | z
        · exact List.mem_append_left _ ((ahd_iff.mp (c3 p z q (by simp))).2 c hcp)
        · rw [← List.mem_singleton.mp z]
          exact hcp
end My

set_option Elab.async false
set_option linter.all false
set_option maxRecDepth 100000
set_option maxHeartbeats 2000000
namespace My
open PySem PySem.Spec PyProof.Rows L2
section
variable {X : Cx}
theorem ip_addS : PIp X .Add (fun x y H Q => ∃ i j, x = .str i ∧ y = .str j ∧ i.length + j.length ≤ sizeLine ∧ Q (.str (i ++ j)) H) := fun pins s σ H x y v u Q I rx ry h => iop_add_str pins s σ H x y v u Q I rx ry h
theorem mtIndexD (K : PySem.W.Frag) (hu : X.A.units + 65 < cLine) (hK : X.K = K := by rfl) : MtR X "list.index" (rIndexD K) := by
  subst hK
  exact mt_indexD hu
/-- list(e.values()) -/
def tListVals (te : TE) : TE := fun σ H Q => te σ H fun x H1 => ∃ (d : Addr) (kvs : List (Key × V)), x = .ref d ∧ H1 d = some (.dK kvs) ∧ ∀ p, H1 p = none → Q (.ref p) (upd H1 p (.lst (kvs.map (·.2))))
theorem vals_at : ∀ {kvs : List (Key × V)} {vs : List (Key × Value)} {us : List Value}, KV kvs vs → us = vs.map (·.2) → Vals (kvs.map (·.2)) us
  | _, _, _, .nil, e => by
    subst e
    exact .nil
  | _, _, _, .cons h t, e => by
    subst e
    exact .cons h.2 (vals_at t rfl)
theorem pe_listVals {e : Expr} {te : TE} {p apos cpos pos : Pos} (hc : X.calm = true) (he : PE X e te) (hg : Gl X "list") (hm : X.mg "list" = none) (hv : bootBuiltins "list" = some (.type "list") := by decide +kernel) (hbase : attributeBase e "values" X.env (eval e X.env) = eval e X.env := by rfl) (hline : (apos.endLine == cpos.line) = true := by rfl)
    (hs : starEach [.Call (.Attribute e "values" apos) [] [] cpos] X.env = (false, eval (.Call (.Attribute e "values" apos) [] [] cpos) X.env) :: starEach [] X.env := by rfl) :
    PE X (.Call (.Name "list" p) [.Call (.Attribute e "values" apos) [] [] cpos] [] pos) (tListVals te) := by
  refine ⟨fun pins s σ H Q I hq => ?_⟩
  refine wpAny_Call_Name_kw (ld_blt I hg hm hv ?_)
  refine PyProof.Rows.callWith_type1 ?_ hs rfl
  rw [hs]
  show wpAny _ _ (spliced ((false, eval (.Call (.Attribute e "values" apos) [] [] cpos) X.env) :: backTo pos (starEach [] X.env))) _ _ s
  refine Calls.spliced_cons ?_
  refine wpAny_Call_method (T := "dict") (id := "dict.values") hbase rfl hline F.plainAttrs_dict F.slot_dict_values F.type_dict_values (thn (he.run pins s σ H _ I hq) fun u s1 ⟨x, H1, I1, rx, d, kvs, ex, hd, q⟩ => ?_)
  subst ex
  obtain rfl : u = Value.ref d := rx
  obtain ⟨hz, hs0, vs, kv, hdo⟩ := I1.hok d _ hd
  obtain ⟨ep, hat⟩ := hdo.dictAt
  have lk : kvs.length = vs.length := Paired.length kv
  have I2 : Inv X pins σ H1 { s1 with heap := s1.heap.push { cls := .type "dict_values", data := .fields #[.ref d] } } := I1.kept (t' := s1.toks) fun b ob q => Heap.get?_push_of_some _ q
  refine ⟨hdo.typeIs, hdo.mapOf.noDict, ?_⟩
  show wpAny _ _ (callWith cpos (.builtin "dict.values") [.ref d] [] []) _ X.xe s1
  refine method_meetsIn F.slot_dict_values F.entry_dict_values rfl (PySem.evalArgs_none ⟨rfl, hdo.typeIs, F.args_dict_values_1 _, _, meets_dict_values (mixKind X.prog X.w) d hs0, ⟨vs, hdo⟩, ?_⟩)
  refine Calls.spliced_nil ?_
  refine PySem.W.kdl_call (PySem.W.kdl_values (knd := mixKind X.prog X.w) (kvs := vs) (ep := ep)) (I1.ok.hd hc) ⟨⟨_, Heap.get?_push_size _ rfl, rfl, rfl⟩, hat.push _⟩ (by omega) fun h' tk acc c' hk hD hacc => ?_
  have ev : acc.toList = vs.map (·.2) := PySem.W.kdl_vals_eq _ (by rw [Array.length_toList]; exact hacc.1) fun j v e => hacc.2 j v (by rw [← Array.getElem?_toList]; exact e)
  have J := I2.laid (t' := tk) (a := _) (o := .lst (kvs.map (·.2))) hk (Nat.le_refl _) (show ObjOk X.prog X.w _ _ _ (.lst (kvs.map (·.2))) from ⟨by rw [List.length_map]; exact hz, acc.toList, c', vals_at kv ev, by rw [Array.toArray_toList]; exact hD⟩)
  exact ⟨.ref _, _, J, rfl, q _ (I2.hok.fresh (Nat.le_refl _))⟩
end
/-! ### tuple(ys[x] for x in list of places) -/
section
variable {X : Cx} {pins : List (Addr × Obj)} {σ : L2.St}
def IntAt (ns : List Int) : Nat → Value → Prop := fun i v => ∃ n t, ns[i]? = some n ∧ v = .int n t
theorem src_list {G : Hp} {P d : Addr} {ns : List Int} (hT : GxR.TabG G P) (hd : G d = some (.lst (ns.map V.int))) : Src X pins σ G P (.ref d) ns.length (IntAt ns) := by
  intro u1 I Q E h
  obtain ⟨its, rv, pl, _⟩ := I.list (show SqL X.K G d (ns.map V.int) from .inl (.inl hd))
  have hdl : d < u1.heap.objs.size := pl.lt
  have hdP : d ≠ P := fun z => by
    obtain ⟨ps, hP, _⟩ := hT
    rw [z, hP] at hd
    cases hd
  have hl : its.length = ns.length := by
    have := rv.length
    rw [List.length_map] at this
    exact this.symm
  refine wpAny_pyIter_list pl.isList ?_
  refine h _ (fun i g => g.IsListIter u1.heap.objs.size d i ∧ g.IsList d its.toArray) [d] (fun A' hh => ?_) ⟨⟨_, Heap.get?_push_size _ rfl, rfl, rfl⟩, (pl.keeps fun b o e => Heap.get?_push_of_some _ e).isList⟩ (fun b hb => ?_)
  · have W := Walks.list hh u1.heap.objs.size d (Nat.ne_of_lt hdl) its.toArray (prog := X.prog) (w := X.w)
    have hls : its.toArray.size = ns.length := by rw [List.size_toArray, hl]
    rw [hls] at W
    refine W.mono_item fun i v hi hv => ?_
    have hv2 : its[i]? = some v := by simpa using hv
    obtain ⟨n, hn⟩ : ∃ n, ns[i]? = some n := ⟨ns[i], List.getElem?_eq_getElem hi⟩
    obtain ⟨w, hw, t, rfl⟩ := rv.get (show (ns.map V.int)[i]? = some (.int n) by rw [List.getElem?_map, hn]; rfl)
    rw [hw] at hv2
    cases hv2
    exact ⟨n, t, hn, rfl⟩
  · rw [List.mem_singleton.mp hb]
    exact ⟨hdl, hdP⟩
theorem elt_itm {G : Hp} {P ra : Addr} {scope : Scope} {x rn : Str} {p1 p2 p3 : Pos} {j : Nat} {ns ys : List Int} (hT : GxR.TabG G P)
    (hN2 : X.N[j]? = some rn) (hv2 : σ[j]? = some (some (.ref ra))) (hk2 : X.env.scope.names.lookup rn = some .cell) (hra : G ra = some (.lst (ys.map V.int))) (hin : ∀ n ∈ ns, 0 ≤ n ∧ n < ys.length)
    (hf : scope.kind = .function) (hx : scope.names.lookup x = some .local) (hr : (rn, NameKind.free) ∈ scope.names) (hrf : scope.names.lookup rn = some .free)
    (hd1 : (x == ("__debug__" : Str)) = false := by decide) (hd4 : (rn == ("__debug__" : Str)) = false := by decide) (hd5 : (rn == ("__classdict__" : Str)) = false := by decide) :
    EltQ X σ G P scope x (.Subscript (.Name rn p1) (.Name x p2) p3) (IntAt ns) (fun l w => ∃ n t, ns[l]? = some n ∧ w = .int (ys.getD n.toNat 0) t) := by
  intro pins u1 I ce B E' l v u2 m2 hB hs hcl hP hn hm hk3
  obtain ⟨n, t, hc, rfl⟩ := hP
  obtain ⟨ur, cl2, ru2, hl2, hcell2⟩ := capt I hN2 hv2 hk2 hr
  cases ru2
  obtain ⟨h0, h1⟩ := hin n (List.mem_of_getElem? hc)
  obtain ⟨its, rv, pl, hz⟩ := I.list (show SqL X.K G ra (ys.map V.int) from .inl (.inl hra))
  have hlt : n.toNat < ys.length := by omega
  obtain ⟨w, hw, tw, rfl⟩ := rv.get (show (ys.map V.int)[n.toNat]? = some (.int (ys.getD n.toNat 0)) by rw [List.getElem?_map, List.getD_eq_getElem?_getD, List.getElem?_eq_getElem hlt]; rfl)
  have pl2 : PlainL u2.heap ra its.toArray := pl.at fun o e => hk3 ra o (fun z => by
    obtain ⟨ps, hPp, _⟩ := hT
    rw [z, hPp] at hra
    cases hra) e
  have kf : ce.scope.kind = .function := by rw [hs]; exact hf
  refine PyProof.Rows.Subscript_ ?_
  refine wpAny_Name (wpAny_loadName_free kf (show ce.scope.names.lookup rn = some .free by rw [hs]; exact hrf) (by rw [hcl]; exact hl2) (cell_kept I hT hcell2 hk3) ?_ hd5) hd4
  refine wpAny_Name (wpAny_loadName_local kf (show ce.scope.names.lookup x = some .local by rw [hs]; exact hx) hn hm ?_) hd1
  have h63 := line63
  rw [List.length_map] at hz
  refine item_listR pl2.isList h0 (by omega) (by simpa using hw) ⟨⟨n, tw, hc, rfl⟩, GxR.keeps_refl _⟩ (by rfl)
end
def DItm (P : Addr) (j : Nat) : V → L2.St → Hp → List V → Prop := fun v σ G xs => GxR.TabG G P ∧ ∃ (d ra : Addr) (ns ys : List Int), v = .ref d ∧ ns.length ≤ sizeLine ∧ G d = some (.lst (ns.map V.int)) ∧ σ[j]? = some (some (.ref ra)) ∧ G ra = some (.lst (ys.map V.int)) ∧ (∀ n ∈ ns, 0 ≤ n ∧ n < ys.length) ∧ xs = ns.map fun n => V.int (ys.getD n.toNat 0)
theorem hd_itm {X : Cx} {P : Addr} {scope : Scope} {x rn : Str} {p1 p2 p3 : Pos} {j : Nat} (hN2 : X.N[j]? = some rn) (hk2 : X.env.scope.names.lookup rn = some .cell)
    (hf : scope.kind = .function) (hx : scope.names.lookup x = some .local) (hrf : scope.names.lookup rn = some .free) (hr : (rn, NameKind.free) ∈ scope.names)
    (hd1 : (x == ("__debug__" : Str)) = false := by decide) (hd4 : (rn == ("__debug__" : Str)) = false := by decide) (hd5 : (rn == ("__classdict__" : Str)) = false := by decide) :
    ∀ (pins : List (Addr × Obj)) (σ : L2.St) (G : Hp) (v : V) (xs : List V), DItm P j v σ G xs → xs.length ≤ sizeLine ∧ ∃ (Pf F : Nat → Value → Prop), (∀ u, RelV v u → Src X pins σ G P u xs.length Pf) ∧
      EltQ X σ G P scope x (.Subscript (.Name rn p1) (.Name x p2) p3) Pf F ∧ ∀ (l : Nat) (y : Value) (z : V), xs[l]? = some z → F l y → RelV z y := by
  intro pins σ G v xs h
  obtain ⟨hT, d, ra, ns, ys, rfl, hz, hd, hv2, hra, hin, rfl⟩ := h
  refine ⟨by rw [List.length_map]; exact hz, _, _, fun u ru => ?_, elt_itm (ns := ns) hT hN2 hv2 hk2 hra hin hf hx hr hrf hd1 hd4 hd5, fun l y z h1 h2 => ?_⟩
  · cases ru
    rw [List.length_map]
    exact src_list hT hd
  · obtain ⟨n, t, hc, rfl⟩ := h2
    rw [List.getElem?_map, hc] at h1
    cases h1
    exact ⟨t, rfl⟩
end My

set_option Elab.async false
set_option linter.all false
set_option maxRecDepth 100000
set_option maxHeartbeats 2000000
namespace My
open PySem PySem.Spec PyProof.Rows L2
/-! ### needs as data -/
def ndD (p : Nd2) : PyData := .tuple [.str (txS p.1), .str (txS p.2)]
structure NdS (p : Nd2) : Prop where
  l1 : p.1.length ≤ 26
  l2 : p.2.length ≤ 26
  az : ∀ c ∈ p.1 ++ p.2, c ≤ 122
theorem lay_txt {l : List Nat} (h : ∀ c ∈ l, c ≤ 122) : PyData.canLay0 (.str (txS l)) = true := by
  show (txS l).cps.all (· < 0x110000) = true
  rw [Array.all_eq_true']
  intro c hc
  have := h c (by simpa using hc)
  exact decide_eq_true (by omega)
theorem lay_nd {p : Nd2} (h : NdS p) : PyData.canLay0 (ndD p) = true := by
  have h1 := lay_txt (l := p.1) fun c hc => h.az c (List.mem_append_left _ hc)
  have h2 := lay_txt (l := p.2) fun c hc => h.az c (List.mem_append_right _ hc)
  show ((PyData.canLay0 (.str (txS p.1))) && ((PyData.canLay0 (.str (txS p.2))) && true)) = true
  rw [h1, h2]
  rfl
theorem depth_nd (p : Nd2) : (ndD p).depth = 1 := by simp [ndD, PyData.depth, PyData.depthAll]
theorem shaped_nd {p : Nd2} (h : NdS p) : SeqAt.shaped (ndD p) = true := by
  unfold SeqAt.shaped
  rw [lay_nd h, depth_nd]
  rfl
theorem lay_nds : ∀ {nd : List Nd2}, (∀ p ∈ nd, NdS p) → PyData.canLayAll0 (nd.map ndD) = true
  | [], _ => by simp [PyData.canLayAll0]
  | p :: nd, h => by
    rw [List.map_cons]
    show (PyData.canLay0 (ndD p) && PyData.canLayAll0 (nd.map ndD)) = true
    rw [lay_nd (h p (by simp)), lay_nds fun q hq => h q (by simp [hq])]
    rfl
theorem depth_nds : ∀ nd : List Nd2, PyData.depthAll (nd.map ndD) ≤ 1
  | [] => by simp [PyData.depthAll]
  | p :: nd => by
    have := depth_nds nd
    simp only [List.map_cons, PyData.depthAll, depth_nd]
    omega
theorem shaped_nds {nd : List Nd2} (h : ∀ p ∈ nd, NdS p) : SeqAt.shaped (.list (nd.map ndD)) = true := by
  unfold SeqAt.shaped
  have h1 : PyData.canLay0 (.list (nd.map ndD)) = true := lay_nds h
  have h2 := depth_nds nd
  rw [h1, Bool.true_and]
  refine decide_eq_true ?_
  simp only [PyData.depth]
  omega
theorem eqv_nd (p q : Nd2) : PyData.eqv (ndD p) (ndD q) = decide (p = q) := by
  show ((txS p.1 == txS q.1) && ((txS p.2 == txS q.2) && true)) = _
  have key : ∀ a b : List Nat, (txS a == txS b) = decide (a = b) := fun a b => by
    by_cases h : a = b
    · rw [h]
      simp
    · rw [beq_eq_false_iff_ne.mpr fun z => h (txS_inj z), decide_eq_false h]
  rw [key, key, Bool.and_true, Bool.eq_iff_iff, Bool.and_eq_true, decide_eq_true_eq, decide_eq_true_eq, decide_eq_true_eq]
  exact ⟨fun h => Prod.ext h.1 h.2, fun h => by rw [h]; exact ⟨rfl, rfl⟩⟩
theorem eqv_nds : ∀ (a b : List Nd2), PyData.eqv (.list (a.map ndD)) (.list (b.map ndD)) = decide (a = b)
  | [], [] => rfl
  | [], q :: b => by
    show false = _
    simp
  | p :: a, [] => by
    show false = _
    simp
  | p :: a, q :: b => by
    have ih : PyData.eqv (.list (a.map ndD)) (.list (b.map ndD)) = decide (a = b) := eqv_nds a b
    have e1 : PyData.eqv (.list ((p :: a).map ndD)) (.list ((q :: b).map ndD)) = (PyData.eqv (ndD p) (ndD q) && PyData.eqv (.list (a.map ndD)) (.list (b.map ndD))) := rfl
    rw [e1, ih, eqv_nd, Bool.eq_iff_iff, Bool.and_eq_true, decide_eq_true_eq, decide_eq_true_eq, decide_eq_true_eq]
    exact ⟨fun h => by rw [h.1, h.2], fun h => by injection h with h1 h2; exact ⟨h1, h2⟩⟩
/-- the needs stand at these places -/
inductive NA (H : Hp) : List Addr → List Nd2 → Prop
  | nil : NA H [] []
  | cons {a : Addr} {p : Nd2} {as : List Addr} {nd : List Nd2} : H a = some (.tup [tx p.1, tx p.2]) → NA H as nd → NA H (a :: as) (p :: nd)
theorem NA.len {H : Hp} {as : List Addr} {nd : List Nd2} (h : NA H as nd) : as.length = nd.length := by
  induction h with
  | nil => rfl
  | cons _ _ ih => rw [List.length_cons, List.length_cons, ih]
theorem NA.at {H : Hp} {as : List Addr} {nd : List Nd2} (h : NA H as nd) : ∀ {i : Nat} {p : Nd2}, nd[i]? = some p → ∃ a, as[i]? = some a ∧ H a = some (.tup [tx p.1, tx p.2]) := by
  induction h with
  | nil => intro i p e; cases e
  | cons h1 _ ih =>
    intro i p e
    cases i with
    | zero =>
      cases e
      exact ⟨_, rfl, h1⟩
    | succ i => exact ih (i := i) (p := p) e
theorem NA.mono {H H' : Hp} {as : List Addr} {nd : List Nd2} (h : NA H as nd) (k : ∀ b xs, H b = some (.tup xs) → H' b = some (.tup xs)) : NA H' as nd := by
  induction h with
  | nil => exact .nil
  | cons h1 _ ih => exact .cons (k _ _ h1) ih
theorem NA.snoc {H : Hp} {as : List Addr} {nd : List Nd2} (h : NA H as nd) {a : Addr} {p : Nd2} (ha : H a = some (.tup [tx p.1, tx p.2])) : NA H (as ++ [a]) (nd ++ [p]) := by
  induction h with
  | nil => exact .cons ha .nil
  | cons h1 _ ih => exact .cons h1 ih
theorem NA.dp {K : PySem.W.Frag} {H : Hp} {as : List Addr} {nd : List Nd2} (h : NA H as nd) : DpAll K H (as.map V.ref) (nd.map ndD) := by
  induction h with
  | nil => exact .nil
  | cons h1 _ ih => exact .cons (.tup (.inl (.inl h1)) (.cons (.str _) (.cons (.str _) .nil))) ih
def Rn (nd : List Nd2) (a j : Nat) : Bool := match nd[a]?, nd[j]? with
  | some p, some q => ahd p q
  | _, _ => false
theorem Rn_at {nd : List Nd2} {a j : Nat} {p q : Nd2} (h1 : nd[a]? = some p) (h2 : nd[j]? = some q) : Rn nd a j = ahd p q := by
  unfold Rn
  rw [h1, h2]
theorem Rn_open {nd : List Nd2} {a j : Nat} (h : Rn nd a j = true) : ∃ p q, nd[a]? = some p ∧ nd[j]? = some q ∧ ahd p q = true := by
  unfold Rn at h
  cases h1 : nd[a]? with
  | none => rw [h1] at h; cases h
  | some p =>
    cases h2 : nd[j]? with
    | none => rw [h1, h2] at h; cases h
    | some q =>
      rw [h1, h2] at h
      exact ⟨p, q, rfl, rfl, h⟩
theorem Rn_tr {nd : List Nd2} (hok : ∀ p ∈ nd, NdOk p) : ∀ a b c, Rn nd a b = true → Rn nd b c = true → Rn nd a c = true := fun a b c h1 h2 => by
  obtain ⟨p, q, e1, e2, e3⟩ := Rn_open h1
  obtain ⟨q', r, f1, f2, f3⟩ := Rn_open h2
  rw [e2] at f1
  cases f1
  rw [Rn_at e1 f2]
  exact ahd_trans (hok p (List.mem_of_getElem? e1)) (hok q (List.mem_of_getElem? e2)) e3 f3
theorem Rn_ir (nd : List Nd2) : ∀ a, Rn nd a a = false := fun a => by
  refine eq_false_of_ne_true fun h => ?_
  obtain ⟨p, q, e1, e2, e3⟩ := Rn_open h
  rw [e1] at e2
  cases e2
  exact (ahd_iff.mp e3).1 rfl
/-! ### dicts by numbers -/
abbrev nK (j : Nat) : Key := Sum.inl (j : Int)
theorem nK_inj {i j : Nat} (h : nK i = nK j) : i = j := by
  have h2 : (i : Int) = (j : Int) := Sum.inl.inj h
  omega
structure AhD (kvs : List (Key × V)) (m : Nat → Option Nat) : Prop where
  get : ∀ j : Nat, valV kvs (nK j) = (m j).map fun a => V.int (a : Int)
  key : ∀ q ∈ kvs, ∃ j a : Nat, q = (nK j, V.int (a : Int)) ∧ m j = some a
  nd : (kvs.map (·.1)).Nodup
theorem AhD.nil : AhD [] (fun _ => none) := ⟨fun _ => rfl, (fun q hq => nomatch hq), List.nodup_nil⟩
theorem putK_keys {kvs : List (Key × V)} {k : Key} {v : V} (h : (kvs.map (·.1)).Nodup) : ((putK kvs k v).map (·.1)).Nodup := by
  unfold putK
  split
  · rw [List.map_map]
    have : (kvs.map ((fun q : Key × V => q.1) ∘ fun kv => if kv.1 = k then (kv.1, v) else kv)) = kvs.map (·.1) := List.map_congr_left fun q _ => by
      show (if q.1 = k then (q.1, v) else q).1 = q.1
      split <;> rfl
    rw [this]
    exact h
  · rename_i hn
    rw [List.map_append, List.nodup_append]
    refine ⟨h, by simp, fun a ha b hb z => hn ?_⟩
    obtain ⟨q, hq, rfl⟩ := List.mem_map.mp ha
    rw [List.any_eq_true]
    refine ⟨q, hq, decide_eq_true ?_⟩
    rw [z]
    simpa using hb
theorem putK_mem {kvs : List (Key × V)} {k : Key} {v : V} {q : Key × V} (h : q ∈ putK kvs k v) : q = (k, v) ∨ (q ∈ kvs ∧ q.1 ≠ k) := by
  unfold putK at h
  split at h
  · obtain ⟨r, hr, e⟩ := List.mem_map.mp h
    by_cases z : r.1 = k
    · rw [if_pos z] at e
      exact .inl (by rw [← e, z])
    · rw [if_neg z] at e
      exact .inr (by rw [← e]; exact ⟨hr, z⟩)
  · rename_i hn
    rcases List.mem_append.mp h with z | z
    · refine .inr ⟨z, fun y => hn ?_⟩
      rw [List.any_eq_true]
      exact ⟨q, z, decide_eq_true y⟩
    · exact .inl (List.mem_singleton.mp z)
theorem AhD.put {kvs : List (Key × V)} {m : Nat → Option Nat} (h : AhD kvs m) (j a : Nat) : AhD (putK kvs (nK j) (.int (a : Int))) (putM m j a) := by
  refine ⟨fun i => ?_, fun q hq => ?_, putK_keys h.nd⟩
  · rw [valV_put]
    by_cases z : i = j
    · rw [z, if_pos rfl, putM_at]
      rfl
    · rw [if_neg fun y => z (nK_inj y), putM_ne z]
      exact h.get i
  · rcases putK_mem hq with z | ⟨z, y⟩
    · exact ⟨j, a, z, putM_at⟩
    · obtain ⟨i, b, e1, e2⟩ := h.key q z
      refine ⟨i, b, e1, ?_⟩
      rw [putM_ne fun x => y (by rw [e1, x])]
      exact e2
theorem AhD.len {kvs : List (Key × V)} {m : Nat → Option Nat} {n : Nat} (h : AhD kvs m) (hn : ∀ j a, m j = some a → j < n) : kvs.length ≤ n := by
  have key : ∀ l : List (Key × V), (∀ q ∈ l, ∃ j : Nat, q.1 = nK j ∧ j < n) → (l.map (·.1)).Nodup → ∃ js : List Nat, js.length = l.length ∧ js.Nodup ∧ (∀ j ∈ js, j < n) ∧ ∀ j ∈ js, nK j ∈ l.map (·.1) := by
    intro l
    induction l with
    | nil => exact fun _ _ => ⟨[], rfl, List.nodup_nil, (fun j hj => nomatch hj), fun j hj => nomatch hj⟩
    | cons q l ih =>
      intro h1 h2
      obtain ⟨h3, h4⟩ := List.nodup_cons.mp h2
      obtain ⟨js, g1, g2, g3, g4⟩ := ih (fun r hr => h1 r (by simp [hr])) h4
      obtain ⟨j, e, hj⟩ := h1 q (by simp)
      refine ⟨j :: js, by rw [List.length_cons, List.length_cons, g1], List.nodup_cons.mpr ⟨fun z => h3 ?_, g2⟩, fun i hi => ?_, fun i hi => ?_⟩
      · have := g4 j z
        rw [← e] at this
        exact this
      · rcases List.mem_cons.mp hi with z | z
        · rw [z]; exact hj
        · exact g3 i z
      · rcases List.mem_cons.mp hi with z | z
        · rw [z, List.map_cons, ← e]
          exact List.mem_cons_self
        · exact List.mem_cons_of_mem _ (g4 i z)
  obtain ⟨js, g1, g2, g3, _⟩ := key kvs (fun q hq => by
    obtain ⟨j, a, e, hm⟩ := h.key q hq
    exact ⟨j, by rw [e], hn j a hm⟩) h.nd
  have := nodup_lt_len g2 g3
  omega
theorem AhD.vals {kvs : List (Key × V)} {m : Nat → Option Nat} (h : AhD kvs m) (a : Nat) : inV (.int (a : Int)) (kvs.map (·.2)) = true ↔ ∃ j, m j = some a := by
  have key : ∀ l : List V, (∀ v ∈ l, ∃ b : Nat, v = .int (b : Int)) → (inV (.int (a : Int)) l = true ↔ V.int (a : Int) ∈ l) := by
    intro l
    induction l with
    | nil => intro _; simp [inV]
    | cons v l ih =>
      intro hl
      obtain ⟨b, rfl⟩ := hl v (by simp)
      have ih2 := ih fun u hu => hl u (by simp [hu])
      show (((b : Int) == (a : Int)) || inV (.int (a : Int)) l) = true ↔ _
      rw [Bool.or_eq_true, ih2, List.mem_cons, beq_iff_eq]
      constructor
      · rintro (z | z)
        · exact .inl (by rw [z])
        · exact .inr z
      · rintro (z | z)
        · injection z with z
          exact .inl z.symm
        · exact .inr z
  rw [key _ fun v hv => ?_]
  · rw [List.mem_map]
    constructor
    · rintro ⟨q, hq, e⟩
      obtain ⟨j, b, e1, e2⟩ := h.key q hq
      rw [e1] at e
      injection e with e
      exact ⟨j, by rw [e2]; congr 1; omega⟩
    · rintro ⟨j, e⟩
      have g := h.get j
      rw [e] at g
      unfold valV at g
      obtain ⟨q, hq, e2⟩ := Option.map_eq_some_iff.mp g
      exact ⟨q, List.mem_of_find?_eq_some hq, e2⟩
  · obtain ⟨q, hq, e⟩ := List.mem_map.mp hv
    obtain ⟨j, b, e1, e2⟩ := h.key q hq
    exact ⟨b, by rw [← e, e1]⟩
structure TrD (kvs : List (Key × V)) (T : List Nat) : Prop where
  has : ∀ j : Nat, (valV kvs (nK j)).isSome = decide (j ∈ T)
  len : kvs.length ≤ T.length
theorem TrD.nil : TrD [] [] := ⟨fun j => by simp [valV_nil], Nat.le_refl _⟩
theorem TrD.put {kvs : List (Key × V)} {T : List Nat} (h : TrD kvs T) (j : Nat) (v : V) : TrD (putK kvs (nK j) v) (T ++ [j]) := by
  refine ⟨fun i => ?_, ?_⟩
  · rw [valV_put]
    by_cases z : i = j
    · rw [z, if_pos rfl]
      simp
    · rw [if_neg fun y => z (nK_inj y), h.has i]
      simp [z]
  · rw [List.length_append]
    have := h.len
    unfold putK
    split
    · rw [List.length_map]
      omega
    · rw [List.length_append]
      simp
      exact this
end My

set_option Elab.async false
set_option linter.all false
set_option maxRecDepth 100000
set_option maxHeartbeats 2000000
namespace My
open PySem PySem.Spec PyProof.Rows L2
theorem units65 {A : Around} {k : Nat} (hr : Room k A) : A.units + 65 < cLine := by
  have := hr.un
  omega
/-! ### needs in a list; what stays -/
def NdL (H : Hp) (na : Addr) (nd : List Nd2) : Prop := ∃ as : List Addr, H na = some (.lst (as.map V.ref)) ∧ NA H as nd
def Off (L : List Addr) (H : Hp) : Prop := ∀ b xs, (H b = some (.tup xs) ∨ H b = some (.lst xs)) → b ∉ L
theorem Off.nil {H : Hp} : Off [] H := fun b xs _ h => nomatch h
theorem Off.cons {L : List Addr} {H : Hp} {a : Addr} {kvs : List (Key × V)} (o : Off L H) (h : H a = some (.dK kvs)) : Off (a :: L) H := fun b xs hb hm => by
  rcases List.mem_cons.mp hm with e | e
  · rw [e, h] at hb
    rcases hb with z | z <;> cases z
  · exact o b xs hb e
theorem TG.off {Ps : List Addr} {H : Hp} (t : TG Ps H) : Off Ps H := fun b xs h => by
  rcases h with h | h
  · exact t.not h fun q z => nomatch z
  · exact t.not h fun q z => nomatch z
theorem NdL.sx {L : List Addr} {H H' : Hp} {na : Addr} {nd : List Nd2} (h : NdL H na nd) (o : Off L H) (s : Sx L H H') : NdL H' na nd := by
  obtain ⟨as, h1, h2⟩ := h
  exact ⟨as, s _ _ (o na _ (.inr h1)) h1, h2.mono fun b xs hb => s b _ (o b xs (.inl hb)) hb⟩
theorem NdL.same {H H' : Hp} {na : Addr} {nd : List Nd2} (h : NdL H na nd) (s : Same H H') : NdL H' na nd := h.sx Off.nil (Same.sx s)
theorem Sx.more {L L' : List Addr} {H H' : Hp} (s : Sx L H H') (h : ∀ b ∈ L, b ∈ L') : Sx L' H H' := fun b o nb e => s b o (fun z => nb (h b z)) e
theorem Sx.cons {L : List Addr} {H H' : Hp} (s : Sx L H H') (a : Addr) : Sx (a :: L) H H' := s.more fun b h => List.mem_cons_of_mem _ h
theorem Sx.updL {L : List Addr} {H H1 : Hp} {a : Addr} {o : HO} (s : Sx (a :: L) H H1) : Sx (a :: L) H (upd H1 a o) := fun b x nb e => keep_ne (s b x nb e) fun z => nb (by rw [z]; exact List.mem_cons_self)
theorem Sx.updM {L : List Addr} {H H1 : Hp} {a : Addr} {o : HO} (s : Sx L H H1) (h : a ∈ L) : Sx L H (upd H1 a o) := fun b x nb e => keep_ne (s b x nb e) fun z => nb (by rw [z]; exact h)
theorem TG.upd {Ps : List Addr} {H : Hp} {a : Addr} {o : HO} (t : TG Ps H) (h : a ∉ Ps) : TG Ps (L2.upd H a o) := fun P hP => by
  obtain ⟨ps, h1, r⟩ := t P hP
  exact ⟨ps, keep_ne h1 fun z => h (z ▸ hP), r⟩
/-- how far the look for one behind has gone -/
structure Fbi (n : Nat) (R : Nat → Nat → Bool) (m : Nat → Option Nat) (a : Nat) (T T' : List Nat) (i : Nat) : Prop where
  sub : ∀ t ∈ T, t ∈ T'
  all : ∀ j, j < i → R a j = true → j ∈ T'
  new : ∀ t ∈ T', t ∉ T → ∃ b, m t = some b ∧ ∀ j, j < n → R b j = true → j ∈ T'
theorem Fbi.zero {n : Nat} {R : Nat → Nat → Bool} {m : Nat → Option Nat} {a : Nat} {T : List Nat} : Fbi n R m a T T 0 := ⟨fun _ h => h, (fun j h => absurd h (Nat.not_lt_zero j)), fun t h1 h2 => absurd h1 h2⟩
theorem Fbi.done {n : Nat} {R : Nat → Nat → Bool} {m : Nat → Option Nat} {a : Nat} {T T' : List Nat} (h : Fbi n R m a T T' n) : FbF n R m a T T' := ⟨h.sub, h.all, h.new⟩
theorem Fbi.skip {n : Nat} {R : Nat → Nat → Bool} {m : Nat → Option Nat} {a i : Nat} {T T' : List Nat} (h : Fbi n R m a T T' i) (hi : R a i = true → i ∈ T') : Fbi n R m a T T' (i + 1) := by
  refine ⟨h.sub, fun j hj hr => ?_, h.new⟩
  by_cases z : j = i
  · rw [z] at hr ⊢
    exact hi hr
  · exact h.all j (by omega) hr
theorem Fbi.deep {n : Nat} {R : Nat → Nat → Bool} {m : Nat → Option Nat} {a b i : Nat} {T T1 T' : List Nat} (h : Fbi n R m a T T1 i) (hm : m i = some b) (f : FbF n R m b (T1 ++ [i]) T') : Fbi n R m a T T' (i + 1) := by
  have s1 : ∀ t ∈ T1, t ∈ T' := fun t ht => f.sub t (List.mem_append_left _ ht)
  have si : i ∈ T' := f.sub i (by simp)
  refine ⟨fun t ht => s1 t (h.sub t ht), fun j hj hr => ?_, fun t ht hn => ?_⟩
  · by_cases z : j = i
    · rw [z]
      exact si
    · exact s1 j (h.all j (by omega) hr)
  · by_cases z : t ∈ T1
    · obtain ⟨c, e, hc⟩ := h.new t z hn
      exact ⟨c, e, fun j hj hr => s1 j (hc j hj hr)⟩
    · by_cases z2 : t = i
      · rw [z2]
        exact ⟨b, hm, f.all⟩
      · exact f.new t ht fun z3 => by
          rcases List.mem_append.mp z3 with q | q
          · exact z q
          · exact z2 (List.mem_singleton.mp q)
end My

set_option Elab.async false
set_option linter.all false
set_option maxRecDepth 100000
set_option maxHeartbeats 2000000
namespace My
open PySem PySem.Spec PyProof.Rows L2
/-! ### chains -/
theorem Dn_none {m : Nat → Option Nat} {l i : Nat} (h : Dn m l i) (hm : m l = none) : i = l := by
  induction h with
  | refl => rfl
  | step _ e ih =>
    rw [ih, hm] at e
    cases e
theorem Dn_some {m : Nat → Option Nat} {l b i : Nat} (h : Dn m l i) (hm : m l = some b) : i = l ∨ Dn m b i := by
  induction h with
  | refl => exact .inl rfl
  | step _ e ih =>
    rcases ih with z | z
    · rw [z, hm] at e
      cases e
      exact .inr .refl
    · exact .inr (.step z e)
structure ChT (nd : List Nd2) (m : Nat → Option Nat) (last : Nat) (ch : List Nd2) : Prop where
  chn : Chn ch
  mem : ∀ p ∈ ch, p ∈ nd
  all : ∀ i p, Dn m last i → nd[i]? = some p → p ∈ ch
/-- a chain on its way, from its end -/
structure ChI (nd : List Nd2) (m : Nat → Option Nat) (last l : Nat) (ch : List Nd2) : Prop where
  pw : ch.Pairwise fun p q => ahd q p = true
  mem : ∀ p ∈ ch, p ∈ nd
  lt : l < nd.length
  low : ∀ p ∈ ch, ∀ q, nd[l]? = some q → p = q ∨ ahd q p = true
  all : ∀ i p, Dn m last i → nd[i]? = some p → p ∈ ch ∨ Dn m l i
  me : ∀ q, nd[l]? = some q → q ∈ ch
theorem ChI.start {nd : List Nd2} {m : Nat → Option Nat} {l : Nat} {p : Nd2} (h : nd[l]? = some p) : ChI nd m l l [p] := by
  refine ⟨List.pairwise_singleton _ _, fun q hq => ?_, (List.getElem?_eq_some_iff.mp h).1, fun q hq r hr => ?_, fun i q hd _ => .inr hd, fun q hq => ?_⟩
  · rw [List.mem_singleton.mp hq]
    exact List.mem_of_getElem? h
  · rw [h] at hr
    cases hr
    exact .inl (List.mem_singleton.mp hq)
  · rw [h] at hq
    cases hq
    simp
theorem ChI.next {nd : List Nd2} {m : Nat → Option Nat} {last l b : Nat} {ch : List Nd2} {p : Nd2} (hok : ∀ p ∈ nd, NdOk p) (c : ChI nd m last l ch) (M : Mt nd.length (Rn nd) m) (hm : m l = some b) (hp : nd[b]? = some p) : ChI nd m last b (ch ++ [p]) := by
  obtain ⟨_, hb, hr⟩ := M.edge l b hm
  obtain ⟨p', q, e1, e2, e3⟩ := Rn_open hr
  rw [hp] at e1
  cases e1
  have hpn := List.mem_of_getElem? hp
  have key : ∀ r ∈ ch, ahd p r = true := fun r hr => by
    rcases c.low r hr q e2 with z | z
    · rw [z]
      exact e3
    · exact ahd_trans (hok p hpn) (hok q (List.mem_of_getElem? e2)) e3 z
  refine ⟨?_, fun r hr => ?_, hb, fun r hr q' hq' => ?_, fun i r hd hi => ?_, fun r hr => ?_⟩
  · rw [List.pairwise_append]
    refine ⟨c.pw, List.pairwise_singleton _ _, fun r hr s hs => ?_⟩
    rw [List.mem_singleton.mp hs]
    exact key r hr
  · rcases List.mem_append.mp hr with z | z
    · exact c.mem r z
    · rw [List.mem_singleton.mp z]
      exact hpn
  · rw [hp] at hq'
    cases hq'
    rcases List.mem_append.mp hr with z | z
    · exact .inr (key r z)
    · exact .inl (List.mem_singleton.mp z)
  · rcases c.all i r hd hi with z | z
    · exact .inl (List.mem_append_left _ z)
    · rcases Dn_some z hm with y | y
      · rw [y] at hi
        exact .inl (List.mem_append_left _ (c.me r hi))
      · exact .inr y
  · rw [hp] at hr
    cases hr
    simp
theorem ChI.done {nd : List Nd2} {m : Nat → Option Nat} {last l : Nat} {ch : List Nd2} (c : ChI nd m last l ch) (hm : m l = none) : ChT nd m last ch.reverse := by
  refine ⟨?_, fun p hp => c.mem p (List.mem_reverse.mp hp), fun i p hd hi => List.mem_reverse.mpr ?_⟩
  · unfold Chn
    rw [List.pairwise_reverse]
    exact c.pw
  · rcases c.all i p hd hi with z | z
    · exact z
    · rw [Dn_none z hm] at hi
      exact c.me p hi
theorem NA.rev {H : Hp} {as : List Addr} {nd : List Nd2} (h : NA H as nd) : NA H as.reverse nd.reverse := by
  induction h with
  | nil => exact .nil
  | cons h1 _ ih =>
    rw [List.reverse_cons, List.reverse_cons]
    exact ih.snoc h1
/-! ### the first of like ones -/
def ixN (p : Nd2) : List Nd2 → Nat
  | [] => 0
  | q :: l => if q = p then 0 else ixN p l + 1
theorem ixN_at {p : Nd2} : ∀ {l : List Nd2}, p ∈ l → l[ixN p l]? = some p
  | q :: l, h => by
    unfold ixN
    split
    · rename_i e
      rw [e]
      rfl
    · rename_i e
      rcases List.mem_cons.mp h with z | z
      · exact absurd z.symm e
      · exact ixN_at z
theorem ixN_lt {p : Nd2} : ∀ {l : List Nd2} {k : Nat} {z : Nd2}, k < ixN p l → l[k]? = some z → z ≠ p
  | [], k, z, h, e => by cases e
  | q :: l, k, z, h, e => by
    unfold ixN at h
    split at h
    · exact absurd h (Nat.not_lt_zero k)
    · rename_i hq
      cases k with
      | zero =>
        cases e
        exact hq
      | succ k => exact ixN_lt (l := l) (k := k) (by omega) e
def isFst (nd : List Nd2) (i : Nat) : Bool := match nd[i]? with
  | some p => decide (ixN p nd = i)
  | none => false
def plM (nd : List Nd2) : List Nat := (List.range nd.length).filter (isFst nd)
abbrev ndG (nd : List Nd2) (i : Nat) : Nd2 := nd.getD i ([], [])
def unM (nd : List Nd2) : List Nd2 := (plM nd).map (ndG nd)
theorem ndG_at {nd : List Nd2} {i : Nat} (h : i < nd.length) : nd[i]? = some (ndG nd i) := by
  unfold ndG
  rw [List.getD_eq_getElem?_getD, List.getElem?_eq_getElem h]
  rfl
theorem isFst_at {nd : List Nd2} {i : Nat} {p : Nd2} (h : nd[i]? = some p) : isFst nd i = decide (ixN p nd = i) := by
  unfold isFst
  rw [h]
theorem pl_mem {nd : List Nd2} {i : Nat} (h : i ∈ plM nd) : i < nd.length ∧ ixN (ndG nd i) nd = i := by
  unfold plM at h
  obtain ⟨h1, h2⟩ := List.mem_filter.mp h
  have h3 := List.mem_range.mp h1
  rw [isFst_at (ndG_at h3)] at h2
  exact ⟨h3, of_decide_eq_true h2⟩
theorem pl_up (nd : List Nd2) : (plM nd).Pairwise (· < ·) := List.Pairwise.filter _ List.pairwise_lt_range
theorem un_nd (nd : List Nd2) : (unM nd).Nodup := by
  unfold unM List.Nodup
  rw [List.pairwise_map]
  refine (pl_up nd).imp_of_mem fun {a b} ha hb hab e => ?_
  have h1 := (pl_mem ha).2
  have h2 := (pl_mem hb).2
  rw [e] at h1
  omega
theorem un_has {nd : List Nd2} {p : Nd2} (h : p ∈ nd) : p ∈ unM nd := by
  have h1 := ixN_at h
  have h2 : ixN p nd < nd.length := (List.getElem?_eq_some_iff.mp h1).1
  have h3 : ndG nd (ixN p nd) = p := by
    unfold ndG
    rw [List.getD_eq_getElem?_getD, h1]
    rfl
  refine List.mem_map.mpr ⟨ixN p nd, ?_, h3⟩
  unfold plM
  exact List.mem_filter.mpr ⟨List.mem_range.mpr h2, by rw [isFst_at h1]; simp⟩
theorem un_sub {nd : List Nd2} {p : Nd2} (h : p ∈ unM nd) : p ∈ nd := by
  obtain ⟨i, hi, rfl⟩ := List.mem_map.mp h
  exact List.mem_of_getElem? (ndG_at (pl_mem hi).1)
theorem un_len (nd : List Nd2) : (unM nd).length = (plM nd).length := by
  unfold unM
  rw [List.length_map]
theorem pl_len (nd : List Nd2) : (plM nd).length ≤ nd.length := by
  have := List.length_filter_le (isFst nd) (List.range nd.length)
  rw [List.length_range] at this
  exact this
theorem un_at {nd : List Nd2} {a : Nat} (h : a < (plM nd).length) : (unM nd)[a]? = some (ndG nd ((plM nd).getD a 0)) := by
  unfold unM
  rw [List.getElem?_map, List.getD_eq_getElem?_getD, List.getElem?_eq_getElem h]
  rfl
/-! ### the fewest lists -/
structure FewOk (nd : List Nd2) (ls : List (List Nat)) (ap : List Nat) : Prop where
  len : ls.length = ap.length
  up : ap.Pairwise (· < ·)
  lt : ∀ a ∈ ap, a < nd.length
  srv : ∀ p ∈ nd, ∃ l ∈ ls, srv l p
  lst : ∀ l ∈ ls, l.Nodup ∧ (∀ c ∈ l, ∃ p ∈ nd, c ∈ p.1 ++ p.2) ∧ ∃ p ∈ nd, ∀ c ∈ p.1 ++ p.2, c ∈ l
  apart : ∀ a b p q, a ∈ ap → b ∈ ap → a ≠ b → nd[a]? = some p → nd[b]? = some q → agr p q = false
theorem few_ok {nd : List Nd2} {m : Nat → Option Nat} {lasts L B : List Nat} {chs : List (List Nd2)} (hok : ∀ p ∈ nd, NdOk p) (M : Mx (unM nd).length (Rn (unM nd)) (unM nd).length m) (hl : Lst (unM nd).length m lasts) (hcl : chs.length = lasts.length)
    (hch : ∀ (j last : Nat) (ch : List Nd2), lasts[j]? = some last → chs[j]? = some ch → ChT (unM nd) m last ch) (k : Kg (unM nd).length (Rn (unM nd)) m lasts [] L B) : FewOk nd (chs.map lstM) ((apM (unM nd).length L B).map fun a => (plM nd).getD a 0) := by
  have hoku : ∀ p ∈ unM nd, NdOk p := fun p hp => hok p (un_sub hp)
  have tr := Rn_tr hoku
  have ir := Rn_ir (unM nd)
  have plt : ∀ a ∈ apM (unM nd).length L B, a < (plM nd).length := fun a ha => by
    have := (apM_mem.mp ha).1
    rw [un_len] at this
    exact this
  have atp : ∀ a, a < (plM nd).length → (plM nd).getD a 0 ∈ plM nd := fun a ha => by
    rw [List.getD_eq_getElem?_getD, List.getElem?_eq_getElem ha]
    exact List.getElem_mem ha
  have chm : ∀ ch ∈ chs, ∃ last ∈ lasts, ChT (unM nd) m last ch := fun ch hc => by
    obtain ⟨j, hj, rfl⟩ := List.getElem_of_mem hc
    have hj2 : j < lasts.length := by omega
    exact ⟨lasts[j], List.getElem_mem hj2, hch j _ _ (List.getElem?_eq_getElem hj2) (List.getElem?_eq_getElem hj)⟩
  refine ⟨?_, ?_, fun a ha => ?_, fun p hp => ?_, fun l hl2 => ?_, fun a b p q ha hb hab hp hq => ?_⟩
  · rw [List.length_map, List.length_map, hcl, k.many M hl tr]
  · rw [List.pairwise_map]
    have h1 : (apM (unM nd).length L B).Pairwise (· < ·) := List.Pairwise.filter _ List.pairwise_lt_range
    refine h1.imp_of_mem fun {a b} ha hb hab => ?_
    have h3 := plt a ha
    have h4 := plt b hb
    rw [List.getD_eq_getElem?_getD, List.getD_eq_getElem?_getD, List.getElem?_eq_getElem h3, List.getElem?_eq_getElem h4]
    exact List.pairwise_iff_getElem.mp (pl_up nd) a b h3 h4 hab
  · obtain ⟨a', ha', rfl⟩ := List.mem_map.mp ha
    exact (pl_mem (atp a' (plt a' ha'))).1
  · obtain ⟨i, hi, e⟩ := List.getElem_of_mem (un_has hp)
    have hi2 : (unM nd)[i]? = some p := by rw [List.getElem?_eq_getElem hi, e]
    obtain ⟨last, hla, hd⟩ := up_lasts M.mt hl tr ir _ i hi (Nat.le_refl _)
    obtain ⟨j, hj, e2⟩ := List.getElem_of_mem hla
    have hj2 : j < chs.length := by omega
    have hc := hch j last chs[j] (by rw [List.getElem?_eq_getElem hj, e2]) (List.getElem?_eq_getElem hj2)
    have hs := lstM_spec _ chs[j] rfl (fun p hp => hoku p (hc.mem p hp)) hc.chn
    exact ⟨lstM chs[j], List.mem_map.mpr ⟨_, List.getElem_mem hj2, rfl⟩, hs.2.1 p (hc.all i p hd hi2)⟩
  · obtain ⟨ch, hc, rfl⟩ := List.mem_map.mp hl2
    obtain ⟨last, hla, c⟩ := chm ch hc
    obtain ⟨h1, h2, h3⟩ := lstM_spec _ ch rfl (fun p hp => hoku p (c.mem p hp)) c.chn
    refine ⟨h1, fun x hx => ?_, ?_⟩
    · obtain ⟨p, hp, hxp⟩ := (h3 x).mp hx
      exact ⟨p, un_sub (c.mem p hp), hxp⟩
    · obtain ⟨hln, _⟩ := (hl.mem last).mp hla
      have hp := c.all last (unM nd)[last] .refl (List.getElem?_eq_getElem hln)
      exact ⟨_, un_sub (c.mem _ hp), fun x hx => (h3 x).mpr ⟨_, hp, hx⟩⟩
  · obtain ⟨a', ha', rfl⟩ := List.mem_map.mp ha
    obtain ⟨b', hb', rfl⟩ := List.mem_map.mp hb
    have h3 := plt a' ha'
    have h4 := plt b' hb'
    have hne : a' ≠ b' := fun z => hab (by rw [z])
    have ea : (unM nd)[a']? = some p := by
      rw [un_at h3, ← hp, ← ndG_at (pl_mem (atp a' h3)).1]
    have eb : (unM nd)[b']? = some q := by
      rw [un_at h4, ← hq, ← ndG_at (pl_mem (atp b' h4)).1]
    refine eq_false_of_ne_true fun z => ?_
    rcases agr_no (hoku p (List.mem_of_getElem? ea)) (hoku q (List.mem_of_getElem? eb)) z with y | y | y
    · rw [y] at ea
      obtain ⟨ga, ea2⟩ := List.getElem?_eq_some_iff.mp ea
      obtain ⟨gb, eb2⟩ := List.getElem?_eq_some_iff.mp eb
      exact hne ((List.getElem_inj (un_nd nd)).mp (ea2.trans eb2.symm))
    · have := k.apart ha' hb'
      rw [Rn_at ea eb, y] at this
      cases this
    · have := k.apart hb' ha'
      rw [Rn_at eb ea, y] at this
      cases this
/-! ### the list for a chain, bounds -/
theorem addL_sub {ls one : List Nat} {b : Nat} (hn : one.Nodup) (h1 : ∀ c ∈ one, c ≤ b) (h2 : ∀ c ∈ ls, c ≤ b) : (addL one ls).Nodup ∧ (∀ c ∈ addL one ls, c ≤ b) ∧ (addL one ls).length ≤ b + 1 := by
  obtain ⟨g1, _, g3⟩ := addL_spec ls one hn
  have g4 : ∀ c ∈ addL one ls, c ≤ b := fun c hc => ((g3 c).mp hc).elim (h1 c) (h2 c)
  exact ⟨g1, g4, nodup_lt_len g1 fun c hc => by have := g4 c hc; omega⟩
theorem addL_snoc (one ls : List Nat) (c : Nat) : addL one (ls ++ [c]) = if c ∈ addL one ls then addL one ls else addL one ls ++ [c] := by
  unfold addL
  rw [List.foldl_append]
  rfl
end My

set_option Elab.async false
set_option linter.all false
set_option maxRecDepth 100000
set_option maxHeartbeats 2000000
namespace My
open PySem PySem.Spec PyProof.Rows L2
abbrev nV (a : Nat) : V := .int (a : Int)
theorem nV_int (l : List Nat) : l.map nV = (l.map fun (a : Nat) => ((a : Nat) : Int)).map V.int := by
  rw [List.map_map]
  rfl
theorem inV_reps (k : Bool) : ∀ n : Nat, inV (.bl !k) (List.replicate n (.bl k)) = false
  | 0 => rfl
  | n + 1 => by
    have ih := inV_reps k n
    rw [List.replicate_succ]
    show (eqV (.bl k) (.bl !k) || inV (.bl !k) (List.replicate n (.bl k))) = false
    rw [ih]
    cases k <;> rfl
theorem flat_reps (k : Bool) : ∀ n : Nat, (List.replicate n (V.bl k)).all flatV = true
  | 0 => rfl
  | n + 1 => by
    rw [List.replicate_succ]
    exact flat_reps k n
theorem nil_text : Str.ofString "" = txS [] := by decide +kernel
theorem dp_texts {K : PySem.W.Frag} {H : Hp} : ∀ ls : List (List Nat), DpAll K H (ls.map tx) (ls.map strD)
  | [] => .nil
  | l :: ls => .cons (.str _) (dp_texts ls)
theorem lay_texts : ∀ {ls : List (List Nat)}, (∀ l ∈ ls, ∀ c ∈ l, c ≤ 122) → PyData.canLayAll0 (ls.map strD) = true
  | [], _ => by simp [PyData.canLayAll0]
  | l :: ls, h => by
    rw [List.map_cons]
    show (PyData.canLay0 (strD l) && PyData.canLayAll0 (ls.map strD)) = true
    rw [show PyData.canLay0 (strD l) = true from lay_txt (h l (by simp)), lay_texts fun q hq => h q (by simp [hq])]
    rfl
theorem shaped_texts {ls : List (List Nat)} (h : ∀ l ∈ ls, ∀ c ∈ l, c ≤ 122) : SeqAt.shaped (.list (ls.map strD)) = true := by
  unfold SeqAt.shaped
  have h1 : PyData.canLay0 (.list (ls.map strD)) = true := lay_texts h
  have h2 := depA_texts ls
  rw [h1, Bool.true_and]
  refine decide_eq_true ?_
  simp only [PyData.depth]
  omega
theorem eqv_texts_nil : ∀ ls : List (List Nat), PyData.eqv (.list (ls.map strD)) (.list []) = ls.isEmpty
  | [] => rfl
  | _ :: _ => rfl
end My

set_option Elab.async false
set_option linter.all false
set_option maxRecDepth 100000
set_option maxHeartbeats 2000000
namespace My
open PySem PySem.Spec PyProof.Rows L2
/-! ### how many lists are needed -/
theorem wthn_take {l : List Nat} {i j : Nat} {a b : List Nat} (ha : ∀ c, c ∈ a ↔ c ∈ l.take i) (hb : ∀ c, c ∈ b ↔ c ∈ l.take j) : (wthn a b || wthn b a) = true := by
  rw [Bool.or_eq_true, wthn_iff, wthn_iff]
  by_cases h : i ≤ j
  · refine .inl fun c hc => (hb c).mpr ?_
    have h1 := (ha c).mp hc
    have e : l.take i = (l.take j).take i := by rw [List.take_take, Nat.min_eq_left h]
    rw [e] at h1
    exact List.mem_of_mem_take h1
  · refine .inr fun c hc => (ha c).mpr ?_
    have h1 := (hb c).mp hc
    have e : l.take j = (l.take i).take j := by rw [List.take_take, Nat.min_eq_left (by omega)]
    rw [e] at h1
    exact List.mem_of_mem_take h1
theorem srv_steps {l : List Nat} {p : Nd2} (h : srv l p) : ∀ s ∈ stps p, ∃ i, ∀ c, c ∈ s ↔ c ∈ l.take i := by
  obtain ⟨x, y, e, pm⟩ := h
  intro s hs
  unfold stps at hs
  rcases List.mem_cons.mp hs with z | z
  · refine ⟨x.length, fun c => ?_⟩
    rw [z, e, List.take_left' rfl]
    exact pm.mem_iff.symm
  · refine ⟨(x ++ p.2).length, fun c => ?_⟩
    rw [List.mem_singleton.mp z, e, ← List.append_assoc, List.take_left' rfl, List.mem_append, List.mem_append, pm.mem_iff]
theorem srv_agr {l : List Nat} {p q : Nd2} (hp : srv l p) (hq : srv l q) : agr p q = true := by
  unfold agr
  rw [List.all_eq_true]
  intro s hs
  rw [List.all_eq_true]
  intro o ho
  obtain ⟨i, hi⟩ := srv_steps hp s hs
  obtain ⟨j, hj⟩ := srv_steps hq o ho
  exact wthn_take hi hj
theorem sn_srv {one : List Nat} {p : Nd2} (h : snM one p.1 p.2 = true) : srv one p := by
  unfold snM at h
  rw [Bool.and_eq_true, decide_eq_true_eq, decide_eq_true_eq] at h
  refine ⟨one.take p.1.length, (one.drop p.1.length).drop p.2.length, ?_, h.1⟩
  have e1 := List.take_append_drop p.2.length (one.drop p.1.length)
  rw [h.2] at e1
  rw [e1, List.take_append_drop]
theorem sn_iff {one : List Nat} {p : Nd2} : snM one p.1 p.2 = true ↔ srv one p := by
  refine ⟨sn_srv, fun h => ?_⟩
  obtain ⟨x, y, e, pm⟩ := h
  have hl := pm.length_eq
  unfold snM
  rw [Bool.and_eq_true, decide_eq_true_eq, decide_eq_true_eq]
  have ht : one.take p.1.length = x := by
    rw [e, ← hl, List.take_left']
    rfl
  have hd : one.drop p.1.length = p.2 ++ y := by
    rw [e, ← hl, List.drop_left']
    rfl
  rw [ht, hd, List.take_left' rfl]
  exact ⟨pm, rfl⟩
/-! ### other letters -/
end My

set_option Elab.async false
set_option linter.all false
set_option maxRecDepth 100000
set_option maxHeartbeats 2000000
namespace My
open PySem PySem.Spec PyProof.Rows L2
/-! ### questions and their needs -/
abbrev Qn := List (Nat × Int) × Option (Nat × Int × Int)
def ndOf (q : Qn) : Nd2 := (q.1.map (·.1), q.2.toList.map (·.1))
theorem ndOf_ok {cols : List Nat} {q : Qn} (h : QOk cols q.1 q.2) : NdOk (ndOf q) := by
  refine ⟨h.up, ?_, fun c hc => ?_⟩
  · show (q.2.toList.map (·.1)).length ≤ 1
    cases q.2 <;> simp
  · obtain ⟨t, ht, rfl⟩ := List.mem_map.mp hc
    cases hq : q.2 with
    | none =>
      rw [hq] at ht
      cases ht
    | some r =>
      obtain ⟨c, lo, hi⟩ := r
      rw [hq] at ht
      have : t = (c, lo, hi) := by simpa using ht
      rw [this]
      exact (h.rc c lo hi hq).2.1
theorem ndOf_in {cols : List Nat} {q : Qn} (h : QOk cols q.1 q.2) : ∀ c ∈ (ndOf q).1 ++ (ndOf q).2, c ∈ cols := fun c hc => by
  rcases List.mem_append.mp hc with z | z
  · obtain ⟨p, hp, rfl⟩ := List.mem_map.mp z
    exact (h.ok p hp).1
  · obtain ⟨t, ht, rfl⟩ := List.mem_map.mp z
    cases hq : q.2 with
    | none =>
      rw [hq] at ht
      cases ht
    | some r =>
      obtain ⟨c, lo, hi⟩ := r
      rw [hq] at ht
      have : t = (c, lo, hi) := by simpa using ht
      rw [this]
      exact (h.rc c lo hi hq).1
theorem ndOf_s {cols : List Nat} {q : Qn} (hc : Cols cols) (hl : cols.length ≤ 26) (h : QOk cols q.1 q.2) : NdS (ndOf q) := by
  have hn := ndOf_ok h
  have hi := ndOf_in h
  refine ⟨Nat.le_trans (nodup_sub_len (hn.up.imp fun {a b} z => by omega) fun c hc => hi c (List.mem_append_left _ hc)) hl, by have := hn.one; omega, fun c hc' => (hc.az c (hi c hc')).2⟩
theorem ndOf_need {cols : List Nat} {q : Qn} (h : QOk cols q.1 q.2) (hne : ndOf q ≠ ([], [])) : needL cols (ndOf q).1 (ndOf q).2 = true := by
  have hn := ndOf_ok h
  have hi := ndOf_in h
  unfold needL isListL
  rw [(risB_pw _).mpr hn.up, decide_eq_true hn.one, Bool.true_and, Bool.true_and, Bool.and_eq_true, Bool.and_eq_true]
  refine ⟨⟨?_, decide_eq_true ?_⟩, List.all_eq_true.mpr fun c hc => decide_eq_true (hi c hc)⟩
  · rw [Bool.not_eq_true', ← Bool.not_eq_true, List.isEmpty_iff]
    intro z
    obtain ⟨z1, z2⟩ := List.append_eq_nil_iff.mp z
    exact hne (Prod.ext z1 z2)
  · rw [List.nodup_append]
    refine ⟨hn.up.imp fun {a b} z => by omega, ?_, fun a ha b hb z => hn.out b hb (z ▸ ha)⟩
    match hr : (ndOf q).2, hn.one with
    | [], _ => exact List.nodup_nil
    | [x], _ => simp
    | x :: y :: l, h => exact absurd h (by simp)
theorem serves_srv {cols one : List Nat} {q : Qn} (h : QOk cols q.1 q.2) (hn : one.Nodup) (hs : ((spanL q.1 q.2).all fun t => decide (t.1 ∈ usedM one q.1 q.2)) = true) : srv one (ndOf q) := by
  obtain ⟨es, rc⟩ := q
  dsimp only at h hs
  have hall : ∀ t ∈ spanL es rc, t.1 ∈ usedM one es rc := fun t ht => of_decide_eq_true (List.all_eq_true.mp hs t ht)
  have hes : ∀ c ∈ es.map (·.1), c ∈ usedM one es rc := fun c hc => by
    obtain ⟨p, hp, rfl⟩ := List.mem_map.mp hc
    exact hall (p.1, p.2, p.2) (List.mem_append_left _ (List.mem_map.mpr ⟨p, hp, rfl⟩))
  have hin : ∀ c ∈ eqPart one es, c ∈ es.map (·.1) := fun c hc => of_decide_eq_true (eqPart_in c hc)
  have hnd : (eqPart one es).Nodup := hn.sublist (List.takeWhile_sublist _)
  have hnde : (es.map (·.1)).Nodup := h.up.imp fun {a b} z => by omega
  have etk := eqPart_take one es
  cases rc with
  | none =>
    have pm : (eqPart one es).Perm (es.map (·.1)) := (List.perm_ext_iff_of_nodup hnd hnde).mpr fun c => ⟨hin c, fun hc => hes c hc⟩
    refine ⟨eqPart one es, one.drop (eqPart one es).length, ?_, pm⟩
    show one = eqPart one es ++ ([] ++ one.drop (eqPart one es).length)
    rw [List.nil_append]
    conv => lhs; rw [← List.take_append_drop (eqPart one es).length one, ← etk]
  | some r =>
    obtain ⟨c, lo, hi⟩ := r
    have hcn : c ∉ es.map (·.1) := (h.rc c lo hi rfl).2.1
    have hcu : c ∈ usedM one es (some (c, lo, hi)) := hall (c, lo, hi) (List.mem_append_right _ (by simp))
    have key : (one.drop (eqPart one es).length).take 1 = [c] := by
      refine Classical.byContradiction fun z => ?_
      unfold usedM at hcu
      dsimp only at hcu
      rw [if_neg z] at hcu
      exact hcn (hin c hcu)
    have eu : usedM one es (some (c, lo, hi)) = one.take ((eqPart one es).length + 1) := by
      unfold usedM
      dsimp only
      rw [if_pos key]
    have ed : one.drop (eqPart one es).length = c :: one.drop ((eqPart one es).length + 1) := by
      cases hd : one.drop (eqPart one es).length with
      | nil =>
        rw [hd] at key
        cases key
      | cons x y =>
        rw [hd] at key
        have hx : x = c := by simpa using key
        rw [hx]
        have : one.drop ((eqPart one es).length + 1) = (one.drop (eqPart one es).length).drop 1 := by rw [List.drop_drop]
        rw [this, hd]
        rfl
    have e1 : one = eqPart one es ++ c :: one.drop ((eqPart one es).length + 1) := by
      rw [← ed]
      conv => lhs; rw [← List.take_append_drop (eqPart one es).length one, ← etk]
    have e3 : ∀ (a b : List Nat) (x : Nat), (a ++ x :: b).take (a.length + 1) = a ++ [x] := fun a b x => by
      rw [show a ++ x :: b = (a ++ [x]) ++ b by simp]
      exact List.take_left' (by simp)
    have e2 : one.take ((eqPart one es).length + 1) = eqPart one es ++ [c] := (congrArg (List.take ((eqPart one es).length + 1)) e1).trans (e3 _ _ _)
    have pm : (eqPart one es).Perm (es.map (·.1)) := (List.perm_ext_iff_of_nodup hnd hnde).mpr fun x => ⟨hin x, fun hx => by
      have := hes x hx
      rw [eu, e2] at this
      rcases List.mem_append.mp this with z | z
      · exact z
      · rw [List.mem_singleton.mp z] at hx
        exact absurd hx hcn⟩
    exact ⟨eqPart one es, one.drop ((eqPart one es).length + 1), e1, pm⟩
theorem srv_serves {cols one : List Nat} {q : Qn} (h : QOk cols q.1 q.2) (hn : one.Nodup) (hs : srv one (ndOf q)) : ((spanL q.1 q.2).all fun t => decide (t.1 ∈ usedM one q.1 q.2)) = true := by
  obtain ⟨x, y, e, pm⟩ := hs
  have hn2 : (x ++ ((ndOf q).2 ++ y)).Nodup := by
    rw [← e]
    exact hn
  have := serving (cols := cols) (first := x) (more := y) h pm fun c hc z => by
    exact (List.nodup_append.mp hn2).2.2 c z c (List.mem_append_right _ hc) rfl
  rw [e, ← List.append_assoc]
  exact this
theorem serves_sn {cols one : List Nat} {q : Qn} (h : QOk cols q.1 q.2) (hn : one.Nodup) : ((spanL q.1 q.2).all fun t => decide (t.1 ∈ usedM one q.1 q.2)) = snM one (ndOf q).1 (ndOf q).2 := by
  rw [Bool.eq_iff_iff, sn_iff]
  exact ⟨serves_srv h hn, srv_serves h hn⟩
/-! ### lists of questions -/
inductive QA (H : Hp) : List V → List Qn → Prop
  | nil : QA H [] []
  | cons {v : V} {q : Qn} {vs : List V} {qs : List Qn} : QZ H v q.1 q.2 → QA H vs qs → QA H (v :: vs) (q :: qs)
theorem QA.kT {H H' : Hp} {vs : List V} {qs : List Qn} (h : QA H vs qs) (k : KT H H') : QA H' vs qs := by
  induction h with
  | nil => exact .nil
  | cons h1 _ ih => exact .cons (h1.kT k) ih
theorem QA.snoc {H : Hp} {vs : List V} {qs : List Qn} {v : V} {q : Qn} (h : QA H vs qs) (hq : QZ H v q.1 q.2) : QA H (vs ++ [v]) (qs ++ [q]) := by
  induction h with
  | nil => exact .cons hq .nil
  | cons h1 _ ih => exact .cons h1 ih
theorem QA.len {H : Hp} {vs : List V} {qs : List Qn} (h : QA H vs qs) : vs.length = qs.length := by
  induction h with
  | nil => rfl
  | cons _ _ ih => rw [List.length_cons, List.length_cons, ih]
theorem QA.at {H : Hp} {vs : List V} {qs : List Qn} (h : QA H vs qs) : ∀ {i : Nat} {q : Qn}, qs[i]? = some q → ∃ v, vs[i]? = some v ∧ QZ H v q.1 q.2 := by
  induction h with
  | nil => intro i q e; cases e
  | cons h1 _ ih =>
    intro i q e
    cases i with
    | zero =>
      cases e
      exact ⟨_, rfl, h1⟩
    | succ i => exact ih (i := i) (q := q) e
/-! ### truths as data -/
theorem dp_bls {K : PySem.W.Frag} {H : Hp} : ∀ bs : List Bool, DpAll K H (bs.map V.bl) (bs.map PyData.bool)
  | [] => .nil
  | b :: bs => .cons (.bl b) (dp_bls bs)
theorem eqv_bls : ∀ bs : List Bool, PyData.eqv (.list (bs.map PyData.bool)) (.list (bs.map PyData.bool)) = true
  | [] => rfl
  | b :: bs => by
    have ih := eqv_bls bs
    show (PyData.eqv (.bool b) (.bool b) && PyData.eqv (.list (bs.map PyData.bool)) (.list (bs.map PyData.bool))) = true
    rw [ih]
    cases b <;> rfl
theorem lay_bls : ∀ bs : List Bool, PyData.canLayAll0 (bs.map PyData.bool) = true
  | [] => rfl
  | b :: bs => lay_bls bs
theorem dep_bls : ∀ bs : List Bool, PyData.depthAll (bs.map PyData.bool) = 0
  | [] => rfl
  | b :: bs => by
    show max 0 (PyData.depthAll (bs.map PyData.bool)) = 0
    rw [dep_bls bs]
    rfl
theorem shaped_bls (bs : List Bool) : SeqAt.shaped (.list (bs.map PyData.bool)) = true := by
  unfold SeqAt.shaped
  have h1 : PyData.canLay0 (.list (bs.map PyData.bool)) = true := lay_bls bs
  rw [h1, Bool.true_and]
  refine decide_eq_true ?_
  have := dep_bls bs
  simp only [PyData.depth]
  omega
end My

set_option Elab.async false
set_option linter.all false
set_option maxRecDepth 100000
set_option maxHeartbeats 1000000
namespace My
open PySem PySem.Spec PyProof.Rows L2
def topS (i : Nat) : Stmt := PySem.Challenge.pw_stretchkeep_k37_whole_needs_and_question.main.body.getD i (.Pass ⟨0, 0, 0, 0⟩)
abbrev s_is_rising : Stmt := topS 1
theorem sc_is_rising : FnScope ["things", "at"] ["things"] (defScope s_is_rising) := ⟨rfl, rfl, rfl, by decide +kernel, rfl, by decide +kernel, by decide +kernel⟩
abbrev s_is_list : Stmt := topS 2
theorem sc_is_list : FnScope ["columns", "thing", "letter"] ["columns", "thing"] (defScope s_is_list) := ⟨rfl, rfl, rfl, by decide +kernel, rfl, by decide +kernel, by decide +kernel⟩
abbrev s_picked : Stmt := topS 3
theorem sc_picked : FnScope ["columns", "row", "letters"] ["columns", "row", "letters"] (defScope s_picked) := ⟨rfl, rfl, rfl, by decide +kernel, rfl, by decide +kernel, by decide +kernel⟩
abbrev s_sorted_by : Stmt := topS 4
theorem sc_sorted_by : FnScope ["table", "one", "columns", "rows", "entries", "number", "row", "key"] ["table", "one"] (defScope s_sorted_by) := ⟨rfl, rfl, rfl, by decide +kernel, rfl, by decide +kernel, by decide +kernel⟩
abbrev s_is_need : Stmt := topS 6
theorem sc_is_need : FnScope ["columns", "thing", "equals", "reach"] ["columns", "thing"] (defScope s_is_need) := ⟨rfl, rfl, rfl, by decide +kernel, rfl, by decide +kernel, by decide +kernel⟩
abbrev s_serves_need : Stmt := topS 7
theorem sc_serves_need : FnScope ["one", "need", "equals", "reach", "many"] ["one", "need"] (defScope s_serves_need) := ⟨rfl, rfl, rfl, by decide +kernel, rfl, by decide +kernel, by decide +kernel⟩
abbrev s_is_ahead : Stmt := topS 8
theorem sc_is_ahead : FnScope ["first", "second", "equals", "reach", "letter"] ["first", "second"] (defScope s_is_ahead) := ⟨rfl, rfl, rfl, by decide +kernel, rfl, by decide +kernel, by decide +kernel⟩
abbrev s_find_behind : Stmt := topS 9
theorem sc_find_behind : FnScope ["needs", "at", "tried", "ahead", "other"] ["needs", "at", "tried", "ahead"] (defScope s_find_behind) := ⟨rfl, rfl, rfl, by decide +kernel, rfl, by decide +kernel, by decide +kernel⟩
abbrev s_fewest_chains : Stmt := topS 10
theorem sc_fewest_chains : FnScope ["needs", "ahead", "at"] ["needs"] (defScope s_fewest_chains) := ⟨rfl, rfl, rfl, by decide +kernel, rfl, by decide +kernel, by decide +kernel⟩
abbrev s_chain_to : Stmt := topS 11
theorem sc_chain_to : FnScope ["needs", "ahead", "last", "chain"] ["needs", "ahead", "last"] (defScope s_chain_to) := ⟨rfl, rfl, rfl, by decide +kernel, rfl, by decide +kernel, by decide +kernel⟩
abbrev s_list_for : Stmt := topS 12
theorem sc_list_for : FnScope ["chain", "one", "equals", "reach", "letter"] ["chain"] (defScope s_list_for) := ⟨rfl, rfl, rfl, by decide +kernel, rfl, by decide +kernel, by decide +kernel⟩
abbrev s_apart_of : Stmt := topS 13
theorem sc_apart_of : FnScope ["needs", "ahead", "lasts", "waiting", "looked", "behind", "at", "other"] ["needs", "ahead", "lasts"] (defScope s_apart_of) := ⟨rfl, rfl, rfl, by decide +kernel, rfl, by decide +kernel, by decide +kernel⟩
abbrev s_fewest : Stmt := topS 14
theorem sc_fewest : FnScope ["columns", "needs", "unlike", "ahead", "followed", "lasts", "lists", "apart", "places", "at", "need", "last"] ["columns", "needs"] (defScope s_fewest) := ⟨rfl, rfl, rfl, by decide +kernel, rfl, by decide +kernel, by decide +kernel⟩
abbrev s_letters_of : Stmt := topS 16
theorem sc_letters_of : FnScope ["equals", "letter", "number"] ["equals"] (defScope s_letters_of) := ⟨rfl, rfl, rfl, by decide +kernel, rfl, by decide +kernel, by decide +kernel⟩
abbrev s_spans : Stmt := topS 17
theorem sc_spans : FnScope ["question", "equals", "reach", "letter", "wanted", "low", "high", "number"] ["question"] (defScope s_spans) := ⟨rfl, rfl, rfl, by decide +kernel, rfl, by decide +kernel, by decide +kernel⟩
abbrev s_fits : Stmt := topS 18
theorem sc_fits : FnScope ["columns", "row", "question", "wanted", "letter", "low", "high"] ["columns", "row", "question"] (defScope s_fits) := ⟨rfl, rfl, rfl, by decide +kernel, rfl, by decide +kernel, by decide +kernel⟩
abbrev s_used : Stmt := topS 20
theorem sc_used : FnScope ["one", "question", "equals", "reach", "letters", "many"] ["one", "question"] (defScope s_used) := ⟨rfl, rfl, rfl, by decide +kernel, rfl, by decide +kernel, by decide +kernel⟩
abbrev s_stretch : Stmt := topS 21
theorem sc_stretch : FnScope ["table", "one", "question", "columns", "rows", "letters", "first", "last", "keys", "ahead", "behind", "wanted", "row", "key"] ["table", "one", "question"] (defScope s_stretch) := ⟨rfl, rfl, rfl, by decide +kernel, rfl, by decide +kernel, by decide +kernel⟩
abbrev s_read : Stmt := topS 22
theorem sc_read : FnScope ["table", "one", "question", "columns", "rows", "start", "end", "there", "found", "number"] ["table", "one", "question"] (defScope s_read) := ⟨rfl, rfl, rfl, by decide +kernel, rfl, by decide +kernel, by decide +kernel⟩
abbrev s_serves : Stmt := topS 23
theorem sc_serves : FnScope ["one", "question", "letters"] ["one", "question"] (defScope s_serves) := ⟨rfl, rfl, rfl, by decide +kernel, rfl, by decide +kernel, by decide +kernel⟩
abbrev s_l_bag : Stmt := topS 25
theorem sc_l_bag : FnScope ["script"] ["script"] (defScope s_l_bag) := ⟨rfl, rfl, rfl, by decide +kernel, rfl, by decide +kernel, by decide +kernel⟩
abbrev s_l_lot : Stmt := topS 26
theorem sc_l_lot : FnScope ["bag", "many", "at", "cell", "one", "two", "three", "found"] ["bag", "many"] (defScope s_l_lot) := ⟨rfl, rfl, rfl, by decide +kernel, rfl, by decide +kernel, by decide +kernel⟩
abbrev s_l_columns : Stmt := topS 27
theorem sc_l_columns : FnScope ["bag", "most", "left", "found", "k"] ["bag", "most"] (defScope s_l_columns) := ⟨rfl, rfl, rfl, by decide +kernel, rfl, by decide +kernel, by decide +kernel⟩
abbrev s_l_table : Stmt := topS 28
theorem sc_l_table : FnScope ["bag", "most", "rows", "columns", "spread", "found", "k", "letter"] ["bag", "most", "rows"] (defScope s_l_table) := ⟨rfl, rfl, rfl, by decide +kernel, rfl, by decide +kernel, by decide +kernel⟩
abbrev s_l_near : Stmt := topS 29
theorem sc_l_near : FnScope ["bag", "table", "at", "way", "number"] ["bag", "table", "at"] (defScope s_l_near) := ⟨rfl, rfl, rfl, by decide +kernel, rfl, by decide +kernel, by decide +kernel⟩
abbrev s_l_question : Stmt := topS 30
theorem sc_l_question : FnScope ["bag", "table", "columns", "equals", "others", "at", "letter", "some"] ["bag", "table"] (defScope s_l_question) := ⟨rfl, rfl, rfl, by decide +kernel, rfl, by decide +kernel, by decide +kernel⟩
abbrev s_l_fits : Stmt := topS 31
theorem sc_l_fits : FnScope ["columns", "row", "question", "letter", "number", "low", "high"] ["columns", "row", "question"] (defScope s_l_fits) := ⟨rfl, rfl, rfl, by decide +kernel, rfl, by decide +kernel, by decide +kernel⟩
abbrev s_l_need_of : Stmt := topS 32
theorem sc_l_need_of : FnScope ["question", "reach", "letter", "number"] ["question"] (defScope s_l_need_of) := ⟨rfl, rfl, rfl, by decide +kernel, rfl, by decide +kernel, by decide +kernel⟩
abbrev s_l_order : Stmt := topS 33
theorem sc_l_order : FnScope ["bag", "columns", "left", "found", "k"] ["bag", "columns"] (defScope s_l_order) := ⟨rfl, rfl, rfl, by decide +kernel, rfl, by decide +kernel, by decide +kernel⟩
abbrev s_l_read_right : Stmt := topS 34
theorem sc_l_read_right : FnScope ["table", "question", "lists", "own", "due", "one", "place", "row"] ["table", "question", "lists"] (defScope s_l_read_right) := ⟨rfl, rfl, rfl, by decide +kernel, rfl, by decide +kernel, by decide +kernel⟩
abbrev s_law : Stmt := topS 35
theorem sc_law : FnScope ["script", "bag", "turn", "table", "some", "needs", "drawn", "lists", "apart", "one", "k", "question", "need"] ["script"] (defScope s_law) := ⟨rfl, rfl, rfl, by decide +kernel, rfl, by decide +kernel, by decide +kernel⟩
structure Ad where
  f_is_rising : Addr
  d_is_rising : FuncData
  c_is_rising : Addr
  P_is_rising : Addr
  f_is_list : Addr
  d_is_list : FuncData
  c_is_list : Addr
  P_is_list : Addr
  f_picked : Addr
  d_picked : FuncData
  c_picked : Addr
  P_picked : Addr
  f_sorted_by : Addr
  d_sorted_by : FuncData
  f_is_need : Addr
  d_is_need : FuncData
  f_serves_need : Addr
  d_serves_need : FuncData
  f_is_ahead : Addr
  d_is_ahead : FuncData
  c_is_ahead : Addr
  P_is_ahead : Addr
  f_find_behind : Addr
  d_find_behind : FuncData
  f_fewest_chains : Addr
  d_fewest_chains : FuncData
  f_chain_to : Addr
  d_chain_to : FuncData
  f_list_for : Addr
  d_list_for : FuncData
  f_apart_of : Addr
  d_apart_of : FuncData
  f_fewest : Addr
  d_fewest : FuncData
  c_fewest : Addr
  P_fewest : Addr
  f_letters_of : Addr
  d_letters_of : FuncData
  f_spans : Addr
  d_spans : FuncData
  f_fits : Addr
  d_fits : FuncData
  f_used : Addr
  d_used : FuncData
  f_stretch : Addr
  d_stretch : FuncData
  c_stretch : Addr
  P_stretch : Addr
  f_read : Addr
  d_read : FuncData
  f_serves : Addr
  d_serves : FuncData
  c_serves : Addr
  P_serves : Addr
  f_l_bag : Addr
  d_l_bag : FuncData
  f_l_lot : Addr
  d_l_lot : FuncData
  f_l_columns : Addr
  d_l_columns : FuncData
  f_l_table : Addr
  d_l_table : FuncData
  f_l_near : Addr
  d_l_near : FuncData
  f_l_question : Addr
  d_l_question : FuncData
  f_l_fits : Addr
  d_l_fits : FuncData
  f_l_need_of : Addr
  d_l_need_of : FuncData
  f_l_order : Addr
  d_l_order : FuncData
  f_l_read_right : Addr
  d_l_read_right : FuncData
  f_law : Addr
  d_law : FuncData
abbrev Ad.Ps (Z : Ad) : List Addr := [Z.P_fewest, Z.P_picked, Z.P_stretch, Z.P_serves, Z.P_is_rising, Z.P_is_list, Z.P_is_ahead]
structure Tb (base : Heap) (mg : Str → Option Value) (Z : Ad) : Prop where
  t_fewest : LamX.TabB base mg Z.c_fewest Z.P_fewest
  t_picked : LamX.TabB base mg Z.c_picked Z.P_picked
  t_stretch : LamX.TabB base mg Z.c_stretch Z.P_stretch
  t_serves : LamX.TabB base mg Z.c_serves Z.P_serves
  t_is_rising : LamX.TabB base mg Z.c_is_rising Z.P_is_rising
  t_is_list : LamX.TabB base mg Z.c_is_list Z.P_is_list
  t_is_ahead : LamX.TabB base mg Z.c_is_ahead Z.P_is_ahead
structure Tx (K : PySem.W.Frag) (mg : Str → Option Value) (Z : Ad) : Prop where
  F_is_rising : Fun K "is_rising" "is_rising" s_is_rising Z.f_is_rising Z.d_is_rising
  C_is_rising : FunC K "is_rising" "is_rising" s_is_rising Z.f_is_rising Z.d_is_rising Z.c_is_rising
  b_is_rising : Binds K Z.d_is_rising ["things"] []
  g_is_rising : mg "is_rising" = some (.ref Z.f_is_rising)
  F_is_list : Fun K "is_list" "is_list" s_is_list Z.f_is_list Z.d_is_list
  C_is_list : FunC K "is_list" "is_list" s_is_list Z.f_is_list Z.d_is_list Z.c_is_list
  b_is_list : Binds K Z.d_is_list ["columns", "thing"] []
  g_is_list : mg "is_list" = some (.ref Z.f_is_list)
  F_picked : Fun K "picked" "picked" s_picked Z.f_picked Z.d_picked
  C_picked : FunC K "picked" "picked" s_picked Z.f_picked Z.d_picked Z.c_picked
  b_picked : Binds K Z.d_picked ["columns", "row", "letters"] []
  g_picked : mg "picked" = some (.ref Z.f_picked)
  F_sorted_by : Fun K "sorted_by" "sorted_by" s_sorted_by Z.f_sorted_by Z.d_sorted_by
  b_sorted_by : Binds K Z.d_sorted_by ["table", "one"] []
  g_sorted_by : mg "sorted_by" = some (.ref Z.f_sorted_by)
  F_is_need : Fun K "is_need" "is_need" s_is_need Z.f_is_need Z.d_is_need
  b_is_need : Binds K Z.d_is_need ["columns", "thing"] []
  g_is_need : mg "is_need" = some (.ref Z.f_is_need)
  F_serves_need : Fun K "serves_need" "serves_need" s_serves_need Z.f_serves_need Z.d_serves_need
  b_serves_need : Binds K Z.d_serves_need ["one", "need"] []
  g_serves_need : mg "serves_need" = some (.ref Z.f_serves_need)
  F_is_ahead : Fun K "is_ahead" "is_ahead" s_is_ahead Z.f_is_ahead Z.d_is_ahead
  C_is_ahead : FunC K "is_ahead" "is_ahead" s_is_ahead Z.f_is_ahead Z.d_is_ahead Z.c_is_ahead
  b_is_ahead : Binds K Z.d_is_ahead ["first", "second"] []
  g_is_ahead : mg "is_ahead" = some (.ref Z.f_is_ahead)
  F_find_behind : Fun K "find_behind" "find_behind" s_find_behind Z.f_find_behind Z.d_find_behind
  b_find_behind : Binds K Z.d_find_behind ["needs", "at", "tried", "ahead"] []
  g_find_behind : mg "find_behind" = some (.ref Z.f_find_behind)
  F_fewest_chains : Fun K "fewest_chains" "fewest_chains" s_fewest_chains Z.f_fewest_chains Z.d_fewest_chains
  b_fewest_chains : Binds K Z.d_fewest_chains ["needs"] []
  g_fewest_chains : mg "fewest_chains" = some (.ref Z.f_fewest_chains)
  F_chain_to : Fun K "chain_to" "chain_to" s_chain_to Z.f_chain_to Z.d_chain_to
  b_chain_to : Binds K Z.d_chain_to ["needs", "ahead", "last"] []
  g_chain_to : mg "chain_to" = some (.ref Z.f_chain_to)
  F_list_for : Fun K "list_for" "list_for" s_list_for Z.f_list_for Z.d_list_for
  b_list_for : Binds K Z.d_list_for ["chain"] []
  g_list_for : mg "list_for" = some (.ref Z.f_list_for)
  F_apart_of : Fun K "apart_of" "apart_of" s_apart_of Z.f_apart_of Z.d_apart_of
  b_apart_of : Binds K Z.d_apart_of ["needs", "ahead", "lasts"] []
  g_apart_of : mg "apart_of" = some (.ref Z.f_apart_of)
  F_fewest : Fun K "fewest" "fewest" s_fewest Z.f_fewest Z.d_fewest
  C_fewest : FunC K "fewest" "fewest" s_fewest Z.f_fewest Z.d_fewest Z.c_fewest
  b_fewest : Binds K Z.d_fewest ["columns", "needs"] []
  g_fewest : mg "fewest" = some (.ref Z.f_fewest)
  F_letters_of : Fun K "letters_of" "letters_of" s_letters_of Z.f_letters_of Z.d_letters_of
  b_letters_of : Binds K Z.d_letters_of ["equals"] []
  g_letters_of : mg "letters_of" = some (.ref Z.f_letters_of)
  F_spans : Fun K "spans" "spans" s_spans Z.f_spans Z.d_spans
  b_spans : Binds K Z.d_spans ["question"] []
  g_spans : mg "spans" = some (.ref Z.f_spans)
  F_fits : Fun K "fits" "fits" s_fits Z.f_fits Z.d_fits
  b_fits : Binds K Z.d_fits ["columns", "row", "question"] []
  g_fits : mg "fits" = some (.ref Z.f_fits)
  F_used : Fun K "used" "used" s_used Z.f_used Z.d_used
  b_used : Binds K Z.d_used ["one", "question"] []
  g_used : mg "used" = some (.ref Z.f_used)
  F_stretch : Fun K "stretch" "stretch" s_stretch Z.f_stretch Z.d_stretch
  C_stretch : FunC K "stretch" "stretch" s_stretch Z.f_stretch Z.d_stretch Z.c_stretch
  b_stretch : Binds K Z.d_stretch ["table", "one", "question"] []
  g_stretch : mg "stretch" = some (.ref Z.f_stretch)
  F_read : Fun K "read" "read" s_read Z.f_read Z.d_read
  b_read : Binds K Z.d_read ["table", "one", "question"] []
  g_read : mg "read" = some (.ref Z.f_read)
  F_serves : Fun K "serves" "serves" s_serves Z.f_serves Z.d_serves
  C_serves : FunC K "serves" "serves" s_serves Z.f_serves Z.d_serves Z.c_serves
  b_serves : Binds K Z.d_serves ["one", "question"] []
  g_serves : mg "serves" = some (.ref Z.f_serves)
  F_l_bag : Fun K "_law_bag" "_law_bag" s_l_bag Z.f_l_bag Z.d_l_bag
  b_l_bag : Binds K Z.d_l_bag ["script"] []
  g_l_bag : mg "_law_bag" = some (.ref Z.f_l_bag)
  F_l_lot : Fun K "_law_lot" "_law_lot" s_l_lot Z.f_l_lot Z.d_l_lot
  b_l_lot : Binds K Z.d_l_lot ["bag", "many"] []
  g_l_lot : mg "_law_lot" = some (.ref Z.f_l_lot)
  F_l_columns : Fun K "_law_columns" "_law_columns" s_l_columns Z.f_l_columns Z.d_l_columns
  b_l_columns : Binds K Z.d_l_columns ["bag", "most"] []
  g_l_columns : mg "_law_columns" = some (.ref Z.f_l_columns)
  F_l_table : Fun K "_law_table" "_law_table" s_l_table Z.f_l_table Z.d_l_table
  b_l_table : Binds K Z.d_l_table ["bag", "most", "rows"] []
  g_l_table : mg "_law_table" = some (.ref Z.f_l_table)
  F_l_near : Fun K "_law_near" "_law_near" s_l_near Z.f_l_near Z.d_l_near
  b_l_near : Binds K Z.d_l_near ["bag", "table", "at"] []
  g_l_near : mg "_law_near" = some (.ref Z.f_l_near)
  F_l_question : Fun K "_law_question" "_law_question" s_l_question Z.f_l_question Z.d_l_question
  b_l_question : Binds K Z.d_l_question ["bag", "table"] []
  g_l_question : mg "_law_question" = some (.ref Z.f_l_question)
  F_l_fits : Fun K "_law_fits" "_law_fits" s_l_fits Z.f_l_fits Z.d_l_fits
  b_l_fits : Binds K Z.d_l_fits ["columns", "row", "question"] []
  g_l_fits : mg "_law_fits" = some (.ref Z.f_l_fits)
  F_l_need_of : Fun K "_law_need_of" "_law_need_of" s_l_need_of Z.f_l_need_of Z.d_l_need_of
  b_l_need_of : Binds K Z.d_l_need_of ["question"] []
  g_l_need_of : mg "_law_need_of" = some (.ref Z.f_l_need_of)
  F_l_order : Fun K "_law_order" "_law_order" s_l_order Z.f_l_order Z.d_l_order
  b_l_order : Binds K Z.d_l_order ["bag", "columns"] []
  g_l_order : mg "_law_order" = some (.ref Z.f_l_order)
  F_l_read_right : Fun K "_law_read_right" "_law_read_right" s_l_read_right Z.f_l_read_right Z.d_l_read_right
  b_l_read_right : Binds K Z.d_l_read_right ["table", "question", "lists"] []
  g_l_read_right : mg "_law_read_right" = some (.ref Z.f_l_read_right)
  F_law : Fun K "law" "law" s_law Z.f_law Z.d_law
  b_law : Binds K Z.d_law ["script"] []
  g_law : mg "law" = some (.ref Z.f_law)
  m_len : mg "len" = none
  m_range : mg "range" = none
  m_list : mg "list" = none
  m_sorted : mg "sorted" = none
  m_tuple : mg "tuple" = none
  m_min : mg "min" = none
  m_max : mg "max" = none
  m_enumerate : mg "enumerate" = none
  m_dict : mg "dict" = none
  m_isinstance : mg "isinstance" = none
  m_all : mg "all" = none
  m_bool : mg "bool" = none
  m_str : mg "str" = none
  m_int : mg "int" = none
  m_set : mg "set" = none
section
variable {P : Program} {w : World} {K : PySem.W.Frag} {mg : Str → Option Value} {base : Heap} {Z : Ad}
/-! ### a bag of numbers -/
def Bag (b bl : Addr) (H : Hp) : Prop := ∃ (ns : List Int) (k : Nat) (n : Int), b ≠ bl ∧ H b = some (.lst [.ref bl, .int k, .int n]) ∧ H bl = some (.lst (ns.map V.int))
theorem Bag.same {b bl : Addr} {H H' : Hp} (h : Bag b bl H) (s : Same H H') : Bag b bl H' := by
  obtain ⟨ns, k, n, e, h1, h2⟩ := h
  exact ⟨ns, k, n, e, s _ _ h1, s _ _ h2⟩
theorem Bag.upd {b bl p : Addr} {H : Hp} {o : HO} (h : Bag b bl H) (h1 : p ≠ b) (h2 : p ≠ bl) : Bag b bl (L2.upd H p o) := by
  obtain ⟨ns, k, n, e, g1, g2⟩ := h
  exact ⟨ns, k, n, e, keep_ne g1 (fun z => h1 z.symm), keep_ne g2 (fun z => h2 z.symm)⟩
theorem Bag.new {b bl p : Addr} {H : Hp} {o : HO} (h : Bag b bl H) (n : H p = none) : Bag b bl (L2.upd H p o) := h.same (Same.new (Same.refl H) n)
theorem Bag.ne {b bl p : Addr} {H : Hp} (h : Bag b bl H) (n : H p = none) : p ≠ b ∧ p ≠ bl := by
  obtain ⟨ns, k, m, e, g1, g2⟩ := h
  exact ⟨(ne_of_none g1 n).symm, (ne_of_none g2 n).symm⟩
theorem Kp.kTb {b bl : Addr} {H H' : Hp} (k : Kp b H H') (h : Bag b bl H) : KT H H' := by
  obtain ⟨ns, m, n, e, g1, g2⟩ := h
  exact k.kT g1
def spBag (K : PySem.W.Frag) : Sp := fun vs H Q _ => ∃ (a : Addr) (ns : List Int), vs = [.ref a] ∧ SqL K H a (ns.map V.int) ∧ ns.length ≤ 63 ∧ ∀ (b bl : Addr) (H' : Hp), Same H H' → H b = none → H bl = none → Bag b bl H' → Q (.ref b) H'
theorem ok_bag (T : Tx K mg Z) : FnOk P w K mg base CX0 1 Z.f_l_bag Z.d_l_bag ["script"] (spBag K) := by
  refine T.F_l_bag.ok sc_l_bag (fun vs H Q E h => ?_) (fun cdv A outer s H vs Q E hr h => ?_)
  · obtain ⟨a, ns, rfl, _⟩ := h
    rfl
  · obtain ⟨a, ns, rfl, hS, hl, q⟩ := h
    refine ⟨_, (pss_one (ps_ret (pe_lst (pa_cons (pe_callTy (cListSq K) (by rfl) T.m_list (by decide +kernel) (pa_cons (pe_slice (slLK K) (pv 0) po_none (po_some pe_int)) pa_nil)) (pa_cons pe_int (pa_cons pe_int pa_nil)))))), ?_⟩
    refine ⟨.ref a, rfl, _, rfl, a, _, rfl, hS, fun p np => ?_⟩
    have ecut : cutV (ns.map V.int) none (some (63 : Int)) = ns.map V.int := by
      unfold cutV
      rw [HT.sIx_none, show (63 : Int) = ((63 : Nat) : Int) from rfl, HT.sIx_nat, List.drop_zero, List.take_of_length_le (by rw [List.length_map]; omega)]
    rw [ecut]
    refine ⟨p, _, rfl, .inl (.inl (.inl upd_same)), fun l nl => ?_⟩
    refine ⟨(by show 3 ≤ sizeLine; decide), fun b nb => ?_⟩
    have s1 : Same H (upd H p (.lst (ns.map V.int))) := Same.new (Same.refl H) np
    have s2 : Same H (upd (upd H p (.lst (ns.map V.int))) l (.lst (ns.map V.int))) := Same.new s1 nl
    exact q b l _ (Same.new s2 nb) (Same.free s2 nb) (Same.free s1 nl) ⟨ns, (0 : Nat), (0 : Int), (fun e => by rw [e, upd_same] at nb; cases nb), upd_same, keep_new upd_same nb⟩
/-! ### _law_lot -/
def spLot (K : PySem.W.Frag) : Sp := fun vs H Q _ => ∃ (b bl : Addr) (m : Int), vs = [.ref b, .int m] ∧ Bag b bl H ∧ 0 < m ∧ m < 1073741824 ∧ ∀ (d : Int) (H' : Hp), Kp b H H' → Bag b bl H' → 0 ≤ d → d < m → Q (.int d) H'
set_option maxHeartbeats 4000000 in
theorem ok_lot (T : Tx K mg Z) : FnOk P w K mg base CX0 1 Z.f_l_lot Z.d_l_lot ["bag", "many"] (spLot K) := by
  refine T.F_l_lot.ok sc_l_lot (fun vs H Q E h => ?_) (fun cdv A outer s H vs Q E hr h => ?_)
  · obtain ⟨b, bl, m, rfl, _⟩ := h
    rfl
  · obtain ⟨b, bl, m, rfl, hB, h0, h1, q⟩ := h
    obtain ⟨ns, k, n, hne, hb, hbl⟩ := hB
    refine ⟨_, (pss_mid (ps_if (pt_cmpR op_eq (pe_ix (ixL K) (pv 0) pe_int (fun _ _ => rfl)) pe_int (nomark _)) (pss_cons (ps_set (i := 2) sc_l_lot.nd rfl (.inl rfl) (pe_ix (ixL K) (pv 0) pe_int (fun _ _ => rfl)))
      (pss_cons (ps_asg (pe_op op_add (pv 2) pe_int) (pg_sub (pv 0) pe_int set_list))
      (pss_cons (ps_set (i := 3) sc_l_lot.nd rfl (.inl rfl) pe_int)
      (pss_mid (ps_if (pt_cmpR op_lt (pv 2) (pe_callB (cLenSq K) (by rfl) T.m_len (by decide +kernel) (pa_cons (pe_ix (ixL K) (pv 0) pe_int (fun _ _ => rfl)) pa_nil)) (nomark _)) (pss_one (ps_set (i := 3) sc_l_lot.nd rfl (.inl rfl) (pe_ix (ixL K) (pe_ix (ixL K) (pv 0) pe_int (fun _ _ => rfl)) (pv 2) (fun _ _ => rfl)))) (pss_one (ps_if (pt_cmpR op_gt (pe_callB (cLenSq K) (by rfl) T.m_len (by decide +kernel) (pa_cons (pe_ix (ixL K) (pv 0) pe_int (fun _ _ => rfl)) pa_nil)) pe_int (nomark _)) (pss_one (ps_set (i := 3) sc_l_lot.nd rfl (.inl rfl) (pe_op op_add (pe_op op_mod (pe_ix (ixL K) (pe_ix (ixL K) (pv 0) pe_int (fun _ _ => rfl)) (pe_op op_mod (pe_op op_mul (pv 2) pe_int) (pe_callB (cLenSq K) (by rfl) T.m_len (by decide +kernel) (pa_cons (pe_ix (ixL K) (pv 0) pe_int (fun _ _ => rfl)) pa_nil))) (fun _ _ => rfl)) pe_int) (pe_op op_mul pe_int (pv 2))))) pss_nil)))
      (pss_cons (ps_set (i := 4) sc_l_lot.nd rfl (.inl rfl) (pe_op op_mod (pe_op op_mul (pe_op op_add (pe_op op_add (pe_op op_mod (pv 3) pe_int) (pe_op op_mul pe_int (pv 2))) pe_int) pe_int) pe_int))
      (pss_cons (ps_set (i := 5) sc_l_lot.nd rfl (.inl rfl) (pe_op op_mod (pe_op op_add (pe_op op_add (pe_op op_mul (pv 4) (pv 4)) (pe_op op_mul pe_int (pv 2))) pe_int) pe_int))
      (pss_cons (ps_set (i := 6) sc_l_lot.nd rfl (.inl rfl) (pe_op op_mod (pe_op op_add (pe_op op_add (pe_op op_mul (pv 5) (pv 5)) (pe_op op_mul pe_int (pv 4))) pe_int) pe_int))
      (pss_cons (ps_asg (pe_op op_add (pe_op op_fdivW (pe_op op_add (pe_op op_mul (pv 5) pe_int) (pv 6)) pe_int) pe_int) (pg_sub (pv 0) pe_int set_list))
      (pss_one (ps_if (pt_cmpR op_ge (pv 3) (pe_op op_pow pe_int pe_int) (nomark _)) (pss_one (ps_asg (pe_op op_fdivW (pv 3) (pe_op op_pow pe_int pe_int)) (pg_sub (pv 0) pe_int set_list))) pss_nil)))))))))) pss_nil)
      (pss_cons (ps_set (i := 7) sc_l_lot.nd rfl (.inl rfl) (pe_op op_mod (pe_ix (ixL K) (pv 0) pe_int (fun _ _ => rfl)) (pv 1)))
      (pss_cons (ps_asg (pe_op op_fdivW (pe_ix (ixL K) (pv 0) pe_int (fun _ _ => rfl)) (pv 1)) (pg_sub (pv 0) pe_int set_list))
      (pss_one (ps_ret (pv 7)))))), ?_⟩
    refine ⟨fun σ H' => ∃ (y2 y3 y4 y5 y6 : Option V) (k2 : Nat) (n2 : Int), σ = [some (.ref b), some (.int m), y2, y3, y4, y5, y6, none] ∧ Kp b H H' ∧ H' b = some (.lst [.ref bl, .int k2, .int n2]) ∧ H' bl = some (.lst (ns.map V.int)), ?_, fun σ H1 hM => ?_⟩
    · refine ⟨.ref b, rfl, b, _, 2, .int n, rfl, rfl, .inl (.inl hb), rfl, rfl, _, rfl, ite2 (fun e => ?_) (fun e => ?_)⟩
      · refine ⟨.ref b, rfl, b, _, 1, .int k, rfl, rfl, .inl (.inl hb), rfl, ?_⟩
        refine ⟨.int k, rfl, _, 1, rfl, rfl, .ref b, rfl, b, _, 1, 1, rfl, rfl, hb, rfl, ?_⟩
        have hb2 : (upd H b (.lst ([V.ref bl, .int k, .int n].set 1 (.int ((k : Int) + 1))))) b = some (.lst [.ref bl, .int ((k + 1 : Nat) : Int), .int n]) := by
          rw [upd_same]
          rfl
        have hbl2 : (upd H b (.lst ([V.ref bl, .int k, .int n].set 1 (.int ((k : Int) + 1))))) bl = some (.lst (ns.map V.int)) := keep_ne hbl (fun z => hne z.symm)
        have kp2 : Kp b H (upd H b (.lst ([V.ref bl, .int k, .int n].set 1 (.int ((k : Int) + 1))))) := fun c o hc hh => keep_ne hh hc
        refine ⟨fun σ H' => ∃ c : Int, σ = [some (.ref b), some (.int m), some (.int k), some (.int c), none, none, none, none] ∧ Kp b H H' ∧ H' b = some (.lst [.ref bl, .int ((k + 1 : Nat) : Int), .int n]) ∧ H' bl = some (.lst (ns.map V.int)), ?_, fun σ H2 hM => ?_⟩
        · refine ⟨.int k, rfl, .ref b, rfl, b, _, 0, .ref bl, rfl, rfl, .inl (.inl hb2), rfl, bl, _, rfl, .inl (.inl (.inl hbl2)), _, _, rfl, rfl, _, rfl, ite2 (fun e2 => ?_) (fun e2 => ?_)⟩
          · have e3 : (k : Int) < ((ns.map V.int).length : Nat) := of_decide_eq_true e2
            have e4 : k < ns.length := by
              rw [List.length_map] at e3
              omega
            refine ⟨.ref b, rfl, b, _, 0, .ref bl, rfl, rfl, .inl (.inl hb2), rfl, .int k, rfl, bl, _, _, .int ns[k], rfl, rfl, .inl (.inl hbl2), atI_nat (by rw [List.getElem?_map, List.getElem?_eq_getElem e4]; rfl), ?_⟩
            exact ⟨_, rfl, kp2, hb2, hbl2⟩
          · refine ⟨.ref b, rfl, b, _, 0, .ref bl, rfl, rfl, .inl (.inl hb2), rfl, bl, _, rfl, .inl (.inl (.inl hbl2)), _, _, rfl, rfl, _, rfl, ite2 (fun e3 => ?_) (fun e3 => ?_)⟩
            · have e4 : (0 : Int) < ((ns.map V.int).length : Nat) := of_decide_eq_true e3
              have hl0 : 0 < ns.length := by
                rw [List.length_map] at e4
                omega
              refine ⟨.ref b, rfl, b, _, 0, .ref bl, rfl, rfl, .inl (.inl hb2), rfl, .int k, rfl, _, 5, rfl, rfl, .inr ⟨by decide, by decide⟩, .ref b, rfl, b, _, 0, .ref bl, rfl, rfl, .inl (.inl hb2), rfl, bl, _, rfl, .inl (.inl (.inl hbl2)), _, _, rfl, rfl, e4, ?_⟩
              rw [List.length_map]
              have g0 : 0 ≤ ((k : Int) * 5) % (ns.length : Int) := Int.emod_nonneg _ (by omega)
              have g1 : ((k : Int) * 5) % (ns.length : Int) < (ns.length : Int) := Int.emod_lt_of_pos _ (by omega)
              have hj : (((k : Int) * 5) % (ns.length : Int)).toNat < ns.length := by omega
              refine ⟨bl, _, _, .int ns[(((k : Int) * 5) % (ns.length : Int)).toNat], rfl, rfl, .inl (.inl hbl2), L2.at_of (j := (((k : Int) * 5) % (ns.length : Int)).toNat) (by omega) (by rw [List.getElem?_map, List.getElem?_eq_getElem hj]; rfl), _, 1000003, rfl, rfl, (by show (0 : Int) < 1000003; decide), .int k, rfl, 97, _, rfl, rfl, .inl ⟨by decide, by decide⟩, _, _, rfl, rfl, ?_⟩
              exact ⟨_, rfl, kp2, hb2, hbl2⟩
            · exact ⟨_, rfl, kp2, hb2, hbl2⟩
        · obtain ⟨c, rfl, kp3, hb3, hbl3⟩ := hM
          have em : ∀ (x : Int) (d : Int), 0 < d → 0 ≤ x % d ∧ x % d < d := fun x d hd => ⟨Int.emod_nonneg _ (by omega), Int.emod_lt_of_pos _ hd⟩
          have b64 : ∀ x : Int, 0 ≤ x → x < 2147483647 → -(2 ^ 64) < x ∧ x < 2 ^ 64 := fun x h0 h1 => ⟨by omega, by omega⟩
          refine ⟨.int c, rfl, c, 2147483629, rfl, rfl, (by show (0 : Int) < 2147483629; decide), .int k, rfl, 83, _, rfl, rfl, .inl ⟨by decide, by decide⟩, _, _, rfl, rfl, _, 5, rfl, rfl, _, 48271, rfl, rfl, .inr ⟨by decide, by decide⟩, _, 998244353, rfl, rfl, (by show (0 : Int) < 998244353; decide), ?_⟩
          refine ⟨_, rfl, _, rfl, _, _, rfl, rfl, .inl (b64 _ (em _ 998244353 (by decide)).1 (Int.lt_trans (em _ 998244353 (by decide)).2 (by decide))), .int k, rfl, 69621, _, rfl, rfl, .inl ⟨by decide, by decide⟩, _, _, rfl, rfl, _, 17, rfl, rfl, _, 2147483647, rfl, rfl, (by show (0 : Int) < 2147483647; decide), ?_⟩
          refine ⟨_, rfl, _, rfl, _, _, rfl, rfl, .inl (b64 _ (em _ 2147483647 (by decide)).1 (em _ 2147483647 (by decide)).2), _, rfl, 3, _, rfl, rfl, .inl ⟨by decide, by decide⟩, _, _, rfl, rfl, _, 1, rfl, rfl, _, 1000000007, rfl, rfl, (by show (0 : Int) < 1000000007; decide), ?_⟩
          refine ⟨_, rfl, _, 1000000007, rfl, rfl, .inr ⟨by decide, by decide⟩, _, rfl, _, _, rfl, rfl, _, 4, rfl, rfl, wide_div (b := 4) (by decide) (by decide) (by decide) (by decide), _, 1, rfl, rfl, .ref b, rfl, b, _, 2, 2, rfl, rfl, hb3, rfl, ?_⟩
          refine ⟨.int c, rfl, 10, 18, rfl, rfl, ⟨by decide, by decide, by decide⟩, _, _, rfl, rfl, _, rfl, ite2 (fun e6 => ?_) (fun e6 => ?_)⟩
          · refine ⟨.int c, rfl, 10, 18, rfl, rfl, ⟨by decide, by decide, by decide⟩, _, _, rfl, rfl, wide_div (b := 60) (by decide) (by decide) (by decide) (by decide), .ref b, rfl, b, _, 2, 2, rfl, rfl, upd_same, rfl, ?_⟩
            exact ⟨_, _, _, _, _, k + 1, _, rfl, fun c o hc hh => keep_ne (keep_ne (kp3 c o hc hh) hc) hc, upd_same, keep_ne (keep_ne hbl3 (fun z => hne z.symm)) (fun z => hne z.symm)⟩
          · exact ⟨_, _, _, _, _, k + 1, _, rfl, fun c o hc hh => keep_ne (kp3 c o hc hh) hc, upd_same, keep_ne hbl3 (fun z => hne z.symm)⟩
      · exact ⟨_, _, _, _, _, k, n, rfl, Kp.rfl', hb, hbl⟩
    · obtain ⟨y2, y3, y4, y5, y6, k2, n2, rfl, kp1, hb1, hbl1⟩ := hM
      refine ⟨.ref b, rfl, b, _, 2, .int n2, rfl, rfl, .inl (.inl hb1), rfl, .int m, rfl, n2, m, rfl, rfl, h0, ?_⟩
      refine ⟨.ref b, rfl, b, _, 2, .int n2, rfl, rfl, .inl (.inl hb1), rfl, .int m, rfl, n2, m, rfl, rfl, wide_div (b := 30) h0 (by omega) (by decide) (by decide), ?_⟩
      refine ⟨.ref b, rfl, b, _, 2, 2, rfl, rfl, hb1, rfl, _, rfl, ?_⟩
      refine q _ _ ?_ ⟨ns, k2, n2 / m, hne, upd_same, keep_ne hbl1 (fun z => hne z.symm)⟩ (Int.emod_nonneg _ (by omega)) (Int.emod_lt_of_pos _ h0)
      exact fun c o hc hh => keep_ne (kp1 c o hc hh) hc

/-! ### _law_columns -/
def alpha : List Nat := [97, 98, 99, 100, 101, 102, 103, 104, 105, 106, 107, 108, 109, 110, 111, 112, 113, 114, 115, 116, 117, 118, 119, 120, 121, 122]
def spColumns (K : PySem.W.Frag) : Sp := fun vs H Q _ => ∃ (b bl : Addr) (m : Nat), vs = [.ref b, .int m] ∧ Bag b bl H ∧ 1 ≤ m ∧ m ≤ 26 ∧ ∀ (l : List Nat) (H' : Hp), Kp b H H' → Bag b bl H' → Cols l → 1 ≤ l.length → l.length ≤ m → Q (tx l) H'
theorem ok_columns (T : Tx K mg Z) : FnOk P w K mg base CX0 2 Z.f_l_columns Z.d_l_columns ["bag", "most"] (spColumns K) := by
  have G_l_lot : FnOk P w K mg base CX0 1 Z.f_l_lot Z.d_l_lot ["bag", "many"] (spLot K) := ok_lot T
  refine T.F_l_columns.ok sc_l_columns (fun vs H Q E h => ?_) (fun cdv A outer s H vs Q E hr h => ?_)
  · obtain ⟨b, bl, m, rfl, _⟩ := h
    rfl
  · obtain ⟨b, bl, m, rfl, hB, hm1, hm, q⟩ := h
    refine ⟨_, (pss_cons (ps_set (i := 2) sc_l_columns.nd rfl (.inl rfl) (pe_callTy call_list_txt (by rfl) T.m_list (by decide +kernel) (pa_cons pe_str pa_nil)))
      (pss_cons (ps_set (i := 3) sc_l_columns.nd rfl (.inl rfl) (pe_lst pa_nil))
      (pss_cons (ps_for PassesOwn.never rfl (pi_range1 (by rfl) T.m_range (pa_cons (pe_op op_add pe_int (pe_call G_l_lot (hr.mono (by omega)) (by rfl) T.g_l_lot T.F_l_lot.kp T.b_l_lot .nil pass0 (pa_cons (pv 0) (pa_cons (pv 1) pa_nil)))) pa_nil)) (pg_name (i := 4) sc_l_columns.nd rfl (.inl rfl)) (pss_one (ps_expr (bmK K PySem.F.plainAttrs_list PySem.F.slot_list_append PySem.F.type_list_append mt_append (pv 3) (pa_cons (bmK K PySem.F.plainAttrs_list PySem.F.slot_list_pop PySem.F.type_list_pop mt_popAt (pv 2) (pa_cons (pe_call G_l_lot (hr.mono (by omega)) (by rfl) T.g_l_lot T.F_l_lot.kp T.b_l_lot .nil pass0 (pa_cons (pv 0) (pa_cons (pe_callB (cLenSq K) (by rfl) T.m_len (by decide +kernel) (pa_cons (pv 2) pa_nil)) pa_nil))) pa_nil)) pa_nil)))))
      (pss_one (ps_ret (pe_join pe_str (pe_callB cr_sortedS (by rfl) T.m_sorted (by decide +kernel) (pa_cons (pv 3) pa_nil)))))))), ?_⟩
    have ea : (Str.ofString "abcdefghijklmnopqrstuvwxyz").cps.toList = alpha := by decide +kernel
    refine ⟨_, rfl, (by decide +kernel), fun L nL => ?_⟩
    rw [ea]
    refine ⟨Nat.zero_le _, fun F nF => ?_⟩
    have nFL : F ≠ L := fun e => by
      rw [e, upd_same] at nF
      cases nF
    have nF0 : H F = none := by
      rw [upd_ne nFL] at nF
      exact nF
    have nLb := hB.ne nL
    have nFb := hB.ne nF0
    have hB2 := (hB.new nL (o := .lst (alpha.map sg))).new nF (o := .lst [])
    have hL2 : (upd (upd H L (.lst (alpha.map sg))) F (.lst [])) L = some (.lst (alpha.map sg)) := keep_new upd_same nF
    have hF2 : (upd (upd H L (.lst (alpha.map sg))) F (.lst [])) F = some (.lst []) := upd_same
    have kp2 : Kp b H (upd (upd H L (.lst (alpha.map sg))) F (.lst [])) := (Kp.new Kp.rfl' nL).new nF
    generalize upd (upd H L (.lst (alpha.map sg))) F (.lst []) = H2 at hB2 hL2 hF2 kp2 ⊢
    refine ⟨.ref b, rfl, .int m, rfl, b, bl, m, rfl, hB2, by omega, by omega, fun g H3 kp3 hB3 g0 g1 => ?_⟩
    have hL3 := kp3 _ _ nLb.1 hL2
    have hF3 := kp3 _ _ nFb.1 hF2
    refine ⟨1, _, rfl, rfl, _, rfl, by omega, by omega, for_range (fun i σ H' => ∃ (ll ff : List Nat) (y : Option V), σ = [some (.ref b), some (.int m), some (.ref L), some (.ref F), y] ∧ Kp b H H' ∧ Bag b bl H' ∧ H' L = some (.lst (ll.map sg)) ∧ H' F = some (.lst (ff.map sg)) ∧ (ll ++ ff).Perm alpha ∧ ff.length = i)
      ⟨alpha, [], none, rfl, kp2.trans kp3, hB3, hL3, hF3, by rw [List.append_nil], rfl⟩ (fun i σ H' hi hP => ?_) (fun σ H' hP => ?_)⟩
    · obtain ⟨ll, ff, y, rfl, kp, hB1, hL, hF, hp, hl⟩ := hP
      have hlen : ll.length + ff.length = 26 := by
        have := hp.length_eq
        rw [List.length_append] at this
        exact this
      have hll : 0 < ll.length := by omega
      refine ⟨.ref F, rfl, .inl ⟨rfl, _, .inl (.inl hF)⟩, .ref L, rfl, .inl ⟨rfl, _, .inl (.inl hL)⟩, .ref b, rfl, .ref L, rfl, L, _, rfl, .inl (.inl (.inl hL)), b, bl, _, rfl, hB1, ?_, ?_, fun d H4 kp4 hB4 d0 d1 => ?_⟩
      · rw [List.length_map]
        omega
      · rw [List.length_map]
        omega
      · rw [List.length_map] at d1
        have hd : d.toNat < ll.length := by omega
        have hL4 : H4 L = some (.lst (ll.map sg)) := kp4 _ _ nLb.1 hL
        have hF4 : (upd H4 L (.lst ((ll.map sg).eraseIdx d.toNat))) F = some (.lst (ff.map sg)) := keep_ne (kp4 _ _ nFb.1 hF) nFL
        have hy : ll[d.toNat]? = some ll[d.toNat] := List.getElem?_eq_getElem hd
        refine ⟨L, _, d, d.toNat, sg ll[d.toNat], rfl, rfl, hL4, by omega, by omega, PySem.seqIndex_of d0 (by rw [List.length_map]; exact d1), ?_, F, _, _, rfl, rfl, hF4, ?_, ?_⟩
        · rw [List.getElem?_map, hy]
          rfl
        · rw [List.length_map]
          exact small1000 (by omega)
        · refine ⟨ll.eraseIdx d.toNat, ff ++ [ll[d.toNat]], _, rfl, ?_, ?_, ?_, ?_, (popped hy ff).trans hp, by rw [List.length_append, hl]; rfl⟩
          · exact ((kp.trans kp4).mut nL).mut nF0
          · exact (hB4.upd nLb.1 nLb.2).upd nFb.1 nFb.2
          · rw [upd_ne nFL.symm, upd_same, erase_map]
          · rw [upd_same, List.map_append]
            rfl
    · obtain ⟨ll, ff, y, rfl, kp, hB1, hL, hF, hp, hl⟩ := hP
      have hm2 : 1 ≤ ff.length ∧ ff.length ≤ m := by
        rw [hl]
        omega
      refine ⟨⟨_, rfl⟩, .ref F, rfl, F, ff.map sS, rfl, .inl (.inl (by rw [← map_sg]; exact hF)), by rw [List.length_map]; omega, fun ys p hys hso np => ?_⟩
      obtain ⟨l, rfl, pl⟩ := perm_signs hys
      have ndA : (ll ++ ff).Nodup := hp.nodup_iff.mpr (by decide)
      have ndf : ff.Nodup := (List.nodup_append.mp ndA).2.1
      have ndl : l.Nodup := pl.nodup_iff.mpr ndf
      refine ⟨_, p, _, rfl, rfl, .inl (.inl (.inl upd_same)), ?_, ?_⟩
      · rw [show (Str.ofString "").length = 0 by decide +kernel, Nat.mul_zero, Nat.add_zero, signs_len, pl.length_eq]
        exact Nat.le_of_lt (small1000 (by omega))
      · rw [join_signs]
        refine q l _ (kp.new np) (hB1.new np) ⟨strict_of (sorted_signs l hso) ndl, fun c hc => ?_⟩ (by rw [pl.length_eq]; exact hm2.1) (by rw [pl.length_eq]; exact hm2.2)
        have hc2 : c ∈ alpha := hp.mem_iff.mp (List.mem_append_right _ (pl.mem_iff.mp hc))
        have : ∀ c ∈ alpha, 97 ≤ c ∧ c ≤ 122 := by decide
        exact this c hc2

/-! ### _law_table -/
def spTable (K : PySem.W.Frag) : Sp := fun vs H Q _ => ∃ (b bl : Addr) (most rn : Nat), vs = [.ref b, .int most, .int rn] ∧ Bag b bl H ∧ 1 ≤ most ∧ most ≤ 26 ∧ rn ≤ 900 ∧
  ∀ (cols : List Nat) (rows : List (List Int)) (v : V) (H' : Hp), Kp b H H' → Bag b bl H' → Fz H' v (tabD cols rows) → Cols cols → 1 ≤ cols.length → cols.length ≤ most → RowsOk cols.length rows → rows.length ≤ rn → Q v H'
theorem ok_table (T : Tx K mg Z) : FnOk P w K mg base CX0 3 Z.f_l_table Z.d_l_table ["bag", "most", "rows"] (spTable K) := by
  have G_l_lot : FnOk P w K mg base CX0 1 Z.f_l_lot Z.d_l_lot ["bag", "many"] (spLot K) := ok_lot T
  have G_l_columns : FnOk P w K mg base CX0 2 Z.f_l_columns Z.d_l_columns ["bag", "most"] (spColumns K) := ok_columns T
  refine T.F_l_table.ok sc_l_table (fun vs H Q E h => ?_) (fun cdv A outer s H vs Q E hr h => ?_)
  · obtain ⟨b, bl, most, rn, rfl, _⟩ := h
    rfl
  · obtain ⟨b, bl, most, rn, rfl, hB, hm1, hm2, hrn, q⟩ := h
    refine ⟨_, (pss_cons (ps_set (i := 3) sc_l_table.nd rfl (.inl rfl) (pe_call G_l_columns (hr.mono (by omega)) (by rfl) T.g_l_columns T.F_l_columns.kp T.b_l_columns .nil pass0 (pa_cons (pv 0) (pa_cons (pv 1) pa_nil))))
      (pss_cons (ps_set (i := 4) sc_l_table.nd rfl (.inr rfl) (pe_ix (ixL K) (pe_lst (pa_cons pe_int (pa_cons pe_int (pa_cons pe_int (pa_cons pe_int pa_nil))))) (pe_call G_l_lot (hr.mono (by omega)) (by rfl) T.g_l_lot T.F_l_lot.kp T.b_l_lot .nil pass0 (pa_cons (pv 0) (pa_cons pe_int pa_nil))) (fun _ _ => rfl)))
      (pss_cons (ps_set (i := 5) sc_l_table.nd rfl (.inl rfl) (pe_lst pa_nil))
      (pss_cons (ps_for PassesOwn.never rfl (pi_range1 (by rfl) T.m_range (pa_cons (pe_call G_l_lot (hr.mono (by omega)) (by rfl) T.g_l_lot T.F_l_lot.kp T.b_l_lot .nil pass0 (pa_cons (pv 0) (pa_cons (pe_op op_add (pv 2) pe_int) pa_nil))) pa_nil)) (pg_name (i := 6) sc_l_table.nd rfl (.inl rfl)) (pss_one (ps_expr (bmK K PySem.F.plainAttrs_list PySem.F.slot_list_append PySem.F.type_list_append mt_append (pv 5) (pa_cons (pe_callTy (cTupSq K) (by rfl) T.m_tuple (by decide +kernel) (pa_cons (pe_lc (own := [("letter", 7)]) (tt := tYes) (by rfl) sc_l_table.nd (pi_str (pv 3)) (blkOk_by (own := [("letter", 7)]) (by kernel_rfl)) (fun _ _ _ _ _ => (pg_name (i := 7) sc_l_table.nd rfl (.inl rfl))) (fun _ _ _ _ _ => pts_nil) (fun _ _ _ _ _ => (pe_call G_l_lot (hr.mono (by omega)) (by rfl) T.g_l_lot T.F_l_lot.kp T.b_l_lot .nil pass0 (pa_cons (pv 0) (pa_cons (pv 4) pa_nil))))) pa_nil)) pa_nil)))))
      (pss_one (ps_ret (pe_tup (pa_cons (pv 3) (pa_cons (pe_callTy (cTupSq K) (by rfl) T.m_tuple (by decide +kernel) (pa_cons (pv 5) pa_nil)) pa_nil))))))))), ?_⟩
    refine ⟨.ref b, rfl, .int most, rfl, b, bl, most, rfl, hB, hm1, hm2, fun cols H1 kp1 hB1 hc hc1 hc2 => ?_⟩
    -- spread
    refine ⟨(by show 4 ≤ sizeLine; decide), fun L nL => ?_⟩
    have nLb := hB1.ne nL
    have hB2 := hB1.new nL (o := .lst [.int 2, .int 3, .int 6, .int 1000])
    have hL2 : (upd H1 L (.lst [.int 2, .int 3, .int 6, .int 1000])) L = some (.lst [.int 2, .int 3, .int 6, .int 1000]) := upd_same
    have kp2 : Kp b H (upd H1 L (.lst [.int 2, .int 3, .int 6, .int 1000])) := kp1.new nL
    generalize upd H1 L (.lst [.int 2, .int 3, .int 6, .int 1000]) = H2 at hB2 hL2 kp2 ⊢
    refine ⟨.ref b, rfl, b, bl, 4, rfl, hB2, by decide, by decide, fun e H3 kp3 hB3 e0 e1 => ?_⟩
    obtain ⟨t, ht, hat⟩ := at_ints (ns := [2, 3, 6, 1000]) e0 e1
    have htb : 0 < t ∧ t ≤ 1000 := by
      have : ∀ z ∈ ([2, 3, 6, 1000] : List Int), 0 < z ∧ z ≤ 1000 := by decide
      exact this t ht
    refine ⟨L, [2, 3, 6, 1000].map V.int, e, .int t, rfl, rfl, .inl (.inl (kp3 _ _ nLb.1 hL2)), hat, ?_⟩
    have kpA : Kp b H H3 := kp2.trans kp3
    -- found
    refine ⟨Nat.zero_le _, fun D nD => ?_⟩
    have nDb := hB3.ne nD
    have nDH : H D = none := Kp.none kpA nDb.1 nD
    have hB4 := hB3.new nD (o := .lst [])
    have hD4 : (upd H3 D (.lst [])) D = some (.lst []) := upd_same
    have kp4 : Kp b H (upd H3 D (.lst [])) := kpA.new nD
    generalize upd H3 D (.lst []) = H4 at hB4 hD4 kp4 ⊢
    refine ⟨.ref b, rfl, .int rn, rfl, rn, 1, rfl, rfl, b, bl, _, rfl, hB4, by omega, by omega, fun m H5 kp5 hB5 m0 m1 => ?_⟩
    have hD5 := kp5 _ _ nDb.1 hD4
    refine ⟨m, rfl, by omega, by omega, for_range (fun i σ H' => ∃ (rows : List (List Int)) (vs : List V) (y : Option V), σ = [some (.ref b), some (.int most), some (.int rn), some (tx cols), some (.int t), some (.ref D), y, none] ∧ Kp b H H' ∧ Bag b bl H' ∧ H' D = some (.lst vs) ∧ FzA H' vs (rows.map rowD) ∧ RowsOk cols.length rows ∧ rows.length = i)
      ⟨[], [], none, rfl, kp4.trans kp5, hB5, hD5, .nil, (fun _ h => nomatch h), rfl⟩ (fun i σ H6 hi hP => ?_) (fun σ H6 hP => ?_)⟩
    · obtain ⟨rows, vs, y, rfl, kp6, hB6, hD6, fvs, hok, hln⟩ := hP
      refine ⟨.ref D, rfl, .inl ⟨rfl, _, .inl (.inl hD6)⟩, tx cols, rfl, _, rfl, fun D3 nD3 => lc_it walk_str (fun j H' => ∃ row : List Int, Kp b H6 H' ∧ Bag b bl H' ∧ H' D3 = some (.lst (row.map V.int)) ∧ row.length = j ∧ ∀ x ∈ row, 0 ≤ x ∧ x < 1000)
        ⟨[], Kp.rfl'.new nD3, hB6.new nD3, upd_same, rfl, fun _ h => nomatch h⟩ (fun _ _ _ _ => trivial) (fun j x H7 H8 hj hP hY => ?_) (fun H7 hP => ?_)⟩
      · obtain ⟨row, kp7, hB7, hD7, hl7, hx7⟩ := hP
        obtain ⟨rfl, c, hcc, rfl⟩ := hY
        have n3b := hB6.ne nD3
        have hj2 : j < cols.length := by simpa using hj
        refine ⟨rfl, .ref b, rfl, .int t, rfl, b, bl, t, rfl, hB7, htb.1, by omega, fun g H9 kp9 hB9 g0 g1 => ?_⟩
        refine ⟨row.map V.int, kp9 _ _ n3b.1 hD7, by rw [List.length_map]; exact small1000 (by omega), row ++ [g], (kp7.trans kp9).mut nD3, hB9.upd n3b.1 n3b.2, by rw [upd_same, List.map_append]; rfl, by rw [List.length_append, hl7]; rfl, fun u hu => ?_⟩
        rcases List.mem_append.mp hu with z | z
        · exact hx7 u z
        · rw [List.mem_singleton.mp z]
          exact ⟨g0, by omega⟩
      · obtain ⟨row, kp7, hB7, hD7, hl7, hx7⟩ := hP
        have hl8 : row.length = cols.length := by simpa using hl7
        refine ⟨D3, row.map V.int, rfl, .inl ⟨.inl (.inl hD7), fun r nr => ?_⟩⟩
        have hD8 : H7 D = some (.lst vs) := kp7 _ _ nDb.1 hD6
        have hD9 : (upd H7 r (.tup (row.map V.int))) D = some (.lst vs) := keep_new hD8 nr
        have kt : Kt H6 H7 := (kp7.kTb hB6).1
        refine ⟨D, vs, .ref r, rfl, rfl, hD9, by rw [fvs.len, List.length_map]; exact small1000 (by omega), rows ++ [row], vs ++ [.ref r], _, rfl, ((kp6.trans kp7).new nr).mut nDH, (hB7.new nr).upd nDb.1 nDb.2, upd_same, ?_, fun x hx => ?_, by rw [List.length_append, hln]; rfl⟩
        · rw [List.map_append]
          exact (FzA.snoc ((fvs.kt kt).kt (.new nr)) (row_made nr)).kt (.lst hD9)
        · rcases List.mem_append.mp hx with z | z
          · exact hok x z
          · rw [List.mem_singleton.mp z]
            exact ⟨hl8, hx7⟩
    · obtain ⟨rows, vs, y, rfl, kp6, hB6, hD6, fvs, hok, hln⟩ := hP
      refine ⟨tx cols, rfl, .ref D, rfl, D, vs, rfl, .inl ⟨.inl (.inl hD6), fun R nR => ⟨(by show 2 ≤ sizeLine; decide), fun t2 nt2 => ?_⟩⟩⟩
      have f1 : Fz (upd H6 R (.tup vs)) (.ref R) (rowsD rows) := Fz.made nR fvs
      exact q cols rows (.ref t2) _ ((kp6.new nR).new nt2) ((hB6.new nR).new nt2) (Fz.made nt2 (.cons (.str _) (.cons f1 .nil))) hc hc1 hc2 hok (by omega)

/-! ### _law_near -/
def spNear (K : PySem.W.Frag) : Sp := fun vs H Q _ => ∃ (b bl : Addr) (tb : V) (cols : List Nat) (rows : List (List Int)) (at_ : Nat), vs = [.ref b, tb, .int at_] ∧ Bag b bl H ∧ Fz H tb (tabD cols rows) ∧ RowsOk cols.length rows ∧ at_ < cols.length ∧ rows.length ≤ 1000 ∧
  ∀ (x : Int) (H' : Hp), Kp b H H' → Bag b bl H' → 0 ≤ x → x < 1000 → Q (.int x) H'
theorem ok_near (T : Tx K mg Z) : FnOk P w K mg base CX0 2 Z.f_l_near Z.d_l_near ["bag", "table", "at"] (spNear K) := by
  have G_l_lot : FnOk P w K mg base CX0 1 Z.f_l_lot Z.d_l_lot ["bag", "many"] (spLot K) := ok_lot T
  refine T.F_l_near.ok sc_l_near (fun vs H Q E h => ?_) (fun cdv A outer s H vs Q E hr h => ?_)
  · obtain ⟨b, bl, tb, cols, rows, at_, rfl, _⟩ := h
    rfl
  · obtain ⟨b, bl, tb, cols, rows, at_, rfl, hB, fT, hrs, hat, hrl, q⟩ := h
    obtain ⟨t, R, vs, rfl, ht, hRR, fvs⟩ := tab_open fT
    refine ⟨_, (pss_cons (ps_set (i := 3) sc_l_near.nd rfl (.inl rfl) (pe_call G_l_lot (hr.mono (by omega)) (by rfl) T.g_l_lot T.F_l_lot.kp T.b_l_lot .nil pass0 (pa_cons (pv 0) (pa_cons pe_int pa_nil))))
      (pss_cons (ps_if (PW.pt (pw_or (pt_cmpR (eqDK K hr.units) (pe_ix (ixT K) (pv 1) pe_int (fun _ _ => rfl)) (pe_tup pa_nil) (nomark _)) (pw_or1 (pt_cmpR op_eq (pv 3) pe_int (nomark _))))) (pss_one (ps_ret (pe_call G_l_lot (hr.mono (by omega)) (by rfl) T.g_l_lot T.F_l_lot.kp T.b_l_lot .nil pass0 (pa_cons (pv 0) (pa_cons (pe_ix (ixL K) (pe_lst (pa_cons pe_int (pa_cons pe_int pa_nil))) (pe_call G_l_lot (hr.mono (by omega)) (by rfl) T.g_l_lot T.F_l_lot.kp T.b_l_lot .nil pass0 (pa_cons (pv 0) (pa_cons pe_int pa_nil))) (fun _ _ => rfl)) pa_nil))))) pss_nil)
      (pss_cons (ps_set (i := 4) sc_l_near.nd rfl (.inl rfl) (pe_ix (ixT K) (pe_ix (ixT K) (pe_ix (ixT K) (pv 1) pe_int (fun _ _ => rfl)) (pe_call G_l_lot (hr.mono (by omega)) (by rfl) T.g_l_lot T.F_l_lot.kp T.b_l_lot .nil pass0 (pa_cons (pv 0) (pa_cons (pe_callB (cLenSq K) (by rfl) T.m_len (by decide +kernel) (pa_cons (pe_ix (ixT K) (pv 1) pe_int (fun _ _ => rfl)) pa_nil)) pa_nil))) (fun _ _ => rfl)) (pv 2) (fun _ _ => rfl)))
      (pss_one (ps_ret (pe_callB (call_min2 rfl) (by rfl) T.m_min (by decide +kernel) (pa_cons pe_int (pa_cons (pe_callB (call_max2 rfl) (by rfl) T.m_max (by decide +kernel) (pa_cons pe_int (pa_cons (pe_op op_add (pv 4) (pe_ix (ixL K) (pe_lst (pa_cons pe_int (pa_cons pe_int (pa_cons pe_int (pa_cons pe_int (pa_cons (pe_un un_neg pe_int) pa_nil)))))) (pv 3) (fun _ _ => rfl))) pa_nil))) pa_nil)))))))), ?_⟩
    refine ⟨.ref b, rfl, b, bl, 6, rfl, hB, by decide, by decide, fun way H1 kp1 hB1 w0 w1 => ?_⟩
    have kt1 : Kt H H1 := (kp1.kTb hB).1
    -- one more is drawn
    have pick2 : ∀ (H2 : Hp), Kp b H H2 → Bag b bl H2 → tRet (tCall (spLot K) [] E0 (tCons (tVar 0) (tCons (tOp (rIxL K) (tLst (tCons (tC (V.int 4)) (tCons (tC (V.int 1000)) tNil))) (tCall (spLot K) [] E0 (tCons (tVar 0) (tCons (tC (V.int 2)) tNil)))) tNil))) { nx := fun x H' => Q V.non H', rt := Q } [some (.ref b), some (.ref t), some (.int at_), some (.int way), none] H2 := by
      intro H2 kp2 hB2
      refine ⟨.ref b, rfl, (by show 2 ≤ sizeLine; decide), fun L nL => ?_⟩
      have nLb := hB2.ne nL
      refine ⟨.ref b, rfl, b, bl, 2, rfl, hB2.new nL, by decide, by decide, fun d H3 kp3 hB3 d0 d1 => ?_⟩
      obtain ⟨z, hz, hza⟩ := at_ints (ns := [4, 1000]) d0 d1
      have hz2 : ∀ z ∈ ([4, 1000] : List Int), 0 < z ∧ z ≤ 1000 := by decide
      have hz3 := hz2 z hz
      refine ⟨L, [4, 1000].map V.int, d, .int z, rfl, rfl, .inl (.inl (kp3 _ _ nLb.1 upd_same)), hza, b, bl, z, rfl, hB3, hz3.1, by omega, fun x H4 kp4 hB4 x0 x1 => ?_⟩
      exact q x _ (((kp2.new nL).trans kp3).trans kp4) hB4 x0 (by omega)
    refine ⟨.ref t, rfl, t, _, 1, .ref R, rfl, rfl, .inl (.inl (kt1 _ _ ht)), rfl, (by show 0 ≤ sizeLine; decide), fun p np => ?_⟩
    have hp : Fz (upd H1 p (.tup [])) (.ref p) (.tuple []) := Fz.made np .nil
    have hRp : Fz (upd H1 p (.tup [])) (.ref R) (rowsD rows) := ((Fz.tup hRR fvs).kt kt1).kt (.new np)
    have kp2 : Kp b H (upd H1 p (.tup [])) := kp1.new np
    have hB2 := hB1.new np (o := .tup [])
    have kt2 : Kt H (upd H1 p (.tup [])) := kt1.trans (.new np)
    generalize upd H1 p (.tup []) = H2 at hp hRp kp2 hB2 kt2 ⊢
    refine ⟨_, _, hRp.to, hp.to, shaped_rows rows, shaped_rows [], _, rfl, ite2 (fun ee => ?_) (fun ee => ?_)⟩
    · exact pick2 H2 kp2 hB2
    · have ne : rows ≠ [] := fun z => by
        rw [z] at ee
        exact ee rfl
      have hpos : 0 < rows.length := List.length_pos_iff.mpr ne
      refine ⟨.int way, rfl, rfl, _, rfl, ite2 (fun e5 => ?_) (fun e5 => ?_)⟩
      · exact pick2 H2 kp2 hB2
      · have e52 : way ≠ 5 := fun z => e5 (decide_eq_true (by rw [z]))
        have ht2 := kt2 _ _ ht
        have hRR2 := kt2 _ _ hRR
        have fvs2 := fvs.kt kt2
        have hvl : vs.length = rows.length := by rw [fvs2.len, List.length_map]
        refine ⟨.ref t, rfl, t, _, 1, .ref R, rfl, rfl, .inl (.inl ht2), rfl, .ref b, rfl, .ref t, rfl, t, _, 1, .ref R, rfl, rfl, .inl (.inl ht2), rfl, R, vs, rfl, .inr (.inl (.inl hRR2)), b, bl, _, rfl, hB2, by omega, by omega, fun d H3 kp3 hB3 d0 d1 => ?_⟩
        have hd : d.toNat < rows.length := by omega
        have kt3 : Kt H2 H3 := (kp3.kTb hB2).1
        obtain ⟨v, hv, fv⟩ := (fvs2.kt kt3).get (i := d.toNat) (d := rowD rows[d.toNat]) (by rw [List.getElem?_map, List.getElem?_eq_getElem hd]; rfl)
        have rok := hrs rows[d.toNat] (List.getElem_mem hd)
        obtain ⟨rb, rfl, hrb⟩ := row_open fv
        have hal2 : at_ < rows[d.toNat].length := by
          rw [rok.1]
          exact hat
        refine ⟨R, vs, d, .ref rb, rfl, rfl, .inl (.inl (kt3 _ _ hRR2)), L2.at_of (j := d.toNat) (by omega) hv, .int at_, rfl, rb, _, _, .int rows[d.toNat][at_], rfl, rfl, .inl (.inl hrb), atI_nat (by rw [List.getElem?_map, List.getElem?_eq_getElem hal2]; rfl), ?_⟩
        refine ⟨_, rfl, 1, rfl, (by show 5 ≤ sizeLine; decide), fun L nL => ?_⟩
        obtain ⟨z, hz, hza⟩ := at_ints (ns := [0, 0, 0, 1, -1]) w0 (by show way < 5; omega)
        refine ⟨.int way, rfl, L, [0, 0, 0, 1, -1].map V.int, way, .int z, rfl, rfl, .inl (.inl upd_same), hza, _, z, rfl, rfl, 0, _, rfl, 999, _, rfl, ?_⟩
        refine q _ _ ((kp2.trans kp3).new nL) (hB3.new nL) ?_ ?_
        · have m0 : (0 : Int) ≤ (if rows[d.toNat][at_] + z > 0 then rows[d.toNat][at_] + z else 0) := by
            split <;> omega
          split <;> omega
        · split <;> omega

/-! ### _law_question -/
theorem ints_of (os : List Nat) : os.map (fun j : Nat => V.int (j : Int)) = (os.map fun j : Nat => (j : Int)).map V.int := by
  rw [List.map_map]
  rfl
def spQuestion (K : PySem.W.Frag) : Sp := fun vs H Q _ => ∃ (b bl : Addr) (tb : V) (cols : List Nat) (rows : List (List Int)), vs = [.ref b, tb] ∧ Bag b bl H ∧ Fz H tb (tabD cols rows) ∧ Cols cols ∧ cols.length ≤ 26 ∧ RowsOk cols.length rows ∧ rows.length ≤ 1000 ∧
  ∀ (es : List (Nat × Int)) (rc : Option (Nat × Int × Int)) (v : V) (H' : Hp), Kp b H H' → Bag b bl H' → QZ H' v es rc → QOk cols es rc → Q v H'
theorem ok_question (T : Tx K mg Z) : FnOk P w K mg base CX0 3 Z.f_l_question Z.d_l_question ["bag", "table"] (spQuestion K) := by
  have G_l_lot : FnOk P w K mg base CX0 1 Z.f_l_lot Z.d_l_lot ["bag", "many"] (spLot K) := ok_lot T
  have G_l_near : FnOk P w K mg base CX0 2 Z.f_l_near Z.d_l_near ["bag", "table", "at"] (spNear K) := ok_near T
  refine T.F_l_question.ok sc_l_question (fun vs H Q E h => ?_) (fun cdv A outer s H vs Q E hr h => ?_)
  · obtain ⟨b, bl, tb, cols, rows, rfl, _⟩ := h
    rfl
  · obtain ⟨b, bl, tb, cols, rows, rfl, hB, fT, hc, hc2, hrs, hrn, q⟩ := h
    have fT0 := fT
    obtain ⟨t, R, vs, rfl, ht, hRR, fvs⟩ := tab_open fT0
    refine ⟨_, (pss_cons (ps_set (i := 2) sc_l_question.nd rfl (.inl rfl) (pe_ix (ixT K) (pv 1) pe_int (fun _ _ => rfl)))
      (pss_cons (ps_set (i := 3) sc_l_question.nd rfl (.inl rfl) (pe_lst pa_nil))
      (pss_cons (ps_set (i := 4) sc_l_question.nd rfl (.inl rfl) (pe_lst pa_nil))
      (pss_cons (ps_for PassesOwn.never rfl (pi_enumS (by rfl) T.m_enumerate (pa_cons (pv 2) pa_nil)) (pgT K (n := 2) (pgs_cons (pg_name (i := 5) sc_l_question.nd rfl (.inl rfl)) (pgs_cons (pg_name (i := 6) sc_l_question.nd rfl (.inl rfl)) pgs_nil))) (pss_one (ps_if (pt_cmpR op_eq (pe_call G_l_lot (hr.mono (by omega)) (by rfl) T.g_l_lot T.F_l_lot.kp T.b_l_lot .nil pass0 (pa_cons (pv 0) (pa_cons pe_int pa_nil))) pe_int (nomark _)) (pss_one (ps_expr (bmK K PySem.F.plainAttrs_list PySem.F.slot_list_append PySem.F.type_list_append mt_append (pv 3) (pa_cons (pe_tup (pa_cons (pv 6) (pa_cons (pe_call G_l_near (hr.mono (by omega)) (by rfl) T.g_l_near T.F_l_near.kp T.b_l_near .nil pass0 (pa_cons (pv 0) (pa_cons (pv 1) (pa_cons (pv 5) pa_nil)))) pa_nil))) pa_nil)))) (pss_one (ps_expr (bmK K PySem.F.plainAttrs_list PySem.F.slot_list_append PySem.F.type_list_append mt_append (pv 4) (pa_cons (pv 5) pa_nil)))))))
      (pss_cons (ps_if (PW.pt (pw_or (pt_cmpR (eqDK K hr.units) (pv 4) (pe_lst pa_nil) (nomark _)) (pw_or1 (pt_cmpR op_eq (pe_call G_l_lot (hr.mono (by omega)) (by rfl) T.g_l_lot T.F_l_lot.kp T.b_l_lot .nil pass0 (pa_cons (pv 0) (pa_cons pe_int pa_nil))) pe_int (nomark _))))) (pss_one (ps_ret (pe_tup (pa_cons (pe_callTy (cTupF K) (by rfl) T.m_tuple (by decide +kernel) (pa_cons (pv 3) pa_nil)) (pa_cons pe_non pa_nil))))) pss_nil)
      (pss_cons (ps_set (i := 5) sc_l_question.nd rfl (.inl rfl) (pe_ix (ixL K) (pv 4) (pe_call G_l_lot (hr.mono (by omega)) (by rfl) T.g_l_lot T.F_l_lot.kp T.b_l_lot .nil pass0 (pa_cons (pv 0) (pa_cons (pe_callB (cLenSq K) (by rfl) T.m_len (by decide +kernel) (pa_cons (pv 4) pa_nil)) pa_nil))) (fun _ _ => rfl)))
      (pss_cons (ps_set (i := 7) sc_l_question.nd rfl (.inl rfl) (pe_callB cr_sortedI (by rfl) T.m_sorted (by decide +kernel) (pa_cons (pe_lst (pa_cons (pe_call G_l_near (hr.mono (by omega)) (by rfl) T.g_l_near T.F_l_near.kp T.b_l_near .nil pass0 (pa_cons (pv 0) (pa_cons (pv 1) (pa_cons (pv 5) pa_nil)))) (pa_cons (pe_call G_l_near (hr.mono (by omega)) (by rfl) T.g_l_near T.F_l_near.kp T.b_l_near .nil pass0 (pa_cons (pv 0) (pa_cons (pv 1) (pa_cons (pv 5) pa_nil)))) pa_nil))) pa_nil)))
      (pss_one (ps_ret (pe_tup (pa_cons (pe_callTy (cTupF K) (by rfl) T.m_tuple (by decide +kernel) (pa_cons (pv 3) pa_nil)) (pa_cons (pe_tup (pa_cons (pe_ix ix_str (pv 2) (pv 5) (fun _ _ => rfl)) (pa_cons (pe_ix (ixL K) (pv 7) pe_int (fun _ _ => rfl)) (pa_cons (pe_ix (ixL K) (pv 7) pe_int (fun _ _ => rfl)) pa_nil)))) pa_nil)))))))))))), ?_⟩
    refine ⟨.ref t, rfl, t, _, 0, tx cols, rfl, rfl, .inl (.inl ht), rfl, ?_⟩
    refine ⟨Nat.zero_le _, fun E nE => ?_⟩
    have nEb := hB.ne nE
    have kpE : Kp b H (upd H E (.lst [])) := Kp.rfl'.new nE
    have hBE := hB.new nE (o := .lst [])
    have hEE : (upd H E (.lst [])) E = some (.lst []) := upd_same
    generalize upd H E (.lst []) = HE at kpE hBE hEE ⊢
    refine ⟨Nat.zero_le _, fun O nO => ?_⟩
    have nOb := hBE.ne nO
    have nOH : H O = none := Kp.none kpE nOb.1 nO
    have nOE : O ≠ E := (ne_of_none hEE nO).symm
    have kp1 : Kp b H (upd HE O (.lst [])) := kpE.new nO
    have hB1 := hBE.new nO (o := .lst [])
    have hE1 : (upd HE O (.lst [])) E = some (.lst []) := keep_new hEE nO
    have hO1 : (upd HE O (.lst [])) O = some (.lst []) := upd_same
    generalize upd HE O (.lst []) = H1 at kp1 hB1 hE1 hO1 ⊢
    refine ⟨tx cols, rfl, _, rfl, for_it walk_es (fun i σ H' => ∃ (es : List (Nat × Int)) (ps : List V) (os : List Nat) (y5 y6 : Option V), σ = [some (.ref b), some (.ref t), some (tx cols), some (.ref E), some (.ref O), y5, y6, none] ∧ Kp b H H' ∧ Bag b bl H' ∧ H' E = some (.lst ps) ∧ FzA H' ps (es.map eqD) ∧ H' O = some (.lst (os.map fun j : Nat => V.int (j : Int))) ∧ (es.map (·.1)).Sublist (cols.take i) ∧ (∀ p ∈ es, 0 ≤ p.2 ∧ p.2 < 1000) ∧ os.length ≤ i ∧ ∀ j ∈ os, j < i ∧ ∀ h : j < cols.length, cols[j] ∉ es.map (·.1))
      ⟨[], [], [], none, none, rfl, kp1, hB1, hE1, .nil, hO1, List.nil_sublist _, (fun _ h => nomatch h), Nat.le_refl _, fun _ h => nomatch h⟩ (fun _ _ _ _ _ => trivial) (fun i x σ H3 H4 hi hP hY => ?_) (fun σ H3 hP => ?_)⟩
    · obtain ⟨es, ps, os, y5, y6, rfl, kp3, hB3, hE3, fps, hO3, hsub, hes, hol, hos⟩ := hP
      obtain ⟨T0, x1, x2, rfl, nT, rfl, ex1, ex2⟩ := hY
      have hi2 : i < cols.length := hi
      have e1 : x1 = .int (i : Nat) := (Option.some.inj ex1).symm
      have e2 : x2 = sg cols[i] := by
        have : (some (sg cols[i]) : Option V) = some x2 := by
          rw [← ex2]
          simp [hi2]
        exact (Option.some.inj this).symm
      subst e1 e2
      have kp4 : Kp b H (upd H3 T0 (.tup [.int (i : Nat), sg cols[i]])) := kp3.new nT
      have hB4 := hB3.new nT (o := .tup [.int (i : Nat), sg cols[i]])
      have hE4 : (upd H3 T0 (.tup [.int (i : Nat), sg cols[i]])) E = some (.lst ps) := keep_new hE3 nT
      have hO4 : (upd H3 T0 (.tup [.int (i : Nat), sg cols[i]])) O = some (.lst (os.map fun j : Nat => V.int (j : Int))) := keep_new hO3 nT
      have fps4 := fps.kt (Kt.new nT (o := .tup [.int (i : Nat), sg cols[i]]))
      refine ⟨T0, [.int (i : Nat), sg cols[i]], rfl, .inl (.inl upd_same), rfl, .int (i : Nat), [sg cols[i]], rfl, sg cols[i], [], rfl, rfl, ?_⟩
      generalize upd H3 T0 (.tup [.int (i : Nat), sg cols[i]]) = H4 at kp4 hB4 hE4 hO4 fps4 ⊢
      have hsub1 : (es.map (·.1)).Sublist (cols.take (i + 1)) := hsub.trans (List.take_sublist_take_left (Nat.le_succ i))
      have hpl : ps.length ≤ 26 := by
        rw [fps.len, List.length_map]
        have := hsub.length_le
        rw [List.length_map, List.length_take] at this
        omega
      refine ⟨.ref b, rfl, b, bl, 3, rfl, hB4, by decide, by decide, fun d H5 kp5 hB5 d0 d1 => ⟨rfl, _, rfl, ite2 (fun e => ?_) (fun e => ?_)⟩⟩
      · have hE5 := kp5 _ _ nEb.1 hE4
        have hO5 := kp5 _ _ nOb.1 hO4
        have kpB : Kp b H H5 := kp4.trans kp5
        refine ⟨.ref E, rfl, .inl ⟨rfl, _, .inl (.inl hE5)⟩, sg cols[i], rfl, .ref b, rfl, .ref t, rfl, .int (i : Nat), rfl, b, bl, .ref t, cols, rows, i, rfl, hB5, fT.kt (kpB.kTb hB).1, hrs, hi2, hrn, fun x H6 kp6 hB6 x0 x1 => ?_⟩
        refine ⟨(by show 2 ≤ sizeLine; decide), fun p np => ?_⟩
        have hE7 : (upd H6 p (.tup [sg cols[i], .int x])) E = some (.lst ps) := keep_new (kp6 _ _ nEb.1 hE5) np
        have hO7 : (upd H6 p (.tup [sg cols[i], .int x])) O = some (.lst (os.map fun j : Nat => V.int (j : Int))) := keep_new (kp6 _ _ nOb.1 hO5) np
        have fp : Fz (upd H6 p (.tup [sg cols[i], .int x])) (.ref p) (eqD (cols[i], x)) := Fz.made np (.cons (.str _) (.cons (.int _) .nil))
        have fps7 := ((fps4.kt (kp5.kTb hB4).1).kt (kp6.kTb hB5).1).kt (Kt.new np (o := .tup [sg cols[i], .int x]))
        refine ⟨E, ps, .ref p, rfl, rfl, hE7, small1000 (by omega), es ++ [(cols[i], x)], ps ++ [.ref p], os, _, _, rfl, ((kpB.trans kp6).new np).mut nE, (hB6.new np).upd nEb.1 nEb.2, upd_same, ?_, keep_ne hO7 nOE, ?_, fun u hu => ?_, by omega, fun j hj => ?_⟩
        · rw [List.map_append]
          exact (FzA.snoc fps7 fp).kt (.lst hE7)
        · rw [List.map_append, List.take_succ_eq_append_getElem hi2]
          exact hsub.append (List.Sublist.refl _)
        · rcases List.mem_append.mp hu with z | z
          · exact hes u z
          · rw [List.mem_singleton.mp z]
            exact ⟨x0, x1⟩
        · obtain ⟨j1, j2⟩ := hos j hj
          refine ⟨by omega, fun h => ?_⟩
          rw [List.map_append]
          intro z
          rcases List.mem_append.mp z with z | z
          · exact j2 h z
          · have z2 : cols[j] = cols[i] := List.mem_singleton.mp z
            have := (List.getElem_inj hc.nd).mp z2
            omega
      · have hO5 := kp5 _ _ nOb.1 hO4
        refine ⟨.ref O, rfl, .inl ⟨rfl, _, .inl (.inl hO5)⟩, .int (i : Nat), rfl, O, _, .int (i : Nat), rfl, rfl, hO5, by rw [List.length_map]; exact small1000 (by omega), es, ps, os ++ [i], _, _, rfl, (kp4.trans kp5).mut nOH, hB5.upd nOb.1 nOb.2, keep_ne (kp5 _ _ nEb.1 hE4) nOE.symm, (fps4.kt (kp5.kTb hB4).1).kt (.lst hO5), by rw [upd_same, List.map_append]; rfl, hsub1, hes, by rw [List.length_append]; show os.length + 1 ≤ i + 1; omega, fun j hj => ?_⟩
        rcases List.mem_append.mp hj with z | z
        · obtain ⟨j1, j2⟩ := hos j z
          exact ⟨by omega, j2⟩
        · rw [List.mem_singleton.mp z]
          refine ⟨Nat.lt_succ_self _, fun h z2 => ?_⟩
          have z3 := hsub.subset z2
          obtain ⟨k, hk, ek⟩ := List.getElem_of_mem z3
          rw [List.getElem_take] at ek
          have := (List.getElem_inj hc.nd).mp ek
          rw [List.length_take] at hk
          omega
    · obtain ⟨es, ps, os, y5, y6, rfl, kp3, hB3, hE3, fps, hO3, hsub, hes, hol, hos⟩ := hP
      have hn : (⟨cols.toArray⟩ : Str).cps.size = cols.length := by simp
      rw [hn] at hsub hol hos
      rw [List.take_of_length_le (Nat.le_refl _)] at hsub
      have hup : (es.map (·.1)).Pairwise (· < ·) := hc.up.sublist hsub
      have hok : ∀ p ∈ es, p.1 ∈ cols ∧ 0 ≤ p.2 ∧ p.2 < 1000 := fun p hp => ⟨hsub.subset (List.mem_map_of_mem hp), hes p hp⟩
      have hesl : es.length ≤ cols.length := by
        have := hsub.length_le
        rw [List.length_map] at this
        exact this
      have retN : ∀ (H' : Hp), Kp b H H' → Bag b bl H' → H' E = some (.lst ps) → FzA H' ps (es.map eqD) → tRet (tTup (tCons (tCB (rTupF K) (tCons (tVar 3) tNil)) (tCons (tC V.non) tNil))) { nx := fun x H' => Q V.non H', rt := Q } [some (.ref b), some (.ref t), some (tx cols), some (.ref E), some (.ref O), y5, y6, none] H' := by
        intro H' kp' hB' hE' f'
        refine ⟨.ref E, rfl, E, ps, rfl, .inl (.inl hE'), fun te ob nte hob => ⟨(by show 2 ≤ sizeLine; decide), fun v nv => ?_⟩⟩
        have f1 : EZ (upd H' te (.frz ob (.tup ps))) (.ref te) es := EZ.made nte hob f'
        exact q es none (.ref v) _ ((kp'.new nte).new nv) ((hB'.new nte).new nv) (QZ.made (rc := none) nv f1 .non) ⟨hup, hok, hesl, fun c lo hi z => nomatch z⟩
      refine ⟨.ref O, rfl, (by show 0 ≤ sizeLine; decide), fun p np => ?_⟩
      rw [ints_of] at hO3
      have hOp : (upd H3 p (.lst [])) O = some (.lst ((os.map fun j : Nat => (j : Int)).map V.int)) := keep_new hO3 np
      have kp4 : Kp b H (upd H3 p (.lst [])) := kp3.new np
      have hB4 := hB3.new np (o := .lst [])
      have hE4 : (upd H3 p (.lst [])) E = some (.lst ps) := keep_new hE3 np
      have fps4 := fps.kt (Kt.new np (o := .lst []))
      have hp4 : (upd H3 p (.lst [])) p = some (.lst []) := upd_same
      generalize upd H3 p (.lst []) = H4 at hOp kp4 hB4 hE4 fps4 hp4 ⊢
      refine ⟨_, _, .lst (.inl (.inl hOp)) (dp_ints _), .lst (.inl (.inl hp4)) .nil, shaped_ints _, shaped_ints [], _, rfl, ite2 (fun e => ?_) (fun e => ?_)⟩
      · exact retN H4 kp4 hB4 hE4 fps4
      · have one : os ≠ [] := fun z => by
          rw [z] at e
          exact e rfl
        have opos : 0 < os.length := List.length_pos_iff.mpr one
        refine ⟨.ref b, rfl, b, bl, 2, rfl, hB4, by decide, by decide, fun d H5 kp5 hB5 d0 d1 => ⟨rfl, _, rfl, ite2 (fun e6 => ?_) (fun e6 => ?_)⟩⟩
        · exact retN H5 (kp4.trans kp5) hB5 (kp5 _ _ nEb.1 hE4) (fps4.kt (kp5.kTb hB4).1)
        · have hO5 := kp5 _ _ nOb.1 hOp
          have hE5 := kp5 _ _ nEb.1 hE4
          have fps5 := fps4.kt (kp5.kTb hB4).1
          have kpB : Kp b H H5 := kp4.trans kp5
          refine ⟨.ref O, rfl, .ref b, rfl, .ref O, rfl, O, _, rfl, .inl (.inl (.inl hO5)), b, bl, _, rfl, hB5, by rw [List.length_map, List.length_map]; omega, by rw [List.length_map, List.length_map]; omega, fun f H6 kp6 hB6 f0 f1 => ?_⟩
          rw [List.length_map, List.length_map] at f1
          have hf : f.toNat < os.length := by omega
          obtain ⟨j1, j2⟩ := hos os[f.toNat] (List.getElem_mem hf)
          have hO6 := kp6 _ _ nOb.1 hO5
          have hE6 := kp6 _ _ nEb.1 hE5
          have fps6 := fps5.kt (kp6.kTb hB5).1
          have kpC : Kp b H H6 := kpB.trans kp6
          have hat : (List.map V.int (os.map fun j : Nat => (j : Int)))[f.toNat]? = some (.int (os[f.toNat] : Int)) := by
            rw [List.getElem?_map, List.getElem?_map, List.getElem?_eq_getElem hf]
            rfl
          generalize os[f.toNat] = aj at j1 j2 hat
          have j3 := j2 j1
          refine ⟨O, _, f, .int (aj : Int), rfl, rfl, .inl (.inl hO6), L2.at_of (j := f.toNat) (by omega) hat, ?_⟩
          -- some
          refine ⟨.ref b, rfl, .ref t, rfl, .int (aj : Int), rfl, b, bl, .ref t, cols, rows, aj, rfl, hB6, fT.kt (kpC.kTb hB).1, hrs, j1, hrn, fun x1 H7 kp7 hB7 x10 x11 => ?_⟩
          have kpD : Kp b H H7 := kpC.trans kp7
          refine ⟨.ref b, rfl, .ref t, rfl, .int (aj : Int), rfl, b, bl, .ref t, cols, rows, aj, rfl, hB7, fT.kt (kpD.kTb hB).1, hrs, j1, hrn, fun x2 H8 kp8 hB8 x20 x21 => ?_⟩
          have kpF : Kp b H H8 := kpD.trans kp8
          have hE8 := kp8 _ _ nEb.1 (kp7 _ _ nEb.1 hE6)
          have fps8 := (fps6.kt (kp7.kTb hB6).1).kt (kp8.kTb hB7).1
          refine ⟨(by show 2 ≤ sizeLine; decide), fun L nL => ?_⟩
          refine ⟨L, [x1, x2], rfl, .inl (.inl upd_same), fun ns p2 hper hpw np2 => ?_⟩
          have hnl : ns.length = 2 := hper.length_eq
          obtain ⟨lo, hi, rfl⟩ : ∃ lo hi, ns = [lo, hi] := by
            match ns, hnl with
            | [a, b], _ => exact ⟨a, b, rfl⟩
          have hlohi : lo ≤ hi := (List.pairwise_cons.mp hpw).1 hi (by simp)
          have hbd : ∀ z ∈ [lo, hi], 0 ≤ z ∧ z < 1000 := fun z hz => by
            have := hper.mem_iff.mp hz
            rcases List.mem_cons.mp this with h | h
            · rw [h]
              exact ⟨x10, x11⟩
            · rw [List.mem_singleton.mp h]
              exact ⟨x20, x21⟩
          have blo := hbd lo (by simp)
          have bhi := hbd hi (by simp)
          have kpG : Kp b H (upd (upd H8 L (.lst [.int x1, .int x2])) p2 (.lst (List.map V.int [lo, hi]))) := (kpF.new nL).new np2
          have hBG := (hB8.new nL (o := .lst [.int x1, .int x2])).new np2 (o := .lst (List.map V.int [lo, hi]))
          have hEG : (upd (upd H8 L (.lst [.int x1, .int x2])) p2 (.lst (List.map V.int [lo, hi]))) E = some (.lst ps) := keep_new (keep_new hE8 nL) np2
          have fpsG := (fps8.kt (Kt.new nL (o := .lst [.int x1, .int x2]))).kt (Kt.new np2 (o := .lst (List.map V.int [lo, hi])))
          have hpG : (upd (upd H8 L (.lst [.int x1, .int x2])) p2 (.lst (List.map V.int [lo, hi]))) p2 = some (.lst [.int lo, .int hi]) := upd_same
          generalize upd (upd H8 L (.lst [.int x1, .int x2])) p2 (.lst (List.map V.int [lo, hi])) = HG at kpG hBG hEG fpsG hpG ⊢
          refine ⟨.ref E, rfl, E, ps, rfl, .inl (.inl hEG), fun te ob nte hob => ?_⟩
          have f1z : EZ (upd HG te (.frz ob (.tup ps))) (.ref te) es := EZ.made nte hob fpsG
          have hp3 : (upd HG te (.frz ob (.tup ps))) p2 = some (.lst [.int lo, .int hi]) := keep_new hpG nte
          have hatc : atI (⟨cols.toArray⟩ : Str).cps.toList (aj : Int) = some cols[aj] := atI_nat (by simp [j1])
          refine ⟨tx cols, rfl, .int (aj : Int), rfl, _, _, _, rfl, rfl, Nat.le_of_lt (small1000 (show cols.length ≤ 1000 by omega)), hatc, ?_⟩
          refine ⟨.ref p2, rfl, p2, _, 0, .int lo, rfl, rfl, .inl (.inl hp3), rfl, .ref p2, rfl, p2, _, 1, .int hi, rfl, rfl, .inl (.inl hp3), rfl, (by show 3 ≤ sizeLine; decide), fun tr ntr => ⟨(by show 2 ≤ sizeLine; decide), fun v nv => ?_⟩⟩
          have fr := Fz.made ntr (.cons (.str (sS cols[aj])) (.cons (.int lo) (.cons (.int hi) .nil)))
          refine q es (some (cols[aj], lo, hi)) (.ref v) _ (((kpG.new nte).new ntr).new nv) (((hBG.new nte).new ntr).new nv) (QZ.made (rc := some _) nv (f1z.kT (.new ntr)) fr) ⟨hup, hok, hesl, fun c l2 h2 z => ?_⟩
          have z2 := Option.some.inj z
          have e1 : cols[aj] = c := congrArg (·.1) z2
          have e2 : lo = l2 := congrArg (·.2.1) z2
          have e3 : hi = h2 := congrArg (·.2.2) z2
          rw [← e1, ← e2, ← e3]
          exact ⟨List.getElem_mem _, j3, blo.1, hlohi, bhi.2⟩

/-! ### letters_of -/
def spLetters (K : PySem.W.Frag) : Sp := fun vs H Q _ => ∃ (ev : V) (es : List (Nat × Int)), vs = [ev] ∧ EZ H ev es ∧ es.length ≤ 1000 ∧ ∀ (p : Addr) (H' : Hp), Same H H' → H p = none → H' p = some (.lst ((es.map (·.1)).map sg)) → Q (.ref p) H'
theorem ok_letters (T : Tx K mg Z) : FnOk P w K mg base CX0 1 Z.f_letters_of Z.d_letters_of ["equals"] (spLetters K) := by
  refine T.F_letters_of.ok sc_letters_of (fun vs H Q E h => ?_) (fun cdv A outer s H vs Q E hr h => ?_)
  · obtain ⟨ev, es, rfl, _⟩ := h
    rfl
  · obtain ⟨ev, es, rfl, fe, hel, q⟩ := h
    obtain ⟨ea, ob, ps, rfl, hob, hea, fps⟩ := fe
    have hpl : ps.length = es.length := by rw [fps.len, List.length_map]
    refine ⟨_, (pss_one (ps_ret (pe_lc (own := [("letter", 1), ("number", 2)]) (tt := tYes) (by rfl) sc_letters_of.nd (piT K (pv 0)) (blkOk_by (own := [("letter", 1), ("number", 2)]) (by kernel_rfl)) (fun _ _ _ _ _ => (pgT K (n := 2) (pgs_cons (pg_name (i := 1) sc_letters_of.nd rfl (.inl rfl)) (pgs_cons (pg_name (i := 2) sc_letters_of.nd rfl (.inl rfl)) pgs_nil)))) (fun _ _ _ _ _ => pts_nil) (fun _ _ _ _ _ => (pv 1))))), ?_⟩
    refine ⟨.ref ea, rfl, ea, rfl, ⟨_, .inl (.inr ⟨_, hea⟩)⟩, fun D nD => lc_it (walk_tup (xs := ps)) (fun i H' => Same H H' ∧ H' D = some (.lst (((es.take i).map (·.1)).map sg)))
      ⟨Same.new (Same.refl H) nD, upd_same⟩ (fun i H' _ hP => .inl (.inr ⟨_, hP.1 _ _ hea⟩)) (fun i x H3 H4 hi hP hY => ?_) (fun H3 hP => ?_)⟩
    · obtain ⟨sm, hD⟩ := hP
      obtain ⟨rfl, hx⟩ := hY
      obtain ⟨dd, hdd, fd⟩ := fps.getV hx
      rw [List.getElem?_map] at hdd
      obtain ⟨pr, hpr, rfl⟩ := Option.map_eq_some_iff.mp hdd
      have hi2 : i < es.length := (List.getElem?_eq_some_iff.mp hpr).1
      have epr : es[i] = pr := (List.getElem?_eq_some_iff.mp hpr).2
      obtain ⟨pa, ys, rfl, hpa, fy2⟩ := fd.open
      obtain ⟨c, v, rfl, fc, fv⟩ := fy2.two
      rw [fc.isStr, fv.isInt] at hpa
      refine ⟨pa, [sg pr.1, .int pr.2], rfl, .inl (.inl (sm _ _ hpa)), rfl, sg pr.1, [.int pr.2], rfl, .int pr.2, [], rfl, rfl, rfl, sg pr.1, rfl, _, hD, ?_, Same.mut sm nD, ?_⟩
      · rw [List.length_map, List.length_map, List.length_take]
        exact small1000 (by omega)
      · rw [upd_same, List.take_succ_eq_append_getElem hi2, epr, List.map_append, List.map_append]
        rfl
    · obtain ⟨sm, hD⟩ := hP
      rw [hpl, List.take_of_length_le (Nat.le_refl _)] at hD
      exact q D H3 sm nD hD

/-! ### used -/
def spUsed (K : PySem.W.Frag) : Sp := fun vs H Q _ => ∃ (one : List Nat) (qv : V) (es : List (Nat × Int)) (rc : Option (Nat × Int × Int)), vs = [tx one, qv] ∧ one.length ≤ 1000 ∧ QZ H qv es rc ∧ es.length ≤ 1000 ∧ ∀ (H' : Hp), Same H H' → Q (tx (usedM one es rc)) H'
theorem ok_used (T : Tx K mg Z) : FnOk P w K mg base CX0 2 Z.f_used Z.d_used ["one", "question"] (spUsed K) := by
  have G_letters_of : FnOk P w K mg base CX0 1 Z.f_letters_of Z.d_letters_of ["equals"] (spLetters K) := ok_letters T
  refine T.F_used.ok sc_used (fun vs H Q E h => ?_) (fun cdv A outer s H vs Q E hr h => ?_)
  · obtain ⟨one, qv, es, rc, rfl, _⟩ := h
    rfl
  · obtain ⟨one, qv, es, rc, rfl, hol, fq, hel, q⟩ := h
    obtain ⟨qa, x, y, rfl, hqa, fx, fy⟩ := fq
    have fx2 := fx
    obtain ⟨ea, ob, ps, rfl, hob, hea, fps⟩ := fx2
    refine ⟨_, (pss_cons (ps_asg (pv 1) (pgT K (n := 2) (pgs_cons (pg_name (i := 2) sc_used.nd rfl (.inl rfl)) (pgs_cons (pg_name (i := 3) sc_used.nd rfl (.inl rfl)) pgs_nil))))
      (pss_cons (ps_set (i := 4) sc_used.nd rfl (.inl rfl) (pe_call G_letters_of (hr.mono (by omega)) (by rfl) T.g_letters_of T.F_letters_of.kp T.b_letters_of .nil pass0 (pa_cons (pv 2) pa_nil)))
      (pss_cons (ps_set (i := 5) sc_used.nd rfl (.inl rfl) pe_int)
      (pss_cons (ps_while PassesOwn.never (PW.pt (pw_and (pt_cmpR op_lt (pv 5) (pe_callB call_len_str (by rfl) T.m_len (by decide +kernel) (pa_cons (pv 0) pa_nil)) (nomark _)) (pw_and1 (pt_cmpR (inSq K) (pe_ix ix_str (pv 0) (pv 5) (fun _ _ => rfl)) (pv 4) (by rfl))))) (pss_one (ps_aug (i := 5) sc_used.nd rfl (.inl rfl) pe_int ip_add)))
      (pss_mid (ps_if (PW.pt (pw_and (pt_cmpR op_notN (pv 3) pe_non (nomark _)) (pw_and1 (pt_cmpR op_eq (pe_slice sl_str (pv 0) (po_some (pv 5)) (po_some (pe_op op_add (pv 5) pe_int))) (pe_ix (ixT K) (pv 3) pe_int (fun _ _ => rfl)) (nomark _))))) (pss_one (ps_aug (i := 5) sc_used.nd rfl (.inl rfl) pe_int ip_add)) pss_nil)
      (pss_one (ps_ret (pe_slice sl_str (pv 0) po_none (po_some (pv 5)))))))))), ?_⟩
    refine ⟨.ref qa, rfl, qa, [.ref ea, y], rfl, .inl (.inl hqa), rfl, .ref ea, [y], rfl, y, [], rfl, rfl, ?_⟩
    refine ⟨.ref ea, rfl, .ref ea, es, rfl, fx, hel, fun L H1 sm nL hL => ?_⟩
    -- while
    refine ⟨fun m σ H' => ∃ k : Nat, m = one.length - k ∧ k ≤ one.length ∧ σ = [some (tx one), some (.ref qa), some (.ref ea), some y, some (.ref L), some (.int k)] ∧ H' = H1 ∧ ∀ (i : Nat) (h : i < one.length), i < k → one[i] ∈ es.map (·.1), ⟨_, 0, rfl, Nat.zero_le _, rfl, rfl, fun i _ h => absurd h (Nat.not_lt_zero _)⟩, fun m σ H' hW => ?_⟩
    obtain ⟨k, rfl, hk, rfl, rfl, hin⟩ := hW
    refine ⟨.int k, rfl, tx one, rfl, _, rfl, Nat.le_of_lt (small1000 (show one.length ≤ 1000 from hol)), _, _, rfl, rfl, _, rfl, ite2 (fun e => ?_) (fun e => ?_)⟩
    · have hkl : k < one.length := by
        have : (k : Int) < ((one.length : Nat) : Int) := of_decide_eq_true e
        omega
      have hat : atI (⟨one.toArray⟩ : Str).cps.toList (k : Int) = some one[k] := atI_nat (by simp [hkl])
      refine ⟨tx one, rfl, .int k, rfl, _, _, _, rfl, rfl, Nat.le_of_lt (small1000 (show one.length ≤ 1000 from hol)), hat, .ref L, rfl, L, _, rfl, .inl (.inl (.inl hL)), rfl, flat_signs _, _, rfl, ?_⟩
      show (if inV (sg one[k]) ((es.map (·.1)).map sg) = true then _ else _)
      rw [inV_signs]
      refine ite2 (fun e2 => ?_) (fun e2 => ?_)
      · have hm : one[k] ∈ es.map (·.1) := of_decide_eq_true e2
        refine ⟨fun σ2 H2 => σ2 = [some (tx one), some (.ref qa), some (.ref ea), some y, some (.ref L), some (.int ((k : Int) + 1))] ∧ H2 = H', fun σ2 H2 hN => ?_, ?_⟩
        · obtain ⟨rfl, rfl⟩ := hN
          refine ⟨one.length - (k + 1), by omega, k + 1, rfl, hkl, rfl, rfl, fun i h hi => ?_⟩
          by_cases e3 : i = k
          · subst e3
            exact hm
          · exact hin i h (by omega)
        · exact ⟨_, rfl, _, _, rfl, rfl, rfl, rfl⟩
      · have hno : ∀ h : k < one.length, ¬ one[k] ∈ es.map (·.1) := fun _ z => e2 (decide_eq_true z)
        have hkk : (eqPart one es).length = k := take_while_at _ _ _ hk (fun i h hi => decide_eq_true (hin i h hi)) (fun h => decide_eq_false (hno h))
        have htk : one.take k = eqPart one es := by rw [← hkk]; exact (eqPart_take one es).symm
        refine ⟨fun σ H2 => ∃ k2 : Nat, σ = [some (tx one), some (.ref qa), some (.ref ea), some y, some (.ref L), some (.int k2)] ∧ H2 = H' ∧ one.take k2 = usedM one es rc, ?_, ?_⟩
        · cases rc with
          | none =>
            obtain rfl : y = .non := fy.isNon
            refine ⟨.non, rfl, rfl, _, rfl, ite2 (fun z => ?_) (fun _ => ?_)⟩
            · exact absurd z (by simp)
            · exact ⟨k, rfl, rfl, htk⟩
          | some t3 =>
            obtain ⟨c, lo, hi⟩ := t3
            obtain ⟨ra, zs, rfl, hra, fz⟩ := Fz.open (ds := [.str ⟨#[c]⟩, .int lo, .int hi]) fy
            obtain ⟨z1, z2, z3, rfl, g1, g2, g3⟩ := fz.three
            rw [g1.isStr, g2.isInt, g3.isInt] at hra
            refine ⟨.ref ra, rfl, rfl, _, rfl, ite2 (fun _ => ?_) (fun z => ?_)⟩
            · refine ⟨tx one, rfl, .int k, rfl, _, rfl, .int k, rfl, _, 1, rfl, rfl, _, rfl, _, rfl, Nat.le_of_lt (small1000 (show one.length ≤ 1000 from hol)), .ref ra, rfl, ra, _, 0, sg c, rfl, rfl, .inl (.inl (sm _ _ hra)), rfl, rfl, _, rfl, ?_⟩
              rw [cut_one one k hk]
              refine ite2 (fun z => ?_) (fun z => ?_)
              · have z2 : (one.drop k).take 1 = [c] := tx_inj (of_decide_eq_true z)
                refine ⟨_, rfl, _, _, rfl, rfl, k + 1, rfl, rfl, ?_⟩
                show one.take (k + 1) = (if (one.drop (eqPart one es).length).take 1 = [c] then one.take ((eqPart one es).length + 1) else eqPart one es)
                rw [hkk, if_pos z2]
              · have z2 : ¬ (one.drop k).take 1 = [c] := fun z3 => z (decide_eq_true (by rw [z3]))
                refine ⟨k, rfl, rfl, ?_⟩
                show one.take k = (if (one.drop (eqPart one es).length).take 1 = [c] then one.take ((eqPart one es).length + 1) else eqPart one es)
                rw [hkk, if_neg z2]
                exact htk
            · exact absurd (by simp) z
        · intro σ2 H2 hM
          obtain ⟨k2, rfl, rfl, hk2⟩ := hM
          refine ⟨tx one, rfl, .int k2, rfl, _, rfl, _, rfl, Nat.le_of_lt (small1000 (show one.length ≤ 1000 from hol)), ?_⟩
          rw [cut_take, hk2]
          exact q _ sm
    · have hge : ¬ k < one.length := fun z => e (decide_eq_true (show (k : Int) < ((one.length : Nat) : Int) by omega))
      have hkk : (eqPart one es).length = k := take_while_at _ _ _ hk (fun i h hi => decide_eq_true (hin i h hi)) (fun h => decide_eq_false ((absurd h hge : ¬ one[k] ∈ es.map (·.1))))
      have htk : one.take k = eqPart one es := by rw [← hkk]; exact (eqPart_take one es).symm
      refine ⟨fun σ H2 => ∃ k2 : Nat, σ = [some (tx one), some (.ref qa), some (.ref ea), some y, some (.ref L), some (.int k2)] ∧ H2 = H' ∧ one.take k2 = usedM one es rc, ?_, ?_⟩
      · cases rc with
        | none =>
          obtain rfl : y = .non := fy.isNon
          refine ⟨.non, rfl, rfl, _, rfl, ite2 (fun z => ?_) (fun _ => ?_)⟩
          · exact absurd z (by simp)
          · exact ⟨k, rfl, rfl, htk⟩
        | some t3 =>
          obtain ⟨c, lo, hi⟩ := t3
          obtain ⟨ra, zs, rfl, hra, fz⟩ := Fz.open (ds := [.str ⟨#[c]⟩, .int lo, .int hi]) fy
          obtain ⟨z1, z2, z3, rfl, g1, g2, g3⟩ := fz.three
          rw [g1.isStr, g2.isInt, g3.isInt] at hra
          refine ⟨.ref ra, rfl, rfl, _, rfl, ite2 (fun _ => ?_) (fun z => ?_)⟩
          · refine ⟨tx one, rfl, .int k, rfl, _, rfl, .int k, rfl, _, 1, rfl, rfl, _, rfl, _, rfl, Nat.le_of_lt (small1000 (show one.length ≤ 1000 from hol)), .ref ra, rfl, ra, _, 0, sg c, rfl, rfl, .inl (.inl (sm _ _ hra)), rfl, rfl, _, rfl, ?_⟩
            rw [cut_one one k hk]
            refine ite2 (fun z => ?_) (fun z => ?_)
            · have z2 : (one.drop k).take 1 = [c] := tx_inj (of_decide_eq_true z)
              refine ⟨_, rfl, _, _, rfl, rfl, k + 1, rfl, rfl, ?_⟩
              show one.take (k + 1) = (if (one.drop (eqPart one es).length).take 1 = [c] then one.take ((eqPart one es).length + 1) else eqPart one es)
              rw [hkk, if_pos z2]
            · have z2 : ¬ (one.drop k).take 1 = [c] := fun z3 => z (decide_eq_true (by rw [z3]))
              refine ⟨k, rfl, rfl, ?_⟩
              show one.take k = (if (one.drop (eqPart one es).length).take 1 = [c] then one.take ((eqPart one es).length + 1) else eqPart one es)
              rw [hkk, if_neg z2]
              exact htk
          · exact absurd (by simp) z
      · intro σ2 H2 hM
        obtain ⟨k2, rfl, rfl, hk2⟩ := hM
        refine ⟨tx one, rfl, .int k2, rfl, _, rfl, _, rfl, Nat.le_of_lt (small1000 (show one.length ≤ 1000 from hol)), ?_⟩
        rw [cut_take, hk2]
        exact q _ sm

/-! ### spans -/
def spSpans (K : PySem.W.Frag) : Sp := fun vs H Q _ => ∃ (qv : V) (cols : List Nat) (es : List (Nat × Int)) (rc : Option (Nat × Int × Int)), vs = [qv] ∧ QZ H qv es rc ∧ QOk cols es rc ∧ es.length ≤ 1000 ∧
  ∀ (d : Addr) (kvs : List (Key × V)) (H' : Hp), Same H H' → H d = none → H' d = some (.dK kvs) → SpA H' kvs (spanL es rc) → Q (.ref d) H'
theorem ok_spans (T : Tx K mg Z) : FnOk P w K mg base CX0 1 Z.f_spans Z.d_spans ["question"] (spSpans K) := by
  refine T.F_spans.ok sc_spans (fun vs H Q E h => ?_) (fun cdv A outer s H vs Q E hr h => ?_)
  · obtain ⟨qv, cols, es, rc, rfl, _⟩ := h
    rfl
  · obtain ⟨qv, cols, es, rc, rfl, fq, hok, hel, q⟩ := h
    obtain ⟨qa, x, y, rfl, hqa, fx, fy⟩ := fq
    obtain ⟨ea, ob, ps, rfl, hob, hea, fps⟩ := fx
    have hndE : (es.map (·.1)).Nodup := hok.up.imp fun {a b} q => by
      have : a < b := q
      omega
    refine ⟨_, (pss_cons (ps_asg (pv 0) (pgT K (n := 2) (pgs_cons (pg_name (i := 1) sc_spans.nd rfl (.inl rfl)) (pgs_cons (pg_name (i := 2) sc_spans.nd rfl (.inl rfl)) pgs_nil))))
      (pss_cons (ps_setDc (i := 4) (own := [("letter", 3), ("number", 7)]) (tt := tYes) (by rfl) sc_spans.nd rfl rfl (sw_dict rfl rfl rfl (by decide +kernel)) (piT K (pv 1)) (blkOk_by (own := [("letter", 3), ("number", 7)]) (by kernel_rfl)) (fun _ _ _ _ _ => (pgT K (n := 2) (pgs_cons (pg_name (i := 3) sc_spans.nd rfl (.inl rfl)) (pgs_cons (pg_name (i := 7) sc_spans.nd rfl (.inl rfl)) pgs_nil)))) (fun _ _ _ _ _ => pts_nil) (fun _ _ _ _ _ => (pv 3)) (fun _ _ _ _ _ => (pe_tup (pa_cons (pv 7) (pa_cons (pv 7) pa_nil)))))
      (pss_mid (ps_if (pt_cmpR op_notN (pv 2) pe_non (nomark _)) (pss_cons (ps_asg (pv 2) (pgT K (n := 3) (pgs_cons (pg_name (i := 3) sc_spans.nd rfl (.inl rfl)) (pgs_cons (pg_name (i := 5) sc_spans.nd rfl (.inl rfl)) (pgs_cons (pg_name (i := 6) sc_spans.nd rfl (.inl rfl)) pgs_nil)))))
      (pss_one (ps_dput (hu_of hr) (pv 4) (pv 3) (pe_tup (pa_cons (pv 5) (pa_cons (pv 6) pa_nil))) rfl))) pss_nil)
      (pss_one (ps_ret (pv 4)))))), ?_⟩
    refine ⟨.ref qa, rfl, qa, [.ref ea, y], rfl, .inl (.inl hqa), rfl, .ref ea, [y], rfl, y, [], rfl, rfl, ?_⟩
    refine ⟨.ref ea, rfl, ea, rfl, ⟨_, .inl (.inr ⟨_, hea⟩)⟩, fun D nD => dc_tup (xs := ps) (fun i H' => ∃ kvs, Same H H' ∧ H' D = some (.dK kvs) ∧ SpA H' kvs ((es.take i).map fun p => (p.1, p.2, p.2)))
      ⟨[], Same.new (Same.refl H) nD, upd_same, .nil⟩ (fun i H' _ hP => ?_) (fun i x H3 hx hP => ?_) (fun H3 hP => ?_)⟩
    · obtain ⟨kvs, sm, _⟩ := hP
      exact .inl (.inr ⟨_, sm _ _ hea⟩)
    · obtain ⟨kvs, sm, hD3, fk⟩ := hP
      obtain ⟨dd, hdd, fd⟩ := fps.getV hx
      rw [List.getElem?_map] at hdd
      obtain ⟨pr, hpr, rfl⟩ := Option.map_eq_some_iff.mp hdd
      obtain ⟨pa, ys, rfl, hpa, fy2⟩ := fd.open
      obtain ⟨c, v, rfl, fc, fv⟩ := fy2.two
      rw [fc.isStr, fv.isInt] at hpa
      have hi : i < es.length := (List.getElem?_eq_some_iff.mp hpr).1
      have epr : es[i] = pr := (List.getElem?_eq_some_iff.mp hpr).2
      refine ⟨pa, [sg pr.1, .int pr.2], rfl, .inl (.inl (sm _ _ hpa)), rfl, sg pr.1, [.int pr.2], rfl, .int pr.2, [], rfl, rfl, rfl, sg pr.1, rfl, .int pr.2, rfl, .int pr.2, rfl, (by show 2 ≤ sizeLine; decide), fun tp ntp => ?_⟩
      have hD4 : (upd H3 tp (.tup [.int pr.2, .int pr.2])) D = some (.dK kvs) := keep_new hD3 ntp
      have fk4 := fk.kt (Kt.new ntp (o := .tup [.int pr.2, .int pr.2]))
      have tk : (es.take (i + 1)).map (fun p => (p.1, p.2, p.2)) = (es.take i).map (fun p => (p.1, p.2, p.2)) ++ [(pr.1, pr.2, pr.2)] := by
        rw [List.take_succ_eq_append_getElem hi, epr, List.map_append]
        rfl
      have nk : valV kvs (Sum.inr (sS pr.1)) = none := by
        refine fk.none fun hm => ?_
        rw [spanL_keys] at hm
        have hnd2 : ((es.take (i + 1)).map (·.1)).Nodup := hndE.sublist ((List.take_sublist _ _).map _)
        rw [List.take_succ_eq_append_getElem hi, epr, List.map_append] at hnd2
        exact (List.nodup_append.mp hnd2).2.2 _ hm _ (by simp) rfl
      refine ⟨kvs, Sum.inr (sS pr.1), rfl, hD4, ?_, putK kvs (Sum.inr (sS pr.1)) (.ref tp), ?_, upd_same, ?_⟩
      · rw [fk.len, List.length_map, List.length_take]
        exact small1000 (by omega)
      · exact Same.mut (Same.new sm ntp) nD
      · rw [putK_new _ nk, tk]
        exact (SpA.snoc fk4 upd_same).kt (.dct hD4)
    · obtain ⟨kvs, sm, hD3, fk⟩ := hP
      have hpl : ps.length = es.length := by
        rw [fps.len, List.length_map]
      rw [hpl, List.take_of_length_le (Nat.le_refl _)] at fk
      refine ⟨fun σ H' => ∃ (kvs' : List (Key × V)) (y3 y5 y6 : Option V), σ = [some (.ref qa), some (.ref ea), some y, y3, some (.ref D), y5, y6, none] ∧ Same H H' ∧ H' D = some (.dK kvs') ∧ SpA H' kvs' (spanL es rc), ?_, ?_⟩
      · cases rc with
        | none =>
          have ey : y = .non := fy.isNon
          subst ey
          refine ⟨.non, rfl, rfl, _, rfl, iteNS rfl ?_⟩
          refine ⟨kvs, _, _, _, rfl, sm, hD3, ?_⟩
          unfold spanL
          rw [Option.toList_none, List.append_nil]
          exact fk
        | some t3 =>
          obtain ⟨c, lo, hi⟩ := t3
          obtain ⟨ra, zs, rfl, hra, fz⟩ := Fz.open (ds := [.str ⟨#[c]⟩, .int lo, .int hi]) fy
          obtain ⟨z1, z2, z3, rfl, g1, g2, g3⟩ := fz.three
          rw [g1.isStr, g2.isInt, g3.isInt] at hra
          refine ⟨.ref ra, rfl, rfl, _, rfl, ite2 (fun _ => ?_) (fun e => ?_)⟩
          · refine ⟨.ref ra, rfl, ra, [sg c, .int lo, .int hi], rfl, .inl (.inl (sm _ _ hra)), rfl, sg c, [.int lo, .int hi], rfl, .int lo, [.int hi], rfl, .int hi, [], rfl, rfl, ?_⟩
            refine ⟨.int lo, rfl, .int hi, rfl, (by show 2 ≤ sizeLine; decide), fun tp ntp => ?_⟩
            have hD4 : (upd H3 tp (.tup [.int lo, .int hi])) D = some (.dK kvs) := keep_new hD3 ntp
            have nk : valV kvs (Sum.inr (sS c)) = none := fk.none (by
              rw [spanL_keys]
              exact (hok.rc c lo hi rfl).2.1)
            refine ⟨.ref D, rfl, sg c, rfl, D, _, rfl, DPut.k (k := Sum.inr (sS c)) hD4 (by rw [fk.len, List.length_map]; exact small1000 hel), ?_⟩
            refine ⟨_, _, _, _, rfl, Same.mut (Same.new sm ntp) nD, upd_same, ?_⟩
            rw [putK_new _ nk]
            exact (SpA.snoc (fk.kt (Kt.new ntp)) upd_same).kt (.dct hD4)
          · exact absurd (by simp) e
      · intro σ1 H1 hM
        obtain ⟨kvs', y3, y5, y6, rfl, sm1, hD1, fk1⟩ := hM
        exact ⟨.ref D, rfl, q D kvs' H1 sm1 nD hD1 fk1⟩

/-! ### fits -/
def spFits (K : PySem.W.Frag) : Sp := fun vs H Q _ => ∃ (cols : List Nat) (rv : V) (row : List Int) (qv : V) (es : List (Nat × Int)) (rc : Option (Nat × Int × Int)), vs = [tx cols, rv, qv] ∧ Fz H rv (rowD row) ∧ row.length = cols.length ∧ QZ H qv es rc ∧ QOk cols es rc ∧ es.length ≤ 1000 ∧
  ∀ (H' : Hp), Same H H' → Q (.bl (fitsM cols row es rc)) H'
theorem ok_fits (T : Tx K mg Z) : FnOk P w K mg base CX0 2 Z.f_fits Z.d_fits ["columns", "row", "question"] (spFits K) := by
  have G_spans : FnOk P w K mg base CX0 1 Z.f_spans Z.d_spans ["question"] (spSpans K) := ok_spans T
  refine T.F_fits.ok sc_fits (fun vs H Q E h => ?_) (fun cdv A outer s H vs Q E hr h => ?_)
  · obtain ⟨cols, rv, row, qv, es, rc, rfl, _⟩ := h
    rfl
  · obtain ⟨cols, rv, row, qv, es, rc, rfl, fr, hrl, fq, hok, hel, q⟩ := h
    obtain ⟨ra, rfl, hra⟩ := row_open fr
    refine ⟨_, (pss_cons (ps_set (i := 3) sc_fits.nd rfl (.inl rfl) (pe_call G_spans (hr.mono (by omega)) (by rfl) T.g_spans T.F_spans.kp T.b_spans .nil pass0 (pa_cons (pv 2) pa_nil)))
      (pss_cons (ps_lock (ps_for PassesOwn.never rfl (pi_keys (pv 3)) (pg_name (i := 4) sc_fits.nd rfl (.inl rfl)) (pss_cons (ps_asg (pe_dget (hu_of hr) (pv 3) (pv 4) (fun _ _ => rfl)) (pgT K (n := 2) (pgs_cons (pg_name (i := 5) sc_fits.nd rfl (.inl rfl)) (pgs_cons (pg_name (i := 6) sc_fits.nd rfl (.inl rfl)) pgs_nil))))
      (pss_one (ps_if (pt_not (pt_chain op_le op_le (pv 5) (pe_ix (ixT K) (pv 1) (bmK K PySem.F.plainAttrs_str PySem.F.slot_str_index PySem.F.type_str_index mt_sindex (pv 0) (pa_cons (pv 4) pa_nil)) (fun _ _ => rfl)) (pv 6))) (pss_one (ps_ret pe_bl)) pss_nil)))))
      (pss_one (ps_ret pe_bl)))), ?_⟩
    refine ⟨qv, rfl, qv, cols, es, rc, rfl, fq, hok, hel, fun d kvs H1 sm nd hd fk => ?_⟩
    have ndr : ra ≠ d := ne_of_none hra nd
    have hra1 : H1 ra = some (.tup (row.map V.int)) := sm _ _ hra
    have hback : ∀ od, Same H (upd (upd H1 d (.frz od (.dK kvs))) d (.dK kvs)) := fun od b o e => by
      have nb : b ≠ d := ne_of_none e nd
      rw [upd_ne nb, upd_ne nb]
      exact sm b o e
    refine ⟨d, .dK kvs, hd, trivial, fun od => ⟨.ref d, rfl, d, od, rfl, .inl ⟨kvs, upd_same, for_it walk_keys (fun i σ H' => ∃ y4 y5 y6 : Option V, σ = [some (tx cols), some (.ref ra), some qv, some (.ref d), y4, y5, y6] ∧ H' = upd H1 d (.frz od (.dK kvs)) ∧ ((spanL es rc).take i).all (spanFit cols row) = true)
      ⟨none, none, none, rfl, rfl, rfl⟩ (fun i σ H' _ hP => ?_) (fun i x σ H3 H4 hi hP hY => ?_) (fun σ H3 hP => ?_)⟩⟩⟩
    · obtain ⟨_, _, _, _, rfl, _⟩ := hP
      exact upd_same
    · obtain ⟨y4, y5, y6, rfl, rfl, hall⟩ := hP
      obtain ⟨rfl, k, v, hkv, rfl⟩ := hY
      obtain ⟨p, c, lo, hi2, rfl, rfl, hp, hsp⟩ := fk.get hkv
      have hm : (c, lo, hi2) ∈ spanL es rc := List.mem_of_getElem? hsp
      obtain ⟨p2, hv2, hp2⟩ := fk.look (spanL_nd hok) hm
      have hcc : c ∈ cols := SpanOk hok _ hm
      obtain ⟨orest, hocc⟩ := ix_one hcc
      have npd : p2 ≠ d := fun z => by
        rw [z, hd] at hp2
        cases hp2
      have hat := row_at hrl hcc
      have hsi : i < (spanL es rc).length := (List.getElem?_eq_some_iff.mp hsp).1
      have esi : (spanL es rc)[i] = (c, lo, hi2) := (List.getElem?_eq_some_iff.mp hsp).2
      have tk : (spanL es rc).take (i + 1) = (spanL es rc).take i ++ [(c, lo, hi2)] := by
        rw [List.take_succ_eq_append_getElem hsi, esi]
      have bad : spanFit cols row (c, lo, hi2) = false → fitsM cols row es rc = false := fun z => by
        unfold fitsM
        rw [List.all_eq_false]
        exact ⟨_, hm, by rw [z]; decide⟩
      refine ⟨.ref d, rfl, sg c, rfl, d, .ref p2, rfl, .inl ⟨kvs, Sum.inr (sS c), .inr ⟨od, upd_same⟩, rfl, hv2.symm⟩, ?_⟩
      refine ⟨p2, [.int lo, .int hi2], rfl, .inl (.inl (keep_ne hp2 npd)), rfl, .int lo, [.int hi2], rfl, .int hi2, [], rfl, rfl, ?_⟩
      refine ⟨.int lo, rfl, .ref ra, rfl, tx cols, rfl, rfl, sg c, rfl, _, _, cols.idxOf c, orest, rfl, rfl, hocc, ra, _, _, _, rfl, rfl, .inl (.inl (keep_ne hra1 ndr)), atI_nat hat, lo, _, rfl, rfl, _, rfl, ite2 (fun e => ?_) (fun e => ?_)⟩
      · have e1 : lo ≤ rowAt cols row c := of_decide_eq_true e
        refine ⟨.int hi2, rfl, _, hi2, rfl, rfl, _, rfl, ?_⟩
        by_cases e2 : rowAt cols row c ≤ hi2
        · rw [decide_eq_true e2]
          refine ⟨_, _, _, rfl, rfl, ?_⟩
          rw [tk, List.all_append, hall]
          unfold List.all
          show (true && (spanFit cols row (c, lo, hi2) && true)) = true
          unfold spanFit
          rw [decide_eq_true e1, decide_eq_true e2]
          rfl
        · rw [decide_eq_false e2]
          refine ⟨upd_same, ?_⟩
          have := q _ (hback od)
          rw [bad (by unfold spanFit; rw [decide_eq_false e2, Bool.and_false])] at this
          exact this
      · have e1 : ¬ lo ≤ rowAt cols row c := fun z => e (decide_eq_true z)
        refine ⟨_, rfl, upd_same, ?_⟩
        have := q _ (hback od)
        rw [bad (by unfold spanFit; rw [decide_eq_false e1, Bool.false_and])] at this
        exact this
    · obtain ⟨y4, y5, y6, rfl, rfl, hall⟩ := hP
      refine ⟨upd_same, ?_⟩
      have := q _ (hback od)
      rw [fk.len, List.take_of_length_le (Nat.le_refl _)] at hall
      have e : fitsM cols row es rc = true := hall
      rw [e] at this
      exact this

/-! ### picked -/
def spPicked (K : PySem.W.Frag) (Z : Ad) : Sp := fun vs H Q _ => ∃ (cols : List Nat) (rv : V) (row : List Int) (ls : List Nat), vs = [tx cols, rv, tx ls] ∧ TG Z.Ps H ∧ Fz H rv (rowD row) ∧ row.length = cols.length ∧ (∀ c ∈ ls, c ∈ cols) ∧ ls.length ≤ 1000 ∧
  ∀ (p : Addr) (H' : Hp), Sx Z.Ps H H' → TG Z.Ps H' → H p = none → H' p = some (.tup ((keyM cols row ls).map V.int)) → Q (.ref p) H'
theorem ok_picked (T : Tx K mg Z) (TB : Tb base mg Z) : FnOk P w K mg base CX0 1 Z.f_picked Z.d_picked ["columns", "row", "letters"] (spPicked K Z) := by
  refine T.C_picked.ok sc_picked (fun vs H Q E h => ?_) (fun A outer s H vs Q E hr h => ?_)
  · obtain ⟨cols, rv, row, ls, rfl, _⟩ := h
    rfl
  · obtain ⟨cols, rv, row, ls, rfl, tg, fr, hrl, hls, hll, q⟩ := h
    obtain ⟨ra, rfl, hra⟩ := row_open fr
    refine ⟨_, (pss_one (ps_ret (pe_tupG (D := (DRow Z.P_picked 0 1)) hr (by rfl) T.m_tuple (TB.t_picked) rfl (genS_by (sc := defScope s_picked) (by kernel_rfl) rfl) (pv 2) (hd_row rfl rfl rfl rfl rfl rfl rfl rfl (by decide +kernel) (by decide +kernel) rfl)))), ?_⟩
    have hP : Z.P_picked ∈ Z.Ps := by simp
    have lsl : (⟨ls.toArray⟩ : Str).cps.toList = ls := by simp
    refine ⟨tx ls, rfl, (keyM cols row ls).map V.int, ⟨tg _ hP, _, cols, ra, row, rfl, Nat.le_of_lt (small1000 (show ls.length ≤ 1000 from hll)), rfl, rfl, hra, hrl, by rw [lsl]; exact hls, ?_⟩, tg _ hP, fun G2 hT p np => ?_⟩
    · rw [lsl]
      unfold keyM
      rw [List.map_map]
      rfl
    · refine q p _ ((Tabbed.sx hP hT).new np) ((Tabbed.tg tg hT).new np) ?_ upd_same
      exact Sx.free (Tabbed.tg tg hT) (Tabbed.sx hP hT) np

/-! ### stretch -/
def spStretch (K : PySem.W.Frag) (Z : Ad) : Sp := fun vs H Q _ => ∃ (tv : V) (cols : List Nat) (rows : List (List Int)) (one : List Nat) (qv : V) (es : List (Nat × Int)) (rc : Option (Nat × Int × Int)), vs = [tv, tx one, qv] ∧ TG Z.Ps H ∧ Fz H tv (tabD cols rows) ∧ RowsOk cols.length rows ∧ rows.length ≤ 1000 ∧ one.length ≤ 1000 ∧ (∀ c ∈ one, c ∈ cols) ∧ QZ H qv es rc ∧ QOk cols es rc ∧ es.length ≤ 1000 ∧
  ∀ (p : Addr) (H' : Hp), Sx Z.Ps H H' → TG Z.Ps H' → H p = none → H' p = some (.tup [.int (aheadM cols rows one es rc : Nat), .int (behindM cols rows one es rc : Nat)]) → Q (.ref p) H'
theorem ok_stretch (T : Tx K mg Z) (TB : Tb base mg Z) : FnOk P w K mg base CX0 3 Z.f_stretch Z.d_stretch ["table", "one", "question"] (spStretch K Z) := by
  have G_used : FnOk P w K mg base CX0 2 Z.f_used Z.d_used ["one", "question"] (spUsed K) := ok_used T
  have G_spans : FnOk P w K mg base CX0 1 Z.f_spans Z.d_spans ["question"] (spSpans K) := ok_spans T
  have G_picked : FnOk P w K mg base CX0 1 Z.f_picked Z.d_picked ["columns", "row", "letters"] (spPicked K Z) := ok_picked T TB
  refine T.C_stretch.ok sc_stretch (fun vs H Q E h => ?_) (fun A outer s H vs Q E hr h => ?_)
  · obtain ⟨tv, cols, rows, one, qv, es, rc, rfl, _⟩ := h
    rfl
  · obtain ⟨tv, cols, rows, one, qv, es, rc, rfl, tg, fT, hrs, hrn, hol, hoc, fq, hok, hel, q⟩ := h
    obtain ⟨t, R, vs, rfl, ht, hRR, fvs⟩ := tab_open fT
    have hvl : vs.length = rows.length := by rw [fvs.len, List.length_map]
    refine ⟨_, (pss_cons (ps_asg (pv 0) (pgT K (n := 2) (pgs_cons (pg_name (i := 3) sc_stretch.nd rfl (.inr rfl)) (pgs_cons (pg_name (i := 4) sc_stretch.nd rfl (.inl rfl)) pgs_nil))))
      (pss_cons (ps_set (i := 5) sc_stretch.nd rfl (.inr rfl) (pe_call G_used (hr.mono (by omega)) (by rfl) T.g_used T.F_used.kp T.b_used .nil pass0 (pa_cons (pv 1) (pa_cons (pv 2) pa_nil))))
      (pss_cons (ps_set (i := 11) sc_stretch.nd rfl (.inr rfl) (pe_call G_spans (hr.mono (by omega)) (by rfl) T.g_spans T.F_spans.kp T.b_spans .nil pass0 (pa_cons (pv 2) pa_nil)))
      (pss_cons (ps_set (i := 6) sc_stretch.nd rfl (.inr rfl) (pe_tupG (D := (DWant Z.P_stretch 11 0)) hr (by rfl) T.m_tuple (TB.t_stretch) rfl (genS_by (sc := defScope s_stretch) (by kernel_rfl) rfl) (pv 5) (hd_want (.inl rfl) rfl rfl rfl rfl rfl (by decide +kernel))))
      (pss_cons (ps_set (i := 7) sc_stretch.nd rfl (.inr rfl) (pe_tupG (D := (DWant Z.P_stretch 11 1)) hr (by rfl) T.m_tuple (TB.t_stretch) rfl (genS_by (sc := defScope s_stretch) (by kernel_rfl) rfl) (pv 5) (hd_want (.inr rfl) rfl rfl rfl rfl rfl (by decide +kernel))))
      (pss_cons (ps_setLc (i := 8) (own := [("row", 12)]) (tt := tYes) (by rfl) sc_stretch.nd rfl rfl (sw_true rfl rfl rfl (by decide +kernel)) (piT K (pv 4)) (blkOk_by (own := [("row", 12)]) (by kernel_rfl)) (fun _ _ _ _ _ => (pg_name (i := 12) sc_stretch.nd rfl (.inl rfl))) (fun _ _ _ _ _ => pts_nil) (fun _ _ _ _ _ => (pe_call G_picked (hr.mono (by omega)) (by rfl) T.g_picked T.F_picked.kp T.b_picked .nil pass0 (pa_cons (pv 3) (pa_cons (pv 12) (pa_cons (pv 5) pa_nil))))))
      (pss_cons (ps_set (i := 9) sc_stretch.nd rfl (.inl rfl) (pe_callB (cLenSq K) (by rfl) T.m_len (by decide +kernel) (pa_cons (pe_lc (own := [("key", 13)]) (tt := _) (by rfl) sc_stretch.nd (piL K (pv 8)) (blkOk_by (own := [("key", 13)]) (by kernel_rfl)) (fun _ _ _ _ _ => (pg_name (i := 13) sc_stretch.nd rfl (.inl rfl))) (fun _ _ _ _ _ => (pts_one (pt_cmpR (ltTK K hr.units0) (pv 13) (pv 6) (nomark _)))) (fun _ _ _ _ _ => (pv 13))) pa_nil)))
      (pss_cons (ps_set (i := 10) sc_stretch.nd rfl (.inl rfl) (pe_callB (cLenSq K) (by rfl) T.m_len (by decide +kernel) (pa_cons (pe_lc (own := [("key", 13)]) (tt := _) (by rfl) sc_stretch.nd (piL K (pv 8)) (blkOk_by (own := [("key", 13)]) (by kernel_rfl)) (fun _ _ _ _ _ => (pg_name (i := 13) sc_stretch.nd rfl (.inl rfl))) (fun _ _ _ _ _ => (pts_one (pt_cmpR (leTK K hr.units0) (pv 13) (pv 7) (nomark _)))) (fun _ _ _ _ _ => (pv 13))) pa_nil)))
      (pss_one (ps_ret (pe_tup (pa_cons (pv 9) (pa_cons (pv 10) pa_nil))))))))))))), ?_⟩
    refine ⟨.ref t, rfl, t, [tx cols, .ref R], rfl, .inl (.inl ht), rfl, tx cols, [.ref R], rfl, .ref R, [], rfl, rfl, ?_⟩
    refine ⟨tx one, rfl, qv, rfl, one, qv, es, rc, rfl, hol, fq, hel, fun H1 sm1 => ?_⟩
    refine ⟨qv, rfl, qv, cols, es, rc, rfl, fq.kT (Same.kT sm1), hok, hel, fun d kvs H2 sm2 nd hd fk => ?_⟩
    have sm02 : Same H H2 := Same.trans sm1 sm2
    have tg2 : TG Z.Ps H2 := tg.same sm02
    have hP : Z.P_stretch ∈ Z.Ps := by simp
    have lsl : (⟨(usedM one es rc).toArray⟩ : Str).cps.toList = usedM one es rc := by simp
    have hul : (usedM one es rc).length ≤ 1000 := Nat.le_trans (used_len _ _ _) hol
    have hus : (⟨(usedM one es rc).toArray⟩ : Str).length ≤ sizeLine := Nat.le_of_lt (small1000 (show (usedM one es rc).length ≤ 1000 from hul))
    have want : ∀ (n : Int) (G : Hp) (σ : L2.St), TG Z.Ps G → G d = some (.dK kvs) → SpA G kvs (spanL es rc) → σ[11]? = some (some (.ref d)) → DWant Z.P_stretch 11 n (tx (usedM one es rc)) σ G (((usedM one es rc).map fun c => if n = 0 then (spanOf es rc c).1 else (spanOf es rc c).2).map V.int) := fun n G σ tG hG fG hσ => by
      refine ⟨tG _ hP, _, d, kvs, fun c => if n = 0 then (spanOf es rc c).1 else (spanOf es rc c).2, rfl, hus, hσ, hG, fun c hc => ?_, ?_⟩
      · rw [lsl] at hc
        obtain ⟨lo, hi, hm⟩ := used_span hc
        obtain ⟨p, h1, h2⟩ := fG.look (spanL_nd hok) hm
        refine ⟨p, lo, hi, h1, h2, ?_⟩
        show (if n = 0 then (spanOf es rc c).1 else (spanOf es rc c).2) = _
        rw [spanOf_mem (spanL_nd hok) hm]
      · rw [lsl, List.map_map]
        rfl
    -- first
    refine ⟨tx (usedM one es rc), rfl, (loM es rc (usedM one es rc)).map V.int, want 0 H2 _ tg2 hd fk rfl, tg2 _ hP, fun G3 t3 p3 n3 => ?_⟩
    have sx3 : Sx Z.Ps H2 (upd G3 p3 (.tup ((loM es rc (usedM one es rc)).map V.int))) := (Tabbed.sx hP t3).new n3
    have tg3 : TG Z.Ps (upd G3 p3 (.tup ((loM es rc (usedM one es rc)).map V.int))) := (Tabbed.tg tg2 t3).new n3
    have h33 : (upd G3 p3 (.tup ((loM es rc (usedM one es rc)).map V.int))) p3 = some (.tup ((loM es rc (usedM one es rc)).map V.int)) := upd_same
    generalize upd G3 p3 (.tup ((loM es rc (usedM one es rc)).map V.int)) = H3 at sx3 tg3 h33
    -- last
    refine ⟨tx (usedM one es rc), rfl, (hiM es rc (usedM one es rc)).map V.int, want 1 H3 _ tg3 (sx3.dct tg2 hd) (fk.kt (sx3.kt tg2)) rfl, tg3 _ hP, fun G4 t4 p4 n4 => ?_⟩
    have sx4 : Sx Z.Ps H3 (upd G4 p4 (.tup ((hiM es rc (usedM one es rc)).map V.int))) := (Tabbed.sx hP t4).new n4
    have tg4 : TG Z.Ps (upd G4 p4 (.tup ((hiM es rc (usedM one es rc)).map V.int))) := (Tabbed.tg tg3 t4).new n4
    have h44 : (upd G4 p4 (.tup ((hiM es rc (usedM one es rc)).map V.int))) p4 = some (.tup ((hiM es rc (usedM one es rc)).map V.int)) := upd_same
    generalize upd G4 p4 (.tup ((hiM es rc (usedM one es rc)).map V.int)) = H4 at sx4 tg4 h44
    have sx04 : Sx Z.Ps H H4 := ((Same.sx sm02).trans sx3).trans sx4
    have h43 : H4 p3 = some (.tup ((loM es rc (usedM one es rc)).map V.int)) := sx4.kt tg3 _ _ h33
    have kt04 : Kt H H4 := sx04.kt tg
    have hR4 := kt04 _ _ hRR
    -- keys
    refine ⟨.ref R, rfl, R, rfl, ⟨_, .inl (.inl hR4)⟩, fun D nD => lc_it (walk_tup (xs := vs)) (fun i H' => ∃ ks : List V, Sx Z.Ps H4 H' ∧ TG Z.Ps H' ∧ H' D = some (.lst ks) ∧ FzA H' ks (((rows.take i).map fun row => keyM cols row (usedM one es rc)).map rowD))
      ⟨[], Sx.rfl'.new nD, tg4.new nD, upd_same, .nil⟩ (fun i H' _ hI => ?_) (fun i x H5 H6 hi hI hY => ?_) (fun H5 hI => ?_)⟩
    · obtain ⟨ks, sx, _, _⟩ := hI
      exact .inl (.inl (sx.kt tg4 _ _ hR4))
    · obtain ⟨ks, sx5, tg5, hD5, fks⟩ := hI
      obtain ⟨rfl, ex⟩ := hY
      obtain ⟨dd, hdd, fd⟩ := fvs.getV ex
      rw [List.getElem?_map] at hdd
      obtain ⟨row, hrow, rfl⟩ := Option.map_eq_some_iff.mp hdd
      have hi2 : i < rows.length := (List.getElem?_eq_some_iff.mp hrow).1
      have erow : rows[i] = row := (List.getElem?_eq_some_iff.mp hrow).2
      have rok := hrs row (List.mem_of_getElem? hrow)
      have kt05 := kt04.trans (sx5.kt tg4)
      refine ⟨rfl, tx cols, rfl, x, rfl, tx (usedM one es rc), rfl, cols, x, row, usedM one es rc, rfl, tg5, fd.kt kt05, rok.1, fun c hc => hoc c (used_in hc), hul, fun p H7 sx7 tg7 np hp => ?_⟩
      have hD7 := sx7.lst tg5 hD5
      have fks7 := fks.kt (sx7.kt tg5)
      refine ⟨ks, hD7, ?_, ks ++ [.ref p], (sx5.trans sx7).mut nD, tg7.mut hD7, upd_same, ?_⟩
      · rw [fks.len, List.length_map, List.length_map, List.length_take]
        exact small1000 (by omega)
      · rw [List.take_succ_eq_append_getElem hi2, erow, List.map_append, List.map_append]
        exact (FzA.snoc fks7 (row_at_fz hp)).kt (Kt.lst hD7)
    · obtain ⟨ks, sx5, tg5, hD5, fks⟩ := hI
      rw [hvl, List.take_of_length_le (Nat.le_refl _)] at fks
      have hkl : ks.length = rows.length := by rw [fks.len, List.length_map, List.length_map]
      have h53 := (sx5.kt tg4) _ _ h43
      have h54 := (sx5.kt tg4) _ _ h44
      -- ahead
      refine ⟨.ref D, rfl, D, rfl, ⟨_, .inl (.inl hD5)⟩, fun D6 nD6 => lc_it (walk_list (xs := ks)) (fun i H' => ∃ cs : List V, Same H5 H' ∧ H' D6 = some (.lst cs) ∧ cs.length = ((rows.take i).filter fun row => HT.lexLt (keyM cols row (usedM one es rc)) (loM es rc (usedM one es rc))).length)
        ⟨[], Same.new (Same.refl H5) nD6, upd_same, rfl⟩ (fun i H' _ hI => ?_) (fun i x H6 H7 hi hI hY => ?_) (fun H6 hI => ?_)⟩
      · obtain ⟨cs, sm, _⟩ := hI
        exact .inl (.inl (sm _ _ hD5))
      · obtain ⟨cs, sm6, hD6, hcl⟩ := hI
        obtain ⟨rfl, ex⟩ := hY
        obtain ⟨dd, hdd, fd⟩ := fks.getV ex
        rw [List.getElem?_map] at hdd
        obtain ⟨key, hkey, rfl⟩ := Option.map_eq_some_iff.mp hdd
        rw [List.getElem?_map] at hkey
        obtain ⟨row, hrow, rfl⟩ := Option.map_eq_some_iff.mp hkey
        have hi2 : i < rows.length := (List.getElem?_eq_some_iff.mp hrow).1
        have erow : rows[i] = row := (List.getElem?_eq_some_iff.mp hrow).2
        obtain ⟨ka, rfl, hka⟩ := row_open fd
        refine ⟨rfl, .ref ka, rfl, .ref p3, rfl, ka, p3, _, _, rfl, rfl, .inl (.inl (sm6 _ _ hka)), .inl (.inl (sm6 _ _ h53)), _, rfl, ite2 (fun e => ?_) (fun e => ?_)⟩
        · refine ⟨.ref ka, rfl, cs, hD6, ?_, cs ++ [.ref ka], Same.mut sm6 nD6, upd_same, ?_⟩
          · rw [hcl]
            have := List.length_filter_le (fun row => HT.lexLt (keyM cols row (usedM one es rc)) (loM es rc (usedM one es rc))) (rows.take i)
            rw [List.length_take] at this
            exact small1000 (by omega)
          · rw [List.take_succ_eq_append_getElem hi2, erow, List.filter_append, List.filter_cons, if_pos e, List.length_append, List.length_append, hcl]
            rfl
        · refine ⟨cs, sm6, hD6, ?_⟩
          rw [List.take_succ_eq_append_getElem hi2, erow, List.filter_append, List.filter_cons, if_neg e, List.filter_nil, List.append_nil, hcl]
      · obtain ⟨cs, sm6, hD6, hcl⟩ := hI
        rw [hkl, List.take_of_length_le (Nat.le_refl _)] at hcl
        refine ⟨D6, cs, rfl, .inl (.inl (.inl hD6)), ?_⟩
        rw [hcl]
        -- behind
        refine ⟨.ref D, rfl, D, rfl, ⟨_, .inl (.inl (sm6 _ _ hD5))⟩, fun D8 nD8 => lc_it (walk_list (xs := ks)) (fun i H' => ∃ cs : List V, Same H6 H' ∧ H' D8 = some (.lst cs) ∧ cs.length = ((rows.take i).filter fun row => leK (keyM cols row (usedM one es rc)) (hiM es rc (usedM one es rc))).length)
          ⟨[], Same.new (Same.refl H6) nD8, upd_same, rfl⟩ (fun i H' _ hI => ?_) (fun i x H8 H9 hi hI hY => ?_) (fun H8 hI => ?_)⟩
        · obtain ⟨cs, sm, _⟩ := hI
          exact .inl (.inl (sm _ _ (sm6 _ _ hD5)))
        · obtain ⟨cs2, sm8, hD8, hcl2⟩ := hI
          obtain ⟨rfl, ex⟩ := hY
          obtain ⟨dd, hdd, fd⟩ := fks.getV ex
          rw [List.getElem?_map] at hdd
          obtain ⟨key, hkey, rfl⟩ := Option.map_eq_some_iff.mp hdd
          rw [List.getElem?_map] at hkey
          obtain ⟨row, hrow, rfl⟩ := Option.map_eq_some_iff.mp hkey
          have hi2 : i < rows.length := (List.getElem?_eq_some_iff.mp hrow).1
          have erow : rows[i] = row := (List.getElem?_eq_some_iff.mp hrow).2
          obtain ⟨ka, rfl, hka⟩ := row_open fd
          refine ⟨rfl, .ref ka, rfl, .ref p4, rfl, ka, p4, _, _, rfl, rfl, .inl (.inl (sm8 _ _ (sm6 _ _ hka))), .inl (.inl (sm8 _ _ (sm6 _ _ h54))), _, rfl, ite2 (fun e => ?_) (fun e => ?_)⟩
          · have e' : leK (keyM cols row (usedM one es rc)) (hiM es rc (usedM one es rc)) = true := e
            refine ⟨.ref ka, rfl, cs2, hD8, ?_, cs2 ++ [.ref ka], Same.mut sm8 nD8, upd_same, ?_⟩
            · rw [hcl2]
              have := List.length_filter_le (fun row => leK (keyM cols row (usedM one es rc)) (hiM es rc (usedM one es rc))) (rows.take i)
              rw [List.length_take] at this
              exact small1000 (by omega)
            · rw [List.take_succ_eq_append_getElem hi2, erow, List.filter_append, List.filter_cons, if_pos e', List.length_append, List.length_append, hcl2]
              rfl
          · have e' : ¬ leK (keyM cols row (usedM one es rc)) (hiM es rc (usedM one es rc)) = true := e
            refine ⟨cs2, sm8, hD8, ?_⟩
            rw [List.take_succ_eq_append_getElem hi2, erow, List.filter_append, List.filter_cons, if_neg e', List.filter_nil, List.append_nil, hcl2]
        · obtain ⟨cs2, sm8, hD8, hcl2⟩ := hI
          rw [hkl, List.take_of_length_le (Nat.le_refl _)] at hcl2
          refine ⟨D8, cs2, rfl, .inl (.inl (.inl hD8)), ?_⟩
          rw [hcl2]
          refine ⟨_, rfl, _, rfl, (by show 2 ≤ sizeLine; decide), fun pr npr => ?_⟩
          have sm58 : Same H5 H8 := Same.trans sm6 sm8
          refine q pr _ (((sx04.trans sx5).trans (Same.sx sm58)).new npr) ((tg5.same sm58).new npr) ?_ upd_same
          exact Sx.free (tg5.same sm58) ((sx04.trans sx5).trans (Same.sx sm58)) npr

/-! ### sorted_by -/
def spSorted (K : PySem.W.Frag) (Z : Ad) : Sp := fun vs H Q _ => ∃ (tv : V) (cols : List Nat) (rows : List (List Int)) (one : List Nat), vs = [tv, tx one] ∧ TG Z.Ps H ∧ Fz H tv (tabD cols rows) ∧ RowsOk cols.length rows ∧ rows.length ≤ 1000 ∧ one.length ≤ 1000 ∧ (∀ c ∈ one, c ∈ cols) ∧
  ∀ (p : Addr) (H' : Hp), Sx Z.Ps H H' → TG Z.Ps H' → H p = none → H' p = some (.lst ((sortM cols rows one).map V.int)) → Q (.ref p) H'
theorem ok_sorted (T : Tx K mg Z) (TB : Tb base mg Z) : FnOk P w K mg base CX0 2 Z.f_sorted_by Z.d_sorted_by ["table", "one"] (spSorted K Z) := by
  have G_picked : FnOk P w K mg base CX0 1 Z.f_picked Z.d_picked ["columns", "row", "letters"] (spPicked K Z) := ok_picked T TB
  refine T.F_sorted_by.ok sc_sorted_by (fun vs H Q E h => ?_) (fun cdv A outer s H vs Q E hr h => ?_)
  · obtain ⟨tv, cols, rows, one, rfl, _⟩ := h
    rfl
  · obtain ⟨tv, cols, rows, one, rfl, tg, fT, hrs, hrn, hol, hoc, q⟩ := h
    obtain ⟨t, R, vs, rfl, ht, hRR, fvs⟩ := tab_open fT
    have hvl : vs.length = rows.length := by rw [fvs.len, List.length_map]
    refine ⟨_, (pss_cons (ps_asg (pv 0) (pgT K (n := 2) (pgs_cons (pg_name (i := 2) sc_sorted_by.nd rfl (.inr rfl)) (pgs_cons (pg_name (i := 3) sc_sorted_by.nd rfl (.inl rfl)) pgs_nil))))
      (pss_cons (ps_setLc (i := 4) (own := [("number", 5), ("row", 6)]) (tt := tYes) (by rfl) sc_sorted_by.nd rfl rfl (sw_true rfl rfl rfl (by decide +kernel)) (enumTK K (by rfl) T.m_enumerate (pa_cons (pv 3) pa_nil)) (blkOk_by (own := [("number", 5), ("row", 6)]) (by kernel_rfl)) (fun _ _ _ _ _ => (pgT K (n := 2) (pgs_cons (pg_name (i := 5) sc_sorted_by.nd rfl (.inl rfl)) (pgs_cons (pg_name (i := 6) sc_sorted_by.nd rfl (.inl rfl)) pgs_nil)))) (fun _ _ _ _ _ => pts_nil) (fun _ _ _ _ _ => (pe_tup (pa_cons (pe_call G_picked (hr.mono (by omega)) (by rfl) T.g_picked T.F_picked.kp T.b_picked .nil pass0 (pa_cons (pv 2) (pa_cons (pv 6) (pa_cons (pv 1) pa_nil)))) (pa_cons (pv 5) pa_nil)))))
      (pss_one (ps_ret (pe_lc (own := [("key", 7), ("number", 5)]) (tt := tYes) (by rfl) sc_sorted_by.nd (piL K (pe_callB (cSortE K hr) (by rfl) T.m_sorted (by decide +kernel) (pa_cons (pv 4) pa_nil))) (blkOk_by (own := [("key", 7), ("number", 5)]) (by kernel_rfl)) (fun _ _ _ _ _ => (pgT K (n := 2) (pgs_cons (pg_name (i := 7) sc_sorted_by.nd rfl (.inl rfl)) (pgs_cons (pg_name (i := 5) sc_sorted_by.nd rfl (.inl rfl)) pgs_nil)))) (fun _ _ _ _ _ => pts_nil) (fun _ _ _ _ _ => (pv 5))))))), ?_⟩
    refine ⟨.ref t, rfl, t, [tx cols, .ref R], rfl, .inl (.inl ht), rfl, tx cols, [.ref R], rfl, .ref R, [], rfl, rfl, ?_⟩
    refine ⟨.ref R, rfl, R, vs, rfl, .inl (.inl hRR), fun D nD => lc_it (walk_et (xs := vs)) (fun i H' => ∃ bs : List (V × Ent), Sx Z.Ps H H' ∧ TG Z.Ps H' ∧ H' D = some (.lst (bs.map (·.1))) ∧ bs.map (·.2) = (List.range i).map (entAt cols rows one) ∧ ∀ b ∈ bs, Fz H' b.1 (entD b.2))
      ⟨[], Sx.rfl'.new nD, tg.new nD, upd_same, rfl, fun b hb => nomatch hb⟩ (fun i H' _ hP => ?_) (fun i x H3 H4 hi hP hY => ?_) (fun H3 hP => ?_)⟩
    · obtain ⟨bs, sx, _⟩ := hP
      exact .inl (.inl (sx.kt tg _ _ hRR))
    · obtain ⟨bs, sx3, tg3, hD3, hb3, fb3⟩ := hP
      obtain ⟨T0, x1, x2, rfl, nT, rfl, ex1, ex2⟩ := hY
      have e1 : x1 = .int (i : Nat) := (Option.some.inj ex1).symm
      subst e1
      obtain ⟨d, hd, fd⟩ := fvs.getV ex2
      rw [List.getElem?_map] at hd
      obtain ⟨row, hrow, rfl⟩ := Option.map_eq_some_iff.mp hd
      have hi2 : i < rows.length := (List.getElem?_eq_some_iff.mp hrow).1
      have erow : rows.getD i [] = row := by rw [List.getD_eq_getElem?_getD, hrow]; rfl
      have rok := hrs row (List.mem_of_getElem? hrow)
      have hbl : bs.length = i := by
        have := congrArg List.length hb3
        rw [List.length_map, List.length_map, List.length_range] at this
        exact this
      have sx4 : Sx Z.Ps H (upd H3 T0 (.tup [.int (i : Nat), x2])) := sx3.new nT
      have tg4 : TG Z.Ps (upd H3 T0 (.tup [.int (i : Nat), x2])) := tg3.new nT
      have kt34 : Kt H3 (upd H3 T0 (.tup [.int (i : Nat), x2])) := .new nT
      have hD4 : (upd H3 T0 (.tup [.int (i : Nat), x2])) D = some (.lst (bs.map (·.1))) := keep_new hD3 nT
      have hT4 : (upd H3 T0 (.tup [.int (i : Nat), x2])) T0 = some (.tup [.int (i : Nat), x2]) := upd_same
      generalize upd H3 T0 (.tup [.int (i : Nat), x2]) = H4 at sx4 tg4 kt34 hD4 hT4 ⊢
      refine ⟨T0, [.int (i : Nat), x2], rfl, .inl (.inl hT4), rfl, .int (i : Nat), [x2], rfl, x2, [], rfl, rfl, rfl, tx cols, rfl, x2, rfl, tx one, rfl, cols, x2, row, one, rfl, tg4, fd.kt (sx4.kt tg), rok.1, hoc, hol, fun p H5 sx5 tg5 np hp => ?_⟩
      refine ⟨.int (i : Nat), rfl, (by show 2 ≤ sizeLine; decide), fun ea nea => ?_⟩
      have hD5 := sx5.lst tg4 hD4
      have hD6 : (upd H5 ea (.tup [.ref p, .int (i : Nat)])) D = some (.lst (bs.map (·.1))) := keep_new hD5 nea
      have fe : Fz (upd H5 ea (.tup [.ref p, .int (i : Nat)])) (.ref ea) (entD (entAt cols rows one i)) := by
        unfold entD entAt
        rw [erow]
        exact Fz.made nea (.cons (row_at_fz hp) (.cons (.int _) .nil))
      refine ⟨bs.map (·.1), hD6, ?_, bs ++ [(.ref ea, entAt cols rows one i)], ((sx4.trans sx5).new nea).mut nD, (tg5.new nea).mut hD6, ?_, ?_, fun b hb => ?_⟩
      · rw [List.length_map]
        exact small1000 (by omega)
      · rw [upd_same, List.map_append]
        rfl
      · rw [List.map_append, hb3, List.range_succ, List.map_append]
        rfl
      · rcases List.mem_append.mp hb with z | z
        · exact ((((fb3 b z).kt kt34).kt (sx5.kt tg4)).kt (.new nea)).kt (Kt.lst hD6)
        · rw [List.mem_singleton.mp z]
          exact fe.kt (Kt.lst hD6)
    · obtain ⟨bs, sx3, tg3, hD3, hb3, fb3⟩ := hP
      rw [hvl] at hb3
      have hbl : bs.length = rows.length := by
        have := congrArg List.length hb3
        rw [List.length_map, List.length_map, List.length_range] at this
        exact this
      refine ⟨.ref D, rfl, D, bs, rfl, .inl (.inl hD3), fb3, fun S nS => ?_⟩
      have sm4 : Same H3 (upd H3 S (.lst ((bs.mergeSort fun b c => entLe b.2 c.2).map (·.1)))) := Same.new (Same.refl H3) nS
      have hS4 : (upd H3 S (.lst ((bs.mergeSort fun b c => entLe b.2 c.2).map (·.1)))) S = some (.lst ((bs.mergeSort fun b c => entLe b.2 c.2).map (·.1))) := upd_same
      generalize upd H3 S (.lst ((bs.mergeSort fun b c => entLe b.2 c.2).map (·.1))) = H4 at sm4 hS4 ⊢
      have eM := sortM_of hb3
      have hpm : ∀ b ∈ (bs.mergeSort fun b c => entLe b.2 c.2), b ∈ bs := fun b h => (List.mergeSort_perm _ _).mem_iff.mp h
      have hsl : (bs.mergeSort fun b c => entLe b.2 c.2).length = rows.length := by rw [List.length_mergeSort, hbl]
      generalize (bs.mergeSort fun b c => entLe b.2 c.2) = sb at hS4 eM hpm hsl ⊢
      refine ⟨S, rfl, ⟨_, .inl (.inl hS4)⟩, fun D2 nD2 => lc_it (walk_list (xs := sb.map (·.1))) (fun i H' => Same H4 H' ∧ H' D2 = some (.lst (((sb.take i).map (·.2.2)).map V.int)))
        ⟨Same.new (Same.refl H4) nD2, upd_same⟩ (fun i H' _ hP => .inl (.inl (hP.1 _ _ hS4))) (fun i x H5 H6 hi hP hY => ?_) (fun H5 hP => ?_)⟩
      · obtain ⟨sm5, hD5⟩ := hP
        obtain ⟨rfl, ex⟩ := hY
        rw [List.getElem?_map] at ex
        obtain ⟨b, hb, rfl⟩ := Option.map_eq_some_iff.mp ex
        have hi2 : i < sb.length := (List.getElem?_eq_some_iff.mp hb).1
        have eb : sb[i] = b := (List.getElem?_eq_some_iff.mp hb).2
        have fb := ((fb3 b (hpm b (List.mem_of_getElem? hb))).kt (Same.kt sm4)).kt (Same.kt sm5)
        obtain ⟨ba, xs, eba, hba, fxs⟩ := Fz.open fb
        obtain ⟨z1, z2, rfl, g1, g2⟩ := fxs.two
        rw [g2.isInt] at hba
        refine ⟨ba, [z1, .int b.2.2], eba, .inl (.inl hba), rfl, z1, [.int b.2.2], rfl, .int b.2.2, [], rfl, rfl, rfl, .int b.2.2, rfl, _, hD5, ?_, Same.mut sm5 nD2, ?_⟩
        · rw [List.length_map, List.length_map, List.length_take]
          exact small1000 (by omega)
        · rw [upd_same, List.take_succ_eq_append_getElem hi2, eb, List.map_append, List.map_append]
          rfl
      · obtain ⟨sm5, hD5⟩ := hP
        rw [List.length_map, List.take_of_length_le (Nat.le_refl _), eM] at hD5
        have sm35 := Same.trans sm4 sm5
        have nD23 : H3 D2 = none := Same.free sm4 nD2
        exact q D2 H5 (sx3.trans (Same.sx sm35)) (tg3.same sm35) (Sx.free tg3 sx3 nD23) hD5

/-! ### read -/
def spRead (K : PySem.W.Frag) (Z : Ad) : Sp := fun vs H Q _ => ∃ (tv : V) (cols : List Nat) (rows : List (List Int)) (one : List Nat) (qv : V) (es : List (Nat × Int)) (rc : Option (Nat × Int × Int)), vs = [tv, tx one, qv] ∧ TG Z.Ps H ∧ Fz H tv (tabD cols rows) ∧ RowsOk cols.length rows ∧ rows.length ≤ 1000 ∧ one.length ≤ 1000 ∧ (∀ c ∈ one, c ∈ cols) ∧ QZ H qv es rc ∧ QOk cols es rc ∧ es.length ≤ 1000 ∧
  ∀ (p l : Addr) (H' : Hp), Sx Z.Ps H H' → TG Z.Ps H' → H p = none → H l = none → H' p = some (.tup [.ref l, .int ((behindM cols rows one es rc : Nat) - (aheadM cols rows one es rc : Nat) : Int)]) → H' l = some (.lst ((ansM cols rows es rc).map V.int)) → Q (.ref p) H'
theorem ok_read (T : Tx K mg Z) (TB : Tb base mg Z) : FnOk P w K mg base CX0 4 Z.f_read Z.d_read ["table", "one", "question"] (spRead K Z) := by
  have G_stretch : FnOk P w K mg base CX0 3 Z.f_stretch Z.d_stretch ["table", "one", "question"] (spStretch K Z) := ok_stretch T TB
  have G_sorted_by : FnOk P w K mg base CX0 2 Z.f_sorted_by Z.d_sorted_by ["table", "one"] (spSorted K Z) := ok_sorted T TB
  have G_fits : FnOk P w K mg base CX0 2 Z.f_fits Z.d_fits ["columns", "row", "question"] (spFits K) := ok_fits T
  refine T.F_read.ok sc_read (fun vs H Q E h => ?_) (fun cdv A outer s H vs Q E hr h => ?_)
  · obtain ⟨tv, cols, rows, one, qv, es, rc, rfl, _⟩ := h
    rfl
  · obtain ⟨tv, cols, rows, one, qv, es, rc, rfl, tg, fT, hrs, hrn, hol, hoc, fq, hok, hel, q⟩ := h
    obtain ⟨t, R, vs, rfl, ht, hRR, fvs⟩ := tab_open fT
    have hvl : vs.length = rows.length := by rw [fvs.len, List.length_map]
    refine ⟨_, (pss_cons (ps_asg (pv 0) (pgT K (n := 2) (pgs_cons (pg_name (i := 3) sc_read.nd rfl (.inr rfl)) (pgs_cons (pg_name (i := 4) sc_read.nd rfl (.inr rfl)) pgs_nil))))
      (pss_cons (ps_asg (pe_call G_stretch (hr.mono (by omega)) (by rfl) T.g_stretch T.F_stretch.kp T.b_stretch .nil pass0 (pa_cons (pv 0) (pa_cons (pv 1) (pa_cons (pv 2) pa_nil)))) (pgT K (n := 2) (pgs_cons (pg_name (i := 5) sc_read.nd rfl (.inl rfl)) (pgs_cons (pg_name (i := 6) sc_read.nd rfl (.inl rfl)) pgs_nil))))
      (pss_cons (ps_set (i := 7) sc_read.nd rfl (.inl rfl) (pe_slice (slLK K) (pe_call G_sorted_by (hr.mono (by omega)) (by rfl) T.g_sorted_by T.F_sorted_by.kp T.b_sorted_by .nil pass0 (pa_cons (pv 0) (pa_cons (pv 1) pa_nil))) (po_some (pv 5)) (po_some (pv 6))))
      (pss_cons (ps_setLc (i := 8) (own := [("number", 9)]) (tt := _) (by rfl) sc_read.nd rfl rfl (sw_true rfl rfl rfl (by decide +kernel)) (piL K (pv 7)) (blkOk_by (own := [("number", 9)]) (by kernel_rfl)) (fun _ _ _ _ _ => (pg_name (i := 9) sc_read.nd rfl (.inl rfl))) (fun _ _ _ _ _ => (pts_one (pt_val (pe_call G_fits (hr.mono (by omega)) (by rfl) T.g_fits T.F_fits.kp T.b_fits .nil pass0 (pa_cons (pv 3) (pa_cons (pe_ix (ixT K) (pv 4) (pv 9) (fun _ _ => rfl)) (pa_cons (pv 2) pa_nil))))))) (fun _ _ _ _ _ => (pv 9)))
      (pss_one (ps_ret (pe_tup (pa_cons (pe_callB (sortIK K) (by rfl) T.m_sorted (by decide +kernel) (pa_cons (pv 8) pa_nil)) (pa_cons (pe_op op_sub (pv 6) (pv 5)) pa_nil))))))))), ?_⟩
    refine ⟨.ref t, rfl, t, [tx cols, .ref R], rfl, .inl (.inl ht), rfl, tx cols, [.ref R], rfl, .ref R, [], rfl, rfl, ?_⟩
    refine ⟨.ref t, rfl, tx one, rfl, qv, rfl, .ref t, cols, rows, one, qv, es, rc, rfl, tg, fT, hrs, hrn, hol, hoc, fq, hok, hel, fun sp H1 sx1 tg1 nsp hsp => ?_⟩
    refine ⟨sp, [.int (aheadM cols rows one es rc : Nat), .int (behindM cols rows one es rc : Nat)], rfl, .inl (.inl hsp), rfl, .int (aheadM cols rows one es rc : Nat), [.int (behindM cols rows one es rc : Nat)], rfl, .int (behindM cols rows one es rc : Nat), [], rfl, rfl, ?_⟩
    refine ⟨.ref t, rfl, tx one, rfl, .ref t, cols, rows, one, rfl, tg1, fT.kt (sx1.kt tg), hrs, hrn, hol, hoc, fun L H2 sx2 tg2 nL hL2 => ?_⟩
    rw [idx_sort] at hL2
    refine ⟨.int (aheadM cols rows one es rc : Nat), rfl, _, rfl, .int (behindM cols rows one es rc : Nat), rfl, _, rfl, L, _, rfl, .inl (.inl hL2), fun S nS => ?_⟩
    have hil : (idxM cols rows one).length = rows.length := by rw [(idx_perm cols rows one).length_eq, List.length_range]
    have ecut : cutV (((idxM cols rows one).map fun n : Nat => (n : Int)).map V.int) (some (aheadM cols rows one es rc : Nat)) (some (behindM cols rows one es rc : Nat)) = ((((idxM cols rows one).drop (aheadM cols rows one es rc)).take (behindM cols rows one es rc - aheadM cols rows one es rc)).map fun n : Nat => (n : Int)).map V.int := by
      rw [cutV_nat _ _ _ (ahead_le hok) (by rw [List.length_map, List.length_map, hil]; exact behind_le _ _ _ _ _)]
      simp only [List.map_take, List.map_drop]
    rw [ecut]
    have hin : ∀ o ∈ ((idxM cols rows one).drop (aheadM cols rows one es rc)).take (behindM cols rows one es rc - aheadM cols rows one es rc), o < rows.length := fun o h => List.mem_range.mp ((idx_perm cols rows one).mem_iff.mp (List.mem_of_mem_drop (List.mem_of_mem_take h)))
    have hsl : (((idxM cols rows one).drop (aheadM cols rows one es rc)).take (behindM cols rows one es rc - aheadM cols rows one es rc)).length ≤ 1000 := by
      rw [List.length_take, List.length_drop]
      omega
    have ra := @read_ans cols rows one es rc hok
    generalize ((idxM cols rows one).drop (aheadM cols rows one es rc)).take (behindM cols rows one es rc - aheadM cols rows one es rc) = st at hin hsl ra ⊢
    have sm3 : Same H2 (upd H2 S (.lst ((st.map fun n : Nat => (n : Int)).map V.int))) := Same.new (Same.refl H2) nS
    have hS3 : (upd H2 S (.lst ((st.map fun n : Nat => (n : Int)).map V.int))) S = some (.lst ((st.map fun n : Nat => (n : Int)).map V.int)) := upd_same
    generalize upd H2 S (.lst ((st.map fun n : Nat => (n : Int)).map V.int)) = H3 at sm3 hS3 ⊢
    have sx3 : Sx Z.Ps H H3 := (sx1.trans sx2).trans (Same.sx sm3)
    have tg3 : TG Z.Ps H3 := tg2.same sm3
    have kt3 : KT H H3 := sx3.kT tg
    have hR3 := kt3.1 _ _ hRR
    have fvs3 := fvs.kt kt3.1
    have fq3 := fq.kT kt3
    refine ⟨.ref S, rfl, S, rfl, ⟨_, .inl (.inl hS3)⟩, fun D nD => lc_it (walk_list (xs := (st.map fun n : Nat => (n : Int)).map V.int)) (fun i H' => Same H3 H' ∧ H' D = some (.lst ((((st.take i).filter fun o => fitsM cols (rows.getD o []) es rc).map fun n : Nat => (n : Int)).map V.int)))
      ⟨Same.new (Same.refl H3) nD, upd_same⟩ (fun i H' _ hP => .inl (.inl (hP.1 _ _ hS3))) (fun i x H4 H5 hi hP hY => ?_) (fun H4 hP => ?_)⟩
    · obtain ⟨sm4, hD4⟩ := hP
      obtain ⟨rfl, ex⟩ := hY
      rw [List.getElem?_map, List.getElem?_map] at ex
      obtain ⟨oI, hoI, rfl⟩ := Option.map_eq_some_iff.mp ex
      obtain ⟨o, ho, rfl⟩ := Option.map_eq_some_iff.mp hoI
      have hi2 : i < st.length := (List.getElem?_eq_some_iff.mp ho).1
      have hoj : st[i] = o := (List.getElem?_eq_some_iff.mp ho).2
      have ho2 : o < rows.length := hin o (List.mem_of_getElem? ho)
      obtain ⟨v, hv, fv⟩ := fvs3.get (i := o) (d := rowD rows[o]) (by rw [List.getElem?_map, List.getElem?_eq_getElem ho2]; rfl)
      have eo : rows.getD o [] = rows[o] := by rw [List.getD_eq_getElem?_getD, List.getElem?_eq_getElem ho2]; rfl
      have rok := hrs rows[o] (List.getElem_mem ho2)
      refine ⟨rfl, tx cols, rfl, .ref R, rfl, .int (o : Nat), rfl, R, vs, _, v, rfl, rfl, .inl (.inl (sm4 _ _ hR3)), atI_nat hv, qv, rfl, cols, v, rows[o], qv, es, rc, rfl, fv.kt (Same.kt sm4), rok.1, fq3.kT (Same.kT sm4), hok, hel, fun H7 sm7 => ⟨_, rfl, ite2 (fun e => ?_) (fun e => ?_)⟩⟩
      · have hD7 := sm7 _ _ hD4
        refine ⟨.int (o : Nat), rfl, _, hD7, ?_, Same.mut (Same.trans sm4 sm7) nD, ?_⟩
        · rw [List.length_map, List.length_map]
          have := List.length_filter_le (fun o => fitsM cols (rows.getD o []) es rc) (st.take i)
          rw [List.length_take] at this
          exact small1000 (by omega)
        · rw [upd_same, List.take_succ_eq_append_getElem hi2, hoj, List.filter_append, List.filter_cons, eo, if_pos e, List.map_append, List.map_append]
          rfl
      · have hD7 := sm7 _ _ hD4
        refine ⟨Same.trans sm4 sm7, ?_⟩
        rw [hD7, List.take_succ_eq_append_getElem hi2, hoj, List.filter_append, List.filter_cons, eo, if_neg e, List.filter_nil, List.append_nil]
    · obtain ⟨sm4, hD4⟩ := hP
      rw [List.length_map, List.length_map, List.take_of_length_le (Nat.le_refl _)] at hD4
      refine ⟨.ref D, rfl, D, _, rfl, .inl (.inl hD4), fun ns p hpm hso np => ?_⟩
      rw [ra hso hpm]
      refine ⟨.int (behindM cols rows one es rc : Nat), rfl, .int (aheadM cols rows one es rc : Nat), rfl, _, _, rfl, rfl, (by show 2 ≤ sizeLine; decide), fun pt npt => ?_⟩
      have sx4 : Sx Z.Ps H H4 := sx3.trans (Same.sx sm4)
      have tg4 : TG Z.Ps H4 := tg3.same sm4
      have hp5 : (upd H4 p (.lst ((ansM cols rows es rc).map V.int))) p = some (.lst ((ansM cols rows es rc).map V.int)) := upd_same
      have np0 : H p = none := Sx.free tg4 sx4 np
      have npt0 : H pt = none := Sx.free (tg4.new np) (sx4.new np) npt
      exact q pt p _ ((sx4.new np).new npt) ((tg4.new np).new npt) npt0 np0 upd_same (keep_new hp5 npt)

/-! ### serves -/
def servesM (one : List Nat) (es : List (Nat × Int)) (rc : Option (Nat × Int × Int)) : Bool := (spanL es rc).all fun t => decide (t.1 ∈ usedM one es rc)
def spServes (K : PySem.W.Frag) (Z : Ad) : Sp := fun vs H Q _ => ∃ (cols : List Nat) (one : List Nat) (qv : V) (es : List (Nat × Int)) (rc : Option (Nat × Int × Int)), vs = [tx one, qv] ∧ TG Z.Ps H ∧ one.length ≤ 1000 ∧ QZ H qv es rc ∧ QOk cols es rc ∧ es.length ≤ 1000 ∧ ∀ (H' : Hp), Sx Z.Ps H H' → TG Z.Ps H' → Q (.bl (servesM one es rc)) H'
theorem ok_serves (T : Tx K mg Z) (TB : Tb base mg Z) : FnOk P w K mg base CX0 3 Z.f_serves Z.d_serves ["one", "question"] (spServes K Z) := by
  have G_used : FnOk P w K mg base CX0 2 Z.f_used Z.d_used ["one", "question"] (spUsed K) := ok_used T
  have G_spans : FnOk P w K mg base CX0 1 Z.f_spans Z.d_spans ["question"] (spSpans K) := ok_spans T
  refine T.C_serves.ok sc_serves (fun vs H Q E h => ?_) (fun A outer s H vs Q E hr h => ?_)
  · obtain ⟨cols, one, qv, es, rc, rfl, _⟩ := h
    rfl
  · obtain ⟨cols, one, qv, es, rc, rfl, tg, hol, fq, hok, hel, q⟩ := h
    refine ⟨_, (pss_cons (ps_set (i := 2) sc_serves.nd rfl (.inr rfl) (pe_call G_used (hr.mono (by omega)) (by rfl) T.g_used T.F_used.kp T.b_used .nil pass0 (pa_cons (pv 0) (pa_cons (pv 1) pa_nil))))
      (pss_one (ps_ret (pe_allG (D := (DIn Z.P_serves 2)) hr (by rfl) T.m_all (TB.t_serves) rfl (genS_by (sc := defScope s_serves) (by kernel_rfl) rfl) (pe_call G_spans (hr.mono (by omega)) (by rfl) T.g_spans T.F_spans.kp T.b_spans .nil pass0 (pa_cons (pv 1) pa_nil)) (hd_in rfl rfl rfl rfl rfl (by decide +kernel)))))), ?_⟩
    have hP : Z.P_serves ∈ Z.Ps := by simp
    refine ⟨tx one, rfl, qv, rfl, one, qv, es, rc, rfl, hol, fq, hel, fun H1 sm1 => ?_⟩
    refine ⟨qv, rfl, qv, cols, es, rc, rfl, fq.kT (Same.kT sm1), hok, hel, fun d kvs H2 sm2 nd hd fk => ?_⟩
    have sm02 : Same H H2 := Same.trans sm1 sm2
    have tg2 : TG Z.Ps H2 := tg.same sm02
    refine ⟨((spanL es rc).map (·.1)).map (fun c => decide (c ∈ usedM one es rc)), ⟨tg2 _ hP, d, kvs, _, _, rfl, hd, fk.keys, rfl, rfl⟩, tg2 _ hP, fun G2 hT => ?_⟩
    have e : (((spanL es rc).map (·.1)).map (fun c => decide (c ∈ usedM one es rc))).all id = servesM one es rc := by
      unfold servesM
      rw [List.map_map, List.all_map]
      rfl
    rw [e]
    exact q G2 ((Same.sx sm02).trans (Tabbed.sx hP hT)) (Tabbed.tg tg2 hT)

/-! ### is_rising of a text -/
def spRisT (K : PySem.W.Frag) (Z : Ad) : Sp := fun vs H Q _ => ∃ (l : List Nat), vs = [tx l] ∧ TG Z.Ps H ∧ l.length ≤ 1000 ∧ ∀ (H' : Hp), Sx Z.Ps H H' → TG Z.Ps H' → Q (.bl (risB l)) H'
theorem ok_rist (T : Tx K mg Z) (TB : Tb base mg Z) : FnOk P w K mg base CX0 4 Z.f_is_rising Z.d_is_rising ["things"] (spRisT K Z) := by
  refine T.C_is_rising.ok sc_is_rising (fun vs H Q E h => ?_) (fun A outer s H vs Q E hr h => ?_)
  · obtain ⟨l, rfl, _⟩ := h
    rfl
  · obtain ⟨l, rfl, tg, hl, q⟩ := h
    refine ⟨_, (pss_one (ps_ret (pe_allC (own := [("at", 1)]) (k := 0) (hr.mono (by omega)) (by rfl) T.m_all (TB.t_is_rising) rfl (gxS_by (blkOk_by (own := [("at", 1)]) (by kernel_rfl)) (by kernel_rfl)) sc_is_rising.nd (by rfl) (pi_range1 (by rfl) T.m_range (pa_cons (pe_op op_sub (pe_callB call_len_str (by rfl) T.m_len (by decide +kernel) (pa_cons (pv 0) pa_nil)) pe_int) pa_nil)) (fun _ _ _ _ _ _ _ _ => (pg_name (i := 1) sc_is_rising.nd rfl (.inl rfl))) (fun _ _ _ _ _ _ _ _ hr => (pe_cmpR op_lt_str (pe_ix ix_str (pv 0) (pv 1) (fun _ _ => rfl)) (pe_ix ix_str (pv 0) (pe_op op_add (pv 1) pe_int) (fun _ _ => rfl)) (nomark _)))))), ?_⟩
    have hP : Z.P_is_rising ∈ Z.Ps := by simp
    have hsz : (⟨l.toArray⟩ : Str).length = l.length := by simp [Str.length]
    have hlz : (⟨l.toArray⟩ : Str).length ≤ sizeLine := Nat.le_of_lt (small1000 (show l.length ≤ 1000 from hl))
    have ecs : (⟨l.toArray⟩ : Str).cps.toList = l := by simp
    refine ⟨tx l, rfl, _, rfl, hlz, _, 1, rfl, rfl, _, rfl, by rw [hsz]; omega, by rw [hsz]; omega, tg _ hP, fun H2 hT => ?_⟩
    have tg2 := Tabbed.tg tg hT
    have sx2 := Tabbed.sx hP hT
    have eN : ((((⟨l.toArray⟩ : Str).length : Nat) : Int) - 1).toNat = l.length - 1 := by
      rw [hsz]
      omega
    refine ⟨((((⟨l.toArray⟩ : Str).length : Nat) : Int) - 1).toNat, fun i => decide (l.getD i 0 < l.getD (i + 1) 0), fun i H' => i ≤ ((((⟨l.toArray⟩ : Str).length : Nat) : Int) - 1).toNat ∧ H' = H2, ⟨Nat.zero_le _, rfl⟩, gx_step walk_range (fun _ _ _ _ => trivial) (fun i x H3 H4 hi e hY => ?_), fun H3 e hall => ?_, fun j H3 hj hs hal e => ?_⟩
    · obtain ⟨rfl, rfl⟩ := hY
      have g1 : l[i]? = some (l.getD i 0) := by
        rw [List.getD_eq_getElem?_getD, List.getElem?_eq_getElem (by omega)]
        rfl
      have g2 : l[i + 1]? = some (l.getD (i + 1) 0) := by
        rw [List.getD_eq_getElem?_getD, List.getElem?_eq_getElem (by omega)]
        rfl
      refine ⟨rfl, tx l, rfl, .int (0 + (i : Nat)), rfl, _, _, l.getD i 0, rfl, rfl, hlz, ?_, tx l, rfl, .int (0 + (i : Nat)), rfl, _, 1, rfl, rfl, _, _, l.getD (i + 1) 0, rfl, rfl, hlz, ?_, sS (l.getD i 0), sS (l.getD (i + 1) 0), rfl, rfl, ?_, hi, e⟩
      · rw [Int.zero_add, ecs]
        exact atI_nat g1
      · rw [Int.zero_add, show ((i : Nat) : Int) + 1 = ((i + 1 : Nat) : Int) from rfl, ecs]
        exact atI_nat g2
      · rw [cps_lt]
    · have hq : risB l = true := (ris_get l).mpr fun i hi => of_decide_eq_true (hall i (by omega))
      rw [hq] at q
      rw [e.2]
      exact q H2 sx2 tg2
    · have hq : risB l = false := by
        refine eq_false_of_ne_true fun z => ?_
        exact absurd ((ris_get l).mp z j (by omega)) (of_decide_eq_false hs)
      rw [hq] at q
      rw [e.2]
      exact q H2 sx2 tg2

/-! ### is_list -/
def spIsList (K : PySem.W.Frag) (Z : Ad) : Sp := fun vs H Q _ => ∃ (cols : List Nat) (v : V) (d : PyData), vs = [tx cols, v] ∧ TG Z.Ps H ∧ Ft H v d ∧ Sh 20 1000 d ∧ ∀ (H' : Hp), Sx Z.Ps H H' → TG Z.Ps H' → Q (.bl (isListD cols d)) H'
theorem ok_islist (T : Tx K mg Z) (TB : Tb base mg Z) : FnOk P w K mg base CX0 4 Z.f_is_list Z.d_is_list ["columns", "thing"] (spIsList K Z) := by
  refine T.C_is_list.ok sc_is_list (fun vs H Q E h => ?_) (fun A outer s H vs Q E hr h => ?_)
  · obtain ⟨cols, v, d, rfl, _⟩ := h
    rfl
  · obtain ⟨cols, v, d, rfl, tg, f, hsh, q⟩ := h
    refine ⟨_, (pss_cons (ps_if (PW.pt (pw_or (pt_not (pt_val (pe_callB (isiK K) (by rfl) T.m_isinstance (by decide +kernel) (pa_cons (pv 1) (pa_cons (pe_bltn (v := .ty "str") (by rfl) T.m_str (by decide +kernel) rfl) pa_nil))))) (pw_or1 (pt_cmpR op_eq (pv 1) pe_str (nomark _))))) (pss_one (ps_ret pe_bl)) pss_nil)
      (pss_one (ps_ret (pe_and (pe_cmpR op_eq (pe_lenSet (by rfl) (by rfl) T.m_len (by rfl) T.m_set (pv 1)) (pe_callB call_len_str (by rfl) T.m_len (by decide +kernel) (pa_cons (pv 1) pa_nil)) (nomark _)) (pe_one (pe_allC (own := [("letter", 2)]) (k := 0) (hr.mono (by omega)) (by rfl) T.m_all (TB.t_is_list) rfl (gxS_by (blkOk_by (own := [("letter", 2)]) (by kernel_rfl)) (by kernel_rfl)) sc_is_list.nd (by rfl) (pi_str (pv 1)) (fun _ _ _ _ _ _ _ _ => (pg_name (i := 2) sc_is_list.nd rfl (.inl rfl))) (fun _ _ _ _ _ _ _ _ hr => (pe_cmpR op_in_sign (pv 2) (pv 0) (by rfl))))))))), ?_⟩
    have hP : Z.P_is_list ∈ Z.Ps := by simp
    refine ⟨v, rfl, v, .ty "str", _, _, isSt d, rfl, .ty _, ty_ft f, kit_st d, _, rfl, ite2 (fun e => ?_) (fun e => ?_)⟩
    · have hq : isListD cols d = false := by
        cases d with
        | str z => cases e
        | _ => rfl
      rw [hq] at q
      exact iteT (q H (fun _ _ _ h => h) tg)
    · obtain ⟨z, rfl⟩ := st_open (d := d) (by simpa using e)
      cases f
      obtain ⟨l, rfl⟩ : ∃ l : List Nat, z = txS l := ⟨z.cps.toList, (txS_of z).symm⟩
      rw [list_of_str] at q
      have hl : l.length ≤ 1000 := by
        have h1 : l.toArray.size ≤ 1000 := hsh.wt
        simpa using h1
      refine ⟨tx l, rfl, rfl, _, rfl, ite2 (fun e2 => ?_) (fun e2 => ?_)⟩
      · have e3 : tx l = .str (Str.ofString "") := of_decide_eq_true e2
        have e4 : (Str.ofString "") = txS [] := by decide +kernel
        rw [e4] at e3
        have e5 : l = [] := tx_inj e3
        rw [e5] at q
        exact q H (fun _ _ _ h => h) tg
      · have hne : l ≠ [] := fun z2 => e2 (by
          rw [z2]
          exact decide_eq_true (congrArg V.str (by decide +kernel)))
        have he : (!l.isEmpty) = true := by
          cases l with
          | nil => exact absurd rfl hne
          | cons a l => rfl
        have hq : isListL cols l = (decide l.Nodup && l.all fun c => decide (c ∈ cols)) := by
          unfold isListL
          rw [he, Bool.true_and]
        rw [hq] at q
        have hsz : (⟨l.toArray⟩ : Str).length = l.length := by simp [Str.length]
        refine ⟨tx l, rfl, l, rfl, hl, fun n hn1 hn2 => ?_⟩
        refine ⟨tx l, rfl, _, rfl, Nat.le_of_lt (small1000 (show l.length ≤ 1000 from hl)), rfl, _, rfl, ite2 (fun e3 => ?_) (fun e3 => ?_)⟩
        · have e4 : V.int ((n : Nat) : Int) = V.int (((⟨l.toArray⟩ : Str).length : Nat) : Int) := of_decide_eq_true e3
          rw [hsz] at e4
          have e5 : ((n : Nat) : Int) = (l.length : Int) := by injection e4
          have hnd : l.Nodup := hn2.mp (by omega)
          rw [decide_eq_true hnd, Bool.true_and] at q
          refine ⟨tx l, rfl, _, rfl, tg _ hP, fun H2 hT => ?_⟩
          have tg2 := Tabbed.tg tg hT
          have sx2 := Tabbed.sx hP hT
          have hcs : (⟨l.toArray⟩ : Str).cps.size = l.length := by simp
          refine ⟨(⟨l.toArray⟩ : Str).cps.size, fun i => decide (l.getD i 0 ∈ cols), fun i H' => i ≤ (⟨l.toArray⟩ : Str).cps.size ∧ H' = H2, ⟨Nat.zero_le _, rfl⟩, gx_step walk_str (fun _ _ _ _ => trivial) (fun i x H3 H4 hi e hY => ?_), fun H3 e hall => ?_, fun j H3 hj hs hal e => ?_⟩
          · obtain ⟨rfl, c, hc, rfl⟩ := hY
            have hc2 : l[i]? = some c := by simpa using hc
            refine ⟨rfl, sg c, rfl, tx cols, rfl, c, ⟨cols.toArray⟩, rfl, rfl, ?_, hi, e⟩
            simp only [show (⟨cols.toArray⟩ : Str).cps.toList = cols by simp, List.getD_eq_getElem?_getD, hc2]
            rfl
          · obtain ⟨_, rfl⟩ := e
            have hq2 : (l.all fun c => decide (c ∈ cols)) = true := by
              rw [List.all_eq_true]
              intro c hc
              obtain ⟨i, hi, rfl⟩ := List.getElem_of_mem hc
              have := hall i (by rw [hcs]; exact hi)
              simp only [List.getD_eq_getElem?_getD, List.getElem?_eq_getElem hi] at this
              exact this
            rw [hq2] at q
            exact q _ sx2 tg2
          · obtain ⟨_, rfl⟩ := e
            have hj2 : j < l.length := by
              rw [hcs] at hj
              exact hj
            have hq2 : (l.all fun c => decide (c ∈ cols)) = false := by
              refine eq_false_of_ne_true fun z => ?_
              have h1 := List.all_eq_true.mp z l[j] (List.getElem_mem hj2)
              simp only [List.getD_eq_getElem?_getD, List.getElem?_eq_getElem hj2] at hs
              rw [show decide (l[j] ∈ cols) = false from hs] at h1
              cases h1
            rw [hq2] at q
            exact q _ sx2 tg2
        · have hnd : ¬ l.Nodup := fun z => e3 (decide_eq_true (by
            rw [hsz, hn2.mpr z]))
          rw [decide_eq_false hnd, Bool.false_and] at q
          exact q H (fun _ _ _ h => h) tg

/-! ### is_need -/
def spIsNeed (K : PySem.W.Frag) (Z : Ad) : Sp := fun vs H Q _ => ∃ (cols : List Nat) (v : V) (d : PyData), vs = [tx cols, v] ∧ TG Z.Ps H ∧ Ft H v d ∧ Sh 20 400 d ∧ ∀ (H' : Hp), Sx Z.Ps H H' → TG Z.Ps H' → Q (.bl (isNeedD cols d)) H'
theorem ok_isneed (T : Tx K mg Z) (TB : Tb base mg Z) : FnOk P w K mg base CX0 5 Z.f_is_need Z.d_is_need ["columns", "thing"] (spIsNeed K Z) := by
  have G_is_rising : FnOk P w K mg base CX0 4 Z.f_is_rising Z.d_is_rising ["things"] (spRisT K Z) := ok_rist T TB
  have G_is_list : FnOk P w K mg base CX0 4 Z.f_is_list Z.d_is_list ["columns", "thing"] (spIsList K Z) := ok_islist T TB
  refine T.F_is_need.ok sc_is_need (fun vs H Q E h => ?_) (fun cdv A outer s H vs Q E hr h => ?_)
  · obtain ⟨cols, v, d, rfl, _⟩ := h
    rfl
  · obtain ⟨cols, v, d, rfl, tg, f, hsh, q⟩ := h
    refine ⟨_, (pss_cons (ps_if (PW.pt (pw_or (pt_not (pt_val (pe_callB (isiK K) (by rfl) T.m_isinstance (by decide +kernel) (pa_cons (pv 1) (pa_cons (pe_bltn (v := .ty "tuple") (by rfl) T.m_tuple (by decide +kernel) rfl) pa_nil))))) (pw_or1 (pt_cmpR op_ne (pe_callB (cLenSq K) (by rfl) T.m_len (by decide +kernel) (pa_cons (pv 1) pa_nil)) pe_int (nomark _))))) (pss_one (ps_ret pe_bl)) pss_nil)
      (pss_cons (ps_asg (pv 1) (pgT K (n := 2) (pgs_cons (pg_name (i := 2) sc_is_need.nd rfl (.inl rfl)) (pgs_cons (pg_name (i := 3) sc_is_need.nd rfl (.inl rfl)) pgs_nil))))
      (pss_cons (ps_if (PW.pt (pw_or (pt_not (pt_val (pe_callB (isiK K) (by rfl) T.m_isinstance (by decide +kernel) (pa_cons (pv 2) (pa_cons (pe_bltn (v := .ty "str") (by rfl) T.m_str (by decide +kernel) rfl) pa_nil))))) (pw_or1 (pt_not (pt_val (pe_callB (isiK K) (by rfl) T.m_isinstance (by decide +kernel) (pa_cons (pv 3) (pa_cons (pe_bltn (v := .ty "str") (by rfl) T.m_str (by decide +kernel) rfl) pa_nil)))))))) (pss_one (ps_ret pe_bl)) pss_nil)
      (pss_one (ps_ret (pe_and (pe_call G_is_rising (hr.mono (by omega)) (by rfl) T.g_is_rising T.F_is_rising.kp T.b_is_rising .nil pass0 (pa_cons (pv 2) pa_nil)) (pe_and (pe_cmpR op_le (pe_callB call_len_str (by rfl) T.m_len (by decide +kernel) (pa_cons (pv 3) pa_nil)) pe_int (nomark _)) (pe_one (pe_call G_is_list (hr.mono (by omega)) (by rfl) T.g_is_list T.F_is_list.kp T.b_is_list .nil pass0 (pa_cons (pv 0) (pa_cons (pe_op op_add_str (pv 2) (pv 3)) pa_nil))))))))))), ?_⟩
    refine ⟨v, rfl, v, .ty "tuple", _, _, isTp d, rfl, .ty _, ty_ft f, kit_tp d, _, rfl, ite2 (fun e => ?_) (fun e => ?_)⟩
    · have hq : isNeedD cols d = false := by
        cases d with
        | tuple ds => cases e
        | _ => rfl
      rw [hq] at q
      exact iteT (q H (fun _ _ _ h => h) tg)
    · obtain ⟨ds, rfl⟩ := tp_open (by simpa using e)
      obtain ⟨a, xs, rfl, ha, fa⟩ : ∃ (a : Addr) (xs : List V), v = .ref a ∧ H a = some (.tup xs) ∧ FtA H xs ds := by
        cases f with
        | tup h g => exact ⟨_, _, rfl, h, g⟩
      have hl := fa.len
      refine ⟨.ref a, rfl, a, xs, rfl, .inr (.inl (.inl ha)), rfl, _, rfl, ite2 (fun e2 => ?_) (fun e2 => ?_)⟩
      · have hq : isNeedD cols (.tuple ds) = false := by
          match ds, hl with
          | [], _ => rfl
          | [x], _ =>
            cases x <;> rfl
          | [a1, a2], hl =>
            rw [hl] at e2
            exact absurd e2 (by simp)
          | x :: y :: _ :: _, _ =>
            cases x <;> first | rfl | (cases y <;> rfl)
        rw [hq] at q
        exact q H (fun _ _ _ h => h) tg
      · have hl2 : ds.length = 2 := by
          have e3 : V.int ((xs.length : Nat) : Int) = V.int 2 := by simpa using e2
          have e4 : ((xs.length : Nat) : Int) = 2 := by injection e3
          omega
        match ds, hl2 with
        | [d1, d2], _ =>
          obtain ⟨x1, x2, rfl, f1, f2⟩ : ∃ x1 x2, xs = [x1, x2] ∧ Ft H x1 d1 ∧ Ft H x2 d2 := by
            cases fa with
            | cons g1 g =>
              cases g with
              | cons g2 g =>
                cases g
                exact ⟨_, _, rfl, g1, g2⟩
          have s1 := hsh.memT d1 (by simp)
          have s2 := hsh.memT d2 (by simp)
          refine ⟨.ref a, rfl, a, [x1, x2], rfl, .inl (.inl ha), rfl, x1, [x2], rfl, x2, [], rfl, rfl, ?_⟩
          refine ⟨x1, rfl, x1, .ty "str", _, _, isSt d1, rfl, .ty _, ty_ft f1, kit_st d1, _, rfl, ite2 (fun e3 => ?_) (fun e3 => ?_)⟩
          · rw [need_l (by simpa using e3)] at q
            exact iteT (q H (fun _ _ _ h => h) tg)
          · refine ⟨x2, rfl, x2, .ty "str", _, _, isSt d2, rfl, .ty _, ty_ft f2, kit_st d2, _, rfl, ite2 (fun e4 => ?_) (fun e4 => ?_)⟩
            · rw [need_r (by simpa using e4)] at q
              exact q H (fun _ _ _ h => h) tg
            · obtain ⟨z1, rfl⟩ := st_open (d := d1) (by simpa using e3)
              obtain ⟨z2, rfl⟩ := st_open (d := d2) (by simpa using e4)
              cases f1
              cases f2
              obtain ⟨le, rfl⟩ : ∃ l : List Nat, z1 = txS l := ⟨z1.cps.toList, (txS_of z1).symm⟩
              obtain ⟨lr, rfl⟩ : ∃ l : List Nat, z2 = txS l := ⟨z2.cps.toList, (txS_of z2).symm⟩
              rw [need_of_str] at q
              have hle : le.length ≤ 400 := by
                have h1 : le.toArray.size ≤ 400 := s1.wt
                simpa using h1
              have hlr : lr.length ≤ 400 := by
                have h1 : lr.toArray.size ≤ 400 := s2.wt
                simpa using h1
              have esz : (⟨le.toArray⟩ : Str).length = le.length := by simp [Str.length]
              have rsz : (⟨lr.toArray⟩ : Str).length = lr.length := by simp [Str.length]
              refine ⟨tx le, rfl, le, rfl, tg, by omega, fun H2 sx2 tg2 => ?_⟩
              refine ⟨_, rfl, ite2 (fun e5 => ?_) (fun e5 => ?_)⟩
              · refine ⟨tx lr, rfl, _, rfl, Nat.le_of_lt (small1000 (show lr.length ≤ 1000 by omega)), _, 1, rfl, rfl, _, rfl, ite2 (fun e6 => ?_) (fun e6 => ?_)⟩
                · have e7 : lr.length ≤ 1 := by
                    have := of_decide_eq_true e6
                    rw [rsz] at this
                    omega
                  refine ⟨tx cols, rfl, tx le, rfl, tx lr, rfl, ⟨le.toArray⟩, ⟨lr.toArray⟩, rfl, rfl, by rw [esz, rsz]; exact Nat.le_of_lt (small1000 (by omega)), ?_⟩
                  rw [cat_tx le lr]
                  refine ⟨cols, tx (le ++ lr), .str (txS (le ++ lr)), rfl, tg2, .str _, ?_, fun H3 sx3 tg3 => ?_⟩
                  · exact (Sh.cat s1 s2).mono (by omega) (by omega)
                  · rw [list_of_str]
                    have hq : needL cols le lr = isListL cols (le ++ lr) := by
                      unfold needL
                      rw [e5, decide_eq_true e7, Bool.true_and, Bool.true_and]
                    rw [hq] at q
                    exact q H3 (fun b o nb h => sx3 b o nb (sx2 b o nb h)) tg3
                · have hq : needL cols le lr = false := by
                    have e7 : ¬ lr.length ≤ 1 := fun z => e6 (decide_eq_true (by rw [rsz]; omega))
                    unfold needL
                    rw [decide_eq_false e7, Bool.false_and, Bool.and_false]
                  rw [hq] at q
                  exact q H2 sx2 tg2
              · have hq : needL cols le lr = false := by
                  unfold needL
                  rw [eq_false_of_ne_true e5, Bool.false_and]
                rw [hq] at q
                exact q H2 sx2 tg2

/-! ### serves_need -/
def spServesNeed (K : PySem.W.Frag) : Sp := fun vs H Q _ => ∃ (one es rc : List Nat) (na : Addr), vs = [tx one, .ref na] ∧ H na = some (.tup [tx es, tx rc]) ∧ one.length < 64 ∧ es.length < 64 ∧ (∀ c ∈ one, c ≤ 122) ∧ (∀ c ∈ es, c ≤ 122) ∧ ∀ (H' : Hp), Same H H' → Q (.bl (snM one es rc)) H'
theorem ok_servesneed (T : Tx K mg Z) : FnOk P w K mg base CX0 1 Z.f_serves_need Z.d_serves_need ["one", "need"] (spServesNeed K) := by
  refine T.F_serves_need.ok sc_serves_need (fun vs H Q E h => ?_) (fun cdv A outer s H vs Q E hr h => ?_)
  · obtain ⟨one, es, rc, na, rfl, _⟩ := h
    rfl
  · obtain ⟨one, es, rc, na, rfl, hna, hol, hel, hoz, hez, q⟩ := h
    refine ⟨_, (pss_cons (ps_asg (pv 1) (pgT K (n := 2) (pgs_cons (pg_name (i := 2) sc_serves_need.nd rfl (.inl rfl)) (pgs_cons (pg_name (i := 3) sc_serves_need.nd rfl (.inl rfl)) pgs_nil))))
      (pss_cons (ps_set (i := 4) sc_serves_need.nd rfl (.inl rfl) (pe_callB call_len_str (by rfl) T.m_len (by decide +kernel) (pa_cons (pv 2) pa_nil)))
      (pss_one (ps_ret (pe_and (pe_cmpR (eqDK K hr.units) (pe_callB cSortTx (by rfl) T.m_sorted (by decide +kernel) (pa_cons (pe_slice sl_str (pv 0) po_none (po_some (pv 4))) pa_nil)) (pe_callB cSortTx (by rfl) T.m_sorted (by decide +kernel) (pa_cons (pv 2) pa_nil)) (nomark _)) (pe_one (bmK K PySem.F.plainAttrs_str PySem.F.slot_str_startswith PySem.F.type_str_startswith mt_startswith (pe_slice sl_str (pv 0) (po_some (pv 4)) po_none) (pa_cons (pv 3) pa_nil)))))))), ?_⟩
    have sz : ∀ l : List Nat, l.length < 64 → (⟨l.toArray⟩ : Str).length ≤ sizeLine := fun l h => by
      show l.toArray.size ≤ sizeLine
      rw [List.size_toArray]
      exact Nat.le_of_lt (small1000 (by omega))
    have el : ∀ l : List Nat, ((⟨l.toArray⟩ : Str).length : Int) = (l.length : Nat) := fun l => by simp [Str.length]
    refine ⟨.ref na, rfl, na, [tx es, tx rc], rfl, .inl (.inl hna), rfl, tx es, [tx rc], rfl, tx rc, [], rfl, rfl, ?_⟩
    refine ⟨tx es, rfl, _, rfl, sz es hel, ?_⟩
    refine ⟨tx one, rfl, _, rfl, _, rfl, _, rfl, sz one hol, ?_⟩
    rw [el, cut_take]
    have htl : (one.take es.length).length < 64 := by
      rw [List.length_take]
      omega
    refine ⟨_, rfl, htl, fun l1 p1 hp1 hs1 np1 => ?_⟩
    refine ⟨tx es, rfl, es, rfl, hel, fun l2 p2 hp2 hs2 np2 => ?_⟩
    refine ⟨_, _, .lst (.inl (.inl (keep_new upd_same np2))) (dp_signs l1), .lst (.inl (.inl upd_same)) (dp_signs l2), shaped_signs (fun c h => hoz c (List.mem_of_mem_take (hp1.mem_iff.mp h))), shaped_signs (fun c h => hez c (hp2.mem_iff.mp h)), _, rfl, ?_⟩
    rw [eqv_signs]
    have sm : Same H (upd (upd H p1 (.lst (l1.map sg))) p2 (.lst (l2.map sg))) := Same.new (Same.new (Same.refl H) np1) np2
    have key : decide (l1 = l2) = decide ((one.take es.length).Perm es) := by
      rw [Bool.eq_iff_iff, decide_eq_true_eq, decide_eq_true_eq]
      constructor
      · intro e
        rw [e] at hp1
        exact hp1.symm.trans hp2
      · intro hp
        exact le_perm_eq (hp1.trans (hp.trans hp2.symm)) hs1 hs2
    rw [key]
    refine ite2 (fun e => ?_) (fun e => ?_)
    · refine ⟨tx one, rfl, _, rfl, _, rfl, _, rfl, sz one hol, ?_⟩
      rw [cut_from]
      refine ⟨rfl, tx rc, rfl, _, _, rfl, rfl, ?_⟩
      rw [starts_txt]
      have e2 : snM one es rc = decide ((one.drop es.length).take rc.length = rc) := by
        unfold snM
        rw [e, Bool.true_and]
      rw [← e2]
      exact q _ sm
    · have e2 : snM one es rc = false := by
        unfold snM
        rw [Bool.not_eq_true _ |>.mp e, Bool.false_and]
      rw [← e2]
      exact q _ sm

/-! ### is_ahead -/
def spAhead (K : PySem.W.Frag) (Z : Ad) : Sp := fun vs H Q _ => ∃ (p r : Nd2) (pa ra : Addr), vs = [.ref pa, .ref ra] ∧ TG Z.Ps H ∧ H pa = some (.tup [tx p.1, tx p.2]) ∧ H ra = some (.tup [tx r.1, tx r.2]) ∧ NdS p ∧ NdS r ∧ ∀ (H' : Hp), Sx Z.Ps H H' → TG Z.Ps H' → Q (.bl (ahd p r)) H'
theorem ok_ahead (T : Tx K mg Z) (TB : Tb base mg Z) : FnOk P w K mg base CX0 4 Z.f_is_ahead Z.d_is_ahead ["first", "second"] (spAhead K Z) := by
  refine T.C_is_ahead.ok sc_is_ahead (fun vs H Q E h => ?_) (fun A outer s H vs Q E hr h => ?_)
  · obtain ⟨p, r, pa, ra, rfl, _⟩ := h
    rfl
  · obtain ⟨p, r, pa, ra, rfl, tg, hpa, hra, np, nr, q⟩ := h
    refine ⟨_, (pss_cons (ps_asg (pv 0) (pgT K (n := 2) (pgs_cons (pg_name (i := 2) sc_is_ahead.nd rfl (.inl rfl)) (pgs_cons (pg_name (i := 3) sc_is_ahead.nd rfl (.inl rfl)) pgs_nil))))
      (pss_one (ps_ret (pe_and (pe_cmpR (neDK K hr.units) (pv 0) (pv 1) (nomark _)) (pe_one (pe_allC (own := [("letter", 4)]) (k := 0) (hr.mono (by omega)) (by rfl) T.m_all (TB.t_is_ahead) rfl (gxS_by (blkOk_by (own := [("letter", 4)]) (by kernel_rfl)) (by kernel_rfl)) sc_is_ahead.nd (by rfl) (pi_str (pe_op op_add_str (pv 2) (pv 3))) (fun _ _ _ _ _ _ _ _ => (pg_name (i := 4) sc_is_ahead.nd rfl (.inl rfl))) (fun _ _ _ _ _ _ _ _ hr => (pe_cmpR op_in_sign (pv 4) (pe_ix (ixT K) (pv 1) pe_int (fun _ _ => rfl)) (by rfl))))))))), ?_⟩
    have hP : Z.P_is_ahead ∈ Z.Ps := by simp
    have l1 := np.l1
    have l2 := np.l2
    refine ⟨.ref pa, rfl, pa, [tx p.1, tx p.2], rfl, .inl (.inl hpa), rfl, tx p.1, [tx p.2], rfl, tx p.2, [], rfl, rfl, ?_⟩
    refine ⟨.ref pa, rfl, .ref ra, rfl, ndD p, ndD r, .tup (.inl (.inl hpa)) (.cons (.str _) (.cons (.str _) .nil)), .tup (.inl (.inl hra)) (.cons (.str _) (.cons (.str _) .nil)), shaped_nd np, shaped_nd nr, _, rfl, ?_⟩
    rw [eqv_nd]
    refine ite2 (fun e => ?_) (fun e => ?_)
    · have hq : ahd p r = ((p.1 ++ p.2).all fun c => decide (c ∈ r.1)) := by
        unfold ahd
        rw [e, Bool.true_and]
      rw [hq] at q
      have sz : ∀ l : List Nat, (⟨l.toArray⟩ : Str).length = l.length := fun l => by simp [Str.length]
      refine ⟨tx p.1, rfl, tx p.2, rfl, ⟨p.1.toArray⟩, ⟨p.2.toArray⟩, rfl, rfl, by rw [sz, sz]; exact Nat.le_of_lt (small1000 (by omega)), ?_⟩
      rw [cat_tx p.1 p.2]
      generalize p.1 ++ p.2 = l at q ⊢
      refine ⟨_, rfl, tg _ hP, fun H2 hT => ?_⟩
      have tg2 := Tabbed.tg tg hT
      have sx2 := Tabbed.sx hP hT
      have hcs : (⟨l.toArray⟩ : Str).cps.size = l.length := by simp
      have hra2 := sx2 _ _ (tg.off ra _ (.inl hra)) hra
      refine ⟨(⟨l.toArray⟩ : Str).cps.size, fun i => decide (l.getD i 0 ∈ r.1), fun i H' => i ≤ (⟨l.toArray⟩ : Str).cps.size ∧ H' = H2, ⟨Nat.zero_le _, rfl⟩, gx_step walk_str (fun _ _ _ _ => trivial) (fun i x H3 H4 hi e hY => ?_), fun H3 e hall => ?_, fun j H3 hj hs hal e => ?_⟩
      · obtain ⟨rfl, c, hc, rfl⟩ := hY
        have hc2 : l[i]? = some c := by simpa using hc
        subst e
        refine ⟨rfl, sg c, rfl, .ref ra, rfl, ra, [tx r.1, tx r.2], 0, tx r.1, rfl, rfl, .inl (.inl hra2), rfl, c, ⟨r.1.toArray⟩, rfl, rfl, ?_, hi, rfl⟩
        simp only [show (⟨r.1.toArray⟩ : Str).cps.toList = r.1 by simp, List.getD_eq_getElem?_getD, hc2]
        rfl
      · obtain ⟨_, rfl⟩ := e
        have hq2 : (l.all fun c => decide (c ∈ r.1)) = true := by
          rw [List.all_eq_true]
          intro c hc
          obtain ⟨i, hi, rfl⟩ := List.getElem_of_mem hc
          have := hall i (by rw [hcs]; exact hi)
          simp only [List.getD_eq_getElem?_getD, List.getElem?_eq_getElem hi] at this
          exact this
        rw [hq2] at q
        exact q _ sx2 tg2
      · obtain ⟨_, rfl⟩ := e
        have hj2 : j < l.length := by
          rw [hcs] at hj
          exact hj
        have hq2 : (l.all fun c => decide (c ∈ r.1)) = false := by
          refine eq_false_of_ne_true fun z => ?_
          have h1 := List.all_eq_true.mp z l[j] (List.getElem_mem hj2)
          simp only [List.getD_eq_getElem?_getD, List.getElem?_eq_getElem hj2] at hs
          rw [show decide (l[j] ∈ r.1) = false from hs] at h1
          cases h1
        rw [hq2] at q
        exact q _ sx2 tg2
    · have hq : ahd p r = false := by
        unfold ahd
        rw [eq_false_of_ne_true e, Bool.false_and]
      rw [hq] at q
      exact q H (fun _ _ _ h => h) tg

/-! ### find_behind -/
def spFind (K : PySem.W.Frag) (Z : Ad) (d : Nat) : Sp := fun vs H Q _ => ∃ (na ta aa : Addr) (nd : List Nd2) (a0 : Nat) (T : List Nat) (m : Nat → Option Nat) (tk ak : List (Key × V)), vs = [.ref na, .int a0, .ref ta, .ref aa] ∧ TG Z.Ps H ∧ NdL H na nd ∧ (∀ p ∈ nd, NdS p) ∧ nd.length ≤ 1000 ∧ a0 < nd.length ∧ ta ≠ aa ∧
  H ta = some (.dK tk) ∧ TrD tk T ∧ H aa = some (.dK ak) ∧ AhD ak m ∧ T.Nodup ∧ (∀ t ∈ T, t < nd.length) ∧ nd.length ≤ T.length + d ∧ Mt nd.length (Rn nd) m ∧ (∀ t, m t = some a0 → t ∈ T) ∧
  (∀ (H' : Hp) (T' : List Nat) (tk' : List (Key × V)), Sx (ta :: Z.Ps) H H' → TG Z.Ps H' → H' ta = some (.dK tk') → TrD tk' T' → T'.Nodup → (∀ t ∈ T', t < nd.length) → FbF nd.length (Rn nd) m a0 T T' → Q (.bl false) H') ∧
  (∀ (H' : Hp) (m' : Nat → Option Nat) (ak' : List (Key × V)), Sx (ta :: aa :: Z.Ps) H H' → TG Z.Ps H' → H' aa = some (.dK ak') → AhD ak' m' → FbT nd.length (Rn nd) m m' a0 T → Q (.bl true) H')
def spFindP (K : PySem.W.Frag) (Z : Ad) : Nat → Sp
  | 0 => fun _ _ _ _ => False
  | d + 1 => spFind K Z d
theorem ok_find1 (T : Tx K mg Z) (TB : Tb base mg Z) (d : Nat) (G_find_behind : FnOk P w K mg base CX0 (d + 4) Z.f_find_behind Z.d_find_behind ["needs", "at", "tried", "ahead"] (spFindP K Z d)) : FnOk P w K mg base CX0 (d + 5) Z.f_find_behind Z.d_find_behind ["needs", "at", "tried", "ahead"] (spFind K Z d) := by
  have G_is_ahead : FnOk P w K mg base CX0 4 Z.f_is_ahead Z.d_is_ahead ["first", "second"] (spAhead K Z) := ok_ahead T TB
  refine T.F_find_behind.ok sc_find_behind (fun vs H Q E h => ?_) (fun cdv A outer s H vs Q E hr h => ?_)
  · obtain ⟨na, ta, aa, nd, a0, T0, m, tk, ak, rfl, _⟩ := h
    rfl
  · obtain ⟨na, ta, aa, nd, a0, T0, m, tk, ak, rfl, tg, hnd, hns, hnl, ha0, hta, htk, trd, hak, ahD, ndT, hT, hd, M, hp, q0, q1⟩ := h
    refine ⟨_, (pss_cons (ps_for PassesOwn.never rfl (pi_range1 (by rfl) T.m_range (pa_cons (pe_callB (cLenSq K) (by rfl) T.m_len (by decide +kernel) (pa_cons (pv 0) pa_nil)) pa_nil)) (pg_name (i := 4) sc_find_behind.nd rfl (.inl rfl)) (pss_one (ps_if (PW.pt (pw_and (pt_cmp (pc_dnotin (hu_of hr) (pv 4) (pv 2))) (pw_and1 (pt_val (pe_call G_is_ahead (hr.mono (by omega)) (by rfl) T.g_is_ahead T.F_is_ahead.kp T.b_is_ahead .nil pass0 (pa_cons (pe_ix (ixL K) (pv 0) (pv 1) (fun _ _ => rfl)) (pa_cons (pe_ix (ixL K) (pv 0) (pv 4) (fun _ _ => rfl)) pa_nil))))))) (pss_cons (ps_dput (hu_of hr) (pv 2) (pv 4) pe_bl rfl)
      (pss_one (ps_if (PW.pt (pw_or (pt_cmp (pc_dnotin (hu_of hr) (pv 4) (pv 3))) (pw_or1 (pt_val (pe_call G_find_behind (hr.mono (by omega)) (by rfl) T.g_find_behind T.F_find_behind.kp T.b_find_behind .nil pass0 (pa_cons (pv 0) (pa_cons (pe_dget (hu_of hr) (pv 3) (pv 4) (fun _ _ => rfl)) (pa_cons (pv 2) (pa_cons (pv 3) pa_nil))))))))) (pss_cons (ps_dput (hu_of hr) (pv 3) (pv 4) (pv 1) rfl)
      (pss_one (ps_ret pe_bl))) pss_nil))) pss_nil)))
      (pss_one (ps_ret pe_bl))), ?_⟩
    obtain ⟨as, hna, nA⟩ := hnd
    have hal := nA.len
    have el : (as.map V.ref).length = nd.length := by rw [List.length_map, hal]
    have taPs : ta ∉ Z.Ps := tg.not htk fun q z => nomatch z
    have aaPs : aa ∉ Z.Ps := tg.not hak fun q z => nomatch z
    have offT : Off (ta :: Z.Ps) H := tg.off.cons htk
    have naT : na ∉ ta :: Z.Ps := offT na _ (.inr hna)
    refine ⟨.ref na, rfl, na, _, rfl, .inl (.inl (.inl hna)), _, rfl, by rw [el]; omega, by rw [el]; omega, for_range (fun i σ H' => ∃ (y : Option V) (T1 : List Nat) (tk1 : List (Key × V)), σ = [some (.ref na), some (.int a0), some (.ref ta), some (.ref aa), y] ∧ Sx (ta :: Z.Ps) H H' ∧ TG Z.Ps H' ∧ H' ta = some (.dK tk1) ∧ TrD tk1 T1 ∧ T1.Nodup ∧ (∀ t ∈ T1, t < nd.length) ∧ Fbi nd.length (Rn nd) m a0 T0 T1 i)
      ⟨none, T0, tk, rfl, Sx.rfl', tg, htk, trd, ndT, hT, Fbi.zero⟩ (fun i σ H1 hi hP => ?_) (fun σ H1 hP => ?_)⟩
    · obtain ⟨y, T1, tk1, rfl, sx1, tg1, htk1, trd1, nd1, hT1, fb⟩ := hP
      have hi2 : i < nd.length := by
        have : ((((as.map V.ref).length : Nat) : Int)).toNat = nd.length := by rw [el]; omega
        omega
      have e0 : (0 : Int) + (i : Nat) = ((i : Nat) : Int) := by omega
      have nA1 : NA H1 as nd := nA.mono fun b xs hb => sx1 b _ (offT b xs (.inl hb)) hb
      have hna1 := sx1 _ _ naT hna
      have hak1 : H1 aa = some (.dK ak) := sx1 _ _ (fun z => (List.mem_cons.mp z).elim (fun e => hta e.symm) aaPs) hak
      obtain ⟨p, hp1⟩ : ∃ p, nd[a0]? = some p := ⟨nd[a0], List.getElem?_eq_getElem ha0⟩
      obtain ⟨r, hr1⟩ : ∃ r, nd[i]? = some r := ⟨nd[i], List.getElem?_eq_getElem hi2⟩
      obtain ⟨pa, hpa, hpo⟩ := nA1.at hp1
      obtain ⟨ra, hra, hro⟩ := nA1.at hr1
      have np := hns p (List.mem_of_getElem? hp1)
      have nr := hns r (List.mem_of_getElem? hr1)
      have eR : Rn nd a0 i = ahd p r := Rn_at hp1 hr1
      have gtk : DGet H1 ta (.int (0 + (i : Nat))) (valV tk1 (nK i)) := by rw [e0]; exact DGet.k (k := nK i) htk1
      have hlT1 : T1.length ≤ nd.length := nodup_lt_len nd1 hT1
      refine ⟨_, rfl, _, rfl, ta, _, rfl, gtk, ?_⟩
      rw [trd1.has i]
      refine ⟨_, rfl, ite2 (fun e => ?_) (fun e => ?_)⟩
      · have hiT : i ∉ T1 := by simpa using e
        have hxi : (as.map V.ref)[i]? = some (.ref ra) := by rw [List.getElem?_map, hra]; rfl
        have hxa : (as.map V.ref)[a0]? = some (.ref pa) := by rw [List.getElem?_map, hpa]; rfl
        refine ⟨.ref na, rfl, .int a0, rfl, na, _, _, .ref pa, rfl, rfl, .inl (.inl hna1), atI_nat hxa, .ref na, rfl, _, rfl, na, _, _, .ref ra, rfl, rfl, .inl (.inl hna1), by rw [e0]; exact atI_nat hxi, p, r, pa, ra, rfl, tg1, hpo, hro, np, nr, fun H2 sx2 tg2 => ?_⟩
        rw [← eR]
        have htk2 := sx2 _ _ taPs htk1
        have hak2 := sx2 _ _ aaPs hak1
        have nA2 : NA H2 as nd := nA1.mono fun b xs hb => sx2 b _ (tg1.off b xs (.inl hb)) hb
        have hna2 := sx2 _ _ (tg1.off na _ (.inr hna1)) hna1
        have sx2' : Sx (ta :: Z.Ps) H H2 := sx1.trans (sx2.cons ta)
        refine ⟨_, rfl, ite2 (fun e2 => ?_) (fun e2 => ?_)⟩
        · have hl1 : tk1.length < sizeLine := small1000 (by have := trd1.len; omega)
          refine ⟨.ref ta, rfl, _, rfl, ta, _, rfl, (by rw [e0]; exact DPut.k (k := nK i) htk2 hl1), ?_⟩
          have trd3 := trd1.put i (.bl true)
          have htk3 : (upd H2 ta (.dK (putK tk1 (nK i) (.bl true)))) ta = some (.dK (putK tk1 (nK i) (.bl true))) := upd_same
          have hak3 : (upd H2 ta (.dK (putK tk1 (nK i) (.bl true)))) aa = some (.dK ak) := keep_ne hak2 fun z => hta z.symm
          have sx3 : Sx (ta :: Z.Ps) H (upd H2 ta (.dK (putK tk1 (nK i) (.bl true)))) := sx2'.updL
          have tg3 : TG Z.Ps (upd H2 ta (.dK (putK tk1 (nK i) (.bl true)))) := tg2.upd taPs
          have hna3 : (upd H2 ta (.dK (putK tk1 (nK i) (.bl true)))) na = some (.lst (as.map V.ref)) := keep_ne hna2 fun z => naT (by rw [z]; simp)
          have nA3 : NA (upd H2 ta (.dK (putK tk1 (nK i) (.bl true)))) as nd := nA2.mono fun b xs hb => keep_ne hb fun z => by
            rw [z, htk2] at hb
            cases hb
          generalize upd H2 ta (.dK (putK tk1 (nK i) (.bl true))) = H3 at htk3 hak3 sx3 tg3 hna3 nA3 ⊢
          have nd3 : (T1 ++ [i]).Nodup := by
            rw [List.nodup_append]
            refine ⟨nd1, by simp, fun a ha b hb z => hiT ?_⟩
            rw [← List.mem_singleton.mp hb, ← z]
            exact ha
          have hT3 : ∀ t ∈ T1 ++ [i], t < nd.length := fun t ht => by
            rcases List.mem_append.mp ht with z | z
            · exact hT1 t z
            · rw [List.mem_singleton.mp z]
              exact hi2
          have hl3 : (T1 ++ [i]).length ≤ nd.length := nodup_lt_len nd3 hT3
          have hiT0 : i ∉ T0 := fun z => hiT (fb.sub i z)
          have gak : DGet H3 aa (.int (0 + (i : Nat))) (valV ak (nK i)) := by rw [e0]; exact DGet.k (k := nK i) hak3
          have hakl : ak.length < sizeLine := small1000 (by have := ahD.len fun j a h => (M.edge j a h).1; omega)
          refine ⟨_, rfl, _, rfl, aa, _, rfl, gak, ?_⟩
          rw [ahD.get i]
          cases hmi : m i with
          | none =>
            refine ⟨_, rfl, iteT (iteT ?_)⟩
            refine ⟨.int a0, rfl, .ref aa, rfl, _, rfl, aa, _, rfl, (by rw [e0]; exact DPut.k (k := nK i) hak3 hakl), ?_⟩
            exact q1 _ _ _ ((sx3.more fun b hb => by
              rcases List.mem_cons.mp hb with z | z
              · rw [z]; simp
              · exact List.mem_cons_of_mem _ (List.mem_cons_of_mem _ z)).updM (by simp)) (tg3.upd aaPs) upd_same (ahD.put i a0) (FbT.base M hi2 ha0 e2 hiT0 hmi hp)
          | some b =>
            have hb := (M.edge i b hmi).2.1
            refine ⟨_, rfl, ite2 (fun z => absurd z (by simp)) (fun _ => ?_)⟩
            have gak2 : DGet H3 aa (.int (0 + (i : Nat))) (some (.int (b : Int))) := by
              rw [ahD.get i, hmi] at gak
              exact gak
            refine ⟨.ref na, rfl, .ref aa, rfl, _, rfl, aa, .int (b : Int), rfl, gak2, .ref ta, rfl, .ref aa, rfl, ?_⟩
            have hlen : nd.length ≤ (T1 ++ [i]).length + (d - 1) ∧ 0 < d := by
              have h1 : T0.length ≤ T1.length := nodup_sub_len ndT fun t ht => fb.sub t ht
              rw [List.length_append] at hl3 ⊢
              simp only [List.length_singleton] at hl3 ⊢
              refine ⟨by omega, by omega⟩
            match d, hlen with
            | d' + 1, hlen =>
              refine ⟨na, ta, aa, nd, b, T1 ++ [i], m, _, ak, rfl, tg3, ⟨as, hna3, nA3⟩, hns, hnl, hb, hta, htk3, trd3, hak3, ahD, nd3, hT3, hlen.1, M, fun t ht => ?_, fun H4 T4 tk4 sx4 tg4 htk4 trd4 nd4 hT4 fbF => ?_, fun H4 m4 ak4 sx4 tg4 hak4 ahD4 fbT => ?_⟩
              · rw [M.inj t i b ht hmi]
                simp
              · refine ⟨_, rfl, ite2 (fun z => absurd z (by simp)) (fun _ => ?_)⟩
                exact ⟨_, T4, tk4, rfl, sx3.trans sx4, tg4, htk4, trd4, nd4, hT4, fb.deep hmi fbF⟩
              · refine ⟨_, rfl, iteT ?_⟩
                have hakl4 : ak4.length < sizeLine := small1000 (by have := ahD4.len fun j a h => (fbT.edge j a h).1; omega)
                refine ⟨.int a0, rfl, .ref aa, rfl, _, rfl, aa, _, rfl, (by rw [e0]; exact DPut.k (k := nK i) hak4 hakl4), ?_⟩
                have sx3' : Sx (ta :: aa :: Z.Ps) H H3 := sx3.more fun b hb => by
                  rcases List.mem_cons.mp hb with z | z
                  · rw [z]; simp
                  · exact List.mem_cons_of_mem _ (List.mem_cons_of_mem _ z)
                exact q1 _ _ _ ((sx3'.trans sx4).updM (by simp)) (tg4.upd aaPs) upd_same (ahD4.put i a0) (FbT.step M hi2 ha0 e2 hiT0 hmi hp (fun t ht => List.mem_append_left _ (fb.sub t ht)) (by simp) fbT)
        · exact ⟨_, T1, tk1, rfl, sx2', tg2, htk2, trd1, nd1, hT1, fb.skip fun z => absurd z e2⟩
      · have hiT : i ∈ T1 := by simpa using e
        exact ⟨_, T1, tk1, rfl, sx1, tg1, htk1, trd1, nd1, hT1, fb.skip fun _ => hiT⟩
    · obtain ⟨y, T1, tk1, rfl, sx1, tg1, htk1, trd1, nd1, hT1, fb⟩ := hP
      rw [show ((((as.map V.ref).length : Nat) : Int)).toNat = nd.length by rw [el]; omega] at fb
      exact q0 H1 T1 tk1 sx1 tg1 htk1 trd1 nd1 hT1 fb.done
theorem ok_find (T : Tx K mg Z) (TB : Tb base mg Z) : ∀ d : Nat, FnOk P w K mg base CX0 (d + 5) Z.f_find_behind Z.d_find_behind ["needs", "at", "tried", "ahead"] (spFind K Z d)
  | 0 => ok_find1 T TB 0 ⟨fun _ _ _ _ h => h.elim, fun _ _ _ _ _ _ _ _ _ _ _ _ _ h => h.elim⟩
  | d + 1 => ok_find1 T TB (d + 1) (ok_find T TB d)
/-! ### fewest_chains -/
def spChains (K : PySem.W.Frag) (Z : Ad) : Sp := fun vs H Q _ => ∃ (na : Addr) (nd : List Nd2), vs = [.ref na] ∧ TG Z.Ps H ∧ NdL H na nd ∧ (∀ p ∈ nd, NdS p) ∧ nd.length ≤ 24 ∧
  ∀ (H' : Hp) (aa : Addr) (m : Nat → Option Nat) (ak : List (Key × V)), Sx Z.Ps H H' → TG Z.Ps H' → H aa = none → H' aa = some (.dK ak) → AhD ak m → Mx nd.length (Rn nd) nd.length m → Q (.ref aa) H'
theorem ok_chains (T : Tx K mg Z) (TB : Tb base mg Z) : FnOk P w K mg base CX0 30 Z.f_fewest_chains Z.d_fewest_chains ["needs"] (spChains K Z) := by
  have G_find_behind : FnOk P w K mg base CX0 29 Z.f_find_behind Z.d_find_behind ["needs", "at", "tried", "ahead"] (spFind K Z 24) := ok_find T TB 24
  refine T.F_fewest_chains.ok sc_fewest_chains (fun vs H Q E h => ?_) (fun cdv A outer s H vs Q E hr h => ?_)
  · obtain ⟨na, nd, rfl, _⟩ := h
    rfl
  · obtain ⟨na, nd, rfl, tg, hnd, hns, hnl, q⟩ := h
    refine ⟨_, (pss_cons (ps_set (i := 1) sc_fewest_chains.nd rfl (.inl rfl) pe_dnewK)
      (pss_cons (ps_for PassesOwn.never rfl (pi_range1 (by rfl) T.m_range (pa_cons (pe_callB (cLenSq K) (by rfl) T.m_len (by decide +kernel) (pa_cons (pv 0) pa_nil)) pa_nil)) (pg_name (i := 2) sc_fewest_chains.nd rfl (.inl rfl)) (pss_one (ps_expr (pe_call G_find_behind (hr.mono (by omega)) (by rfl) T.g_find_behind T.F_find_behind.kp T.b_find_behind .nil pass0 (pa_cons (pv 0) (pa_cons (pv 2) (pa_cons pe_dnewK (pa_cons (pv 1) pa_nil))))))))
      (pss_one (ps_ret (pv 1))))), ?_⟩
    refine fun aa naa => ?_
    have tg1 : TG Z.Ps (upd H aa (.dK [])) := tg.new naa
    have hnd1 : NdL (upd H aa (.dK [])) na nd := hnd.same (Same.new (Same.refl H) naa)
    obtain ⟨as, hna, nA⟩ := hnd1
    have hal := nA.len
    have el : (as.map V.ref).length = nd.length := by rw [List.length_map, hal]
    refine ⟨.ref na, rfl, na, _, rfl, .inl (.inl (.inl hna)), _, rfl, by rw [el]; omega, by rw [el]; omega, for_range (fun i σ H' => ∃ (y : Option V) (m : Nat → Option Nat) (ak : List (Key × V)), σ = [some (.ref na), some (.ref aa), y] ∧ Sx Z.Ps H H' ∧ TG Z.Ps H' ∧ H' aa = some (.dK ak) ∧ AhD ak m ∧ Mx nd.length (Rn nd) i m)
      ⟨none, _, [], rfl, Sx.new Sx.rfl' naa, tg1, upd_same, AhD.nil, Mx.nil⟩ (fun i σ H1 hi hP => ?_) (fun σ H1 hP => ?_)⟩
    · obtain ⟨y, m, ak, rfl, sx1, tg1, hak, ahD, M⟩ := hP
      have hi2 : i < nd.length := by
        have : ((((as.map V.ref).length : Nat) : Int)).toNat = nd.length := by rw [el]; omega
        omega
      have e0 : (0 : Int) + (i : Nat) = ((i : Nat) : Int) := by omega
      have aaPs : aa ∉ Z.Ps := tg1.not hak fun q z => nomatch z
      refine ⟨.ref na, rfl, _, rfl, fun ta nta => ?_⟩
      have nta2 : H ta = none := Sx.free tg1 sx1 nta
      have tg2 : TG Z.Ps (upd H1 ta (.dK [])) := tg1.new nta
      have sx2 : Sx Z.Ps H (upd H1 ta (.dK [])) := Sx.new sx1 nta
      have hak2 : (upd H1 ta (.dK [])) aa = some (.dK ak) := keep_new hak nta
      have hta : ta ≠ aa := (ne_of_none hak nta).symm
      have hnd2 : NdL (upd H1 ta (.dK [])) na nd := hnd.sx tg.off sx2
      rw [e0]
      refine ⟨.ref aa, rfl, na, ta, aa, nd, i, [], m, [], ak, rfl, tg2, hnd2, hns, by omega, hi2, hta, upd_same, TrD.nil, hak2, ahD, List.nodup_nil, (fun t ht => nomatch ht), by simp; omega, M.mt, fun t ht => ?_, fun H4 T4 tk4 sx4 tg4 htk4 trd4 nd4 hT4 fbF => ?_, fun H4 m4 ak4 sx4 tg4 hak4 ahD4 fbT => ?_⟩
      · exact absurd (M.low t i ht) (Nat.lt_irrefl i)
      · refine ⟨_, m, ak, rfl, fun b o nb h => ?_, tg4, sx4 _ _ (fun z => (List.mem_cons.mp z).elim (fun e => hta e.symm) aaPs) hak2, ahD, M.no fbF⟩
        exact sx4 b o (fun z => (List.mem_cons.mp z).elim (ne_of_none h nta2) nb) (sx2 b o nb h)
      · refine ⟨_, m4, ak4, rfl, fun b o nb h => ?_, tg4, hak4, ahD4, M.yes fbT⟩
        exact sx4 b o (fun z => (List.mem_cons.mp z).elim (ne_of_none h nta2) fun z => (List.mem_cons.mp z).elim (ne_of_none h naa) nb) (sx2 b o nb h)
    · obtain ⟨y, m, ak, rfl, sx1, tg1, hak, ahD, M⟩ := hP
      rw [show ((((as.map V.ref).length : Nat) : Int)).toNat = nd.length by rw [el]; omega] at M
      exact ⟨_, rfl, q H1 aa m ak sx1 tg1 naa hak ahD M⟩

/-! ### chain_to -/
def spChainTo (K : PySem.W.Frag) : Sp := fun vs H Q _ => ∃ (na aa : Addr) (nd : List Nd2) (last : Nat) (m : Nat → Option Nat) (ak : List (Key × V)), vs = [.ref na, .ref aa, .int last] ∧ NdL H na nd ∧ (∀ p ∈ nd, NdOk p) ∧ nd.length ≤ 100 ∧ H aa = some (.dK ak) ∧ AhD ak m ∧ Mt nd.length (Rn nd) m ∧ last < nd.length ∧
  ∀ (H' : Hp) (p : Addr) (ch : List Nd2), Same H H' → NdL H' p ch → ChT nd m last ch → ch.length ≤ 101 → Q (.ref p) H'
theorem ok_chainto (T : Tx K mg Z) : FnOk P w K mg base CX0 1 Z.f_chain_to Z.d_chain_to ["needs", "ahead", "last"] (spChainTo K) := by
  refine T.F_chain_to.ok sc_chain_to (fun vs H Q E h => ?_) (fun cdv A outer s H vs Q E hr h => ?_)
  · obtain ⟨na, aa, nd, last, m, ak, rfl, _⟩ := h
    rfl
  · obtain ⟨na, aa, nd, last, m, ak, rfl, hnd, hok, hnl, hak, ahD, M, hla, q⟩ := h
    refine ⟨_, (pss_cons (ps_set (i := 3) sc_chain_to.nd rfl (.inl rfl) (pe_lst (pa_cons (pe_ix (ixL K) (pv 0) (pv 2) (fun _ _ => rfl)) pa_nil)))
      (pss_cons (ps_while PassesOwn.never (pt_cmp (pc_din (hu_of hr) (pv 2) (pv 1))) (pss_cons (ps_set (i := 2) sc_chain_to.nd rfl (.inl rfl) (pe_dget (hu_of hr) (pv 1) (pv 2) (fun _ _ => rfl)))
      (pss_one (ps_expr (bmK K PySem.F.plainAttrs_list PySem.F.slot_list_append PySem.F.type_list_append mt_append (pv 3) (pa_cons (pe_ix (ixL K) (pv 0) (pv 2) (fun _ _ => rfl)) pa_nil))))))
      (pss_one (ps_ret (pe_revL (pv 3)))))), ?_⟩
    obtain ⟨as, hna, nA⟩ := hnd
    have tr := Rn_tr hok
    have ir := Rn_ir nd
    obtain ⟨p, hp⟩ : ∃ p, nd[last]? = some p := ⟨nd[last], List.getElem?_eq_getElem hla⟩
    obtain ⟨pa, hpa, hpo⟩ := nA.at hp
    have hxa : (as.map V.ref)[last]? = some (.ref pa) := by rw [List.getElem?_map, hpa]; rfl
    refine ⟨.ref na, rfl, .int last, rfl, na, _, _, .ref pa, rfl, rfl, .inl (.inl hna), atI_nat hxa, (by show 1 ≤ sizeLine; decide), fun C nC => ?_⟩
    have smC : Same H (upd H C (.lst [.ref pa])) := Same.new (Same.refl H) nC
    refine ⟨fun k σ H' => ∃ (l : Nat) (cs : List Addr) (ch : List Nd2), σ = [some (.ref na), some (.ref aa), some (.int l), some (.ref C)] ∧ Same H H' ∧ H' C = some (.lst (cs.map V.ref)) ∧ NA H' cs ch ∧ ChI nd m last l ch ∧ k = ((List.range nd.length).filter fun x => Rn nd x l).length ∧ ch.length + k ≤ nd.length + 1,
      ⟨_, last, [pa], [p], rfl, smC, upd_same, .cons (smC _ _ hpo) .nil, ChI.start hp, rfl, ?_⟩, fun k σ H1 hP => ?_⟩
    · have := List.length_filter_le (fun x => Rn nd x last) (List.range nd.length)
      rw [List.length_range] at this
      simp only [List.length_singleton]
      omega
    · obtain ⟨l, cs, ch, rfl, sm, hC, nC1, chI, rfl, hcl⟩ := hP
      have gak : DGet H1 aa (.int (l : Nat)) (valV ak (nK l)) := DGet.k (k := nK l) (sm _ _ hak)
      refine ⟨.int l, rfl, .ref aa, rfl, aa, _, rfl, gak, ?_⟩
      rw [ahD.get l] at gak ⊢
      cases hml : m l with
      | none =>
        refine ⟨_, rfl, ite2 (fun z => absurd z (by simp)) (fun _ => ?_)⟩
        refine ⟨.ref C, rfl, C, _, rfl, .inl (.inl hC), fun R nR => ?_⟩
        rw [← List.map_reverse]
        refine q _ R ch.reverse (Same.new sm nR) ⟨cs.reverse, upd_same, (nC1.mono fun b xs hb => keep_new hb nR).rev⟩ (chI.done hml) ?_
        rw [List.length_reverse]
        omega
      | some b =>
        rw [hml] at gak
        obtain ⟨hl1, hb, hr1⟩ := M.edge l b hml
        obtain ⟨r, hr2⟩ : ∃ r, nd[b]? = some r := ⟨nd[b], List.getElem?_eq_getElem hb⟩
        obtain ⟨ra, hra, hro⟩ := nA.at hr2
        have hxb : (as.map V.ref)[b]? = some (.ref ra) := by rw [List.getElem?_map, hra]; rfl
        have hcl2 := nC1.len
        have hlt := below_lt hb hr1 tr ir
        refine ⟨_, rfl, iteT ⟨_, fun _ _ z => z, ?_⟩⟩
        refine ⟨.ref aa, rfl, .int l, rfl, aa, .int (b : Int), rfl, gak, ?_⟩
        refine ⟨.ref C, rfl, .inl ⟨rfl, _, .inl (.inl hC)⟩, .ref na, rfl, .int b, rfl, na, _, _, .ref ra, rfl, rfl, .inl (.inl (sm _ _ hna)), atI_nat hxb, C, _, _, rfl, rfl, hC, ?_, ?_⟩
        · rw [List.length_map]
          exact small1000 (by omega)
        · refine ⟨_, hlt, b, cs ++ [ra], ch ++ [r], rfl, Same.mut sm nC, ?_, ?_, chI.next hok M hml hr2, rfl, ?_⟩
          · rw [upd_same, List.map_append]
            rfl
          · refine NA.snoc (nC1.mono fun b xs hb => keep_ne hb fun z => ?_) (keep_ne (sm _ _ hro) fun z => ?_)
            · rw [z, hC] at hb
              cases hb
            · rw [← z, sm _ _ hro] at hC
              cases hC
          · rw [List.length_append, List.length_singleton]
            omega
/-! ### list_for -/
def spListFor (K : PySem.W.Frag) : Sp := fun vs H Q _ => ∃ (ca : Addr) (ch : List Nd2), vs = [.ref ca] ∧ NdL H ca ch ∧ (∀ p ∈ ch, NdS p) ∧ (∀ (H' : Hp), Same H H' → Q (tx (lstM ch)) H')
theorem lstM_bd {ch : List Nd2} : ∀ (k : Nat), (∀ p ∈ ch, NdS p) → (lstM (ch.take k)).Nodup ∧ (∀ c ∈ lstM (ch.take k), c ≤ 122) := by
  intro k h
  induction k with
  | zero =>
    rw [List.take_zero]
    exact ⟨List.nodup_nil, fun c hc => nomatch hc⟩
  | succ k ih =>
    by_cases hk : k < ch.length
    · rw [List.take_succ_eq_append_getElem hk, lstM_snoc]
      have := addL_sub ih.1 ih.2 (h ch[k] (List.getElem_mem hk)).az
      exact ⟨this.1, this.2.1⟩
    · have e : ch.take (k + 1) = ch.take k := by
        rw [List.take_of_length_le (by omega), List.take_of_length_le (by omega)]
      rw [e]
      exact ih
theorem ok_listfor (T : Tx K mg Z) : FnOk P w K mg base CX0 1 Z.f_list_for Z.d_list_for ["chain"] (spListFor K) := by
  refine T.F_list_for.ok sc_list_for (fun vs H Q E h => ?_) (fun cdv A outer s H vs Q E hr h => ?_)
  · obtain ⟨ca, ch, rfl, _⟩ := h
    rfl
  · obtain ⟨ca, ch, rfl, hnd, hns, q⟩ := h
    refine ⟨_, (pss_cons (ps_set (i := 1) sc_list_for.nd rfl (.inl rfl) pe_str)
      (pss_cons (ps_for PassesOwn.never rfl (piL K (pv 0)) (pgT K (n := 2) (pgs_cons (pg_name (i := 2) sc_list_for.nd rfl (.inl rfl)) (pgs_cons (pg_name (i := 3) sc_list_for.nd rfl (.inl rfl)) pgs_nil))) (pss_one (ps_for PassesOwn.never rfl (pi_str (pe_op op_add_str (pv 2) (pv 3))) (pg_name (i := 4) sc_list_for.nd rfl (.inl rfl)) (pss_one (ps_if (pt_cmpR op_notIn_sign (pv 4) (pv 1) (by rfl)) (pss_one (ps_aug (i := 1) sc_list_for.nd rfl (.inl rfl) (pv 4) ip_addS)) pss_nil)))))
      (pss_one (ps_ret (pv 1))))), ?_⟩
    obtain ⟨as, hca, nA⟩ := hnd
    have hal := nA.len
    have e0 : Str.ofString "" = txS [] := by decide +kernel
    have sz : ∀ l : List Nat, (⟨l.toArray⟩ : Str).length = l.length := fun l => by simp [Str.length]
    refine ⟨.ref ca, rfl, ca, rfl, ⟨_, .inl (.inl hca)⟩, for_list (xs := as.map V.ref) (fun i σ H' => ∃ (y2 y3 y4 : Option V), σ = [some (.ref ca), some (tx (lstM (ch.take i))), y2, y3, y4] ∧ H' = H)
      ⟨none, none, none, (by rw [List.take_zero, e0]; rfl), rfl⟩ (fun i σ H' _ hP => by
        obtain ⟨_, _, _, _, rfl⟩ := hP
        exact .inl (.inl hca)) (fun i x σ H1 hx hP => ?_) (fun σ H1 hP => ?_)⟩
    · obtain ⟨y2, y3, y4, rfl, rfl⟩ := hP
      rw [List.getElem?_map] at hx
      obtain ⟨a, ha, rfl⟩ := Option.map_eq_some_iff.mp hx
      have hi : i < ch.length := by
        have := (List.getElem?_eq_some_iff.mp ha).1
        omega
      obtain ⟨p, hp⟩ : ∃ p, ch[i]? = some p := ⟨ch[i], List.getElem?_eq_getElem hi⟩
      have ep : ch[i] = p := (List.getElem?_eq_some_iff.mp hp).2
      obtain ⟨a', ha', hao⟩ := nA.at hp
      rw [ha] at ha'
      cases ha'
      have np := hns p (List.mem_of_getElem? hp)
      have l1 := np.l1
      have l2 := np.l2
      obtain ⟨b1, b2⟩ := lstM_bd i hns
      have nx : lstM (ch.take (i + 1)) = addL (lstM (ch.take i)) (p.1 ++ p.2) := by rw [List.take_succ_eq_append_getElem hi, lstM_snoc, ep]
      have az := np.az
      refine ⟨a, [tx p.1, tx p.2], rfl, .inl (.inl hao), rfl, tx p.1, [tx p.2], rfl, tx p.2, [], rfl, rfl, ?_⟩
      refine ⟨tx p.1, rfl, tx p.2, rfl, ⟨p.1.toArray⟩, ⟨p.2.toArray⟩, rfl, rfl, by rw [sz, sz]; exact Nat.le_of_lt (small1000 (by omega)), ?_⟩
      rw [cat_tx p.1 p.2]
      generalize p.1 ++ p.2 = l at nx az ⊢
      generalize lstM (ch.take i) = one at nx b1 b2 ⊢
      have hcs : (⟨l.toArray⟩ : Str).cps.size = l.length := by simp
      refine ⟨_, rfl, for_it walk_str (fun j σ H' => ∃ (y4 : Option V), σ = [some (.ref ca), some (tx (addL one (l.take j))), some (tx p.1), some (tx p.2), y4] ∧ H' = H1)
        ⟨_, rfl, rfl⟩ (fun _ _ _ _ _ => trivial) (fun j x σ H2 H3 hj hP hY => ?_) (fun σ H2 hP => ?_)⟩
      · obtain ⟨y4, rfl, rfl⟩ := hP
        obtain ⟨rfl, c, hc, rfl⟩ := hY
        have hc2 : l[j]? = some c := by simpa using hc
        have hj2 : j < l.length := (List.getElem?_eq_some_iff.mp hc2).1
        have ec : l[j] = c := (List.getElem?_eq_some_iff.mp hc2).2
        have nx2 : addL one (l.take (j + 1)) = if c ∈ addL one (l.take j) then addL one (l.take j) else addL one (l.take j) ++ [c] := by rw [List.take_succ_eq_append_getElem hj2, ec, addL_snoc]
        obtain ⟨g1, g2, g3⟩ := addL_sub (ls := l.take j) b1 b2 fun c hc => az c (List.mem_of_mem_take hc)
        refine ⟨sg c, rfl, tx _, rfl, c, ⟨(addL one (l.take j)).toArray⟩, rfl, rfl, _, rfl, ?_⟩
        rw [show (⟨(addL one (l.take j)).toArray⟩ : Str).cps.toList = addL one (l.take j) by simp]
        refine ite2 (fun e => ?_) (fun e => ?_)
        · have e2 : c ∉ addL one (l.take j) := by simpa using e
          rw [if_neg e2] at nx2
          refine ⟨_, rfl, sg c, rfl, ⟨(addL one (l.take j)).toArray⟩, sS c, rfl, rfl, ?_, ?_⟩
          · rw [sz]
            exact Nat.le_of_lt (small1000 (show (addL one (l.take j)).length + 1 ≤ 1000 by omega))
          · refine ⟨some (sg c), ?_, rfl⟩
            rw [nx2, ← cat_tx (addL one (l.take j)) [c]]
            rfl
        · have e2 : c ∈ addL one (l.take j) := by simpa using e
          rw [if_pos e2] at nx2
          exact ⟨_, by rw [nx2]; rfl, rfl⟩
      · obtain ⟨y4, rfl, rfl⟩ := hP
        rw [hcs, List.take_of_length_le (Nat.le_refl _)]
        exact ⟨_, _, _, by rw [nx], rfl⟩
    · obtain ⟨y2, y3, y4, rfl, rfl⟩ := hP
      rw [List.length_map, hal, List.take_of_length_le (Nat.le_refl _)]
      exact ⟨_, rfl, q _ (Same.refl _)⟩

/-! ### apart_of -/
def spApart (K : PySem.W.Frag) (Z : Ad) : Sp := fun vs H Q _ => ∃ (na aa la : Addr) (nd : List Nd2) (m : Nat → Option Nat) (ak : List (Key × V)) (lasts : List Nat), vs = [.ref na, .ref aa, .ref la] ∧ TG Z.Ps H ∧ NdL H na nd ∧ (∀ p ∈ nd, NdS p) ∧ nd.length ≤ 100 ∧
  H aa = some (.dK ak) ∧ AhD ak m ∧ Mx nd.length (Rn nd) nd.length m ∧ H la = some (.lst (lasts.map nV)) ∧ Lst nd.length m lasts ∧
  ∀ (H' : Hp) (p : Addr) (L B : List Nat), Sx Z.Ps H H' → TG Z.Ps H' → H' p = some (.lst ((apM nd.length L B).map nV)) → Kg nd.length (Rn nd) m lasts [] L B → Q (.ref p) H'
set_option maxHeartbeats 4000000 in
theorem ok_apart (T : Tx K mg Z) (TB : Tb base mg Z) : FnOk P w K mg base CX0 5 Z.f_apart_of Z.d_apart_of ["needs", "ahead", "lasts"] (spApart K Z) := by
  have G_is_ahead : FnOk P w K mg base CX0 4 Z.f_is_ahead Z.d_is_ahead ["first", "second"] (spAhead K Z) := ok_ahead T TB
  refine T.F_apart_of.ok sc_apart_of (fun vs H Q E h => ?_) (fun cdv A outer s H vs Q E hr h => ?_)
  · obtain ⟨na, aa, la, nd, m, ak, lasts, rfl, _⟩ := h
    rfl
  · obtain ⟨na, aa, la, nd, m, ak, lasts, rfl, tg, hnd, hns, hnl, hak, ahD, M, hla, hL, q⟩ := h
    refine ⟨_, (pss_cons (ps_set (i := 3) sc_apart_of.nd rfl (.inl rfl) (pe_callTy (cListSq K) (by rfl) T.m_list (by decide +kernel) (pa_cons (pv 2) pa_nil)))
      (pss_cons (ps_set (i := 4) sc_apart_of.nd rfl (.inr rfl) pe_dnewK)
      (pss_cons (ps_set (i := 5) sc_apart_of.nd rfl (.inr rfl) pe_dnewK)
      (pss_cons (ps_while PassesOwn.never (pt_truth (pv 3) (by intro _; rfl)) (pss_cons (ps_set (i := 6) sc_apart_of.nd rfl (.inl rfl) (pe_bm0 PySem.F.plainAttrs_list PySem.F.slot_list_pop PySem.F.type_list_pop mt_pop (pv 3)))
      (pss_cons (ps_dput (hu_of hr) (pv 4) (pv 6) pe_bl rfl)
      (pss_one (ps_for PassesOwn.never rfl (pi_range1 (by rfl) T.m_range (pa_cons (pe_callB (cLenSq K) (by rfl) T.m_len (by decide +kernel) (pa_cons (pv 0) pa_nil)) pa_nil)) (pg_name (i := 7) sc_apart_of.nd rfl (.inl rfl)) (pss_one (ps_if (PW.pt (pw_and (pt_cmp (pc_dnotin (hu_of hr) (pv 7) (pv 5))) (pw_and1 (pt_val (pe_call G_is_ahead (hr.mono (by omega)) (by rfl) T.g_is_ahead T.F_is_ahead.kp T.b_is_ahead .nil pass0 (pa_cons (pe_ix (ixL K) (pv 0) (pv 6) (fun _ _ => rfl)) (pa_cons (pe_ix (ixL K) (pv 0) (pv 7) (fun _ _ => rfl)) pa_nil))))))) (pss_cons (ps_dput (hu_of hr) (pv 5) (pv 7) pe_bl rfl)
      (pss_one (ps_expr (bmK K PySem.F.plainAttrs_list PySem.F.slot_list_append PySem.F.type_list_append mt_append (pv 3) (pa_cons (pe_dget (hu_of hr) (pv 1) (pv 7) (fun _ _ => rfl)) pa_nil))))) pss_nil)))))))
      (pss_one (ps_ret (pe_lc (own := [("at", 6)]) (tt := _) (by rfl) sc_apart_of.nd (pi_range1 (by rfl) T.m_range (pa_cons (pe_callB (cLenSq K) (by rfl) T.m_len (by decide +kernel) (pa_cons (pv 0) pa_nil)) pa_nil)) (blkOk_by (own := [("at", 6)]) (by kernel_rfl)) (fun _ _ _ _ _ => (pg_name (i := 6) sc_apart_of.nd rfl (.inl rfl))) (fun _ _ _ _ _ => (pts_one (PW.pt (pw_and (pt_cmp (pc_din (hu_of hr) (pv 6) (pv 4))) (pw_and1 (pt_cmp (pc_dnotin (hu_of hr) (pv 6) (pv 5)))))))) (fun _ _ _ _ _ => (pv 6))))))))), ?_⟩
    have hlal : lasts.length ≤ nd.length := nodup_lt_len hL.nd fun a ha => ((hL.mem a).mp ha).1
    have aaPs : aa ∉ Z.Ps := tg.not hak fun q z => nomatch z
    refine ⟨.ref la, rfl, la, _, rfl, .inl (.inl (.inl hla)), fun wa nwa => ?_⟩
    have sx1 : Sx Z.Ps H (upd H wa (.lst (lasts.map nV))) := Sx.new Sx.rfl' nwa
    have tg1 : TG Z.Ps (upd H wa (.lst (lasts.map nV))) := tg.new nwa
    have hw1 : (upd H wa (.lst (lasts.map nV))) wa = some (.lst (lasts.map nV)) := upd_same
    generalize upd H wa (.lst (lasts.map nV)) = H1 at sx1 tg1 hw1 ⊢
    refine fun lo nlo => ?_
    have nlo0 : H lo = none := Sx.free tg1 sx1 nlo
    have sx2 : Sx Z.Ps H (upd H1 lo (.dK [])) := Sx.new sx1 nlo
    have tg2 : TG Z.Ps (upd H1 lo (.dK [])) := tg1.new nlo
    have hw2 : (upd H1 lo (.dK [])) wa = some (.lst (lasts.map nV)) := keep_new hw1 nlo
    have hl2 : (upd H1 lo (.dK [])) lo = some (.dK []) := upd_same
    generalize upd H1 lo (.dK []) = H2 at sx2 tg2 hw2 hl2 ⊢
    refine fun be nbe => ?_
    have nbe0 : H be = none := Sx.free tg2 sx2 nbe
    have sx3 : Sx Z.Ps H (upd H2 be (.dK [])) := Sx.new sx2 nbe
    have tg3 : TG Z.Ps (upd H2 be (.dK [])) := tg2.new nbe
    have hw3 : (upd H2 be (.dK [])) wa = some (.lst (lasts.map nV)) := keep_new hw2 nbe
    have hl3 : (upd H2 be (.dK [])) lo = some (.dK []) := keep_new hl2 nbe
    have hb3 : (upd H2 be (.dK [])) be = some (.dK []) := upd_same
    have lobe : lo ≠ be := ne_of_none hl2 nbe
    have walo : wa ≠ lo := fun z => by
      rw [z, hl3] at hw3
      cases hw3
    have wabe : wa ≠ be := fun z => by
      rw [z, hb3] at hw3
      cases hw3
    generalize upd H2 be (.dK []) = H3 at sx3 tg3 hw3 hl3 hb3 ⊢
    have loPs : lo ∉ Z.Ps := tg3.not hl3 fun q z => nomatch z
    have bePs : be ∉ Z.Ps := tg3.not hb3 fun q z => nomatch z
    have waPs : wa ∉ Z.Ps := tg3.not hw3 fun q z => nomatch z
    refine ⟨fun k σ H' => ∃ (y6 y7 : Option V) (W L B : List Nat) (kl kb : List (Key × V)), σ = [some (.ref na), some (.ref aa), some (.ref la), some (.ref wa), some (.ref lo), some (.ref be), y6, y7] ∧ Sx Z.Ps H H' ∧ TG Z.Ps H' ∧ H' wa = some (.lst (W.map nV)) ∧ H' lo = some (.dK kl) ∧ TrD kl L ∧ H' be = some (.dK kb) ∧ TrD kb B ∧
        Kg nd.length (Rn nd) m lasts W L B ∧ k = W.length + (nd.length - B.length) ∧ L.length + k ≤ 200,
      ⟨_, none, none, lasts, [], [], [], [], rfl, sx3, tg3, hw3, hl3, TrD.nil, hb3, TrD.nil, Kg.start M hL, rfl, by simp; omega⟩, fun k σ H4 hP => ?_⟩
    obtain ⟨y6, y7, W, L, B, kl, kb, rfl, sx4, tg4, hw4, hl4, trl, hb4, trb, kg, rfl, hlen⟩ := hP
    have hBl : B.length ≤ nd.length := nodup_lt_len kg.nd fun b hb => (kg.bn b hb).1
    refine ⟨.ref wa, rfl, _, .inl ⟨_, .inl (.inl hw4), rfl⟩, ite2 (fun e => ?_) (fun e => ?_)⟩
    · have hne : W ≠ [] := fun z => by
        rw [z] at e
        exact absurd e (by simp)
      obtain ⟨W', l, rfl⟩ : ∃ W' l, W = W' ++ [l] := ⟨W.dropLast, W.getLast hne, (List.dropLast_concat_getLast hne).symm⟩
      refine ⟨_, fun _ _ z => z, ?_⟩
      refine ⟨.ref wa, rfl, .inl ⟨rfl, _, .inl (.inl hw4)⟩, wa, _, nV l, rfl, rfl, hw4, by simp, ?_⟩
      rw [show ((W' ++ [l]).map nV).dropLast = W'.map nV by simp]
      have sx5 : Sx Z.Ps H (upd H4 wa (.lst (W'.map nV))) := Sx.mut sx4 nwa
      have tg5 : TG Z.Ps (upd H4 wa (.lst (W'.map nV))) := tg4.upd waPs
      have hw5 : (upd H4 wa (.lst (W'.map nV))) wa = some (.lst (W'.map nV)) := upd_same
      have hl5 : (upd H4 wa (.lst (W'.map nV))) lo = some (.dK kl) := keep_ne hl4 fun z => walo z.symm
      have hb5 : (upd H4 wa (.lst (W'.map nV))) be = some (.dK kb) := keep_ne hb4 fun z => wabe z.symm
      generalize upd H4 wa (.lst (W'.map nV)) = H5 at sx5 tg5 hw5 hl5 hb5 ⊢
      have hlk : kl.length < sizeLine := small1000 (by have := trl.len; rw [List.length_append] at hlen; omega)
      refine ⟨.ref lo, rfl, nV l, rfl, lo, _, rfl, DPut.k (k := nK l) hl5 hlk, ?_⟩
      have trl6 := trl.put l (.bl true)
      have sx6 : Sx Z.Ps H (upd H5 lo (.dK (putK kl (nK l) (.bl true)))) := Sx.mut sx5 nlo0
      have tg6 : TG Z.Ps (upd H5 lo (.dK (putK kl (nK l) (.bl true)))) := tg5.upd loPs
      have hw6 : (upd H5 lo (.dK (putK kl (nK l) (.bl true)))) wa = some (.lst (W'.map nV)) := keep_ne hw5 walo
      have hl6 : (upd H5 lo (.dK (putK kl (nK l) (.bl true)))) lo = some (.dK (putK kl (nK l) (.bl true))) := upd_same
      have hb6 : (upd H5 lo (.dK (putK kl (nK l) (.bl true)))) be = some (.dK kb) := keep_ne hb5 lobe.symm
      generalize upd H5 lo (.dK (putK kl (nK l) (.bl true))) = H6 at sx6 tg6 hw6 hl6 hb6 ⊢
      generalize putK kl (nK l) (.bl true) = kl6 at trl6 hl6
      have kgt0 : Kgt nd.length (Rn nd) m lasts W' (L ++ [l]) B l 0 := kg.pop rfl fun x => by
        rw [List.mem_append, List.mem_singleton]
        exact Or.comm
      obtain ⟨as, hna, nA⟩ := hnd.sx tg.off sx6
      have hal := nA.len
      have el : (as.map V.ref).length = nd.length := by rw [List.length_map, hal]
      refine ⟨.ref na, rfl, na, _, rfl, .inl (.inl (.inl hna)), _, rfl, by rw [el]; omega, by rw [el]; omega, for_range (fun i σ H' => ∃ (y7 : Option V) (W1 B1 : List Nat) (kb1 : List (Key × V)), σ = [some (.ref na), some (.ref aa), some (.ref la), some (.ref wa), some (.ref lo), some (.ref be), some (nV l), y7] ∧ Sx Z.Ps H H' ∧ TG Z.Ps H' ∧ H' wa = some (.lst (W1.map nV)) ∧ H' lo = some (.dK kl6) ∧ H' be = some (.dK kb1) ∧ TrD kb1 B1 ∧
          Kgt nd.length (Rn nd) m lasts W1 (L ++ [l]) B1 l i ∧ W1.length + B.length = W'.length + B1.length)
        ⟨_, W', B, kb, rfl, sx6, tg6, hw6, hl6, hb6, trb, kgt0, rfl⟩ (fun i σ H7 hi hP => ?_) (fun σ H7 hP => ?_)⟩
      · obtain ⟨y7, W1, B1, kb1, rfl, sx7, tg7, hw7, hl7, hb7, trb7, kgt, hWB⟩ := hP
        have hi2 : i < nd.length := by
          have : ((((as.map V.ref).length : Nat) : Int)).toNat = nd.length := by rw [el]; omega
          omega
        have e0 : (0 : Int) + (i : Nat) = ((i : Nat) : Int) := by omega
        rw [e0]
        obtain ⟨as7, hna7, nA7⟩ := hnd.sx tg.off sx7
        have hak7 := sx7 _ _ aaPs hak
        have hln : l < nd.length := (kgt.wl l (.inr kgt.me)).1
        obtain ⟨p, hp1⟩ : ∃ p, nd[l]? = some p := ⟨nd[l], List.getElem?_eq_getElem hln⟩
        obtain ⟨r, hr1⟩ : ∃ r, nd[i]? = some r := ⟨nd[i], List.getElem?_eq_getElem hi2⟩
        obtain ⟨pa, hpa, hpo⟩ := nA7.at hp1
        obtain ⟨ra, hra, hro⟩ := nA7.at hr1
        have np := hns p (List.mem_of_getElem? hp1)
        have nr := hns r (List.mem_of_getElem? hr1)
        have eR : Rn nd l i = ahd p r := Rn_at hp1 hr1
        have hxp : (as7.map V.ref)[l]? = some (.ref pa) := by rw [List.getElem?_map, hpa]; rfl
        have hxr : (as7.map V.ref)[i]? = some (.ref ra) := by rw [List.getElem?_map, hra]; rfl
        have hB1 : B1.length ≤ nd.length := nodup_lt_len kgt.nd fun b hb => (kgt.bn b hb).1
        refine ⟨nV i, rfl, .ref be, rfl, be, _, rfl, DGet.k (k := nK i) hb7, ?_⟩
        rw [trb7.has i]
        refine ⟨_, rfl, ite2 (fun e2 => ?_) (fun e2 => ?_)⟩
        · have hiB : i ∉ B1 := by simpa using e2
          refine ⟨.ref na, rfl, nV l, rfl, na, _, _, .ref pa, rfl, rfl, .inl (.inl hna7), atI_nat hxp, .ref na, rfl, nV i, rfl, na, _, _, .ref ra, rfl, rfl, .inl (.inl hna7), atI_nat hxr, p, r, pa, ra, rfl, tg7, hpo, hro, np, nr, fun H8 sx8 tg8 => ?_⟩
          rw [← eR]
          have sx8' : Sx Z.Ps H H8 := sx7.trans sx8
          have hw8 := sx8 _ _ waPs hw7
          have hl8 := sx8 _ _ loPs hl7
          have hb8 := sx8 _ _ bePs hb7
          refine ⟨_, rfl, ite2 (fun e3 => ?_) (fun e3 => ?_)⟩
          · obtain ⟨a, hma, hfa⟩ := FlM.met (kgt.wl l (.inr kgt.me)).2.1 hi2 e3
            have hkb : kb1.length < sizeLine := small1000 (by have := trb7.len; omega)
            refine ⟨.ref be, rfl, nV i, rfl, be, _, rfl, DPut.k (k := nK i) hb8 hkb, ?_⟩
            have trb9 := trb7.put i (.bl true)
            have sx9 : Sx Z.Ps H (upd H8 be (.dK (putK kb1 (nK i) (.bl true)))) := Sx.mut sx8' nbe0
            have tg9 : TG Z.Ps (upd H8 be (.dK (putK kb1 (nK i) (.bl true)))) := tg8.upd bePs
            have hw9 : (upd H8 be (.dK (putK kb1 (nK i) (.bl true)))) wa = some (.lst (W1.map nV)) := keep_ne hw8 wabe
            have hl9 : (upd H8 be (.dK (putK kb1 (nK i) (.bl true)))) lo = some (.dK kl6) := keep_ne hl8 lobe
            have hb9 : (upd H8 be (.dK (putK kb1 (nK i) (.bl true)))) be = some (.dK (putK kb1 (nK i) (.bl true))) := upd_same
            generalize upd H8 be (.dK (putK kb1 (nK i) (.bl true))) = H9 at sx9 tg9 hw9 hl9 hb9 ⊢
            have hak9 := sx9 _ _ aaPs hak
            have gak : DGet H9 aa (nV i) (some (nV a)) := by
              have h1 : DGet H9 aa (nV i) (valV ak (nK i)) := DGet.k (k := nK i) hak9
              rw [ahD.get i, hma] at h1
              exact h1
            refine ⟨.ref wa, rfl, .inl ⟨rfl, _, .inl (.inl hw9)⟩, .ref aa, rfl, nV i, rfl, aa, nV a, rfl, gak, wa, _, _, rfl, rfl, hw9, ?_, ?_⟩
            · rw [List.length_map]
              rw [List.length_append] at hlen
              exact small1000 (by omega)
            · refine ⟨_, W1 ++ [a], B1 ++ [i], _, rfl, Sx.mut sx9 nwa, tg9.upd waPs, ?_, keep_ne hl9 fun z => walo z.symm, keep_ne hb9 fun z => wabe z.symm, trb9, Kgt.more M.mt kgt hi2 hiB e3 hma hfa, ?_⟩
              · rw [upd_same, List.map_append]
                rfl
              · rw [List.length_append, List.length_append]
                simp only [List.length_singleton]
                omega
          · exact ⟨_, W1, B1, kb1, rfl, sx8', tg8, hw8, hl8, hb8, trb7, kgt.skip fun z => absurd z e3, hWB⟩
        · have hiB : i ∈ B1 := by simpa using e2
          exact ⟨_, W1, B1, kb1, rfl, sx7, tg7, hw7, hl7, hb7, trb7, kgt.skip fun _ => hiB, hWB⟩
      · obtain ⟨y7, W1, B1, kb1, rfl, sx7, tg7, hw7, hl7, hb7, trb7, kgt, hWB⟩ := hP
        rw [show ((((as.map V.ref).length : Nat) : Int)).toNat = nd.length by rw [el]; omega] at kgt
        have hB1 : B1.length ≤ nd.length := nodup_lt_len kgt.nd fun b hb => (kgt.bn b hb).1
        refine ⟨_, ?_, _, _, W1, L ++ [l], B1, kl6, kb1, rfl, sx7, tg7, hw7, hl7, trl6, hb7, trb7, kgt.done, rfl, ?_⟩
        · rw [List.length_append, List.length_singleton]
          omega
        · rw [List.length_append, List.length_singleton]
          rw [List.length_append, List.length_singleton] at hlen
          omega
    · have hW : W = [] := by
        cases W with
        | nil => rfl
        | cons a W => exact absurd rfl e
      subst hW
      obtain ⟨as, hna, nA⟩ := hnd.sx tg.off sx4
      have hal := nA.len
      have el : (as.map V.ref).length = nd.length := by rw [List.length_map, hal]
      refine ⟨.ref na, rfl, na, _, rfl, .inl (.inl (.inl hna)), _, rfl, by rw [el]; omega, by rw [el]; omega, fun D nD => lc_range (fun i H' => Same H4 H' ∧ H' D = some (.lst ((apM i L B).map nV)))
        ⟨Same.new (Same.refl H4) nD, upd_same⟩ (fun i H7 hi hP => ?_) (fun H7 hP => ?_)⟩
      · obtain ⟨sm7, hD7⟩ := hP
        have hi2 : i < nd.length := by
          have : ((((as.map V.ref).length : Nat) : Int)).toNat = nd.length := by rw [el]; omega
          omega
        have e0 : (0 : Int) + (i : Nat) = ((i : Nat) : Int) := by omega
        rw [e0]
        have nx : apM (i + 1) L B = apM i L B ++ (if (decide (i ∈ L) && !decide (i ∈ B)) = true then [i] else []) := by
          unfold apM
          rw [List.range_succ, List.filter_append, List.filter_cons, List.filter_nil]
        refine ⟨rfl, nV i, rfl, .ref lo, rfl, lo, _, rfl, DGet.k (k := nK i) (sm7 _ _ hl4), ?_⟩
        rw [trl.has i]
        refine ⟨_, rfl, ite2 (fun e2 => ?_) (fun e2 => ?_)⟩
        · refine ⟨nV i, rfl, .ref be, rfl, be, _, rfl, DGet.k (k := nK i) (sm7 _ _ hb4), ?_⟩
          rw [trb.has i]
          refine ⟨_, rfl, ite2 (fun e3 => ?_) (fun e3 => ?_)⟩
          · rw [if_pos (by rw [e2, e3]; rfl)] at nx
            refine ⟨nV i, rfl, _, hD7, ?_, Same.mut sm7 nD, ?_⟩
            · rw [List.length_map]
              have := List.length_filter_le (fun a => decide (a ∈ L) && !decide (a ∈ B)) (List.range i)
              rw [List.length_range] at this
              exact small1000 (show (apM i L B).length ≤ 1000 by unfold apM; omega)
            · rw [upd_same, nx, List.map_append]
              rfl
          · rw [if_neg (by rw [e2, eq_false_of_ne_true e3]; simp), List.append_nil] at nx
            exact ⟨sm7, by rw [nx]; exact hD7⟩
        · rw [if_neg (by rw [eq_false_of_ne_true e2]; simp), List.append_nil] at nx
          exact ⟨sm7, by rw [nx]; exact hD7⟩
      · obtain ⟨sm7, hD7⟩ := hP
        rw [show ((((as.map V.ref).length : Nat) : Int)).toNat = nd.length by rw [el]; omega] at hD7
        exact q H7 D L B (sx4.trans (Same.sx sm7)) (tg4.same sm7) hD7 kg

/-! ### fewest -/
def spFewest (K : PySem.W.Frag) (Z : Ad) : Sp := fun vs H Q _ => ∃ (cv : V) (na : Addr) (nd : List Nd2), vs = [cv, .ref na] ∧ TG Z.Ps H ∧ NdL H na nd ∧ (∀ p ∈ nd, NdS p) ∧ (∀ p ∈ nd, NdOk p) ∧ nd.length ≤ 24 ∧
  ∀ (H' : Hp) (p la ta : Addr) (ls : List (List Nat)) (ap : List Nat), Sx Z.Ps H H' → TG Z.Ps H' → H p = none → H la = none → H ta = none → H' p = some (.tup [.ref la, .ref ta]) → H' la = some (.lst (ls.map tx)) → H' ta = some (.tup (ap.map nV)) → FewOk nd ls ap → Q (.ref p) H'
set_option maxHeartbeats 4000000 in
theorem ok_fewest (T : Tx K mg Z) (TB : Tb base mg Z) : FnOk P w K mg base CX0 31 Z.f_fewest Z.d_fewest ["columns", "needs"] (spFewest K Z) := by
  have G_fewest_chains : FnOk P w K mg base CX0 30 Z.f_fewest_chains Z.d_fewest_chains ["needs"] (spChains K Z) := ok_chains T TB
  have G_chain_to : FnOk P w K mg base CX0 1 Z.f_chain_to Z.d_chain_to ["needs", "ahead", "last"] (spChainTo K) := ok_chainto T
  have G_list_for : FnOk P w K mg base CX0 1 Z.f_list_for Z.d_list_for ["chain"] (spListFor K) := ok_listfor T
  have G_apart_of : FnOk P w K mg base CX0 5 Z.f_apart_of Z.d_apart_of ["needs", "ahead", "lasts"] (spApart K Z) := ok_apart T TB
  refine T.C_fewest.ok sc_fewest (fun vs H Q E h => ?_) (fun A outer s H vs Q E hr h => ?_)
  · obtain ⟨cv, na, nd, rfl, _⟩ := h
    rfl
  · obtain ⟨cv, na, nd, rfl, tg, hnd, hns, hok, hnl, q⟩ := h
    refine ⟨_, (pss_cons (ps_set (i := 8) sc_fewest.nd rfl (.inr rfl) (pe_lc (own := [("at", 9), ("need", 10)]) (tt := _) (by rfl) sc_fewest.nd (pi_enum (by rfl) T.m_enumerate (pa_cons (pv 1) pa_nil)) (blkOk_by (own := [("at", 9), ("need", 10)]) (by kernel_rfl)) (fun _ _ _ _ _ => (pgT K (n := 2) (pgs_cons (pg_name (i := 9) sc_fewest.nd rfl (.inl rfl)) (pgs_cons (pg_name (i := 10) sc_fewest.nd rfl (.inl rfl)) pgs_nil)))) (fun _ _ _ _ _ => (pts_one (pt_cmpR op_eq (bmK K PySem.F.plainAttrs_list PySem.F.slot_list_index PySem.F.type_list_index (mtIndexD K (units65 hr)) (pv 1) (pa_cons (pv 10) pa_nil)) (pv 9) (nomark _)))) (fun _ _ _ _ _ => (pv 9))))
      (pss_cons (ps_set (i := 2) sc_fewest.nd rfl (.inr rfl) (pe_lc (own := [("at", 9)]) (tt := tYes) (by rfl) sc_fewest.nd (piL K (pv 8)) (blkOk_by (own := [("at", 9)]) (by kernel_rfl)) (fun _ _ _ _ _ => (pg_name (i := 9) sc_fewest.nd rfl (.inl rfl))) (fun _ _ _ _ _ => pts_nil) (fun _ _ _ _ _ => (pe_ix (ixL K) (pv 1) (pv 9) (fun _ _ => rfl)))))
      (pss_cons (ps_set (i := 3) sc_fewest.nd rfl (.inr rfl) (pe_call G_fewest_chains (hr.mono (by omega)) (by rfl) T.g_fewest_chains T.F_fewest_chains.kp T.b_fewest_chains .nil pass0 (pa_cons (pv 2) pa_nil)))
      (pss_cons (ps_set (i := 4) sc_fewest.nd rfl (.inr rfl) (pe_listVals (by rfl) (pv 3) (by rfl) T.m_list))
      (pss_cons (ps_setLc (i := 5) (own := [("at", 9)]) (tt := _) (by rfl) sc_fewest.nd rfl rfl (sw_true rfl rfl rfl (by decide +kernel)) (pi_range1 (by rfl) T.m_range (pa_cons (pe_callB (cLenSq K) (by rfl) T.m_len (by decide +kernel) (pa_cons (pv 2) pa_nil)) pa_nil)) (blkOk_by (own := [("at", 9)]) (by kernel_rfl)) (fun _ _ _ _ _ => (pg_name (i := 9) sc_fewest.nd rfl (.inl rfl))) (fun _ _ _ _ _ => (pts_one (pt_cmpR (notInSq K) (pv 9) (pv 4) (by rfl)))) (fun _ _ _ _ _ => (pv 9)))
      (pss_cons (ps_setLc (i := 6) (own := [("last", 11)]) (tt := tYes) (by rfl) sc_fewest.nd rfl rfl (sw_true rfl rfl rfl (by decide +kernel)) (piL K (pv 5)) (blkOk_by (own := [("last", 11)]) (by kernel_rfl)) (fun _ _ _ _ _ => (pg_name (i := 11) sc_fewest.nd rfl (.inl rfl))) (fun _ _ _ _ _ => pts_nil) (fun _ _ _ _ _ => (pe_call G_list_for (hr.mono (by omega)) (by rfl) T.g_list_for T.F_list_for.kp T.b_list_for .nil pass0 (pa_cons (pe_call G_chain_to (hr.mono (by omega)) (by rfl) T.g_chain_to T.F_chain_to.kp T.b_chain_to .nil pass0 (pa_cons (pv 2) (pa_cons (pv 3) (pa_cons (pv 11) pa_nil)))) pa_nil))))
      (pss_cons (ps_set (i := 7) sc_fewest.nd rfl (.inl rfl) (pe_tupG (D := (DItm Z.P_fewest 8)) hr (by rfl) T.m_tuple (TB.t_fewest) rfl (genS_by (sc := defScope s_fewest) (by kernel_rfl) rfl) (pe_call G_apart_of (hr.mono (by omega)) (by rfl) T.g_apart_of T.F_apart_of.kp T.b_apart_of .nil pass0 (pa_cons (pv 2) (pa_cons (pv 3) (pa_cons (pv 5) pa_nil)))) (hd_itm rfl rfl rfl rfl rfl (by decide))))
      (pss_one (ps_ret (pe_tup (pa_cons (pv 6) (pa_cons (pv 7) pa_nil)))))))))))), ?_⟩
    have hP : Z.P_fewest ∈ Z.Ps := by simp
    obtain ⟨as, hna, nA⟩ := hnd
    have hal := nA.len
    -- places
    refine ⟨.ref na, rfl, na, _, rfl, .inl (.inl hna), fun D nD => lc_it (walk_enum (xs := as.map V.ref)) (fun i H' => Same H H' ∧ H' D = some (.lst (((List.range i).filter (isFst nd)).map nV)))
      ⟨Same.new (Same.refl H) nD, upd_same⟩ (fun i H' _ hP => .inl (.inl (hP.1 _ _ hna))) (fun i x H1 H2 hi hP hY => ?_) (fun H1 hP => ?_)⟩
    · obtain ⟨sm1, hD1⟩ := hP
      obtain ⟨t, x1, x2, rfl, nt, rfl, e1, e2⟩ := hY
      cases e1
      have e2' : (as.map V.ref)[i]? = some x2 := e2
      rw [List.getElem?_map] at e2'
      obtain ⟨a, ha, rfl⟩ := Option.map_eq_some_iff.mp e2'
      have hi2 : i < nd.length := by
        rw [List.length_map] at hi
        omega
      have hp1 := ndG_at hi2
      generalize ndG nd i = p at hp1
      obtain ⟨a', ha', hao⟩ := nA.at hp1
      rw [ha] at ha'
      cases ha'
      have hpn := List.mem_of_getElem? hp1
      have sm2 : Same H (upd H1 t (.tup [.int (i : Nat), .ref a])) := Same.new sm1 nt
      have hD2 : (upd H1 t (.tup [.int (i : Nat), .ref a])) D = some (.lst (((List.range i).filter (isFst nd)).map nV)) := keep_new hD1 nt
      have ht2 : (upd H1 t (.tup [.int (i : Nat), .ref a])) t = some (.tup [.int (i : Nat), .ref a]) := upd_same
      generalize upd H1 t (.tup [.int (i : Nat), .ref a]) = H2 at sm2 hD2 ht2 ⊢
      have nA2 : NA H2 as nd := nA.mono fun b xs hb => sm2 _ _ hb
      have nx : (List.range (i + 1)).filter (isFst nd) = (List.range i).filter (isFst nd) ++ (if isFst nd i = true then [i] else []) := by
        rw [List.range_succ, List.filter_append, List.filter_cons, List.filter_nil]
      rw [isFst_at hp1] at nx
      refine ⟨t, _, rfl, .inl (.inl ht2), rfl, .int (i : Nat), [.ref a], rfl, .ref a, [], rfl, rfl, rfl, ?_⟩
      refine ⟨.ref na, rfl, .inl ⟨rfl, _, .inl (.inl (sm2 _ _ hna))⟩, .ref a, rfl, na, .ref a, ndD p, nd.map ndD, ixN p nd, ndD p, rfl, rfl, .lst (.inl (.inl (sm2 _ _ hna))) nA2.dp, .tup (.inl (.inl (sm2 _ _ hao))) (.cons (.str _) (.cons (.str _) .nil)), shaped_nds hns, shaped_nd (hns p hpn), ?_, ?_, fun k z hk hz => ?_, .int (i : Nat), rfl, rfl, _, rfl, ?_⟩
      · rw [List.getElem?_map, ixN_at hpn]
        rfl
      · rw [eqv_nd]
        simp
      · rw [List.getElem?_map] at hz
        obtain ⟨r, hr, rfl⟩ := Option.map_eq_some_iff.mp hz
        rw [eqv_nd]
        exact decide_eq_false (ixN_lt hk hr)
      · refine ite2 (fun e => ?_) (fun e => ?_)
        · have e3 : V.int (ixN p nd : Nat) = V.int (i : Nat) := of_decide_eq_true e
          have e4 : ((ixN p nd : Nat) : Int) = (i : Nat) := by injection e3
          have e5 : ixN p nd = i := by omega
          rw [if_pos (decide_eq_true e5)] at nx
          refine ⟨.int (i : Nat), rfl, _, hD2, ?_, Same.mut sm2 nD, ?_⟩
          · rw [List.length_map]
            have := List.length_filter_le (isFst nd) (List.range i)
            rw [List.length_range] at this
            exact small1000 (by omega)
          · rw [upd_same, nx, List.map_append]
            rfl
        · have e5 : ¬ ixN p nd = i := fun z => e (decide_eq_true (by rw [z]))
          rw [decide_eq_false e5, if_neg (by simp), List.append_nil] at nx
          exact ⟨sm2, by rw [nx]; exact hD2⟩
    · obtain ⟨sm1, hD1⟩ := hP
      rw [List.length_map, hal, show (List.range nd.length).filter (isFst nd) = plM nd from rfl] at hD1
      have hpl := pl_len nd
      have hul := un_len nd
      have nA1 : NA H1 as nd := nA.mono fun b xs hb => sm1 _ _ hb
      have hna1 := sm1 _ _ hna
      have tg1 := tg.same sm1
      -- unlike
      refine ⟨.ref D, rfl, D, rfl, ⟨_, .inl (.inl hD1)⟩, fun U nU => lc_list (xs := (plM nd).map nV) (fun i H' => Same H1 H' ∧ ∃ us, H' U = some (.lst (us.map V.ref)) ∧ NA H' us (((plM nd).take i).map (ndG nd)))
        ⟨Same.new (Same.refl H1) nU, [], upd_same, .nil⟩ (fun i H' _ hP => .inl (.inl (hP.1 _ _ hD1))) (fun i x H2 hx hP => ?_) (fun H2 hP => ?_)⟩
      · obtain ⟨sm2, us, hU2, nU2⟩ := hP
        rw [List.getElem?_map] at hx
        obtain ⟨j, hj, rfl⟩ := Option.map_eq_some_iff.mp hx
        obtain ⟨hi2, ej⟩ := List.getElem?_eq_some_iff.mp hj
        have hjn := (pl_mem (List.mem_of_getElem? hj)).1
        obtain ⟨a, ha, hao⟩ := nA1.at (ndG_at hjn)
        have hxa : (as.map V.ref)[j]? = some (.ref a) := by rw [List.getElem?_map, ha]; rfl
        have hul2 := nU2.len
        rw [List.length_map, List.length_take] at hul2
        refine ⟨rfl, .ref na, rfl, nV j, rfl, na, _, _, .ref a, rfl, rfl, .inl (.inl (sm2 _ _ hna1)), atI_nat hxa, _, hU2, ?_, Same.mut sm2 nU, us ++ [a], ?_, ?_⟩
        · rw [List.length_map]
          exact small1000 (by omega)
        · rw [upd_same, List.map_append]
          rfl
        · rw [List.take_succ_eq_append_getElem hi2, ej, List.map_append]
          refine NA.snoc (nU2.mono fun b xs hb => keep_ne hb fun z => ?_) (keep_ne (sm2 _ _ hao) fun z => ?_)
          · rw [z, hU2] at hb
            cases hb
          · rw [← z, sm2 _ _ hao] at hU2
            cases hU2
      · obtain ⟨sm2, us, hU2, nU2⟩ := hP
        rw [List.length_map, List.take_of_length_le (Nat.le_refl _), show (plM nd).map (ndG nd) = unM nd from rfl] at nU2
        have hunl : NdL H2 U (unM nd) := ⟨us, hU2, nU2⟩
        have hD2 := sm2 _ _ hD1
        have tg2 := tg1.same sm2
        have sx2 : Sx Z.Ps H H2 := Same.sx (Same.trans sm1 sm2)
        have husS : ∀ p ∈ unM nd, NdS p := fun p hp => hns p (un_sub hp)
        have husO : ∀ p ∈ unM nd, NdOk p := fun p hp => hok p (un_sub hp)
        have hun24 : (unM nd).length ≤ 24 := by omega
        refine ⟨.ref U, rfl, U, unM nd, rfl, tg2, hunl, husS, hun24, fun H3 aa m ak sx3 tg3 naa hak ahD M => ?_⟩
        have hunl3 := hunl.sx tg2.off sx3
        have hD3 := sx3 _ _ (tg2.off D _ (.inr hD2)) hD2
        have sx3' : Sx Z.Ps H H3 := sx2.trans sx3
        -- followed
        refine ⟨.ref aa, rfl, aa, ak, rfl, hak, fun F nF => ?_⟩
        have sm4 : Same H3 (upd H3 F (.lst (ak.map (·.2)))) := Same.new (Same.refl H3) nF
        have hF4 : (upd H3 F (.lst (ak.map (·.2)))) F = some (.lst (ak.map (·.2))) := upd_same
        generalize upd H3 F (.lst (ak.map (·.2))) = H4 at sm4 hF4 ⊢
        obtain ⟨us4, hU4, nU4⟩ := hunl3.same sm4
        have hul4 := nU4.len
        have el : (us4.map V.ref).length = (unM nd).length := by rw [List.length_map, hul4]
        have hfl : (ak.map (·.2)).all flatV = true := by
          rw [List.all_eq_true]
          intro v hv
          obtain ⟨x, hx, rfl⟩ := List.mem_map.mp hv
          obtain ⟨j, a, e, _⟩ := ahD.key x hx
          rw [e]
          rfl
        -- lasts
        refine ⟨.ref U, rfl, U, _, rfl, .inl (.inl (.inl hU4)), _, rfl, by rw [el]; omega, by rw [el]; omega, fun LA nLA => lc_range (fun i H' => Same H4 H' ∧ H' LA = some (.lst (((List.range i).filter fun a => !inV (nV a) (ak.map (·.2))).map nV)))
          ⟨Same.new (Same.refl H4) nLA, upd_same⟩ (fun i H5 hi hP => ?_) (fun H5 hP => ?_)⟩
        · obtain ⟨sm5, hL5⟩ := hP
          have hi2 : i < (unM nd).length := by
            have : ((((us4.map V.ref).length : Nat) : Int)).toNat = (unM nd).length := by rw [el]; omega
            omega
          have e0 : (0 : Int) + (i : Nat) = ((i : Nat) : Int) := by omega
          rw [e0]
          have nx : (List.range (i + 1)).filter (fun a => !inV (nV a) (ak.map (·.2))) = (List.range i).filter (fun a => !inV (nV a) (ak.map (·.2))) ++ (if (!inV (nV i) (ak.map (·.2))) = true then [i] else []) := by
            rw [List.range_succ, List.filter_append, List.filter_cons, List.filter_nil]
          refine ⟨rfl, nV i, rfl, .ref F, rfl, F, _, rfl, .inl (.inl (.inl (sm5 _ _ hF4))), rfl, hfl, _, rfl, ?_⟩
          show (if (!inV (nV i) (ak.map (·.2))) = true then _ else _)
          refine ite2 (fun e => ?_) (fun e => ?_)
          · rw [if_pos e] at nx
            refine ⟨nV i, rfl, _, hL5, ?_, Same.mut sm5 nLA, ?_⟩
            · rw [List.length_map]
              have := List.length_filter_le (fun a => !inV (nV a) (ak.map (·.2))) (List.range i)
              rw [List.length_range] at this
              exact small1000 (by omega)
            · rw [upd_same, nx, List.map_append]
              rfl
          · rw [if_neg e, List.append_nil] at nx
            exact ⟨sm5, by rw [nx]; exact hL5⟩
        · obtain ⟨sm5, hL5⟩ := hP
          rw [show ((((us4.map V.ref).length : Nat) : Int)).toNat = (unM nd).length by rw [el]; omega] at hL5
          have hLst : Lst (unM nd).length m ((List.range (unM nd).length).filter fun a => !inV (nV a) (ak.map (·.2))) := by
            refine ⟨fun a => ?_, List.Pairwise.filter _ List.nodup_range⟩
            rw [List.mem_filter, List.mem_range, Bool.not_eq_true', ← Bool.not_eq_true, ahD.vals a]
            exact ⟨fun h => ⟨h.1, fun t e => h.2 ⟨t, e⟩⟩, fun h => ⟨h.1, fun ⟨t, e⟩ => h.2 t e⟩⟩
          generalize (List.range (unM nd).length).filter (fun a => !inV (nV a) (ak.map (·.2))) = lasts at hL5 hLst
          have hlal : lasts.length ≤ (unM nd).length := nodup_lt_len hLst.nd fun a ha => ((hLst.mem a).mp ha).1
          have sm5' : Same H3 H5 := Same.trans sm4 sm5
          have hunl5 := hunl3.same sm5'
          have hak5 := sm5' _ _ hak
          -- lists
          refine ⟨.ref LA, rfl, LA, rfl, ⟨_, .inl (.inl hL5)⟩, fun LS nLS => lc_list (xs := lasts.map nV) (fun i H' => Same H5 H' ∧ ∃ chs : List (List Nd2), chs.length = i ∧ H' LS = some (.lst ((chs.map lstM).map tx)) ∧ ∀ (j last : Nat) (ch : List Nd2), lasts[j]? = some last → chs[j]? = some ch → ChT (unM nd) m last ch)
            ⟨Same.new (Same.refl H5) nLS, [], rfl, upd_same, (fun j last ch _ e => nomatch e)⟩ (fun i H' _ hP => .inl (.inl (hP.1 _ _ hL5))) (fun i x H6 hx hP => ?_) (fun H6 hP => ?_)⟩
          · obtain ⟨sm6, chs, hcl, hLS, hch⟩ := hP
            rw [List.getElem?_map] at hx
            obtain ⟨last, hla, rfl⟩ := Option.map_eq_some_iff.mp hx
            have hi2 := (List.getElem?_eq_some_iff.mp hla).1
            have hln := ((hLst.mem last).mp (List.mem_of_getElem? hla)).1
            refine ⟨rfl, .ref U, rfl, .ref aa, rfl, nV last, rfl, U, aa, unM nd, last, m, ak, rfl, hunl5.same sm6, husO, by omega, sm6 _ _ hak5, ahD, M.mt, hln, fun H7 p ch sm7 hnc cht hcl7 => ?_⟩
            refine ⟨p, ch, rfl, hnc, fun p hp => husS p (cht.mem p hp), fun H8 sm8 => ?_⟩
            refine ⟨_, sm8 _ _ (sm7 _ _ hLS), ?_, Same.mut (Same.trans sm6 (Same.trans sm7 sm8)) nLS, chs ++ [ch], ?_, ?_, fun j last' ch' hj hc => ?_⟩
            · rw [List.length_map, List.length_map]
              exact small1000 (by omega)
            · rw [List.length_append, hcl]
              rfl
            · rw [upd_same, List.map_append, List.map_append]
              rfl
            · by_cases z : j = chs.length
              · rw [z, List.getElem?_append_right (Nat.le_refl _), Nat.sub_self] at hc
                cases hc
                rw [z, hcl, hla] at hj
                cases hj
                exact cht
              · have hj2 : j < chs.length := by
                  have := (List.getElem?_eq_some_iff.mp hc).1
                  rw [List.length_append, List.length_singleton] at this
                  omega
                rw [List.getElem?_append_left hj2] at hc
                exact hch j last' ch' hj hc
          · obtain ⟨sm6, chs, hcl, hLS, hch⟩ := hP
            rw [List.length_map] at hcl
            have sm6' : Same H3 H6 := Same.trans sm5' sm6
            have tg6 := tg3.same sm6'
            have nLS0 : H LS = none := Sx.free (tg3.same sm5') (sx3'.trans (Same.sx sm5')) nLS
            -- apart
            refine ⟨.ref U, rfl, .ref aa, rfl, .ref LA, rfl, U, aa, LA, unM nd, m, ak, lasts, rfl, tg6, hunl3.same sm6', husS, by omega, sm6' _ _ hak, ahD, M, sm6 _ _ hL5, hLst, fun H7 AP L B sx7 tg7 hAP kg => ?_⟩
            have hLS7 := sx7 _ _ (tg6.off LS _ (.inr hLS)) hLS
            have hD6 := sm6' _ _ hD3
            have hD7 := sx7 _ _ (tg6.off D _ (.inr hD6)) hD6
            have sx7' : Sx Z.Ps H H7 := (sx3'.trans (Same.sx sm6')).trans sx7
            have hapl : ∀ a ∈ apM (unM nd).length L B, a < (plM nd).length := fun a ha => by
              have := (apM_mem.mp ha).1
              omega
            have haplen : (apM (unM nd).length L B).length ≤ 1000 := by
              have := List.length_filter_le (fun a => decide (a ∈ L) && !decide (a ∈ B)) (List.range (unM nd).length)
              rw [List.length_range] at this
              unfold apM
              omega
            refine ⟨((apM (unM nd).length L B).map fun a => (plM nd).getD a 0).map nV, ⟨tg7 _ hP, AP, D, (apM (unM nd).length L B).map (fun (a : Nat) => ((a : Nat) : Int)), (plM nd).map (fun (a : Nat) => ((a : Nat) : Int)), rfl, ?_, ?_, rfl, ?_, fun n hn => ?_, ?_⟩, tg7 _ hP, fun H8 hT p np => ?_⟩
            · rw [List.length_map]
              exact Nat.le_of_lt (small1000 haplen)
            · rw [← nV_int]
              exact hAP
            · rw [← nV_int]
              exact hD7
            · obtain ⟨a, ha, rfl⟩ := List.mem_map.mp hn
              have := hapl a ha
              rw [List.length_map]
              omega
            · rw [List.map_map, List.map_map]
              refine List.map_congr_left fun a ha => ?_
              have := hapl a ha
              show V.int (((plM nd).getD a 0 : Nat) : Int) = V.int (((plM nd).map (fun (a : Nat) => ((a : Nat) : Int))).getD ((a : Nat) : Int).toNat 0)
              rw [List.getD_eq_getElem?_getD, List.getD_eq_getElem?_getD, List.getElem?_map, show ((a : Nat) : Int).toNat = a from rfl, List.getElem?_eq_getElem this]
              rfl
            · have tg8 := Tabbed.tg tg7 hT
              have sx8 : Sx Z.Ps H H8 := sx7'.trans (Tabbed.sx hP hT)
              have hLS8 := (Tabbed.sx hP hT) _ _ (tg7.off LS _ (.inr hLS7)) hLS7
              have np0 : H p = none := Sx.free tg8 sx8 np
              have sx9 := Sx.new (o := .tup (((apM (unM nd).length L B).map fun a => (plM nd).getD a 0).map nV)) sx8 np
              have tg9 := tg8.new (o := .tup (((apM (unM nd).length L B).map fun a => (plM nd).getD a 0).map nV)) np
              refine ⟨.ref LS, rfl, .ref p, rfl, (by show 2 ≤ sizeLine; decide), fun R nR => ?_⟩
              have nR0 : H R = none := Sx.free tg9 sx9 nR
              refine q _ R LS p (chs.map lstM) ((apM (unM nd).length L B).map fun a => (plM nd).getD a 0) (Sx.new sx9 nR) (tg9.new nR) nR0 nLS0 np0 upd_same (keep_new (keep_new hLS8 np) nR) (keep_new upd_same nR) ?_
              exact few_ok hok M hLst hcl hch kg

/-! ### _law_fits -/
theorem fit_eq (cols : List Nat) (row : List Int) (p : Nat × Int) : spanFit cols row (p.1, p.2, p.2) = decide (rowAt cols row p.1 = p.2) := by
  unfold spanFit
  rw [Bool.eq_iff_iff, Bool.and_eq_true, decide_eq_true_eq, decide_eq_true_eq, decide_eq_true_eq]
  exact ⟨fun h => Int.le_antisymm h.2 h.1, fun h => ⟨Int.le_of_eq h.symm, Int.le_of_eq h⟩⟩
theorem ok_lfits (T : Tx K mg Z) : FnOk P w K mg base CX0 1 Z.f_l_fits Z.d_l_fits ["columns", "row", "question"] (spFits K) := by
  refine T.F_l_fits.ok sc_l_fits (fun vs H Q E h => ?_) (fun cdv A outer s H vs Q E hr h => ?_)
  · obtain ⟨cols, rv, row, qv, es, rc, rfl, _⟩ := h
    rfl
  · obtain ⟨cols, rv, row, qv, es, rc, rfl, fr, hrl, fq, hok, hel, q⟩ := h
    obtain ⟨ra, rfl, hra⟩ := row_open fr
    obtain ⟨qa, x, y, rfl, hqa, fx, fy⟩ := fq
    obtain ⟨ea, ob, ps, rfl, hob, hea, fps⟩ := fx
    have hpl : ps.length = es.length := by rw [fps.len, List.length_map]
    refine ⟨_, (pss_cons (ps_for PassesOwn.never rfl (piT K (pe_ix (ixT K) (pv 2) pe_int (fun _ _ => rfl))) (pgT K (n := 2) (pgs_cons (pg_name (i := 3) sc_l_fits.nd rfl (.inl rfl)) (pgs_cons (pg_name (i := 4) sc_l_fits.nd rfl (.inl rfl)) pgs_nil))) (pss_one (ps_if (pt_cmpR op_ne (pe_ix (ixT K) (pv 1) (bmK K PySem.F.plainAttrs_str PySem.F.slot_str_index PySem.F.type_str_index mt_sindex (pv 0) (pa_cons (pv 3) pa_nil)) (fun _ _ => rfl)) (pv 4) (nomark _)) (pss_one (ps_ret pe_bl)) pss_nil)))
      (pss_cons (ps_if (pt_cmpR op_isN (pe_ix (ixT K) (pv 2) pe_int (fun _ _ => rfl)) pe_non (nomark _)) (pss_one (ps_ret pe_bl)) pss_nil)
      (pss_cons (ps_asg (pe_ix (ixT K) (pv 2) pe_int (fun _ _ => rfl)) (pgT K (n := 3) (pgs_cons (pg_name (i := 3) sc_l_fits.nd rfl (.inl rfl)) (pgs_cons (pg_name (i := 5) sc_l_fits.nd rfl (.inl rfl)) (pgs_cons (pg_name (i := 6) sc_l_fits.nd rfl (.inl rfl)) pgs_nil)))))
      (pss_one (ps_ret (pe_chain op_le op_le (pv 5) (pe_ix (ixT K) (pv 1) (bmK K PySem.F.plainAttrs_str PySem.F.slot_str_index PySem.F.type_str_index mt_sindex (pv 0) (pa_cons (pv 3) pa_nil)) (fun _ _ => rfl)) (pv 6))))))), ?_⟩
    refine ⟨.ref qa, rfl, qa, [.ref ea, y], 0, .ref ea, rfl, rfl, .inl (.inl hqa), rfl, ea, rfl, ⟨_, .inl (.inr ⟨_, hea⟩)⟩, for_it (walk_tup (xs := ps)) (fun i σ H' => ∃ y3 y4 : Option V, σ = [some (tx cols), some (.ref ra), some (.ref qa), y3, y4, none, none] ∧ H' = H ∧ (es.take i).all (fun p => spanFit cols row (p.1, p.2, p.2)) = true)
      ⟨none, none, rfl, rfl, rfl⟩ (fun i σ H' _ hP => ?_) (fun i x σ H3 H4 hi hP hY => ?_) (fun σ H3 hP => ?_)⟩
    · obtain ⟨_, _, _, rfl, _⟩ := hP
      exact .inl (.inr ⟨_, hea⟩)
    · obtain ⟨y3, y4, rfl, rfl, hall⟩ := hP
      obtain ⟨rfl, hx⟩ := hY
      obtain ⟨dd, hdd, fd⟩ := fps.getV hx
      rw [List.getElem?_map] at hdd
      obtain ⟨pr, hpr, rfl⟩ := Option.map_eq_some_iff.mp hdd
      obtain ⟨pa, ys, rfl, hpa, fy2⟩ := fd.open
      obtain ⟨c, v, rfl, fc, fv⟩ := fy2.two
      rw [fc.isStr, fv.isInt] at hpa
      have hm : pr ∈ es := List.mem_of_getElem? hpr
      have hi2 : i < es.length := (List.getElem?_eq_some_iff.mp hpr).1
      have epr : es[i] = pr := (List.getElem?_eq_some_iff.mp hpr).2
      have hcc : pr.1 ∈ cols := (hok.ok pr hm).1
      obtain ⟨orest, hocc⟩ := ix_one hcc
      have hat := row_at hrl hcc
      refine ⟨pa, [sg pr.1, .int pr.2], rfl, .inl (.inl hpa), rfl, sg pr.1, [.int pr.2], rfl, .int pr.2, [], rfl, rfl, ?_⟩
      refine ⟨.ref ra, rfl, tx cols, rfl, rfl, sg pr.1, rfl, _, _, cols.idxOf pr.1, orest, rfl, rfl, hocc, ra, _, _, _, rfl, rfl, .inl (.inl hra), atI_nat hat, .int pr.2, rfl, rfl, _, rfl, ite2 (fun e => ?_) (fun e => ?_)⟩
      · have ne : rowAt cols row pr.1 ≠ pr.2 := fun z => by
          rw [z, decide_eq_true rfl] at e
          cases e
        have bad : fitsM cols row es rc = false := by
          unfold fitsM
          rw [List.all_eq_false]
          refine ⟨(pr.1, pr.2, pr.2), List.mem_append_left _ (List.mem_map_of_mem (f := fun p : Nat × Int => (p.1, p.2, p.2)) hm), ?_⟩
          rw [fit_eq, decide_eq_false ne]
          decide
        have := q _ (Same.refl _)
        rw [bad] at this
        exact this
      · have eq : rowAt cols row pr.1 = pr.2 := by
          by_cases z : rowAt cols row pr.1 = pr.2
          · exact z
          · refine absurd ?_ e
            rw [decide_eq_false (fun z2 => z (V.int.inj z2))]
            rfl
        refine ⟨_, _, rfl, rfl, ?_⟩
        rw [List.take_succ_eq_append_getElem hi2, epr, List.all_append, hall]
        unfold List.all
        show (true && (spanFit cols row (pr.1, pr.2, pr.2) && true)) = true
        rw [fit_eq, decide_eq_true eq]
        rfl
    · obtain ⟨y3, y4, rfl, rfl, hall⟩ := hP
      rw [hpl, List.take_of_length_le (Nat.le_refl _)] at hall
      have hfit : fitsM cols row es rc = rc.toList.all (spanFit cols row) := by
        unfold fitsM spanL
        rw [List.all_append, List.all_map]
        have : (es.all (spanFit cols row ∘ fun p => (p.1, p.2, p.2))) = true := hall
        rw [this, Bool.true_and]
      cases rc with
      | none =>
        obtain rfl : y = .non := fy.isNon
        refine ⟨.ref qa, rfl, qa, [.ref ea, .non], 1, .non, rfl, rfl, .inl (.inl hqa), rfl, rfl, _, rfl, ite2 (fun _ => ?_) (fun z => ?_)⟩
        · have := q _ (Same.refl _)
          rw [hfit] at this
          exact this
        · exact absurd (decide_eq_true rfl) z
      | some t3 =>
        obtain ⟨c, lo, hi⟩ := t3
        obtain ⟨rr, zs, rfl, hrr, fz⟩ := Fz.open (ds := [.str ⟨#[c]⟩, .int lo, .int hi]) fy
        obtain ⟨z1, z2, z3, rfl, g1, g2, g3⟩ := fz.three
        rw [g1.isStr, g2.isInt, g3.isInt] at hrr
        have hcc : c ∈ cols := (hok.rc c lo hi rfl).1
        obtain ⟨orest, hocc⟩ := ix_one hcc
        have hat := row_at hrl hcc
        have hq := q _ (Same.refl _)
        have hf2 : fitsM cols row es (some (c, lo, hi)) = (decide (lo ≤ rowAt cols row c) && decide (rowAt cols row c ≤ hi)) := by
          rw [hfit]
          show (spanFit cols row (c, lo, hi) && true) = _
          rw [Bool.and_true]
          rfl
        rw [hf2] at hq
        refine ⟨.ref qa, rfl, qa, [.ref ea, .ref rr], 1, .ref rr, rfl, rfl, .inl (.inl hqa), rfl, rfl, _, rfl, ite2 (fun z => ?_) (fun _ => ?_)⟩
        · exact absurd (of_decide_eq_true z) (fun z => nomatch z)
        · refine ⟨.ref qa, rfl, qa, [.ref ea, .ref rr], 1, .ref rr, rfl, rfl, .inl (.inl hqa), rfl, rr, [sg c, .int lo, .int hi], rfl, .inl (.inl hrr), rfl, sg c, [.int lo, .int hi], rfl, .int lo, [.int hi], rfl, .int hi, [], rfl, rfl, ?_⟩
          refine ⟨.int lo, rfl, .ref ra, rfl, tx cols, rfl, rfl, sg c, rfl, _, _, cols.idxOf c, orest, rfl, rfl, hocc, ra, _, _, _, rfl, rfl, .inl (.inl hra), atI_nat hat, lo, _, rfl, rfl, _, rfl, ite2 (fun e => ?_) (fun e => ?_)⟩
          · refine ⟨.int hi, rfl, _, hi, rfl, rfl, ?_⟩
            rw [decide_eq_true (of_decide_eq_true e), Bool.true_and] at hq
            exact hq
          · have e1 : ¬ lo ≤ rowAt cols row c := fun z => e (decide_eq_true z)
            rw [decide_eq_false e1, Bool.false_and] at hq
            exact hq

/-! ### _law_need_of -/
def spNeedOf (K : PySem.W.Frag) : Sp := fun vs H Q _ => ∃ (qv : V) (q : Qn), vs = [qv] ∧ QZ H qv q.1 q.2 ∧ q.1.length ≤ 100 ∧ ∀ (p : Addr) (H' : Hp), Same H H' → H p = none → H' p = some (.tup [tx (ndOf q).1, tx (ndOf q).2]) → Q (.ref p) H'
theorem ok_needof (T : Tx K mg Z) : FnOk P w K mg base CX0 1 Z.f_l_need_of Z.d_l_need_of ["question"] (spNeedOf K) := by
  refine T.F_l_need_of.ok sc_l_need_of (fun vs H Q E h => ?_) (fun cdv A outer s H vs Q E hr h => ?_)
  · obtain ⟨qv, q, rfl, _⟩ := h
    rfl
  · obtain ⟨qv, ⟨es, rc⟩, rfl, fq, hel, q⟩ := h
    refine ⟨_, (pss_cons (ps_set (i := 1) sc_l_need_of.nd rfl (.inl rfl) (pe_ifExp (pt_cmpR op_notN (pe_ix (ixT K) (pv 0) pe_int (fun _ _ => rfl)) pe_non (nomark _)) (pe_ix (ixT K) (pe_ix (ixT K) (pv 0) pe_int (fun _ _ => rfl)) pe_int (fun _ _ => rfl)) pe_str))
      (pss_one (ps_ret (pe_tup (pa_cons (pe_join pe_str (pe_lc (own := [("letter", 2), ("number", 3)]) (tt := tYes) (by rfl) sc_l_need_of.nd (piT K (pe_ix (ixT K) (pv 0) pe_int (fun _ _ => rfl))) (blkOk_by (own := [("letter", 2), ("number", 3)]) (by kernel_rfl)) (fun _ _ _ _ _ => (pgT K (n := 2) (pgs_cons (pg_name (i := 2) sc_l_need_of.nd rfl (.inl rfl)) (pgs_cons (pg_name (i := 3) sc_l_need_of.nd rfl (.inl rfl)) pgs_nil)))) (fun _ _ _ _ _ => pts_nil) (fun _ _ _ _ _ => (pv 2)))) (pa_cons (pv 1) pa_nil)))))), ?_⟩
    obtain ⟨qa, x, y, rfl, hqa, fx, fy⟩ := fq
    obtain ⟨ea, ob, ps, rfl, hob, hea, fps⟩ := fx
    dsimp only at fps fy hel
    have hpl : ps.length = es.length := by rw [fps.len, List.length_map]
    cases rc with
    | none =>
      obtain rfl : y = .non := fy.isNon
      refine ⟨.ref qa, rfl, qa, [.ref ea, .non], 1, .non, rfl, rfl, .inl (.inl hqa), rfl, rfl, _, rfl, ite2 (fun z => absurd z (by simp)) (fun _ => ?_)⟩
      refine ⟨⟨_, rfl⟩, .ref qa, rfl, qa, [.ref ea, .non], 0, .ref ea, rfl, rfl, .inl (.inl hqa), rfl, ea, rfl, ⟨_, .inl (.inr ⟨_, hea⟩)⟩, fun D nD => lc_it (walk_tup (xs := ps)) (fun i H' => Same H H' ∧ H' D = some (.lst (((es.take i).map (·.1)).map sg)))
        ⟨Same.new (Same.refl H) nD, upd_same⟩ (fun i H' _ hP => .inl (.inr ⟨_, hP.1 _ _ hea⟩)) (fun i x H3 H4 hi hP hY => ?_) (fun H3 hP => ?_)⟩
      · obtain ⟨sm, hD⟩ := hP
        obtain ⟨rfl, hx⟩ := hY
        obtain ⟨dd, hdd, fd⟩ := fps.getV hx
        rw [List.getElem?_map] at hdd
        obtain ⟨pr, hpr, rfl⟩ := Option.map_eq_some_iff.mp hdd
        have hi2 : i < es.length := (List.getElem?_eq_some_iff.mp hpr).1
        have epr : es[i] = pr := (List.getElem?_eq_some_iff.mp hpr).2
        obtain ⟨pa, ys, rfl, hpa, fy2⟩ := fd.open
        obtain ⟨c', v, rfl, fc, fv⟩ := fy2.two
        rw [fc.isStr, fv.isInt] at hpa
        refine ⟨pa, [sg pr.1, .int pr.2], rfl, .inl (.inl (sm _ _ hpa)), rfl, sg pr.1, [.int pr.2], rfl, .int pr.2, [], rfl, rfl, rfl, sg pr.1, rfl, _, hD, ?_, Same.mut sm nD, ?_⟩
        · rw [List.length_map, List.length_map, List.length_take]
          exact small1000 (by omega)
        · rw [upd_same, List.take_succ_eq_append_getElem hi2, epr, List.map_append, List.map_append]
          rfl
      · obtain ⟨sm, hD⟩ := hP
        rw [hpl, List.take_of_length_le (Nat.le_refl _)] at hD
        refine ⟨_, D, (es.map (·.1)).map sS, rfl, rfl, .inl (.inl (.inl (by rw [← map_sg]; exact hD))), ?_, ?_⟩
        · rw [show (Str.ofString "").length = 0 by decide +kernel, Nat.mul_zero, Nat.add_zero, signs_len, List.length_map]
          exact Nat.le_of_lt (small1000 (by omega))
        rw [join_signs]
        refine ⟨_, rfl, (by show 2 ≤ sizeLine; decide), fun p np => ?_⟩
        refine q p _ (Same.new sm np) (Same.free sm np) ?_
        rw [upd_same, nil_text]
        rfl
    | some r =>
      obtain ⟨c, lo, hi⟩ := r
      obtain ⟨rra, ys, rfl, hra, fys⟩ := fy.open
      obtain ⟨x1, x2, x3, rfl, f1, f2, f3⟩ := fys.three
      rw [f1.isStr, f2.isInt, f3.isInt] at hra
      refine ⟨.ref qa, rfl, qa, [.ref ea, .ref rra], 1, .ref rra, rfl, rfl, .inl (.inl hqa), rfl, rfl, _, rfl, ite2 (fun _ => ?_) (fun z => absurd rfl z)⟩
      refine ⟨.ref qa, rfl, qa, [.ref ea, .ref rra], 1, .ref rra, rfl, rfl, .inl (.inl hqa), rfl, rra, _, 0, sg c, rfl, rfl, .inl (.inl hra), rfl, ?_⟩
      refine ⟨⟨_, rfl⟩, .ref qa, rfl, qa, [.ref ea, .ref rra], 0, .ref ea, rfl, rfl, .inl (.inl hqa), rfl, ea, rfl, ⟨_, .inl (.inr ⟨_, hea⟩)⟩, fun D nD => lc_it (walk_tup (xs := ps)) (fun i H' => Same H H' ∧ H' D = some (.lst (((es.take i).map (·.1)).map sg)))
        ⟨Same.new (Same.refl H) nD, upd_same⟩ (fun i H' _ hP => .inl (.inr ⟨_, hP.1 _ _ hea⟩)) (fun i x H3 H4 hi hP hY => ?_) (fun H3 hP => ?_)⟩
      · obtain ⟨sm, hD⟩ := hP
        obtain ⟨rfl, hx⟩ := hY
        obtain ⟨dd, hdd, fd⟩ := fps.getV hx
        rw [List.getElem?_map] at hdd
        obtain ⟨pr, hpr, rfl⟩ := Option.map_eq_some_iff.mp hdd
        have hi2 : i < es.length := (List.getElem?_eq_some_iff.mp hpr).1
        have epr : es[i] = pr := (List.getElem?_eq_some_iff.mp hpr).2
        obtain ⟨pa, ys, rfl, hpa, fy2⟩ := fd.open
        obtain ⟨c', v, rfl, fc, fv⟩ := fy2.two
        rw [fc.isStr, fv.isInt] at hpa
        refine ⟨pa, [sg pr.1, .int pr.2], rfl, .inl (.inl (sm _ _ hpa)), rfl, sg pr.1, [.int pr.2], rfl, .int pr.2, [], rfl, rfl, rfl, sg pr.1, rfl, _, hD, ?_, Same.mut sm nD, ?_⟩
        · rw [List.length_map, List.length_map, List.length_take]
          exact small1000 (by omega)
        · rw [upd_same, List.take_succ_eq_append_getElem hi2, epr, List.map_append, List.map_append]
          rfl
      · obtain ⟨sm, hD⟩ := hP
        rw [hpl, List.take_of_length_le (Nat.le_refl _)] at hD
        refine ⟨_, D, (es.map (·.1)).map sS, rfl, rfl, .inl (.inl (.inl (by rw [← map_sg]; exact hD))), ?_, ?_⟩
        · rw [show (Str.ofString "").length = 0 by decide +kernel, Nat.mul_zero, Nat.add_zero, signs_len, List.length_map]
          exact Nat.le_of_lt (small1000 (by omega))
        rw [join_signs]
        refine ⟨_, rfl, (by show 2 ≤ sizeLine; decide), fun p np => ?_⟩
        refine q p _ (Same.new sm np) (Same.free sm np) ?_
        rw [upd_same]
        rfl
/-! ### _law_order -/
def spOrder (K : PySem.W.Frag) : Sp := fun vs H Q _ => ∃ (b bl : Addr) (cols : List Nat), vs = [.ref b, tx cols] ∧ Bag b bl H ∧ 0 < cols.length ∧ cols.length ≤ 26 ∧ ∀ (one rest : List Nat) (H' : Hp), Kp b H H' → Bag b bl H' → (rest ++ one).Perm cols → 0 < one.length → Q (tx one) H'
theorem ok_order (T : Tx K mg Z) : FnOk P w K mg base CX0 2 Z.f_l_order Z.d_l_order ["bag", "columns"] (spOrder K) := by
  have G_l_lot : FnOk P w K mg base CX0 1 Z.f_l_lot Z.d_l_lot ["bag", "many"] (spLot K) := ok_lot T
  refine T.F_l_order.ok sc_l_order (fun vs H Q E h => ?_) (fun cdv A outer s H vs Q E hr h => ?_)
  · obtain ⟨b, bl, cols, rfl, _⟩ := h
    rfl
  · obtain ⟨b, bl, cols, rfl, hB, hc0, hc1, q⟩ := h
    refine ⟨_, (pss_cons (ps_set (i := 2) sc_l_order.nd rfl (.inl rfl) (pe_callTy call_list_txt (by rfl) T.m_list (by decide +kernel) (pa_cons (pv 1) pa_nil)))
      (pss_cons (ps_set (i := 3) sc_l_order.nd rfl (.inl rfl) pe_str)
      (pss_cons (ps_for PassesOwn.never rfl (pi_range1 (by rfl) T.m_range (pa_cons (pe_op op_add pe_int (pe_call G_l_lot (hr.mono (by omega)) (by rfl) T.g_l_lot T.F_l_lot.kp T.b_l_lot .nil pass0 (pa_cons (pv 0) (pa_cons (pe_callB call_len_str (by rfl) T.m_len (by decide +kernel) (pa_cons (pv 1) pa_nil)) pa_nil)))) pa_nil)) (pg_name (i := 4) sc_l_order.nd rfl (.inl rfl)) (pss_one (ps_set (i := 3) sc_l_order.nd rfl (.inl rfl) (pe_op op_add_str (pv 3) (bmK K PySem.F.plainAttrs_list PySem.F.slot_list_pop PySem.F.type_list_pop mt_popAt (pv 2) (pa_cons (pe_call G_l_lot (hr.mono (by omega)) (by rfl) T.g_l_lot T.F_l_lot.kp T.b_l_lot .nil pass0 (pa_cons (pv 0) (pa_cons (pe_callB (cLenSq K) (by rfl) T.m_len (by decide +kernel) (pa_cons (pv 2) pa_nil)) pa_nil))) pa_nil))))))
      (pss_one (ps_ret (pv 3)))))), ?_⟩
    refine ⟨tx cols, rfl, _, rfl, by show cols.length ≤ sizeLine; exact Nat.le_of_lt (small1000 (by omega)), fun L nL => ?_⟩
    have ea : (⟨cols.toArray⟩ : Str).cps.toList = cols := by simp
    rw [ea]
    have nLb := hB.ne nL
    have hB1 : Bag b bl (upd H L (.lst (cols.map sg))) := hB.new nL
    have hL1 : (upd H L (.lst (cols.map sg))) L = some (.lst (cols.map sg)) := upd_same
    have kp1 : Kp b H (upd H L (.lst (cols.map sg))) := Kp.new Kp.rfl' nL
    generalize upd H L (.lst (cols.map sg)) = H1 at hB1 hL1 kp1 ⊢
    have hlc : (⟨cols.toArray⟩ : Str).length = cols.length := by
      show cols.toArray.size = cols.length
      simp
    refine ⟨.ref b, rfl, tx cols, rfl, _, rfl, by rw [hlc]; exact Nat.le_of_lt (small1000 (by omega)), b, bl, _, rfl, hB1, by rw [hlc]; omega, by rw [hlc]; omega, fun d H2 kp2 hB2 d0 d1 => ?_⟩
    rw [hlc] at d1
    refine ⟨1, d, rfl, rfl, _, rfl, by omega, by omega, ?_⟩
    refine for_range (fun i σ H' => ∃ (ll ff : List Nat) (y : Option V), σ = [some (.ref b), some (tx cols), some (.ref L), some (tx ff), y] ∧ Kp b H H' ∧ Bag b bl H' ∧ H' L = some (.lst (ll.map sg)) ∧ (ll ++ ff).Perm cols ∧ ff.length = i)
      ⟨cols, [], none, (by rw [nil_text]; rfl), kp1.trans kp2, hB2, kp2 _ _ nLb.1 hL1, by rw [List.append_nil], rfl⟩ (fun i σ H' hi hP => ?_) (fun σ H' hP => ?_)
    · obtain ⟨ll, ff, y, rfl, kp, hB3, hL, hp, hl⟩ := hP
      have hlen : ll.length + ff.length = cols.length := by
        have := hp.length_eq
        rw [List.length_append] at this
        exact this
      have hll : 0 < ll.length := by omega
      refine ⟨tx ff, rfl, .ref L, rfl, .inl ⟨rfl, _, .inl (.inl hL)⟩, .ref b, rfl, .ref L, rfl, L, _, rfl, .inl (.inl (.inl hL)), b, bl, _, rfl, hB3, by rw [List.length_map]; omega, by rw [List.length_map]; omega, fun g H4 kp4 hB4 g0 g1 => ?_⟩
      rw [List.length_map] at g1
      have hg : g.toNat < ll.length := by omega
      have hL4 := kp4 _ _ nLb.1 hL
      have hy : ll[g.toNat]? = some ll[g.toNat] := List.getElem?_eq_getElem hg
      refine ⟨L, _, g, g.toNat, sg ll[g.toNat], rfl, rfl, hL4, by omega, by omega, PySem.seqIndex_of g0 (by rw [List.length_map]; exact g1), ?_, _, _, rfl, rfl, ?_, ?_⟩
      · rw [List.getElem?_map, hy]
        rfl
      · show ff.length + 1 ≤ sizeLine
        exact Nat.le_of_lt (small1000 (by omega))
      · refine ⟨ll.eraseIdx g.toNat, ff ++ [ll[g.toNat]], some (.int (0 + (i : Nat))), ?_, (kp.trans kp4).mut nL, hB4.upd nLb.1 nLb.2, ?_, (popped hy ff).trans hp, by rw [List.length_append, hl]; rfl⟩
        · have e1 : tx (ff ++ [ll[g.toNat]]) = .str ((⟨ff.toArray⟩ : Str) ++ (⟨[ll[g.toNat]].toArray⟩ : Str)) := by
            rw [app_txt]
          rw [e1]
          rfl
        · rw [upd_same, erase_map]
    · obtain ⟨ll, ff, y, rfl, kp, hB3, hL, hp, hl⟩ := hP
      exact ⟨_, rfl, q ff ll H' kp hB3 hp (by omega)⟩
/-! ### _law_read_right -/
theorem shaped_read (ns : List Int) (k : Int) : SeqAt.shaped (.tuple [.list (ns.map PyData.int), .int k]) = true := by
  have h1 : PyData.canLay0 (.list (ns.map PyData.int)) = true := can_ints ns
  have h2 : PyData.depth (.list (ns.map PyData.int)) = 1 := dep_ints ns
  unfold SeqAt.shaped
  show ((PyData.canLay0 (.list (ns.map PyData.int)) && (true && true)) && decide (max (PyData.depth (.list (ns.map PyData.int))) (max 0 0) + 1 ≤ 64)) = true
  rw [h1, h2]
  rfl
theorem eqv_read (ns : List Int) (k : Int) : PyData.eqv (.tuple [.list (ns.map PyData.int), .int k]) (.tuple [.list (ns.map PyData.int), .int k]) = true := by
  show (PyData.eqv (.list (ns.map PyData.int)) (.list (ns.map PyData.int)) && ((k == k) && true)) = true
  rw [eqv_ints]
  simp
structure LsOk (cols : List Nat) (ls : List (List Nat)) : Prop where
  nd : ∀ l ∈ ls, l.Nodup
  sub : ∀ l ∈ ls, ∀ c ∈ l, c ∈ cols
  len : ls.length ≤ 100
def spReadRight (K : PySem.W.Frag) (Z : Ad) : Sp := fun vs H Q _ => ∃ (tv : V) (cols : List Nat) (rows : List (List Int)) (qv : V) (q : Qn) (la : Addr) (ls : List (List Nat)), vs = [tv, qv, .ref la] ∧ TG Z.Ps H ∧ Fz H tv (tabD cols rows) ∧ Cols cols ∧ cols.length ≤ 26 ∧ RowsOk cols.length rows ∧ rows.length ≤ 900 ∧ QZ H qv q.1 q.2 ∧ QOk cols q.1 q.2 ∧
  H la = some (.lst (ls.map tx)) ∧ LsOk cols ls ∧ (∃ l ∈ ls, srv l (ndOf q)) ∧ ∀ (H' : Hp), Sx Z.Ps H H' → TG Z.Ps H' → Q (.bl true) H'
set_option maxHeartbeats 4000000 in
theorem ok_readright (T : Tx K mg Z) (TB : Tb base mg Z) : FnOk P w K mg base CX0 5 Z.f_l_read_right Z.d_l_read_right ["table", "question", "lists"] (spReadRight K Z) := by
  have G_serves : FnOk P w K mg base CX0 3 Z.f_serves Z.d_serves ["one", "question"] (spServes K Z) := ok_serves T TB
  have G_l_fits : FnOk P w K mg base CX0 1 Z.f_l_fits Z.d_l_fits ["columns", "row", "question"] (spFits K) := ok_lfits T
  have G_read : FnOk P w K mg base CX0 4 Z.f_read Z.d_read ["table", "one", "question"] (spRead K Z) := ok_read T TB
  refine T.F_l_read_right.ok sc_l_read_right (fun vs H Q E h => ?_) (fun cdv A outer s H vs Q E hr h => ?_)
  · obtain ⟨tv, cols, rows, qv, q, la, ls, rfl, _⟩ := h
    rfl
  · obtain ⟨tv, cols, rows, qv, ⟨es, rc⟩, la, ls, rfl, tg, ft, hc, hc2, hrows, hrl, fq, hqok, hla, lok, hsv, q⟩ := h
    dsimp only at fq hqok
    refine ⟨_, (pss_cons (ps_setLc (i := 3) (own := [("one", 5)]) (tt := _) (by rfl) sc_l_read_right.nd rfl rfl (sw_true rfl rfl rfl (by decide +kernel)) (piL K (pv 2)) (blkOk_by (own := [("one", 5)]) (by kernel_rfl)) (fun _ _ _ _ _ => (pg_name (i := 5) sc_l_read_right.nd rfl (.inl rfl))) (fun _ _ _ _ _ => (pts_one (pt_val (pe_call G_serves (hr.mono (by omega)) (by rfl) T.g_serves T.F_serves.kp T.b_serves .nil pass0 (pa_cons (pv 5) (pa_cons (pv 1) pa_nil)))))) (fun _ _ _ _ _ => (pv 5)))
      (pss_cons (ps_setLc (i := 4) (own := [("place", 6), ("row", 7)]) (tt := _) (by rfl) sc_l_read_right.nd rfl rfl (sw_true rfl rfl rfl (by decide +kernel)) (enumTK K (by rfl) T.m_enumerate (pa_cons (pe_ix (ixT K) (pv 0) pe_int (fun _ _ => rfl)) pa_nil)) (blkOk_by (own := [("place", 6), ("row", 7)]) (by kernel_rfl)) (fun _ _ _ _ _ => (pgT K (n := 2) (pgs_cons (pg_name (i := 6) sc_l_read_right.nd rfl (.inl rfl)) (pgs_cons (pg_name (i := 7) sc_l_read_right.nd rfl (.inl rfl)) pgs_nil)))) (fun _ _ _ _ _ => (pts_one (pt_val (pe_call G_l_fits (hr.mono (by omega)) (by rfl) T.g_l_fits T.F_l_fits.kp T.b_l_fits .nil pass0 (pa_cons (pe_ix (ixT K) (pv 0) pe_int (fun _ _ => rfl)) (pa_cons (pv 7) (pa_cons (pv 1) pa_nil))))))) (fun _ _ _ _ _ => (pv 6)))
      (pss_one (ps_ret (pe_and (pe_cmpR (neDK K hr.units) (pv 3) (pe_lst pa_nil) (nomark _)) (pe_one (pe_cmpR (eqDK K hr.units) (pe_call G_read (hr.mono (by omega)) (by rfl) T.g_read T.F_read.kp T.b_read .nil pass0 (pa_cons (pv 0) (pa_cons (pe_ix (ixL K) (pv 3) pe_int (fun _ _ => rfl)) (pa_cons (pv 1) pa_nil)))) (pe_tup (pa_cons (pv 4) (pa_cons (pe_callB (cLenSq K) (by rfl) T.m_len (by decide +kernel) (pa_cons (pv 4) pa_nil)) pa_nil))) (nomark _)))))))), ?_⟩
    have hel : es.length ≤ 1000 := by have := hqok.len; omega
    have hll : ∀ l ∈ ls, l.length ≤ 26 := fun l hl => by
      have := nodup_sub_len (lok.nd l hl) (lok.sub l hl)
      omega
    have lsl := lok.len
    -- own
    refine ⟨.ref la, rfl, la, rfl, ⟨_, .inl (.inl hla)⟩, fun D nD => lc_list (xs := ls.map tx) (fun i H' => Sx Z.Ps H H' ∧ TG Z.Ps H' ∧ H' D = some (.lst (((ls.take i).filter fun l => snM l (ndOf (es, rc)).1 (ndOf (es, rc)).2).map tx)))
      ⟨Sx.new Sx.rfl' nD, tg.new nD, upd_same⟩ (fun i H' _ hP => .inl (.inl (hP.1 _ _ (tg.off la _ (.inr hla)) hla))) (fun i x H1 hx hP => ?_) (fun H1 hP => ?_)⟩
    · obtain ⟨sx1, tg1, hD1⟩ := hP
      rw [List.getElem?_map] at hx
      obtain ⟨l, hl, rfl⟩ := Option.map_eq_some_iff.mp hx
      obtain ⟨hi, el⟩ := List.getElem?_eq_some_iff.mp hl
      have hlm := List.mem_of_getElem? hl
      have := hll l hlm
      refine ⟨rfl, tx l, rfl, qv, rfl, cols, l, qv, es, rc, rfl, tg1, by omega, fq.kT (sx1.kT tg), hqok, hel, fun H2 sx2 tg2 => ⟨_, rfl, ?_⟩⟩
      have es1 : servesM l es rc = snM l (ndOf (es, rc)).1 (ndOf (es, rc)).2 := serves_sn (q := (es, rc)) hqok (lok.nd l hlm)
      rw [es1]
      have hD2 := sx2 _ _ (tg1.off D _ (.inr hD1)) hD1
      refine ite2 (fun e => ?_) (fun e => ?_)
      · refine ⟨tx l, rfl, _, hD2, ?_, Sx.mut (sx1.trans sx2) nD, tg2.upd (tg2.off D _ (.inr hD2)), ?_⟩
        · rw [List.length_map]
          have := List.length_filter_le (fun l => snM l (ndOf (es, rc)).1 (ndOf (es, rc)).2) (ls.take i)
          rw [List.length_take] at this
          exact small1000 (by omega)
        · rw [upd_same, List.take_succ_eq_append_getElem hi, el, List.filter_append, List.filter_cons, if_pos e, List.map_append]
          rfl
      · refine ⟨sx1.trans sx2, tg2, ?_⟩
        rw [hD2, List.take_succ_eq_append_getElem hi, el, List.filter_append, List.filter_cons, if_neg e, List.filter_nil, List.append_nil]
    · obtain ⟨sx1, tg1, hD1⟩ := hP
      rw [List.length_map, List.take_of_length_le (Nat.le_refl _)] at hD1
      have kT1 := sx1.kT tg
      have ft1 := ft.kt kT1.1
      have fq1 := fq.kT kT1
      obtain ⟨t, R, rvs, rfl, ht, hR, frs⟩ := tab_open ft1
      have hrvl : rvs.length = rows.length := by rw [frs.len, List.length_map]
      -- due
      refine ⟨.ref t, rfl, t, [tx cols, .ref R], 1, .ref R, rfl, rfl, .inl (.inl ht), rfl, R, _, rfl, .inl (.inl hR), fun D2 nD2 => lc_it (walk_et (xs := rvs)) (fun i H' => Same H1 H' ∧ H' D2 = some (.lst ((((List.range i).filter fun i => fitsM cols (rows.getD i []) es rc).map fun i : Nat => (i : Int)).map V.int)))
        ⟨Same.new (Same.refl H1) nD2, upd_same⟩ (fun i H' _ hP => .inl (.inl (hP.1 _ _ hR))) (fun i x H2 H3 hi hP hY => ?_) (fun H2 hP => ?_)⟩
      · obtain ⟨sm2, hD2⟩ := hP
        obtain ⟨T0, x1, x2, rfl, nT, rfl, e1, e2⟩ := hY
        cases e1
        have e2' : rvs[i]? = some x2 := e2
        obtain ⟨dd, hdd, fd⟩ := frs.getV e2'
        rw [List.getElem?_map] at hdd
        obtain ⟨row, hrow, rfl⟩ := Option.map_eq_some_iff.mp hdd
        have hi2 : i < rows.length := (List.getElem?_eq_some_iff.mp hrow).1
        have erow : rows.getD i [] = row := by rw [List.getD_eq_getElem?_getD, hrow]; rfl
        have sm3 : Same H1 (upd H2 T0 (.tup [.int (i : Nat), x2])) := Same.new sm2 nT
        have hT3 : (upd H2 T0 (.tup [.int (i : Nat), x2])) T0 = some (.tup [.int (i : Nat), x2]) := upd_same
        have hD3 : (upd H2 T0 (.tup [.int (i : Nat), x2])) D2 = some (.lst ((((List.range i).filter fun i => fitsM cols (rows.getD i []) es rc).map fun i : Nat => (i : Int)).map V.int)) := keep_new hD2 nT
        generalize upd H2 T0 (.tup [.int (i : Nat), x2]) = H3 at sm3 hT3 hD3 ⊢
        refine ⟨T0, _, rfl, .inl (.inl hT3), rfl, .int (i : Nat), [x2], rfl, x2, [], rfl, rfl, rfl, ?_⟩
        have nx : (List.range (i + 1)).filter (fun i => fitsM cols (rows.getD i []) es rc) = (List.range i).filter (fun i => fitsM cols (rows.getD i []) es rc) ++ (if fitsM cols row es rc = true then [i] else []) := by
          rw [List.range_succ, List.filter_append, List.filter_cons, List.filter_nil, erow]
        refine ⟨.ref t, rfl, t, [tx cols, .ref R], 0, tx cols, rfl, rfl, .inl (.inl (sm3 _ _ ht)), rfl, x2, rfl, qv, rfl, cols, x2, row, qv, es, rc, rfl, fd.kt (Same.kt sm3), (hrows row (List.mem_of_getElem? hrow)).1, fq1.kT (Same.kT sm3), hqok, hel, fun H4 sm4 => ⟨_, rfl, ite2 (fun e => ?_) (fun e => ?_)⟩⟩
        · rw [if_pos e] at nx
          refine ⟨.int (i : Nat), rfl, _, sm4 _ _ hD3, ?_, Same.mut (Same.trans sm3 sm4) nD2, ?_⟩
          · rw [List.length_map, List.length_map]
            have := List.length_filter_le (fun i => fitsM cols (rows.getD i []) es rc) (List.range i)
            rw [List.length_range] at this
            exact small1000 (by omega)
          · rw [upd_same, nx, List.map_append, List.map_append]
            rfl
        · rw [if_neg e, List.append_nil] at nx
          exact ⟨Same.trans sm3 sm4, by rw [nx]; exact sm4 _ _ hD3⟩
      · obtain ⟨sm2, hD2⟩ := hP
        rw [hrvl, show ((List.range rows.length).filter fun i => fitsM cols (rows.getD i []) es rc).map (fun i : Nat => (i : Int)) = ansM cols rows es rc from rfl] at hD2
        have tg2 := tg1.same sm2
        have hDo := sm2 _ _ hD1
        obtain ⟨l, hl, hs⟩ := hsv
        have hne : ls.filter (fun l => snM l (ndOf (es, rc)).1 (ndOf (es, rc)).2) ≠ [] := fun z => by
          have : l ∈ ls.filter (fun l => snM l (ndOf (es, rc)).1 (ndOf (es, rc)).2) := List.mem_filter.mpr ⟨hl, sn_iff.mpr hs⟩
          rw [z] at this
          cases this
        obtain ⟨l0, more, hlm⟩ := List.exists_cons_of_ne_nil hne
        have hl0 : l0 ∈ ls ∧ snM l0 (ndOf (es, rc)).1 (ndOf (es, rc)).2 = true := by
          have h0 : l0 ∈ ls.filter (fun l => snM l (ndOf (es, rc)).1 (ndOf (es, rc)).2) := by
            rw [hlm]
            simp
          exact List.mem_filter.mp h0
        have hz : ∀ c ∈ cols, c ≤ 122 := fun c h => (hc.az c h).2
        refine ⟨.ref D, rfl, (by show 0 ≤ sizeLine; decide), fun N nN => ?_⟩
        have sm3 : Same H2 (upd H2 N (.lst [])) := Same.new (Same.refl H2) nN
        have hN3 : (upd H2 N (.lst [])) N = some (.lst []) := upd_same
        generalize upd H2 N (.lst []) = H3 at sm3 hN3 ⊢
        refine ⟨_, _, .lst (.inl (.inl (sm3 _ _ hDo))) (dp_texts _), .lst (.inl (.inl hN3)) .nil, shaped_texts (fun l hl c hc => hz c (lok.sub l (List.mem_filter.mp hl).1 c hc)), rfl, _, rfl, ?_⟩
        rw [eqv_texts_nil]
        refine ite2 (fun _ => ?_) (fun e => absurd (by rw [Bool.not_eq_true', ← Bool.not_eq_true, List.isEmpty_iff]; exact hne) e)
        have smA : Same H1 H3 := Same.trans sm2 sm3
        have tg3 := tg2.same sm3
        have es1 : servesM l0 es rc = true := (serves_sn (q := (es, rc)) hqok (lok.nd l0 hl0.1)).trans hl0.2
        have := hll l0 hl0.1
        rw [hlm] at hDo
        have hD0 := sm3 _ _ hDo
        have hdue3 := sm3 _ _ hD2
        have ft3 : Fz H3 (.ref t) (tabD cols rows) := ft1.kt (Same.kt smA)
        refine ⟨.ref t, rfl, .ref D, rfl, D, _, 0, tx l0, rfl, rfl, .inl (.inl hD0), (show atI _ ((0 : Nat) : Int) = _ from atI_nat rfl), qv, rfl, .ref t, cols, rows, l0, qv, es, rc, rfl, tg3, ft3, hrows, by omega, by omega, lok.sub l0 hl0.1, fq1.kT (Same.kT smA), hqok, hel, fun p fl H4 sx4 tg4 np nfl hp hfl => ?_⟩
        have hdue4 := sx4 _ _ (tg3.off D2 _ (.inr hdue3)) hdue3
        refine ⟨.ref D2, rfl, .ref D2, rfl, D2, _, rfl, .inl (.inl (.inl hdue4)), (by show 2 ≤ sizeLine; decide), fun q2 nq2 => ?_⟩
        have elen : ((behindM cols rows l0 es rc : Nat) : Int) - (aheadM cols rows l0 es rc : Nat) = (((ansM cols rows es rc).map V.int).length : Nat) := by
          have h1 := serves_len (rows := rows) hqok es1
          have h2 := st_len (cols := cols) (rows := rows) (one := l0) (es := es) (rc := rc)
          have h3 := ahead_le (rows := rows) (one := l0) hqok
          rw [List.length_map]
          omega
        rw [elen] at hp
        have sm5 : Same H4 (upd H4 q2 (.tup [.ref D2, .int (((ansM cols rows es rc).map V.int).length : Nat)])) := Same.new (Same.refl H4) nq2
        refine ⟨.tuple [.list ((ansM cols rows es rc).map PyData.int), .int (((ansM cols rows es rc).map V.int).length : Nat)], .tuple [.list ((ansM cols rows es rc).map PyData.int), .int (((ansM cols rows es rc).map V.int).length : Nat)], .tup (.inl (.inl (sm5 _ _ hp))) (.cons (.lst (.inl (.inl (sm5 _ _ hfl))) (dp_ints _)) (.cons (.int _) .nil)), .tup (.inl (.inl upd_same)) (.cons (.lst (.inl (.inl (sm5 _ _ hdue4))) (dp_ints _)) (.cons (.int _) .nil)), shaped_read _ _, shaped_read _ _, ?_⟩
        rw [eqv_read]
        exact q _ ((sx1.trans (Same.sx smA)).trans (sx4.trans (Same.sx sm5))) (tg4.same sm5)

/-! ### the law -/
theorem Bag.sx {b bl : Addr} {Ps : List Addr} {H H' : Hp} (h : Bag b bl H) (t : TG Ps H) (s : Sx Ps H H') : Bag b bl H' := by
  obtain ⟨ns, k, n, e, h1, h2⟩ := h
  exact ⟨ns, k, n, e, s _ _ (t.not h1 fun q z => nomatch z) h1, s _ _ (t.not h2 fun q z => nomatch z) h2⟩
theorem TG.kb {b bl : Addr} {Ps : List Addr} {H H' : Hp} (t : TG Ps H) (h : Bag b bl H) (k : Kp b H H') : TG Ps H' := by
  obtain ⟨ns, m, n, e, h1, h2⟩ := h
  exact t.kp h1 k
theorem NA.kt {H H' : Hp} {as : List Addr} {nd : List Nd2} (h : NA H as nd) (k : KT H H') : NA H' as nd := h.mono fun b xs hb => k.1 _ _ hb
theorem sh_nd {p : Nd2} (h : NdS p) : Sh 20 400 (ndD p) := by
  have h0 : ∀ x ∈ [PyData.str (txS p.1), PyData.str (txS p.2)], Sh 1 100 x := fun x hx => by
    rcases List.mem_cons.mp hx with z | z
    · rw [z]
      exact Sh.str (fun c hc => by have := h.az c (List.mem_append_left _ hc); omega) (by have := h.l1; omega)
    · rw [List.mem_singleton.mp z]
      exact Sh.str (fun c hc => by have := h.az c (List.mem_append_right _ hc); omega) (by have := h.l2; omega)
  exact (Sh.tup h0).mono (by decide) (by show 101 * 2 ≤ 400; decide)
theorem one_at_most {f : Nat → Bool} : ∀ {l : List Nat}, l.Pairwise (· < ·) → (∀ a b, a ∈ l → b ∈ l → a ≠ b → f a = true → f b = true → False) → (l.filter f).length ≤ 1
  | [], _, _ => Nat.zero_le _
  | a :: l, hp, h => by
    obtain ⟨h1, h2⟩ := List.pairwise_cons.mp hp
    have ih := one_at_most (l := l) h2 fun x y hx hy => h x y (by simp [hx]) (by simp [hy])
    rw [List.filter_cons]
    split
    · rename_i ha
      have : l.filter f = [] := List.filter_eq_nil_iff.mpr fun x hx hfx => h a x (by simp) (by simp [hx]) (by have := h1 x hx; omega) ha hfx
      rw [this]
      simp
    · exact ih
structure Fnd (qs : List Qn) (cols : List Nat) (ls : List (List Nat)) (ap : List Nat) : Prop where
  ok : LsOk cols ls
  srv : ∀ q ∈ qs, ∃ l ∈ ls, srv l (ndOf q)
  lt : ∀ a ∈ ap, a < qs.length
  up : ap.Pairwise (· < ·)
  apart : ∀ a b p q, a ∈ ap → b ∈ ap → a ≠ b → qs[a]? = some p → qs[b]? = some q → agr (ndOf p) (ndOf q) = false
def spLaw (K : PySem.W.Frag) (Z : Ad) : Sp := fun vs H Q _ => ∃ (a : Addr) (ns : List Int), vs = [.ref a] ∧ SqL K H a (ns.map V.int) ∧ ns.length ≤ 63 ∧ (∀ P ∈ Z.Ps, GxR.TabG H P) ∧ ∀ H', Q (.bl true) H'
set_option maxHeartbeats 16000000 in
theorem ok_law (T : Tx K mg Z) (TB : Tb base mg Z) : FnOk P w K mg base CX0 33 Z.f_law Z.d_law ["script"] (spLaw K Z) := by
  have G_l_bag : FnOk P w K mg base CX0 1 Z.f_l_bag Z.d_l_bag ["script"] (spBag K) := ok_bag T
  have G_l_lot : FnOk P w K mg base CX0 1 Z.f_l_lot Z.d_l_lot ["bag", "many"] (spLot K) := ok_lot T
  have G_l_table : FnOk P w K mg base CX0 3 Z.f_l_table Z.d_l_table ["bag", "most", "rows"] (spTable K) := ok_table T
  have G_l_question : FnOk P w K mg base CX0 3 Z.f_l_question Z.d_l_question ["bag", "table"] (spQuestion K) := ok_question T
  have G_l_need_of : FnOk P w K mg base CX0 1 Z.f_l_need_of Z.d_l_need_of ["question"] (spNeedOf K) := ok_needof T
  have G_is_need : FnOk P w K mg base CX0 5 Z.f_is_need Z.d_is_need ["columns", "thing"] (spIsNeed K Z) := ok_isneed T TB
  have G_l_order : FnOk P w K mg base CX0 2 Z.f_l_order Z.d_l_order ["bag", "columns"] (spOrder K) := ok_order T
  have G_fewest : FnOk P w K mg base CX0 31 Z.f_fewest Z.d_fewest ["columns", "needs"] (spFewest K Z) := ok_fewest T TB
  have G_serves : FnOk P w K mg base CX0 3 Z.f_serves Z.d_serves ["one", "question"] (spServes K Z) := ok_serves T TB
  have G_serves_need : FnOk P w K mg base CX0 1 Z.f_serves_need Z.d_serves_need ["one", "need"] (spServesNeed K) := ok_servesneed T
  have G_l_read_right : FnOk P w K mg base CX0 5 Z.f_l_read_right Z.d_l_read_right ["table", "question", "lists"] (spReadRight K Z) := ok_readright T TB
  refine T.F_law.ok sc_law (fun vs H Q E h => ?_) (fun cdv A outer s H vs Q E hr h => ?_)
  · obtain ⟨a, ns, rfl, _⟩ := h
    rfl
  · obtain ⟨a, ns, rfl, hS, hlen, tgA, q⟩ := h
    have tg : TG Z.Ps H := tgA
    refine ⟨_, (pss_cons (ps_set (i := 1) sc_law.nd rfl (.inr rfl) (pe_call G_l_bag (hr.mono (by omega)) (by rfl) T.g_l_bag T.F_l_bag.kp T.b_l_bag .nil pass0 (pa_cons (pv 0) pa_nil)))
      (pss_cons (ps_for PassesOwn.never rfl (pi_range1 (by rfl) T.m_range (pa_cons pe_int pa_nil)) (pg_name (i := 2) sc_law.nd rfl (.inl rfl)) (pss_cons (ps_set (i := 3) sc_law.nd rfl (.inr rfl) (pe_call G_l_table (hr.mono (by omega)) (by rfl) T.g_l_table T.F_l_table.kp T.b_l_table .nil pass0 (pa_cons (pv 1) (pa_cons pe_int (pa_cons (pe_ix (ixL K) (pe_lst (pa_cons pe_int (pa_cons pe_int pa_nil))) (pe_call G_l_lot (hr.mono (by omega)) (by rfl) T.g_l_lot T.F_l_lot.kp T.b_l_lot .nil pass0 (pa_cons (pv 1) (pa_cons pe_int pa_nil))) (fun _ _ => rfl)) pa_nil)))))
      (pss_cons (ps_set (i := 4) sc_law.nd rfl (.inr rfl) (pe_lc (own := [("k", 10)]) (tt := tYes) (by rfl) sc_law.nd (pi_range1 (by rfl) T.m_range (pa_cons (pe_op op_add pe_int (pe_call G_l_lot (hr.mono (by omega)) (by rfl) T.g_l_lot T.F_l_lot.kp T.b_l_lot .nil pass0 (pa_cons (pv 1) (pa_cons pe_int pa_nil)))) pa_nil)) (blkOk_by (own := [("k", 10)]) (by kernel_rfl)) (fun _ _ _ _ _ => (pg_name (i := 10) sc_law.nd rfl (.inl rfl))) (fun _ _ _ _ _ => pts_nil) (fun _ _ _ _ _ => (pe_call G_l_question (hr.mono (by omega)) (by rfl) T.g_l_question T.F_l_question.kp T.b_l_question .nil pass0 (pa_cons (pv 1) (pa_cons (pv 3) pa_nil))))))
      (pss_cons (ps_set (i := 4) sc_law.nd rfl (.inr rfl) (pe_lc (own := [("question", 11)]) (tt := _) (by rfl) sc_law.nd (piL K (pv 4)) (blkOk_by (own := [("question", 11)]) (by kernel_rfl)) (fun _ _ _ _ _ => (pg_name (i := 11) sc_law.nd rfl (.inl rfl))) (fun _ _ _ _ _ => (pts_one (pt_cmpR (neDK K hr.units) (pe_call G_l_need_of (hr.mono (by omega)) (by rfl) T.g_l_need_of T.F_l_need_of.kp T.b_l_need_of .nil pass0 (pa_cons (pv 11) pa_nil)) (pe_tup (pa_cons pe_str (pa_cons pe_str pa_nil))) (nomark _)))) (fun _ _ _ _ _ => (pv 11))))
      (pss_cons (ps_setLc (i := 5) (own := [("question", 11)]) (tt := tYes) (by rfl) sc_law.nd rfl rfl (sw_true rfl rfl rfl (by decide +kernel)) (piL K (pv 4)) (blkOk_by (own := [("question", 11)]) (by kernel_rfl)) (fun _ _ _ _ _ => (pg_name (i := 11) sc_law.nd rfl (.inl rfl))) (fun _ _ _ _ _ => pts_nil) (fun _ _ _ _ _ => (pe_call G_l_need_of (hr.mono (by omega)) (by rfl) T.g_l_need_of T.F_l_need_of.kp T.b_l_need_of .nil pass0 (pa_cons (pv 11) pa_nil))))
      (pss_cons (ps_if (pt_cmpR (inSq K) pe_bl (pe_lc (own := [("need", 12)]) (tt := tYes) (by rfl) sc_law.nd (piL K (pv 5)) (blkOk_by (own := [("need", 12)]) (by kernel_rfl)) (fun _ _ _ _ _ => (pg_name (i := 12) sc_law.nd rfl (.inl rfl))) (fun _ _ _ _ _ => pts_nil) (fun _ _ _ _ _ => (pe_call G_is_need (hr.mono (by omega)) (by rfl) T.g_is_need T.F_is_need.kp T.b_is_need .nil pass0 (pa_cons (pe_ix (ixT K) (pv 3) pe_int (fun _ _ => rfl)) (pa_cons (pv 12) pa_nil))))) (by rfl)) (pss_one (ps_ret pe_bl)) pss_nil)
      (pss_cons (ps_setLc (i := 6) (own := [("k", 10)]) (tt := tYes) (by rfl) sc_law.nd rfl rfl (sw_true rfl rfl rfl (by decide +kernel)) (pi_range1 (by rfl) T.m_range (pa_cons pe_int pa_nil)) (blkOk_by (own := [("k", 10)]) (by kernel_rfl)) (fun _ _ _ _ _ => (pg_name (i := 10) sc_law.nd rfl (.inl rfl))) (fun _ _ _ _ _ => pts_nil) (fun _ _ _ _ _ => (pe_call G_l_order (hr.mono (by omega)) (by rfl) T.g_l_order T.F_l_order.kp T.b_l_order .nil pass0 (pa_cons (pv 1) (pa_cons (pe_ix (ixT K) (pv 3) pe_int (fun _ _ => rfl)) pa_nil)))))
      (pss_mid (ps_asg (pe_ifExp (pt_cmpR (neDK K hr.units) (pv 5) (pe_lst pa_nil) (nomark _)) (pe_call G_fewest (hr.mono (by omega)) (by rfl) T.g_fewest T.F_fewest.kp T.b_fewest .nil pass0 (pa_cons (pe_ix (ixT K) (pv 3) pe_int (fun _ _ => rfl)) (pa_cons (pv 5) pa_nil))) (pe_tup (pa_cons (pe_lst pa_nil) (pa_cons (pe_tup pa_nil) pa_nil)))) (pgT K (n := 2) (pgs_cons (pg_name (i := 7) sc_law.nd rfl (.inr rfl)) (pgs_cons (pg_name (i := 8) sc_law.nd rfl (.inl rfl)) pgs_nil))))
      (pss_cons (ps_for PassesOwn.never rfl (piL K (pe_op op_cat (pv 6) (pv 7))) (pg_name (i := 9) sc_law.nd rfl (.inr rfl)) (pss_cons (ps_if (pt_cmpR (neDK K hr.units) (pe_lc (own := [("question", 11)]) (tt := tYes) (by rfl) sc_law.nd (piL K (pv 4)) (blkOk_by (own := [("question", 11)]) (by kernel_rfl)) (fun _ _ _ _ _ => (pg_name (i := 11) sc_law.nd rfl (.inl rfl))) (fun _ _ _ _ _ => pts_nil) (fun _ _ _ _ _ => (pe_call G_serves (hr.mono (by omega)) (by rfl) T.g_serves T.F_serves.kp T.b_serves .nil pass0 (pa_cons (pv 9) (pa_cons (pv 11) pa_nil))))) (pe_lc (own := [("need", 12)]) (tt := tYes) (by rfl) sc_law.nd (piL K (pv 5)) (blkOk_by (own := [("need", 12)]) (by kernel_rfl)) (fun _ _ _ _ _ => (pg_name (i := 12) sc_law.nd rfl (.inl rfl))) (fun _ _ _ _ _ => pts_nil) (fun _ _ _ _ _ => (pe_call G_serves_need (hr.mono (by omega)) (by rfl) T.g_serves_need T.F_serves_need.kp T.b_serves_need .nil pass0 (pa_cons (pv 9) (pa_cons (pv 12) pa_nil))))) (nomark _)) (pss_one (ps_ret pe_bl)) pss_nil)
      (pss_one (ps_if (pt_cmpR op_gt (pe_callB (cLenSq K) (by rfl) T.m_len (by decide +kernel) (pa_cons (pe_lc (own := [("k", 10)]) (tt := _) (by rfl) sc_law.nd (piT K (pv 8)) (blkOk_by (own := [("k", 10)]) (by kernel_rfl)) (fun _ _ _ _ _ => (pg_name (i := 10) sc_law.nd rfl (.inl rfl))) (fun _ _ _ _ _ => (pts_one (pt_val (pe_call G_serves (hr.mono (by omega)) (by rfl) T.g_serves T.F_serves.kp T.b_serves .nil pass0 (pa_cons (pv 9) (pa_cons (pe_ix (ixL K) (pv 4) (pv 10) (fun _ _ => rfl)) pa_nil)))))) (fun _ _ _ _ _ => (pv 10))) pa_nil)) pe_int (nomark _)) (pss_one (ps_ret pe_bl)) pss_nil))))
      (pss_one (ps_if (pt_cmpR (inSq K) pe_bl (pe_lc (own := [("question", 11)]) (tt := tYes) (by rfl) sc_law.nd (piL K (pv 4)) (blkOk_by (own := [("question", 11)]) (by kernel_rfl)) (fun _ _ _ _ _ => (pg_name (i := 11) sc_law.nd rfl (.inl rfl))) (fun _ _ _ _ _ => pts_nil) (fun _ _ _ _ _ => (pe_call G_l_read_right (hr.mono (by omega)) (by rfl) T.g_l_read_right T.F_l_read_right.kp T.b_l_read_right .nil pass0 (pa_cons (pv 3) (pa_cons (pv 11) (pa_cons (pv 7) pa_nil)))))) (by rfl)) (pss_one (ps_ret pe_bl)) pss_nil)))))))))))
      (pss_one (ps_ret pe_bl)))), ?_⟩
    refine ⟨.ref a, rfl, a, ns, rfl, hS, hlen, fun b bl H1 sm1 nb nbl hB1 => ?_⟩
    refine ⟨3, rfl, by decide, by decide, for_range (fun i σ H' => ∃ y2 y3 y4 y5 y6 y7 y8 y9 y10 y11 y12 : Option V, σ = [some (.ref a), some (.ref b), y2, y3, y4, y5, y6, y7, y8, y9, y10, y11, y12] ∧ Bag b bl H' ∧ TG Z.Ps H')
      ⟨none, none, none, none, none, none, none, none, none, none, none, rfl, hB1, tg.same sm1⟩ (fun i σ H2 hi hP => ?_) (fun σ H2 hP => q H2)⟩
    obtain ⟨y2, y3, y4, y5, y6, y7, y8, y9, y10, y11, y12, rfl, hB2, tg2⟩ := hP
    -- table
    refine ⟨.ref b, rfl, (by show 2 ≤ sizeLine; decide), fun t nt => ?_⟩
    have hB3 : Bag b bl (upd H2 t (.lst [.int 12, .int 60])) := hB2.new nt
    have tg3 : TG Z.Ps (upd H2 t (.lst [.int 12, .int 60])) := tg2.new nt
    have ht3 : (upd H2 t (.lst [.int 12, .int 60])) t = some (.lst [.int 12, .int 60]) := upd_same
    have ntb := hB2.ne nt
    generalize upd H2 t (.lst [.int 12, .int 60]) = H3 at hB3 tg3 ht3 ⊢
    refine ⟨.ref b, rfl, b, bl, 2, rfl, hB3, by decide, by decide, fun d H4 kp4 hB4 d0 d1 => ?_⟩
    have tg4 := tg3.kb hB3 kp4
    obtain ⟨m, hm, hat⟩ : ∃ m : Nat, m ≤ 60 ∧ atI [V.int 12, V.int 60] d = some (.int m) := by
      have : d = 0 ∨ d = 1 := by omega
      rcases this with rfl | rfl
      · exact ⟨12, by omega, rfl⟩
      · exact ⟨60, by omega, rfl⟩
    refine ⟨t, _, d, .int m, rfl, rfl, .inl (.inl (kp4 _ _ ntb.1 ht3)), hat, b, bl, 6, m, rfl, hB4, by decide, by decide, by omega, fun cols rows tv H5 kp5 hB5 ft5 hc hc1 hc2 hrows hrl => ?_⟩
    have tg5 := tg4.kb hB4 kp5
    have hz : ∀ c ∈ cols, c ≤ 122 := fun c h => (hc.az c h).2
    -- questions
    refine ⟨.ref b, rfl, b, bl, 10, rfl, hB5, by decide, by decide, fun g H6 kp6 hB6 g0 g1 => ?_⟩
    have tg6 := tg5.kb hB5 kp6
    have ft6 := ft5.kt (Kp.kTb kp6 hB5).1
    refine ⟨1, g, rfl, rfl, _, rfl, by omega, by omega, fun D nD => lc_range (fun j H' => ∃ (vs : List V) (qs : List Qn), Kp b H6 H' ∧ Bag b bl H' ∧ H' D = some (.lst vs) ∧ QA H' vs qs ∧ qs.length = j ∧ ∀ q ∈ qs, QOk cols q.1 q.2)
      ⟨[], [], Kp.new Kp.rfl' nD, hB6.new nD, upd_same, .nil, rfl, (fun q hq => nomatch hq)⟩ (fun j H7 hj hP => ?_) (fun H7 hP => ?_)⟩
    · obtain ⟨vs, qs, kp7, hB7, hD7, qa7, hql, hqo⟩ := hP
      have nDb := hB6.ne nD
      refine ⟨rfl, .ref b, rfl, tv, rfl, b, bl, tv, cols, rows, rfl, hB7, ft6.kt (Kp.kTb kp7 hB6).1, hc, by omega, hrows, by omega, fun es rc v H8 kp8 hB8 fq8 hqok => ?_⟩
      have hD8 := kp8 _ _ nDb.1 hD7
      have hvl := qa7.len
      refine ⟨_, hD8, small1000 (by omega), vs ++ [v], qs ++ [(es, rc)], (kp7.trans kp8).mut nD, hB8.upd nDb.1 nDb.2, upd_same, ((qa7.kT (Kp.kTb kp8 hB7)).snoc (q := (es, rc)) fq8).kT (KT.lst hD8), by rw [List.length_append, hql]; rfl, fun z hz => ?_⟩
      rcases List.mem_append.mp hz with y | y
      · exact hqo z y
      · rw [List.mem_singleton.mp y]
        exact hqok
    obtain ⟨vs0, qs0, kp7, hB7, hD7, qa7, hql0, hqo0⟩ := hP
    have tg7 := tg6.kb hB6 kp7
    have ft7 := ft6.kt (Kp.kTb kp7 hB6).1
    have hvl0 := qa7.len
    -- those that ask for something
    refine ⟨.ref D, rfl, D, rfl, ⟨_, .inl (.inl hD7)⟩, fun S nS => lc_list (xs := vs0) (fun j H' => Same H7 H' ∧ ∃ vs, H' S = some (.lst vs) ∧ QA H' vs ((qs0.take j).filter fun q => !decide (ndOf q = ([], []))))
      ⟨Same.new (Same.refl H7) nS, [], upd_same, (by rw [List.take_zero]; exact .nil)⟩ (fun j H' _ hP => .inl (.inl (hP.1 _ _ hD7))) (fun j x H8 hx hP => ?_) (fun H8 hP => ?_)⟩
    · obtain ⟨sm8, vs, hS8, qa8⟩ := hP
      have hj : j < qs0.length := by
        have := (List.getElem?_eq_some_iff.mp hx).1
        omega
      obtain ⟨qn, hqn⟩ : ∃ qn, qs0[j]? = some qn := ⟨qs0[j], List.getElem?_eq_getElem hj⟩
      have eqn : qs0[j] = qn := (List.getElem?_eq_some_iff.mp hqn).2
      obtain ⟨v, hv, fq⟩ := qa7.at hqn
      rw [hx] at hv
      cases hv
      have hqok := hqo0 qn (List.mem_of_getElem? hqn)
      have fq8 := fq.kT (Same.kT sm8)
      refine ⟨rfl, x, rfl, x, qn, rfl, fq8, by have := hqok.len; omega, fun p H9 sm9 np hp => ?_⟩
      refine ⟨(by show 2 ≤ sizeLine; decide), fun e ne => ?_⟩
      have sm10 : Same H9 (upd H9 e (.tup [.str (Str.ofString ""), .str (Str.ofString "")])) := Same.new (Same.refl H9) ne
      have he10 : (upd H9 e (.tup [.str (Str.ofString ""), .str (Str.ofString "")])) e = some (.tup [tx [], tx []]) := by rw [upd_same, nil_text]
      generalize upd H9 e (.tup [.str (Str.ofString ""), .str (Str.ofString "")]) = H10 at sm10 he10 ⊢
      have smA : Same H8 H10 := Same.trans sm9 sm10
      refine ⟨ndD (ndOf qn), ndD ([], []), .tup (.inl (.inl (sm10 _ _ hp))) (.cons (.str _) (.cons (.str _) .nil)), .tup (.inl (.inl he10)) (.cons (.str _) (.cons (.str _) .nil)), shaped_nd (ndOf_s hc (by omega) hqok), (by decide +kernel), _, rfl, ?_⟩
      rw [eqv_nd]
      have hvl := qa8.len
      have hfl := List.length_filter_le (fun q => !decide (ndOf q = ([], []))) (qs0.take j)
      rw [List.length_take] at hfl
      refine ite2 (fun e => ?_) (fun e => ?_)
      · refine ⟨x, rfl, _, smA _ _ hS8, small1000 (by omega), Same.mut (Same.trans sm8 smA) nS, vs ++ [x], upd_same, ?_⟩
        rw [List.take_succ_eq_append_getElem hj, eqn, List.filter_append, List.filter_cons, if_pos e, List.filter_nil]
        exact ((qa8.kT (Same.kT smA)).snoc (fq8.kT (Same.kT smA))).kT (KT.lst (smA _ _ hS8))
      · refine ⟨Same.trans sm8 smA, vs, smA _ _ hS8, ?_⟩
        rw [List.take_succ_eq_append_getElem hj, eqn, List.filter_append, List.filter_cons, if_neg e, List.filter_nil, List.append_nil]
        exact qa8.kT (Same.kT smA)
    obtain ⟨sm8, vs, hS8, qa8⟩ := hP
    rw [hvl0, List.take_of_length_le (Nat.le_refl _)] at qa8
    have hqs : ∀ q ∈ qs0.filter (fun q => !decide (ndOf q = ([], []))), QOk cols q.1 q.2 ∧ ndOf q ≠ ([], []) := fun q hq => by
      obtain ⟨h1, h2⟩ := List.mem_filter.mp hq
      exact ⟨hqo0 q h1, by simpa using h2⟩
    have hql : (qs0.filter (fun q => !decide (ndOf q = ([], [])))).length ≤ 10 := Nat.le_trans (List.length_filter_le _ _) (by omega)
    generalize qs0.filter (fun q => !decide (ndOf q = ([], []))) = qs at qa8 hqs hql
    have hvl := qa8.len
    have tg8 := tg7.same sm8
    have hB8 := hB7.same sm8
    have ft8 := ft7.kt (Same.kt sm8)
    have hnds : ∀ p ∈ qs.map ndOf, NdS p := fun p hp => by
      obtain ⟨q, hq, rfl⟩ := List.mem_map.mp hp
      exact ndOf_s hc (by omega) (hqs q hq).1
    have hndo : ∀ p ∈ qs.map ndOf, NdOk p := fun p hp => by
      obtain ⟨q, hq, rfl⟩ := List.mem_map.mp hp
      exact ndOf_ok (hqs q hq).1
    -- needs
    refine ⟨.ref S, rfl, S, rfl, ⟨_, .inl (.inl hS8)⟩, fun N nN => lc_list (xs := vs) (fun j H' => Same H8 H' ∧ ∃ as, H' N = some (.lst (as.map V.ref)) ∧ NA H' as ((qs.take j).map ndOf))
      ⟨Same.new (Same.refl H8) nN, [], upd_same, (by rw [List.take_zero]; exact .nil)⟩ (fun j H' _ hP => .inl (.inl (hP.1 _ _ hS8))) (fun j x H9 hx hP => ?_) (fun H9 hP => ?_)⟩
    · obtain ⟨sm9, as, hN9, nA9⟩ := hP
      have hj : j < qs.length := by
        have := (List.getElem?_eq_some_iff.mp hx).1
        omega
      obtain ⟨qn, hqn⟩ : ∃ qn, qs[j]? = some qn := ⟨qs[j], List.getElem?_eq_getElem hj⟩
      have eqn : qs[j] = qn := (List.getElem?_eq_some_iff.mp hqn).2
      obtain ⟨v, hv, fq⟩ := qa8.at hqn
      rw [hx] at hv
      cases hv
      have hqok := (hqs qn (List.mem_of_getElem? hqn)).1
      have hal := nA9.len
      rw [List.length_map, List.length_take] at hal
      refine ⟨rfl, x, rfl, x, qn, rfl, fq.kT (Same.kT sm9), by have := hqok.len; omega, fun p H10 sm10 np hp => ?_⟩
      have hN10 := sm10 _ _ hN9
      refine ⟨_, hN10, by rw [List.length_map]; exact small1000 (by omega), Same.mut (Same.trans sm9 sm10) nN, as ++ [p], ?_, ?_⟩
      · rw [upd_same, List.map_append]
        rfl
      · rw [List.take_succ_eq_append_getElem hj, eqn, List.map_append]
        refine NA.snoc (nA9.mono fun c xs hc => keep_ne (sm10 _ _ hc) fun z => ?_) (keep_ne hp fun z => ?_)
        · rw [z, hN9] at hc
          cases hc
        · rw [z, hN10] at hp
          cases hp
    obtain ⟨sm9, as, hN9, nA9⟩ := hP
    rw [hvl, List.take_of_length_le (Nat.le_refl _)] at nA9
    have hal := nA9.len
    rw [List.length_map] at hal
    have tg9 := tg8.same sm9
    have hB9 := hB8.same sm9
    have ft9 := ft8.kt (Same.kt sm9)
    have qa9 := qa8.kT (Same.kT sm9)
    have hS9 := sm9 _ _ hS8
    obtain ⟨tt, R, rvs, rfl, _⟩ := tab_open ft9
    -- each is a need
    refine ⟨.ref N, rfl, N, rfl, ⟨_, .inl (.inl hN9)⟩, fun D2 nD2 => lc_list (xs := as.map V.ref) (fun j H' => Sx Z.Ps H9 H' ∧ TG Z.Ps H' ∧ H' D2 = some (.lst (List.replicate j (.bl true))))
      ⟨Sx.new Sx.rfl' nD2, tg9.new nD2, upd_same⟩ (fun j H' _ hP => .inl (.inl (hP.1 _ _ (tg9.off N _ (.inr hN9)) hN9))) (fun j x H10 hx hP => ?_) (fun H10 hP => ?_)⟩
    · obtain ⟨sx10, tg10, hD10⟩ := hP
      rw [List.getElem?_map] at hx
      obtain ⟨c, hcc, rfl⟩ := Option.map_eq_some_iff.mp hx
      have hj : j < qs.length := by
        have := (List.getElem?_eq_some_iff.mp hcc).1
        omega
      obtain ⟨qn, hqn⟩ : ∃ qn, qs[j]? = some qn := ⟨qs[j], List.getElem?_eq_getElem hj⟩
      have hpn : (qs.map ndOf)[j]? = some (ndOf qn) := by rw [List.getElem?_map, hqn]; rfl
      obtain ⟨a', ha', hao⟩ := nA9.at hpn
      rw [hcc] at ha'
      cases ha'
      have hqq := hqs qn (List.mem_of_getElem? hqn)
      obtain ⟨t1, R1, rvs1, e1, ht1, _⟩ := tab_open (ft9.kt (sx10.kT tg9).1)
      cases e1
      have hao10 := sx10 _ _ (tg9.off c _ (.inl hao)) hao
      refine ⟨rfl, .ref tt, rfl, tt, _, 0, tx cols, rfl, rfl, .inl (.inl ht1), rfl, .ref c, rfl, cols, .ref c, ndD (ndOf qn), rfl, tg10, .tup hao10 (.cons (.str _) (.cons (.str _) .nil)), sh_nd (ndOf_s hc (by omega) hqq.1), fun H11 sx11 tg11 => ?_⟩
      have hq1 : isNeedD cols (ndD (ndOf qn)) = true := need_of_str.trans (ndOf_need hqq.1 hqq.2)
      rw [hq1]
      have hD11 := sx11 _ _ (tg10.off D2 _ (.inr hD10)) hD10
      refine ⟨_, hD11, ?_, Sx.mut (sx10.trans sx11) nD2, tg11.upd (tg11.off D2 _ (.inr hD11)), ?_⟩
      · rw [List.length_replicate]
        exact small1000 (by omega)
      · rw [upd_same, List.replicate_succ']
    obtain ⟨sx10, tg10, hD10⟩ := hP
    refine ⟨D2, _, rfl, .inl (.inl (.inl hD10)), rfl, flat_reps _ _, _, rfl, ite2 (fun e => absurd (show inV (.bl !true) (List.replicate _ (.bl true)) = true from e) (by rw [inV_reps true]; decide)) (fun _ => ?_)⟩
    have hB10 := hB9.sx tg9 sx10
    have kt10 := sx10.kT tg9
    have ft10 := ft9.kt kt10.1
    have qa10 := qa9.kT kt10
    have nA10 := nA9.kt kt10
    have hS10 := sx10 _ _ (tg9.off S _ (.inr hS9)) hS9
    have hN10 := sx10 _ _ (tg9.off N _ (.inr hN9)) hN9
    have nSb := (hB7.ne nS).1
    have nNb := (hB8.ne nN).1
    -- drawn lists
    refine ⟨6, rfl, by decide, by decide, fun DR nDR => lc_range (fun j H' => ∃ ds : List (List Nat), Kp b H10 H' ∧ Bag b bl H' ∧ H' DR = some (.lst (ds.map tx)) ∧ ds.length = j ∧ ∀ l ∈ ds, l.Nodup ∧ ∀ c ∈ l, c ∈ cols)
      ⟨[], Kp.new Kp.rfl' nDR, hB10.new nDR, upd_same, rfl, (fun l hl => nomatch hl)⟩ (fun j H11 hj hP => ?_) (fun H11 hP => ?_)⟩
    · obtain ⟨ds, kp11, hB11, hR11, hdl, hds⟩ := hP
      have nRb := hB10.ne nDR
      obtain ⟨t1, R1, rvs1, e1, ht1, _⟩ := tab_open (ft10.kt (Kp.kTb kp11 hB10).1)
      cases e1
      refine ⟨rfl, .ref b, rfl, .ref tt, rfl, tt, _, 0, tx cols, rfl, rfl, .inl (.inl ht1), rfl, b, bl, cols, rfl, hB11, by omega, by omega, fun one rest H12 kp12 hB12 hpm h1 => ?_⟩
      have hR12 := kp12 _ _ nRb.1 hR11
      refine ⟨_, hR12, by rw [List.length_map]; exact small1000 (by omega), ds ++ [one], (kp11.trans kp12).mut nDR, hB12.upd nRb.1 nRb.2, ?_, by rw [List.length_append, hdl]; rfl, fun z hz => ?_⟩
      · rw [upd_same, List.map_append]
        rfl
      · rcases List.mem_append.mp hz with y | y
        · exact hds z y
        · rw [List.mem_singleton.mp y]
          exact ⟨(List.nodup_append.mp (hpm.nodup_iff.mpr hc.nd)).2.1, fun c h => hpm.mem_iff.mp (List.mem_append_right _ h)⟩
    obtain ⟨ds, kp11, hB11, hR11, hdl, hds⟩ := hP
    have tg11 := tg10.kb hB10 kp11
    have kt11 := Kp.kTb kp11 hB10
    have ft11 := ft10.kt kt11.1
    have qa11 := qa10.kT kt11
    have nA11 := nA10.kt kt11
    have hS11 := kp11 _ _ nSb hS10
    have hN11 := kp11 _ _ nNb hN10
    obtain ⟨t1, R1, rvs1, e1, ht11, _⟩ := tab_open ft11
    cases e1
    -- the fewest lists
    refine ⟨fun σ H' => ∃ (la ta : Addr) (ls : List (List Nat)) (ap : List Nat), σ = [some (.ref a), some (.ref b), some (.int (0 + (i : Nat))), some (.ref tt), some (.ref S), some (.ref N), some (.ref DR), some (.ref la), some (.ref ta), y9, y10, y11, y12] ∧ Sx Z.Ps H11 H' ∧ TG Z.Ps H' ∧ H' la = some (.lst (ls.map tx)) ∧ H' ta = some (.tup (ap.map nV)) ∧ Fnd qs cols ls ap, ?_, fun σ H12 hM => ?_⟩
    · refine ⟨.ref N, rfl, (by show 0 ≤ sizeLine; decide), fun E0 nE0 => ?_⟩
      have sm12 : Same H11 (upd H11 E0 (.lst [])) := Same.new (Same.refl H11) nE0
      have hE12 : (upd H11 E0 (.lst [])) E0 = some (.lst []) := upd_same
      generalize upd H11 E0 (.lst []) = H12 at sm12 hE12 ⊢
      have tg12 := tg11.same sm12
      have nA12 := nA11.kt (Same.kT sm12)
      have hN12 := sm12 _ _ hN11
      refine ⟨_, _, .lst (.inl (.inl hN12)) nA12.dp, .lst (.inl (.inl hE12)) (NA.dp .nil), shaped_nds hnds, rfl, _, rfl, ?_⟩
      rw [eqv_nds]
      refine ite2 (fun e => ?_) (fun e => ?_)
      · refine ⟨.ref tt, rfl, tt, _, 0, tx cols, rfl, rfl, .inl (.inl (sm12 _ _ ht11)), rfl, .ref N, rfl, tx cols, N, _, rfl, tg12, ⟨as, hN12, nA12⟩, hnds, hndo, by rw [List.length_map]; omega, fun H13 p la ta ls ap sx13 tg13 np nla nta hp hla hta few => ?_⟩
        refine ⟨p, [.ref la, .ref ta], rfl, .inl (.inl hp), rfl, .ref la, [.ref ta], rfl, .ref ta, [], rfl, rfl, ?_⟩
        refine ⟨la, ta, ls, ap, rfl, (Same.sx sm12).trans sx13, tg13, hla, hta, ⟨⟨fun l hl => (few.lst l hl).1, fun l hl c hc' => ?_, ?_⟩, fun q hq => few.srv _ (List.mem_map.mpr ⟨q, hq, rfl⟩), fun x hx => ?_, few.up, fun x y p' q' hx hy hne hp' hq' => ?_⟩⟩
        · obtain ⟨p', hp', hcp⟩ := (few.lst l hl).2.1 c hc'
          obtain ⟨q, hq, rfl⟩ := List.mem_map.mp hp'
          exact ndOf_in (hqs q hq).1 c hcp
        · rw [few.len]
          have := nodup_lt_len (few.up.imp fun {a b} z => by omega) few.lt
          rw [List.length_map] at this
          omega
        · have := few.lt x hx
          rw [List.length_map] at this
          exact this
        · exact few.apart x y _ _ hx hy hne (by rw [List.getElem?_map, hp']; rfl) (by rw [List.getElem?_map, hq']; rfl)
      · have hqn : qs = [] := by
          have : qs.map ndOf = [] := by simpa using e
          exact List.map_eq_nil_iff.mp this
        refine ⟨(by show 0 ≤ sizeLine; decide), fun la nla => ⟨(by show 0 ≤ sizeLine; decide), fun ta nta => ⟨(by show 2 ≤ sizeLine; decide), fun p np => ?_⟩⟩⟩
        have smX : Same H12 (upd (upd (upd H12 la (.lst [])) ta (.tup [])) p (.tup [.ref la, .ref ta])) := Same.new (Same.new (Same.new (Same.refl H12) nla) nta) np
        refine ⟨p, [.ref la, .ref ta], rfl, .inl (.inl upd_same), rfl, .ref la, [.ref ta], rfl, .ref ta, [], rfl, rfl, ?_⟩
        refine ⟨la, ta, [], [], rfl, Same.sx (Same.trans sm12 smX), tg12.same smX, keep_new (keep_new upd_same nta) np, keep_new upd_same np, ⟨⟨(fun l hl => nomatch hl), (fun l hl => nomatch hl), Nat.zero_le _⟩, fun q hq => ?_, (fun x hx => nomatch hx), List.Pairwise.nil, (fun x y p q hx => nomatch hx)⟩⟩
        rw [hqn] at hq
        cases hq
    obtain ⟨la, ta, ls, ap, rfl, sx12, tg12, hla12, hta12, fnd⟩ := hM
    have hB12 := hB11.sx tg11 sx12
    have kt12 := sx12.kT tg11
    have ft12 := ft11.kt kt12.1
    have qa12 := qa11.kT kt12
    have nA12 := nA11.kt kt12
    have hS12 := sx12 _ _ (tg11.off S _ (.inr hS11)) hS11
    have hN12 := sx12 _ _ (tg11.off N _ (.inr hN11)) hN11
    have hR12 := sx12 _ _ (tg11.off DR _ (.inr hR11)) hR11
    have hall : ∀ l ∈ ds ++ ls, l.Nodup ∧ (∀ c ∈ l, c ∈ cols) ∧ l.length ≤ 26 := fun l hl => by
      have h1 : l.Nodup ∧ ∀ c ∈ l, c ∈ cols := by
        rcases List.mem_append.mp hl with z | z
        · exact hds l z
        · exact ⟨fnd.ok.nd l z, fnd.ok.sub l z⟩
      have := nodup_sub_len h1.1 h1.2
      exact ⟨h1.1, h1.2, by omega⟩
    have hlsl := fnd.ok.len
    refine ⟨.ref DR, rfl, .ref la, rfl, DR, la, _, _, rfl, rfl, hR12, hla12, by rw [List.length_map, List.length_map]; exact Nat.le_of_lt (small1000 (by omega)), fun C nC => ?_⟩
    rw [← List.map_append]
    have sm13 : Same H12 (upd H12 C (.lst ((ds ++ ls).map tx))) := Same.new (Same.refl H12) nC
    have hC13 : (upd H12 C (.lst ((ds ++ ls).map tx))) C = some (.lst ((ds ++ ls).map tx)) := upd_same
    generalize upd H12 C (.lst ((ds ++ ls).map tx)) = H13 at sm13 hC13 ⊢
    have tg13 := tg12.same sm13
    refine ⟨C, rfl, ⟨_, .inl (.inl hC13)⟩, for_list (xs := (ds ++ ls).map tx) (fun j σ H' => ∃ y9 y10 y11 y12 : Option V, σ = [some (.ref a), some (.ref b), some (.int (0 + (i : Nat))), some (.ref tt), some (.ref S), some (.ref N), some (.ref DR), some (.ref la), some (.ref ta), y9, y10, y11, y12] ∧ Sx Z.Ps H13 H' ∧ TG Z.Ps H')
      ⟨_, _, _, _, rfl, Sx.rfl', tg13⟩ (fun j σ H' _ hP => by
        obtain ⟨_, _, _, _, _, sx, _⟩ := hP
        exact .inl (.inl (sx _ _ (tg13.off C _ (.inr hC13)) hC13))) (fun j x σ H14 hx hP => ?_) (fun σ H14 hP => ?_)⟩
    · obtain ⟨y9, y10, y11, y12, rfl, sx14, tg14⟩ := hP
      rw [List.getElem?_map] at hx
      obtain ⟨l, hl, rfl⟩ := Option.map_eq_some_iff.mp hx
      obtain ⟨hl1, hl2, hl3⟩ := hall l (List.mem_of_getElem? hl)
      have sxA : Sx Z.Ps H12 H14 := (Same.sx sm13).trans sx14
      have ktA := sxA.kT tg12
      have qa14 := qa12.kT ktA
      have nA14 := nA12.kt ktA
      have hS14 := sxA _ _ (tg12.off S _ (.inr hS12)) hS12
      have hN14 := sxA _ _ (tg12.off N _ (.inr hN12)) hN12
      have hta14 := sxA _ _ (tg12.off ta _ (.inl hta12)) hta12
      -- the questions
      refine ⟨.ref S, rfl, S, rfl, ⟨_, .inl (.inl hS14)⟩, fun D5 nD5 => lc_list (xs := vs) (fun k H' => Sx Z.Ps H14 H' ∧ TG Z.Ps H' ∧ H' D5 = some (.lst (((qs.take k).map fun q => snM l (ndOf q).1 (ndOf q).2).map V.bl)))
        ⟨Sx.new Sx.rfl' nD5, tg14.new nD5, upd_same⟩ (fun k H' _ hP => .inl (.inl (hP.1 _ _ (tg14.off S _ (.inr hS14)) hS14))) (fun k x H15 hx hP => ?_) (fun H15 hP => ?_)⟩
      · obtain ⟨sx15, tg15, hD15⟩ := hP
        have hk : k < qs.length := by
          have := (List.getElem?_eq_some_iff.mp hx).1
          omega
        obtain ⟨qn, hqn⟩ : ∃ qn, qs[k]? = some qn := ⟨qs[k], List.getElem?_eq_getElem hk⟩
        have eqn : qs[k] = qn := (List.getElem?_eq_some_iff.mp hqn).2
        obtain ⟨v, hv, fq⟩ := qa14.at hqn
        rw [hx] at hv
        cases hv
        have hqok := (hqs qn (List.mem_of_getElem? hqn)).1
        refine ⟨rfl, tx l, rfl, x, rfl, cols, l, x, qn.1, qn.2, rfl, tg15, by omega, fq.kT (sx15.kT tg14), hqok, by have := hqok.len; omega, fun H16 sx16 tg16 => ?_⟩
        have es1 : servesM l qn.1 qn.2 = snM l (ndOf qn).1 (ndOf qn).2 := serves_sn hqok hl1
        rw [es1]
        have hD16 := sx16 _ _ (tg15.off D5 _ (.inr hD15)) hD15
        refine ⟨_, hD16, by rw [List.length_map, List.length_map, List.length_take]; exact small1000 (by omega), Sx.mut (sx15.trans sx16) nD5, tg16.upd (tg16.off D5 _ (.inr hD16)), ?_⟩
        rw [upd_same, List.take_succ_eq_append_getElem hk, eqn, List.map_append, List.map_append]
        rfl
      · obtain ⟨sx15, tg15, hD15⟩ := hP
        rw [hvl, List.take_of_length_le (Nat.le_refl _)] at hD15
        have kt15 := sx15.kT tg14
        have hN15 := sx15 _ _ (tg14.off N _ (.inr hN14)) hN14
        have nA15 := nA14.kt kt15
        -- the needs
        refine ⟨.ref N, rfl, N, rfl, ⟨_, .inl (.inl hN15)⟩, fun D6 nD6 => lc_list (xs := as.map V.ref) (fun k H' => Same H15 H' ∧ H' D6 = some (.lst (((qs.take k).map fun q => snM l (ndOf q).1 (ndOf q).2).map V.bl)))
          ⟨Same.new (Same.refl H15) nD6, upd_same⟩ (fun k H' _ hP => .inl (.inl (hP.1 _ _ hN15))) (fun k x H16 hx hP => ?_) (fun H16 hP => ?_)⟩
        · obtain ⟨sm16, hD16⟩ := hP
          rw [List.getElem?_map] at hx
          obtain ⟨c, hcc, rfl⟩ := Option.map_eq_some_iff.mp hx
          have hk : k < qs.length := by
            have := (List.getElem?_eq_some_iff.mp hcc).1
            omega
          obtain ⟨qn, hqn⟩ : ∃ qn, qs[k]? = some qn := ⟨qs[k], List.getElem?_eq_getElem hk⟩
          have eqn : qs[k] = qn := (List.getElem?_eq_some_iff.mp hqn).2
          have hpn : (qs.map ndOf)[k]? = some (ndOf qn) := by rw [List.getElem?_map, hqn]; rfl
          obtain ⟨a', ha', hao⟩ := nA15.at hpn
          rw [hcc] at ha'
          cases ha'
          have ps := hnds _ (List.mem_of_getElem? hpn)
          have pl := ps.l1
          refine ⟨rfl, tx l, rfl, .ref c, rfl, l, (ndOf qn).1, (ndOf qn).2, c, rfl, sm16 _ _ hao, by omega, by omega, fun c h => hz c (hl2 c h), fun c h => ps.az c (List.mem_append_left _ h), fun H17 sm17 => ?_⟩
          refine ⟨_, sm17 _ _ hD16, by rw [List.length_map, List.length_map, List.length_take]; exact small1000 (by omega), Same.mut (Same.trans sm16 sm17) nD6, ?_⟩
          rw [upd_same, List.take_succ_eq_append_getElem hk, eqn, List.map_append, List.map_append]
          rfl
        · obtain ⟨sm16, hD16⟩ := hP
          rw [List.length_map, hal, List.take_of_length_le (Nat.le_refl _)] at hD16
          refine ⟨_, _, .lst (.inl (.inl (sm16 _ _ hD15))) (dp_bls _), .lst (.inl (.inl hD16)) (dp_bls _), shaped_bls _, shaped_bls _, _, rfl, ?_⟩
          rw [eqv_bls]
          refine ite2 (fun e => absurd e (by simp)) (fun _ => ?_)
          have tg16 := tg15.same sm16
          have sx16 : Sx Z.Ps H14 H16 := sx15.trans (Same.sx sm16)
          have kt16 := sx16.kT tg14
          have qa16 := qa14.kT kt16
          have hS16 := sx16 _ _ (tg14.off S _ (.inr hS14)) hS14
          have hta16 := sx16 _ _ (tg14.off ta _ (.inl hta14)) hta14
          -- those apart
          refine ⟨.ref ta, rfl, ta, rfl, ⟨_, .inl (.inl hta16)⟩, fun D7 nD7 => lc_it (walk_tup (xs := ap.map nV)) (fun k H' => Sx Z.Ps H16 H' ∧ TG Z.Ps H' ∧ H' D7 = some (.lst (((ap.take k).filter fun x => match qs[x]? with | some q => snM l (ndOf q).1 (ndOf q).2 | none => false).map nV)))
            ⟨Sx.new Sx.rfl' nD7, tg16.new nD7, upd_same⟩ (fun k H' _ hP => .inl (.inl (hP.1 _ _ (tg16.off ta _ (.inl hta16)) hta16))) (fun k x H17 H18 hk hP hY => ?_) (fun H17 hP => ?_)⟩
          · obtain ⟨sx17, tg17, hD17⟩ := hP
            obtain ⟨rfl, hx⟩ := hY
            rw [List.getElem?_map] at hx
            obtain ⟨c, hcc, rfl⟩ := Option.map_eq_some_iff.mp hx
            obtain ⟨hk2, ek⟩ := List.getElem?_eq_some_iff.mp hcc
            have hclt := fnd.lt c (List.mem_of_getElem? hcc)
            obtain ⟨qn, hqn⟩ : ∃ qn, qs[c]? = some qn := ⟨qs[c], List.getElem?_eq_getElem hclt⟩
            obtain ⟨v, hv, fq⟩ := qa16.at hqn
            have hqok := (hqs qn (List.mem_of_getElem? hqn)).1
            have hapl := nodup_lt_len (fnd.up.imp fun {a b} z => by omega) fnd.lt
            refine ⟨rfl, tx l, rfl, .ref S, rfl, nV c, rfl, S, _, _, v, rfl, rfl, .inl (.inl (sx17 _ _ (tg16.off S _ (.inr hS16)) hS16)), atI_nat hv, cols, l, v, qn.1, qn.2, rfl, tg17, by omega, fq.kT (sx17.kT tg16), hqok, by have := hqok.len; omega, fun H19 sx19 tg19 => ⟨_, rfl, ?_⟩⟩
            have es1 : servesM l qn.1 qn.2 = snM l (ndOf qn).1 (ndOf qn).2 := serves_sn hqok hl1
            rw [es1]
            have hD19 := sx19 _ _ (tg17.off D7 _ (.inr hD17)) hD17
            have em : (match qs[c]? with | some q => snM l (ndOf q).1 (ndOf q).2 | none => false) = snM l (ndOf qn).1 (ndOf qn).2 := by rw [hqn]
            refine ite2 (fun e => ?_) (fun e => ?_)
            · refine ⟨nV c, rfl, _, hD19, ?_, Sx.mut (sx17.trans sx19) nD7, tg19.upd (tg19.off D7 _ (.inr hD19)), ?_⟩
              · rw [List.length_map]
                have := List.length_filter_le (fun x => match qs[x]? with | some q => snM l (ndOf q).1 (ndOf q).2 | none => false) (ap.take k)
                rw [List.length_take] at this
                exact small1000 (by omega)
              · rw [upd_same, List.take_succ_eq_append_getElem hk2, ek, List.filter_append, List.filter_cons, if_pos (em.trans e), List.map_append]
                rfl
            · refine ⟨sx17.trans sx19, tg19, ?_⟩
              rw [hD19, List.take_succ_eq_append_getElem hk2, ek, List.filter_append, List.filter_cons, if_neg (fun z => e (em.symm.trans z)), List.filter_nil, List.append_nil]
          · obtain ⟨sx17, tg17, hD17⟩ := hP
            rw [List.length_map, List.take_of_length_le (Nat.le_refl _)] at hD17
            have hmost : (ap.filter fun x => match qs[x]? with | some q => snM l (ndOf q).1 (ndOf q).2 | none => false).length ≤ 1 := one_at_most fnd.up fun x y hx hy hne h1 h2 => by
              obtain ⟨p1, hp1⟩ : ∃ p1, qs[x]? = some p1 := ⟨qs[x]'(fnd.lt x hx), List.getElem?_eq_getElem (fnd.lt x hx)⟩
              obtain ⟨p2, hp2⟩ : ∃ p2, qs[y]? = some p2 := ⟨qs[y]'(fnd.lt y hy), List.getElem?_eq_getElem (fnd.lt y hy)⟩
              rw [hp1] at h1
              rw [hp2] at h2
              have := fnd.apart x y p1 p2 hx hy hne hp1 hp2
              rw [srv_agr (sn_srv h1) (sn_srv h2)] at this
              cases this
            refine ⟨D7, _, rfl, .inl (.inl (.inl hD17)), _, 1, rfl, rfl, _, rfl, ?_⟩
            rw [List.length_map]
            refine ite2 (fun e => ?_) (fun _ => ?_)
            · have := of_decide_eq_true e
              omega
            · exact ⟨_, _, _, _, rfl, sx14.trans (sx16.trans sx17), tg17⟩
    · obtain ⟨y9, y10, y11, y12, rfl, sx14, tg14⟩ := hP
      have sxA : Sx Z.Ps H12 H14 := (Same.sx sm13).trans sx14
      have ktA := sxA.kT tg12
      have qa14 := qa12.kT ktA
      have ft14 := ft12.kt ktA.1
      have hS14 := sxA _ _ (tg12.off S _ (.inr hS12)) hS12
      have hla14 := sxA _ _ (tg12.off la _ (.inr hla12)) hla12
      have hB14 := hB12.sx tg12 sxA
      refine ⟨.ref S, rfl, S, rfl, ⟨_, .inl (.inl hS14)⟩, fun D8 nD8 => lc_list (xs := vs) (fun k H' => Sx Z.Ps H14 H' ∧ TG Z.Ps H' ∧ H' D8 = some (.lst (List.replicate k (.bl true))))
        ⟨Sx.new Sx.rfl' nD8, tg14.new nD8, upd_same⟩ (fun k H' _ hP => .inl (.inl (hP.1 _ _ (tg14.off S _ (.inr hS14)) hS14))) (fun k x H15 hx hP => ?_) (fun H15 hP => ?_)⟩
      · obtain ⟨sx15, tg15, hD15⟩ := hP
        have hk : k < qs.length := by
          have := (List.getElem?_eq_some_iff.mp hx).1
          omega
        obtain ⟨qn, hqn⟩ : ∃ qn, qs[k]? = some qn := ⟨qs[k], List.getElem?_eq_getElem hk⟩
        obtain ⟨v, hv, fq⟩ := qa14.at hqn
        rw [hx] at hv
        cases hv
        have hqm := List.mem_of_getElem? hqn
        have kt15 := sx15.kT tg14
        refine ⟨rfl, .ref tt, rfl, x, rfl, .ref la, rfl, .ref tt, cols, rows, x, qn, la, ls, rfl, tg15, ft14.kt kt15.1, hc, by omega, hrows, by omega, fq.kT kt15, (hqs qn hqm).1, sx15 _ _ (tg14.off la _ (.inr hla14)) hla14, fnd.ok, fnd.srv qn hqm, fun H16 sx16 tg16 => ?_⟩
        have hD16 := sx16 _ _ (tg15.off D8 _ (.inr hD15)) hD15
        refine ⟨_, hD16, by rw [List.length_replicate]; exact small1000 (by omega), Sx.mut (sx15.trans sx16) nD8, tg16.upd (tg16.off D8 _ (.inr hD16)), ?_⟩
        rw [upd_same, List.replicate_succ']
      · obtain ⟨sx15, tg15, hD15⟩ := hP
        refine ⟨D8, _, rfl, .inl (.inl (.inl hD15)), rfl, flat_reps _ _, _, rfl, ite2 (fun e => absurd (show inV (.bl !true) (List.replicate _ (.bl true)) = true from e) (by rw [inV_reps true]; decide)) (fun _ => ?_)⟩
        exact ⟨_, _, _, _, _, _, _, _, _, _, _, rfl, hB14.sx tg14 sx15, tg15⟩

end
theorem all_mk {l : PySem.W.OpenLaw} {q : Program} {w : World} {K : PySem.W.Frag} {h : Heap} {mg : Str → Option Value} {fa : Addr} (X : K.In h) (G : h.Ns mainGlobals mg) (hfa : mg "law" = some (.ref fa))
    (own : ∀ (nm : Str) (fb : Addr), ((recsOf q).any fun e => e.name == nm) = true → mg nm = some (.ref fb) → OwnTC K fb h)
    {oc0 kv0 dc0 pm0 ct0 : Value} {od0 an0 : Option Addr} {sl0 : Array (Option Value)} {f0 : Addr}
    {c0 P0 : Addr} {ec0 : Value} {ed0 : Option Addr} {ev0 : Array Value} {es0 : Array (Option Value)}
    {oc1 kv1 dc1 pm1 ct1 : Value} {od1 an1 : Option Addr} {sl1 : Array (Option Value)} {f1 : Addr}
    {c1 P1 : Addr} {ec1 : Value} {ed1 : Option Addr} {ev1 : Array Value} {es1 : Array (Option Value)}
    {oc2 kv2 dc2 pm2 ct2 : Value} {od2 an2 : Option Addr} {sl2 : Array (Option Value)} {f2 : Addr}
    {c2 P2 : Addr} {ec2 : Value} {ed2 : Option Addr} {ev2 : Array Value} {es2 : Array (Option Value)}
    {oc3 kv3 dc3 pm3 cd3 ct3 : Value} {od3 an3 : Option Addr} {sl3 : Array (Option Value)} {f3 : Addr}
    {oc4 kv4 dc4 pm4 cd4 ct4 : Value} {od4 an4 : Option Addr} {sl4 : Array (Option Value)} {f4 : Addr}
    {oc5 kv5 dc5 pm5 cd5 ct5 : Value} {od5 an5 : Option Addr} {sl5 : Array (Option Value)} {f5 : Addr}
    {oc6 kv6 dc6 pm6 ct6 : Value} {od6 an6 : Option Addr} {sl6 : Array (Option Value)} {f6 : Addr}
    {c6 P6 : Addr} {ec6 : Value} {ed6 : Option Addr} {ev6 : Array Value} {es6 : Array (Option Value)}
    {oc7 kv7 dc7 pm7 cd7 ct7 : Value} {od7 an7 : Option Addr} {sl7 : Array (Option Value)} {f7 : Addr}
    {oc8 kv8 dc8 pm8 cd8 ct8 : Value} {od8 an8 : Option Addr} {sl8 : Array (Option Value)} {f8 : Addr}
    {oc9 kv9 dc9 pm9 cd9 ct9 : Value} {od9 an9 : Option Addr} {sl9 : Array (Option Value)} {f9 : Addr}
    {oc10 kv10 dc10 pm10 cd10 ct10 : Value} {od10 an10 : Option Addr} {sl10 : Array (Option Value)} {f10 : Addr}
    {oc11 kv11 dc11 pm11 cd11 ct11 : Value} {od11 an11 : Option Addr} {sl11 : Array (Option Value)} {f11 : Addr}
    {oc12 kv12 dc12 pm12 ct12 : Value} {od12 an12 : Option Addr} {sl12 : Array (Option Value)} {f12 : Addr}
    {c12 P12 : Addr} {ec12 : Value} {ed12 : Option Addr} {ev12 : Array Value} {es12 : Array (Option Value)}
    {oc13 kv13 dc13 pm13 cd13 ct13 : Value} {od13 an13 : Option Addr} {sl13 : Array (Option Value)} {f13 : Addr}
    {oc14 kv14 dc14 pm14 cd14 ct14 : Value} {od14 an14 : Option Addr} {sl14 : Array (Option Value)} {f14 : Addr}
    {oc15 kv15 dc15 pm15 cd15 ct15 : Value} {od15 an15 : Option Addr} {sl15 : Array (Option Value)} {f15 : Addr}
    {oc16 kv16 dc16 pm16 cd16 ct16 : Value} {od16 an16 : Option Addr} {sl16 : Array (Option Value)} {f16 : Addr}
    {oc17 kv17 dc17 pm17 ct17 : Value} {od17 an17 : Option Addr} {sl17 : Array (Option Value)} {f17 : Addr}
    {c17 P17 : Addr} {ec17 : Value} {ed17 : Option Addr} {ev17 : Array Value} {es17 : Array (Option Value)}
    {oc18 kv18 dc18 pm18 cd18 ct18 : Value} {od18 an18 : Option Addr} {sl18 : Array (Option Value)} {f18 : Addr}
    {oc19 kv19 dc19 pm19 ct19 : Value} {od19 an19 : Option Addr} {sl19 : Array (Option Value)} {f19 : Addr}
    {c19 P19 : Addr} {ec19 : Value} {ed19 : Option Addr} {ev19 : Array Value} {es19 : Array (Option Value)}
    {oc20 kv20 dc20 pm20 cd20 ct20 : Value} {od20 an20 : Option Addr} {sl20 : Array (Option Value)} {f20 : Addr}
    {oc21 kv21 dc21 pm21 cd21 ct21 : Value} {od21 an21 : Option Addr} {sl21 : Array (Option Value)} {f21 : Addr}
    {oc22 kv22 dc22 pm22 cd22 ct22 : Value} {od22 an22 : Option Addr} {sl22 : Array (Option Value)} {f22 : Addr}
    {oc23 kv23 dc23 pm23 cd23 ct23 : Value} {od23 an23 : Option Addr} {sl23 : Array (Option Value)} {f23 : Addr}
    {oc24 kv24 dc24 pm24 cd24 ct24 : Value} {od24 an24 : Option Addr} {sl24 : Array (Option Value)} {f24 : Addr}
    {oc25 kv25 dc25 pm25 cd25 ct25 : Value} {od25 an25 : Option Addr} {sl25 : Array (Option Value)} {f25 : Addr}
    {oc26 kv26 dc26 pm26 cd26 ct26 : Value} {od26 an26 : Option Addr} {sl26 : Array (Option Value)} {f26 : Addr}
    {oc27 kv27 dc27 pm27 cd27 ct27 : Value} {od27 an27 : Option Addr} {sl27 : Array (Option Value)} {f27 : Addr}
    {oc28 kv28 dc28 pm28 cd28 ct28 : Value} {od28 an28 : Option Addr} {sl28 : Array (Option Value)} {f28 : Addr}
    {oc29 kv29 dc29 pm29 cd29 ct29 : Value} {od29 an29 : Option Addr} {sl29 : Array (Option Value)} {f29 : Addr}
    {oc30 kv30 dc30 pm30 cd30 ct30 : Value} {od30 an30 : Option Addr} {sl30 : Array (Option Value)} {f30 : Addr}
    (a0 : PySem.W.nsIn K mainGlobals "is_rising" = some (some (.ref f0)))
    (l0 : K.lookup f0 = some ⟨oc0, od0, .func (PySem.W.fnOf "is_rising" "is_rising" (defArgs s_is_rising) (defBody s_is_rising) (defScope s_is_rising) .none kv0 dc0 pm0 an0 (.ref c0) ct0), sl0⟩)
    (c0_ : PySem.W.codeIn K (.ref c0) "is_rising" = true) (k0 : PySem.W.keepIn K (.ref f0) = true)
    (lc0 : K.lookup c0 = some ⟨ec0, ed0, .fields ev0, es0⟩) (vc0 : ev0[11]? = some (.ref P0)) (np0 : K.lookup P0 = none) (rc0 : ((recsOf q).any fun e => e.name == "is_rising") = true)
    (a1 : PySem.W.nsIn K mainGlobals "is_list" = some (some (.ref f1)))
    (l1 : K.lookup f1 = some ⟨oc1, od1, .func (PySem.W.fnOf "is_list" "is_list" (defArgs s_is_list) (defBody s_is_list) (defScope s_is_list) .none kv1 dc1 pm1 an1 (.ref c1) ct1), sl1⟩)
    (c1_ : PySem.W.codeIn K (.ref c1) "is_list" = true) (k1 : PySem.W.keepIn K (.ref f1) = true)
    (lc1 : K.lookup c1 = some ⟨ec1, ed1, .fields ev1, es1⟩) (vc1 : ev1[11]? = some (.ref P1)) (np1 : K.lookup P1 = none) (rc1 : ((recsOf q).any fun e => e.name == "is_list") = true)
    (a2 : PySem.W.nsIn K mainGlobals "picked" = some (some (.ref f2)))
    (l2 : K.lookup f2 = some ⟨oc2, od2, .func (PySem.W.fnOf "picked" "picked" (defArgs s_picked) (defBody s_picked) (defScope s_picked) .none kv2 dc2 pm2 an2 (.ref c2) ct2), sl2⟩)
    (c2_ : PySem.W.codeIn K (.ref c2) "picked" = true) (k2 : PySem.W.keepIn K (.ref f2) = true)
    (lc2 : K.lookup c2 = some ⟨ec2, ed2, .fields ev2, es2⟩) (vc2 : ev2[11]? = some (.ref P2)) (np2 : K.lookup P2 = none) (rc2 : ((recsOf q).any fun e => e.name == "picked") = true)
    (a3 : PySem.W.nsIn K mainGlobals "sorted_by" = some (some (.ref f3)))
    (l3 : K.lookup f3 = some ⟨oc3, od3, .func (PySem.W.fnOf "sorted_by" "sorted_by" (defArgs s_sorted_by) (defBody s_sorted_by) (defScope s_sorted_by) .none kv3 dc3 pm3 an3 cd3 ct3), sl3⟩)
    (c3_ : PySem.W.codeIn K cd3 "sorted_by" = true) (k3 : PySem.W.keepIn K (.ref f3) = true)
    (a4 : PySem.W.nsIn K mainGlobals "is_need" = some (some (.ref f4)))
    (l4 : K.lookup f4 = some ⟨oc4, od4, .func (PySem.W.fnOf "is_need" "is_need" (defArgs s_is_need) (defBody s_is_need) (defScope s_is_need) .none kv4 dc4 pm4 an4 cd4 ct4), sl4⟩)
    (c4_ : PySem.W.codeIn K cd4 "is_need" = true) (k4 : PySem.W.keepIn K (.ref f4) = true)
    (a5 : PySem.W.nsIn K mainGlobals "serves_need" = some (some (.ref f5)))
    (l5 : K.lookup f5 = some ⟨oc5, od5, .func (PySem.W.fnOf "serves_need" "serves_need" (defArgs s_serves_need) (defBody s_serves_need) (defScope s_serves_need) .none kv5 dc5 pm5 an5 cd5 ct5), sl5⟩)
    (c5_ : PySem.W.codeIn K cd5 "serves_need" = true) (k5 : PySem.W.keepIn K (.ref f5) = true)
    (a6 : PySem.W.nsIn K mainGlobals "is_ahead" = some (some (.ref f6)))
    (l6 : K.lookup f6 = some ⟨oc6, od6, .func (PySem.W.fnOf "is_ahead" "is_ahead" (defArgs s_is_ahead) (defBody s_is_ahead) (defScope s_is_ahead) .none kv6 dc6 pm6 an6 (.ref c6) ct6), sl6⟩)
    (c6_ : PySem.W.codeIn K (.ref c6) "is_ahead" = true) (k6 : PySem.W.keepIn K (.ref f6) = true)
    (lc6 : K.lookup c6 = some ⟨ec6, ed6, .fields ev6, es6⟩) (vc6 : ev6[11]? = some (.ref P6)) (np6 : K.lookup P6 = none) (rc6 : ((recsOf q).any fun e => e.name == "is_ahead") = true)
    (a7 : PySem.W.nsIn K mainGlobals "find_behind" = some (some (.ref f7)))
    (l7 : K.lookup f7 = some ⟨oc7, od7, .func (PySem.W.fnOf "find_behind" "find_behind" (defArgs s_find_behind) (defBody s_find_behind) (defScope s_find_behind) .none kv7 dc7 pm7 an7 cd7 ct7), sl7⟩)
    (c7_ : PySem.W.codeIn K cd7 "find_behind" = true) (k7 : PySem.W.keepIn K (.ref f7) = true)
    (a8 : PySem.W.nsIn K mainGlobals "fewest_chains" = some (some (.ref f8)))
    (l8 : K.lookup f8 = some ⟨oc8, od8, .func (PySem.W.fnOf "fewest_chains" "fewest_chains" (defArgs s_fewest_chains) (defBody s_fewest_chains) (defScope s_fewest_chains) .none kv8 dc8 pm8 an8 cd8 ct8), sl8⟩)
    (c8_ : PySem.W.codeIn K cd8 "fewest_chains" = true) (k8 : PySem.W.keepIn K (.ref f8) = true)
    (a9 : PySem.W.nsIn K mainGlobals "chain_to" = some (some (.ref f9)))
    (l9 : K.lookup f9 = some ⟨oc9, od9, .func (PySem.W.fnOf "chain_to" "chain_to" (defArgs s_chain_to) (defBody s_chain_to) (defScope s_chain_to) .none kv9 dc9 pm9 an9 cd9 ct9), sl9⟩)
    (c9_ : PySem.W.codeIn K cd9 "chain_to" = true) (k9 : PySem.W.keepIn K (.ref f9) = true)
    (a10 : PySem.W.nsIn K mainGlobals "list_for" = some (some (.ref f10)))
    (l10 : K.lookup f10 = some ⟨oc10, od10, .func (PySem.W.fnOf "list_for" "list_for" (defArgs s_list_for) (defBody s_list_for) (defScope s_list_for) .none kv10 dc10 pm10 an10 cd10 ct10), sl10⟩)
    (c10_ : PySem.W.codeIn K cd10 "list_for" = true) (k10 : PySem.W.keepIn K (.ref f10) = true)
    (a11 : PySem.W.nsIn K mainGlobals "apart_of" = some (some (.ref f11)))
    (l11 : K.lookup f11 = some ⟨oc11, od11, .func (PySem.W.fnOf "apart_of" "apart_of" (defArgs s_apart_of) (defBody s_apart_of) (defScope s_apart_of) .none kv11 dc11 pm11 an11 cd11 ct11), sl11⟩)
    (c11_ : PySem.W.codeIn K cd11 "apart_of" = true) (k11 : PySem.W.keepIn K (.ref f11) = true)
    (a12 : PySem.W.nsIn K mainGlobals "fewest" = some (some (.ref f12)))
    (l12 : K.lookup f12 = some ⟨oc12, od12, .func (PySem.W.fnOf "fewest" "fewest" (defArgs s_fewest) (defBody s_fewest) (defScope s_fewest) .none kv12 dc12 pm12 an12 (.ref c12) ct12), sl12⟩)
    (c12_ : PySem.W.codeIn K (.ref c12) "fewest" = true) (k12 : PySem.W.keepIn K (.ref f12) = true)
    (lc12 : K.lookup c12 = some ⟨ec12, ed12, .fields ev12, es12⟩) (vc12 : ev12[11]? = some (.ref P12)) (np12 : K.lookup P12 = none) (rc12 : ((recsOf q).any fun e => e.name == "fewest") = true)
    (a13 : PySem.W.nsIn K mainGlobals "letters_of" = some (some (.ref f13)))
    (l13 : K.lookup f13 = some ⟨oc13, od13, .func (PySem.W.fnOf "letters_of" "letters_of" (defArgs s_letters_of) (defBody s_letters_of) (defScope s_letters_of) .none kv13 dc13 pm13 an13 cd13 ct13), sl13⟩)
    (c13_ : PySem.W.codeIn K cd13 "letters_of" = true) (k13 : PySem.W.keepIn K (.ref f13) = true)
    (a14 : PySem.W.nsIn K mainGlobals "spans" = some (some (.ref f14)))
    (l14 : K.lookup f14 = some ⟨oc14, od14, .func (PySem.W.fnOf "spans" "spans" (defArgs s_spans) (defBody s_spans) (defScope s_spans) .none kv14 dc14 pm14 an14 cd14 ct14), sl14⟩)
    (c14_ : PySem.W.codeIn K cd14 "spans" = true) (k14 : PySem.W.keepIn K (.ref f14) = true)
    (a15 : PySem.W.nsIn K mainGlobals "fits" = some (some (.ref f15)))
    (l15 : K.lookup f15 = some ⟨oc15, od15, .func (PySem.W.fnOf "fits" "fits" (defArgs s_fits) (defBody s_fits) (defScope s_fits) .none kv15 dc15 pm15 an15 cd15 ct15), sl15⟩)
    (c15_ : PySem.W.codeIn K cd15 "fits" = true) (k15 : PySem.W.keepIn K (.ref f15) = true)
    (a16 : PySem.W.nsIn K mainGlobals "used" = some (some (.ref f16)))
    (l16 : K.lookup f16 = some ⟨oc16, od16, .func (PySem.W.fnOf "used" "used" (defArgs s_used) (defBody s_used) (defScope s_used) .none kv16 dc16 pm16 an16 cd16 ct16), sl16⟩)
    (c16_ : PySem.W.codeIn K cd16 "used" = true) (k16 : PySem.W.keepIn K (.ref f16) = true)
    (a17 : PySem.W.nsIn K mainGlobals "stretch" = some (some (.ref f17)))
    (l17 : K.lookup f17 = some ⟨oc17, od17, .func (PySem.W.fnOf "stretch" "stretch" (defArgs s_stretch) (defBody s_stretch) (defScope s_stretch) .none kv17 dc17 pm17 an17 (.ref c17) ct17), sl17⟩)
    (c17_ : PySem.W.codeIn K (.ref c17) "stretch" = true) (k17 : PySem.W.keepIn K (.ref f17) = true)
    (lc17 : K.lookup c17 = some ⟨ec17, ed17, .fields ev17, es17⟩) (vc17 : ev17[11]? = some (.ref P17)) (np17 : K.lookup P17 = none) (rc17 : ((recsOf q).any fun e => e.name == "stretch") = true)
    (a18 : PySem.W.nsIn K mainGlobals "read" = some (some (.ref f18)))
    (l18 : K.lookup f18 = some ⟨oc18, od18, .func (PySem.W.fnOf "read" "read" (defArgs s_read) (defBody s_read) (defScope s_read) .none kv18 dc18 pm18 an18 cd18 ct18), sl18⟩)
    (c18_ : PySem.W.codeIn K cd18 "read" = true) (k18 : PySem.W.keepIn K (.ref f18) = true)
    (a19 : PySem.W.nsIn K mainGlobals "serves" = some (some (.ref f19)))
    (l19 : K.lookup f19 = some ⟨oc19, od19, .func (PySem.W.fnOf "serves" "serves" (defArgs s_serves) (defBody s_serves) (defScope s_serves) .none kv19 dc19 pm19 an19 (.ref c19) ct19), sl19⟩)
    (c19_ : PySem.W.codeIn K (.ref c19) "serves" = true) (k19 : PySem.W.keepIn K (.ref f19) = true)
    (lc19 : K.lookup c19 = some ⟨ec19, ed19, .fields ev19, es19⟩) (vc19 : ev19[11]? = some (.ref P19)) (np19 : K.lookup P19 = none) (rc19 : ((recsOf q).any fun e => e.name == "serves") = true)
    (a20 : PySem.W.nsIn K mainGlobals "_law_bag" = some (some (.ref f20)))
    (l20 : K.lookup f20 = some ⟨oc20, od20, .func (PySem.W.fnOf "_law_bag" "_law_bag" (defArgs s_l_bag) (defBody s_l_bag) (defScope s_l_bag) .none kv20 dc20 pm20 an20 cd20 ct20), sl20⟩)
    (c20_ : PySem.W.codeIn K cd20 "_law_bag" = true) (k20 : PySem.W.keepIn K (.ref f20) = true)
    (a21 : PySem.W.nsIn K mainGlobals "_law_lot" = some (some (.ref f21)))
    (l21 : K.lookup f21 = some ⟨oc21, od21, .func (PySem.W.fnOf "_law_lot" "_law_lot" (defArgs s_l_lot) (defBody s_l_lot) (defScope s_l_lot) .none kv21 dc21 pm21 an21 cd21 ct21), sl21⟩)
    (c21_ : PySem.W.codeIn K cd21 "_law_lot" = true) (k21 : PySem.W.keepIn K (.ref f21) = true)
    (a22 : PySem.W.nsIn K mainGlobals "_law_columns" = some (some (.ref f22)))
    (l22 : K.lookup f22 = some ⟨oc22, od22, .func (PySem.W.fnOf "_law_columns" "_law_columns" (defArgs s_l_columns) (defBody s_l_columns) (defScope s_l_columns) .none kv22 dc22 pm22 an22 cd22 ct22), sl22⟩)
    (c22_ : PySem.W.codeIn K cd22 "_law_columns" = true) (k22 : PySem.W.keepIn K (.ref f22) = true)
    (a23 : PySem.W.nsIn K mainGlobals "_law_table" = some (some (.ref f23)))
    (l23 : K.lookup f23 = some ⟨oc23, od23, .func (PySem.W.fnOf "_law_table" "_law_table" (defArgs s_l_table) (defBody s_l_table) (defScope s_l_table) .none kv23 dc23 pm23 an23 cd23 ct23), sl23⟩)
    (c23_ : PySem.W.codeIn K cd23 "_law_table" = true) (k23 : PySem.W.keepIn K (.ref f23) = true)
    (a24 : PySem.W.nsIn K mainGlobals "_law_near" = some (some (.ref f24)))
    (l24 : K.lookup f24 = some ⟨oc24, od24, .func (PySem.W.fnOf "_law_near" "_law_near" (defArgs s_l_near) (defBody s_l_near) (defScope s_l_near) .none kv24 dc24 pm24 an24 cd24 ct24), sl24⟩)
    (c24_ : PySem.W.codeIn K cd24 "_law_near" = true) (k24 : PySem.W.keepIn K (.ref f24) = true)
    (a25 : PySem.W.nsIn K mainGlobals "_law_question" = some (some (.ref f25)))
    (l25 : K.lookup f25 = some ⟨oc25, od25, .func (PySem.W.fnOf "_law_question" "_law_question" (defArgs s_l_question) (defBody s_l_question) (defScope s_l_question) .none kv25 dc25 pm25 an25 cd25 ct25), sl25⟩)
    (c25_ : PySem.W.codeIn K cd25 "_law_question" = true) (k25 : PySem.W.keepIn K (.ref f25) = true)
    (a26 : PySem.W.nsIn K mainGlobals "_law_fits" = some (some (.ref f26)))
    (l26 : K.lookup f26 = some ⟨oc26, od26, .func (PySem.W.fnOf "_law_fits" "_law_fits" (defArgs s_l_fits) (defBody s_l_fits) (defScope s_l_fits) .none kv26 dc26 pm26 an26 cd26 ct26), sl26⟩)
    (c26_ : PySem.W.codeIn K cd26 "_law_fits" = true) (k26 : PySem.W.keepIn K (.ref f26) = true)
    (a27 : PySem.W.nsIn K mainGlobals "_law_need_of" = some (some (.ref f27)))
    (l27 : K.lookup f27 = some ⟨oc27, od27, .func (PySem.W.fnOf "_law_need_of" "_law_need_of" (defArgs s_l_need_of) (defBody s_l_need_of) (defScope s_l_need_of) .none kv27 dc27 pm27 an27 cd27 ct27), sl27⟩)
    (c27_ : PySem.W.codeIn K cd27 "_law_need_of" = true) (k27 : PySem.W.keepIn K (.ref f27) = true)
    (a28 : PySem.W.nsIn K mainGlobals "_law_order" = some (some (.ref f28)))
    (l28 : K.lookup f28 = some ⟨oc28, od28, .func (PySem.W.fnOf "_law_order" "_law_order" (defArgs s_l_order) (defBody s_l_order) (defScope s_l_order) .none kv28 dc28 pm28 an28 cd28 ct28), sl28⟩)
    (c28_ : PySem.W.codeIn K cd28 "_law_order" = true) (k28 : PySem.W.keepIn K (.ref f28) = true)
    (a29 : PySem.W.nsIn K mainGlobals "_law_read_right" = some (some (.ref f29)))
    (l29 : K.lookup f29 = some ⟨oc29, od29, .func (PySem.W.fnOf "_law_read_right" "_law_read_right" (defArgs s_l_read_right) (defBody s_l_read_right) (defScope s_l_read_right) .none kv29 dc29 pm29 an29 cd29 ct29), sl29⟩)
    (c29_ : PySem.W.codeIn K cd29 "_law_read_right" = true) (k29 : PySem.W.keepIn K (.ref f29) = true)
    (a30 : PySem.W.nsIn K mainGlobals "law" = some (some (.ref f30)))
    (l30 : K.lookup f30 = some ⟨oc30, od30, .func (PySem.W.fnOf "law" "law" (defArgs s_law) (defBody s_law) (defScope s_law) .none kv30 dc30 pm30 an30 cd30 ct30), sl30⟩)
    (c30_ : PySem.W.codeIn K cd30 "law" = true) (k30 : PySem.W.keepIn K (.ref f30) = true)
    (z0 : PySem.W.nsIn K mainGlobals "len" = some none)
    (z1 : PySem.W.nsIn K mainGlobals "range" = some none)
    (z2 : PySem.W.nsIn K mainGlobals "list" = some none)
    (z3 : PySem.W.nsIn K mainGlobals "sorted" = some none)
    (z4 : PySem.W.nsIn K mainGlobals "tuple" = some none)
    (z5 : PySem.W.nsIn K mainGlobals "min" = some none)
    (z6 : PySem.W.nsIn K mainGlobals "max" = some none)
    (z7 : PySem.W.nsIn K mainGlobals "enumerate" = some none)
    (z8 : PySem.W.nsIn K mainGlobals "dict" = some none)
    (z9 : PySem.W.nsIn K mainGlobals "isinstance" = some none)
    (z10 : PySem.W.nsIn K mainGlobals "all" = some none)
    (z11 : PySem.W.nsIn K mainGlobals "bool" = some none)
    (z12 : PySem.W.nsIn K mainGlobals "str" = some none)
    (z13 : PySem.W.nsIn K mainGlobals "int" = some none)
    (z14 : PySem.W.nsIn K mainGlobals "set" = some none)
    : LamX.LawAtS l w K CX0 33 63 "script" mg fa h := by
  have e := hfa.symm.trans (PySem.W.mg_of X G a30)
  cases e
  have F0 := fun_mk (st := s_is_rising) l0 c0_ k0
  have b0 := F0.binds (ps := ["things"]) fun _ _ _ _ _ _ us hl => match us, hl with | [_], _ => rfl
  have o0 := own "is_rising" _ rc0 (PySem.W.mg_of X G a0) c0 P0 _ _ _ _ _ _ l0 rfl rfl lc0 vc0
  have F1 := fun_mk (st := s_is_list) l1 c1_ k1
  have b1 := F1.binds (ps := ["columns", "thing"]) fun _ _ _ _ _ _ us hl => match us, hl with | [_, _], _ => rfl
  have o1 := own "is_list" _ rc1 (PySem.W.mg_of X G a1) c1 P1 _ _ _ _ _ _ l1 rfl rfl lc1 vc1
  have F2 := fun_mk (st := s_picked) l2 c2_ k2
  have b2 := F2.binds (ps := ["columns", "row", "letters"]) fun _ _ _ _ _ _ us hl => match us, hl with | [_, _, _], _ => rfl
  have o2 := own "picked" _ rc2 (PySem.W.mg_of X G a2) c2 P2 _ _ _ _ _ _ l2 rfl rfl lc2 vc2
  have F3 := fun_mk (st := s_sorted_by) l3 c3_ k3
  have b3 := F3.binds (ps := ["table", "one"]) fun _ _ _ _ _ _ us hl => match us, hl with | [_, _], _ => rfl
  have F4 := fun_mk (st := s_is_need) l4 c4_ k4
  have b4 := F4.binds (ps := ["columns", "thing"]) fun _ _ _ _ _ _ us hl => match us, hl with | [_, _], _ => rfl
  have F5 := fun_mk (st := s_serves_need) l5 c5_ k5
  have b5 := F5.binds (ps := ["one", "need"]) fun _ _ _ _ _ _ us hl => match us, hl with | [_, _], _ => rfl
  have F6 := fun_mk (st := s_is_ahead) l6 c6_ k6
  have b6 := F6.binds (ps := ["first", "second"]) fun _ _ _ _ _ _ us hl => match us, hl with | [_, _], _ => rfl
  have o6 := own "is_ahead" _ rc6 (PySem.W.mg_of X G a6) c6 P6 _ _ _ _ _ _ l6 rfl rfl lc6 vc6
  have F7 := fun_mk (st := s_find_behind) l7 c7_ k7
  have b7 := F7.binds (ps := ["needs", "at", "tried", "ahead"]) fun _ _ _ _ _ _ us hl => match us, hl with | [_, _, _, _], _ => rfl
  have F8 := fun_mk (st := s_fewest_chains) l8 c8_ k8
  have b8 := F8.binds (ps := ["needs"]) fun _ _ _ _ _ _ us hl => match us, hl with | [_], _ => rfl
  have F9 := fun_mk (st := s_chain_to) l9 c9_ k9
  have b9 := F9.binds (ps := ["needs", "ahead", "last"]) fun _ _ _ _ _ _ us hl => match us, hl with | [_, _, _], _ => rfl
  have F10 := fun_mk (st := s_list_for) l10 c10_ k10
  have b10 := F10.binds (ps := ["chain"]) fun _ _ _ _ _ _ us hl => match us, hl with | [_], _ => rfl
  have F11 := fun_mk (st := s_apart_of) l11 c11_ k11
  have b11 := F11.binds (ps := ["needs", "ahead", "lasts"]) fun _ _ _ _ _ _ us hl => match us, hl with | [_, _, _], _ => rfl
  have F12 := fun_mk (st := s_fewest) l12 c12_ k12
  have b12 := F12.binds (ps := ["columns", "needs"]) fun _ _ _ _ _ _ us hl => match us, hl with | [_, _], _ => rfl
  have o12 := own "fewest" _ rc12 (PySem.W.mg_of X G a12) c12 P12 _ _ _ _ _ _ l12 rfl rfl lc12 vc12
  have F13 := fun_mk (st := s_letters_of) l13 c13_ k13
  have b13 := F13.binds (ps := ["equals"]) fun _ _ _ _ _ _ us hl => match us, hl with | [_], _ => rfl
  have F14 := fun_mk (st := s_spans) l14 c14_ k14
  have b14 := F14.binds (ps := ["question"]) fun _ _ _ _ _ _ us hl => match us, hl with | [_], _ => rfl
  have F15 := fun_mk (st := s_fits) l15 c15_ k15
  have b15 := F15.binds (ps := ["columns", "row", "question"]) fun _ _ _ _ _ _ us hl => match us, hl with | [_, _, _], _ => rfl
  have F16 := fun_mk (st := s_used) l16 c16_ k16
  have b16 := F16.binds (ps := ["one", "question"]) fun _ _ _ _ _ _ us hl => match us, hl with | [_, _], _ => rfl
  have F17 := fun_mk (st := s_stretch) l17 c17_ k17
  have b17 := F17.binds (ps := ["table", "one", "question"]) fun _ _ _ _ _ _ us hl => match us, hl with | [_, _, _], _ => rfl
  have o17 := own "stretch" _ rc17 (PySem.W.mg_of X G a17) c17 P17 _ _ _ _ _ _ l17 rfl rfl lc17 vc17
  have F18 := fun_mk (st := s_read) l18 c18_ k18
  have b18 := F18.binds (ps := ["table", "one", "question"]) fun _ _ _ _ _ _ us hl => match us, hl with | [_, _, _], _ => rfl
  have F19 := fun_mk (st := s_serves) l19 c19_ k19
  have b19 := F19.binds (ps := ["one", "question"]) fun _ _ _ _ _ _ us hl => match us, hl with | [_, _], _ => rfl
  have o19 := own "serves" _ rc19 (PySem.W.mg_of X G a19) c19 P19 _ _ _ _ _ _ l19 rfl rfl lc19 vc19
  have F20 := fun_mk (st := s_l_bag) l20 c20_ k20
  have b20 := F20.binds (ps := ["script"]) fun _ _ _ _ _ _ us hl => match us, hl with | [_], _ => rfl
  have F21 := fun_mk (st := s_l_lot) l21 c21_ k21
  have b21 := F21.binds (ps := ["bag", "many"]) fun _ _ _ _ _ _ us hl => match us, hl with | [_, _], _ => rfl
  have F22 := fun_mk (st := s_l_columns) l22 c22_ k22
  have b22 := F22.binds (ps := ["bag", "most"]) fun _ _ _ _ _ _ us hl => match us, hl with | [_, _], _ => rfl
  have F23 := fun_mk (st := s_l_table) l23 c23_ k23
  have b23 := F23.binds (ps := ["bag", "most", "rows"]) fun _ _ _ _ _ _ us hl => match us, hl with | [_, _, _], _ => rfl
  have F24 := fun_mk (st := s_l_near) l24 c24_ k24
  have b24 := F24.binds (ps := ["bag", "table", "at"]) fun _ _ _ _ _ _ us hl => match us, hl with | [_, _, _], _ => rfl
  have F25 := fun_mk (st := s_l_question) l25 c25_ k25
  have b25 := F25.binds (ps := ["bag", "table"]) fun _ _ _ _ _ _ us hl => match us, hl with | [_, _], _ => rfl
  have F26 := fun_mk (st := s_l_fits) l26 c26_ k26
  have b26 := F26.binds (ps := ["columns", "row", "question"]) fun _ _ _ _ _ _ us hl => match us, hl with | [_, _, _], _ => rfl
  have F27 := fun_mk (st := s_l_need_of) l27 c27_ k27
  have b27 := F27.binds (ps := ["question"]) fun _ _ _ _ _ _ us hl => match us, hl with | [_], _ => rfl
  have F28 := fun_mk (st := s_l_order) l28 c28_ k28
  have b28 := F28.binds (ps := ["bag", "columns"]) fun _ _ _ _ _ _ us hl => match us, hl with | [_, _], _ => rfl
  have F29 := fun_mk (st := s_l_read_right) l29 c29_ k29
  have b29 := F29.binds (ps := ["table", "question", "lists"]) fun _ _ _ _ _ _ us hl => match us, hl with | [_, _, _], _ => rfl
  have F30 := fun_mk (st := s_law) l30 c30_ k30
  have b30 := F30.binds (ps := ["script"]) fun _ _ _ _ _ _ us hl => match us, hl with | [_], _ => rfl
  let Z : Ad := ⟨f0, PySem.W.fnOf "is_rising" "is_rising" (defArgs s_is_rising) (defBody s_is_rising) (defScope s_is_rising) .none kv0 dc0 pm0 an0 (.ref c0) ct0, c0, P0, f1, PySem.W.fnOf "is_list" "is_list" (defArgs s_is_list) (defBody s_is_list) (defScope s_is_list) .none kv1 dc1 pm1 an1 (.ref c1) ct1, c1, P1, f2, PySem.W.fnOf "picked" "picked" (defArgs s_picked) (defBody s_picked) (defScope s_picked) .none kv2 dc2 pm2 an2 (.ref c2) ct2, c2, P2, f3, PySem.W.fnOf "sorted_by" "sorted_by" (defArgs s_sorted_by) (defBody s_sorted_by) (defScope s_sorted_by) .none kv3 dc3 pm3 an3 cd3 ct3, f4, PySem.W.fnOf "is_need" "is_need" (defArgs s_is_need) (defBody s_is_need) (defScope s_is_need) .none kv4 dc4 pm4 an4 cd4 ct4, f5, PySem.W.fnOf "serves_need" "serves_need" (defArgs s_serves_need) (defBody s_serves_need) (defScope s_serves_need) .none kv5 dc5 pm5 an5 cd5 ct5, f6, PySem.W.fnOf "is_ahead" "is_ahead" (defArgs s_is_ahead) (defBody s_is_ahead) (defScope s_is_ahead) .none kv6 dc6 pm6 an6 (.ref c6) ct6, c6, P6, f7, PySem.W.fnOf "find_behind" "find_behind" (defArgs s_find_behind) (defBody s_find_behind) (defScope s_find_behind) .none kv7 dc7 pm7 an7 cd7 ct7, f8, PySem.W.fnOf "fewest_chains" "fewest_chains" (defArgs s_fewest_chains) (defBody s_fewest_chains) (defScope s_fewest_chains) .none kv8 dc8 pm8 an8 cd8 ct8, f9, PySem.W.fnOf "chain_to" "chain_to" (defArgs s_chain_to) (defBody s_chain_to) (defScope s_chain_to) .none kv9 dc9 pm9 an9 cd9 ct9, f10, PySem.W.fnOf "list_for" "list_for" (defArgs s_list_for) (defBody s_list_for) (defScope s_list_for) .none kv10 dc10 pm10 an10 cd10 ct10, f11, PySem.W.fnOf "apart_of" "apart_of" (defArgs s_apart_of) (defBody s_apart_of) (defScope s_apart_of) .none kv11 dc11 pm11 an11 cd11 ct11, f12, PySem.W.fnOf "fewest" "fewest" (defArgs s_fewest) (defBody s_fewest) (defScope s_fewest) .none kv12 dc12 pm12 an12 (.ref c12) ct12, c12, P12, f13, PySem.W.fnOf "letters_of" "letters_of" (defArgs s_letters_of) (defBody s_letters_of) (defScope s_letters_of) .none kv13 dc13 pm13 an13 cd13 ct13, f14, PySem.W.fnOf "spans" "spans" (defArgs s_spans) (defBody s_spans) (defScope s_spans) .none kv14 dc14 pm14 an14 cd14 ct14, f15, PySem.W.fnOf "fits" "fits" (defArgs s_fits) (defBody s_fits) (defScope s_fits) .none kv15 dc15 pm15 an15 cd15 ct15, f16, PySem.W.fnOf "used" "used" (defArgs s_used) (defBody s_used) (defScope s_used) .none kv16 dc16 pm16 an16 cd16 ct16, f17, PySem.W.fnOf "stretch" "stretch" (defArgs s_stretch) (defBody s_stretch) (defScope s_stretch) .none kv17 dc17 pm17 an17 (.ref c17) ct17, c17, P17, f18, PySem.W.fnOf "read" "read" (defArgs s_read) (defBody s_read) (defScope s_read) .none kv18 dc18 pm18 an18 cd18 ct18, f19, PySem.W.fnOf "serves" "serves" (defArgs s_serves) (defBody s_serves) (defScope s_serves) .none kv19 dc19 pm19 an19 (.ref c19) ct19, c19, P19, f20, PySem.W.fnOf "_law_bag" "_law_bag" (defArgs s_l_bag) (defBody s_l_bag) (defScope s_l_bag) .none kv20 dc20 pm20 an20 cd20 ct20, f21, PySem.W.fnOf "_law_lot" "_law_lot" (defArgs s_l_lot) (defBody s_l_lot) (defScope s_l_lot) .none kv21 dc21 pm21 an21 cd21 ct21, f22, PySem.W.fnOf "_law_columns" "_law_columns" (defArgs s_l_columns) (defBody s_l_columns) (defScope s_l_columns) .none kv22 dc22 pm22 an22 cd22 ct22, f23, PySem.W.fnOf "_law_table" "_law_table" (defArgs s_l_table) (defBody s_l_table) (defScope s_l_table) .none kv23 dc23 pm23 an23 cd23 ct23, f24, PySem.W.fnOf "_law_near" "_law_near" (defArgs s_l_near) (defBody s_l_near) (defScope s_l_near) .none kv24 dc24 pm24 an24 cd24 ct24, f25, PySem.W.fnOf "_law_question" "_law_question" (defArgs s_l_question) (defBody s_l_question) (defScope s_l_question) .none kv25 dc25 pm25 an25 cd25 ct25, f26, PySem.W.fnOf "_law_fits" "_law_fits" (defArgs s_l_fits) (defBody s_l_fits) (defScope s_l_fits) .none kv26 dc26 pm26 an26 cd26 ct26, f27, PySem.W.fnOf "_law_need_of" "_law_need_of" (defArgs s_l_need_of) (defBody s_l_need_of) (defScope s_l_need_of) .none kv27 dc27 pm27 an27 cd27 ct27, f28, PySem.W.fnOf "_law_order" "_law_order" (defArgs s_l_order) (defBody s_l_order) (defScope s_l_order) .none kv28 dc28 pm28 an28 cd28 ct28, f29, PySem.W.fnOf "_law_read_right" "_law_read_right" (defArgs s_l_read_right) (defBody s_l_read_right) (defScope s_l_read_right) .none kv29 dc29 pm29 an29 cd29 ct29, fa, PySem.W.fnOf "law" "law" (defArgs s_law) (defBody s_law) (defScope s_law) .none kv30 dc30 pm30 an30 cd30 ct30⟩
  have T : Tx K mg Z := ⟨F0, ⟨_, _, _, _, _, _, _, _, rfl, l0, c0_⟩, b0, PySem.W.mg_of X G a0, F1, ⟨_, _, _, _, _, _, _, _, rfl, l1, c1_⟩, b1, PySem.W.mg_of X G a1, F2, ⟨_, _, _, _, _, _, _, _, rfl, l2, c2_⟩, b2, PySem.W.mg_of X G a2, F3, b3, PySem.W.mg_of X G a3, F4, b4, PySem.W.mg_of X G a4, F5, b5, PySem.W.mg_of X G a5, F6, ⟨_, _, _, _, _, _, _, _, rfl, l6, c6_⟩, b6, PySem.W.mg_of X G a6, F7, b7, PySem.W.mg_of X G a7, F8, b8, PySem.W.mg_of X G a8, F9, b9, PySem.W.mg_of X G a9, F10, b10, PySem.W.mg_of X G a10, F11, b11, PySem.W.mg_of X G a11, F12, ⟨_, _, _, _, _, _, _, _, rfl, l12, c12_⟩, b12, PySem.W.mg_of X G a12, F13, b13, PySem.W.mg_of X G a13, F14, b14, PySem.W.mg_of X G a14, F15, b15, PySem.W.mg_of X G a15, F16, b16, PySem.W.mg_of X G a16, F17, ⟨_, _, _, _, _, _, _, _, rfl, l17, c17_⟩, b17, PySem.W.mg_of X G a17, F18, b18, PySem.W.mg_of X G a18, F19, ⟨_, _, _, _, _, _, _, _, rfl, l19, c19_⟩, b19, PySem.W.mg_of X G a19, F20, b20, PySem.W.mg_of X G a20, F21, b21, PySem.W.mg_of X G a21, F22, b22, PySem.W.mg_of X G a22, F23, b23, PySem.W.mg_of X G a23, F24, b24, PySem.W.mg_of X G a24, F25, b25, PySem.W.mg_of X G a25, F26, b26, PySem.W.mg_of X G a26, F27, b27, PySem.W.mg_of X G a27, F28, b28, PySem.W.mg_of X G a28, F29, b29, PySem.W.mg_of X G a29, F30, b30, PySem.W.mg_of X G a30, PySem.W.mg_none_of X G z0, PySem.W.mg_none_of X G z1, PySem.W.mg_none_of X G z2, PySem.W.mg_none_of X G z3, PySem.W.mg_none_of X G z4, PySem.W.mg_none_of X G z5, PySem.W.mg_none_of X G z6, PySem.W.mg_none_of X G z7, PySem.W.mg_none_of X G z8, PySem.W.mg_none_of X G z9, PySem.W.mg_none_of X G z10, PySem.W.mg_none_of X G z11, PySem.W.mg_none_of X G z12, PySem.W.mg_none_of X G z13, PySem.W.mg_none_of X G z14⟩
  have each : ∀ {R : Addr × Addr → Prop}, R (c12, P12) → R (c2, P2) → R (c17, P17) → R (c19, P19) → R (c0, P0) → R (c1, P1) → R (c6, P6) → ∀ p ∈ [(c12, P12), (c2, P2), (c17, P17), (c19, P19), (c0, P0), (c1, P1), (c6, P6)], R p := fun h12 h2 h17 h19 h0 h1 h6 p hp => by
    simp only [List.mem_cons, List.not_mem_nil, or_false] at hp
    rcases hp with e | e | e | e | e | e | e
    · rw [e]
      exact h12
    · rw [e]
      exact h2
    · rw [e]
      exact h17
    · rw [e]
      exact h19
    · rw [e]
      exact h0
    · rw [e]
      exact h1
    · rw [e]
      exact h6
  refine ⟨Z.d_law, [(c12, P12), (c2, P2), (c17, P17), (c19, P19), (c0, P0), (c1, P1), (c6, P6)], spLaw K Z, each o12.1 o2.1 o17.1 o19.1 o0.1 o1.1 o6.1, each np12 np2 np17 np19 np0 np1 np6, each o12.2 o2.2 o17.2 o19.2 o0.2 o1.2 o6.2, fun s v => .of_eq rfl, fun H a ns hl _ hT hS => ?_, fun base _ _ hTB => ?_⟩
  · refine ⟨a, ns, rfl, hS, hl, fun P hP => ?_, fun _ => rfl⟩
    obtain ⟨p, hp, rfl⟩ : ∃ p ∈ [((c12, P12) : Addr × Addr), ((c2, P2) : Addr × Addr), ((c17, P17) : Addr × Addr), ((c19, P19) : Addr × Addr), ((c0, P0) : Addr × Addr), ((c1, P1) : Addr × Addr), ((c6, P6) : Addr × Addr)], p.2 = P := by
      have hP2 : P ∈ [((c12, P12) : Addr × Addr).2, ((c2, P2) : Addr × Addr).2, ((c17, P17) : Addr × Addr).2, ((c19, P19) : Addr × Addr).2, ((c0, P0) : Addr × Addr).2, ((c1, P1) : Addr × Addr).2, ((c6, P6) : Addr × Addr).2] := hP
      exact List.mem_map.mp (show P ∈ List.map (fun p : Addr × Addr => p.2) [(c12, P12), (c2, P2), (c17, P17), (c19, P19), (c0, P0), (c1, P1), (c6, P6)] from hP2)
    exact ⟨#[], hT p hp, trivial⟩
  · exact ok_law T ⟨hTB (c12, P12) (by simp), hTB (c2, P2) (by simp), hTB (c17, P17) (by simp), hTB (c19, P19) (by simp), hTB (c0, P0) (by simp), hTB (c1, P1) (by simp), hTB (c6, P6) (by simp)⟩
end My
open PySem PySem.W PyProof.Rows
set_option maxHeartbeats 0 in
theorem PySem.Challenge.cw_stretchkeep_k37_whole_needs_and_question_holds : PySem.Challenge.rw_stretchkeep_k37_whole_needs_and_question.Holds := by
  w_on; o_law; k_head; (case hw => w_witness2)
  k_fill
  refine My.walk_ofTabs (l := PySem.Challenge.rw_stretchkeep_k37_whole_needs_and_question) (n := 63) (k := 33) (x := "script") (CX := fun _ => L2.CX0) rfl (by decide) rfl ⟨rfl, by decide, by decide⟩ (fun w h Y => PySem.W.kIn_of Y) ?F (fun _ _ _ _ _ h => h)
  case F =>
    intro w mg fa h Y KX G hmg own
    refine' My.all_mk KX G hmg own ?a0 ?l0 ?c0_ ?k0 ?lc0 ?vc0 ?np0 ?rc0 ?a1 ?l1 ?c1_ ?k1 ?lc1 ?vc1 ?np1 ?rc1 ?a2 ?l2 ?c2_ ?k2 ?lc2 ?vc2 ?np2 ?rc2 ?a3 ?l3 ?c3_ ?k3 ?a4 ?l4 ?c4_ ?k4 ?a5 ?l5 ?c5_ ?k5 ?a6 ?l6 ?c6_ ?k6 ?lc6 ?vc6 ?np6 ?rc6 ?a7 ?l7 ?c7_ ?k7 ?a8 ?l8 ?c8_ ?k8 ?a9 ?l9 ?c9_ ?k9 ?a10 ?l10 ?c10_ ?k10 ?a11 ?l11 ?c11_ ?k11 ?a12 ?l12 ?c12_ ?k12 ?lc12 ?vc12 ?np12 ?rc12 ?a13 ?l13 ?c13_ ?k13 ?a14 ?l14 ?c14_ ?k14 ?a15 ?l15 ?c15_ ?k15 ?a16 ?l16 ?c16_ ?k16 ?a17 ?l17 ?c17_ ?k17 ?lc17 ?vc17 ?np17 ?rc17 ?a18 ?l18 ?c18_ ?k18 ?a19 ?l19 ?c19_ ?k19 ?lc19 ?vc19 ?np19 ?rc19 ?a20 ?l20 ?c20_ ?k20 ?a21 ?l21 ?c21_ ?k21 ?a22 ?l22 ?c22_ ?k22 ?a23 ?l23 ?c23_ ?k23 ?a24 ?l24 ?c24_ ?k24 ?a25 ?l25 ?c25_ ?k25 ?a26 ?l26 ?c26_ ?k26 ?a27 ?l27 ?c27_ ?k27 ?a28 ?l28 ?c28_ ?k28 ?a29 ?l29 ?c29_ ?k29 ?a30 ?l30 ?c30_ ?k30 ?z0 ?z1 ?z2 ?z3 ?z4 ?z5 ?z6 ?z7 ?z8 ?z9 ?z10 ?z11 ?z12 ?z13 ?z14
    (case a0 => k_is)
    (case l0 => k_is)
    (case c0_ => k_is)
    (case k0 => k_is)
    (case lc0 => k_is)
    (case vc0 => rfl)
    (case np0 => first | rfl | kernel_rfl)
    (case rc0 => decide +kernel)
    (case a1 => k_is)
    (case l1 => k_is)
    (case c1_ => k_is)
    (case k1 => k_is)
    (case lc1 => k_is)
    (case vc1 => rfl)
    (case np1 => first | rfl | kernel_rfl)
    (case rc1 => decide +kernel)
    (case a2 => k_is)
    (case l2 => k_is)
    (case c2_ => k_is)
    (case k2 => k_is)
    (case lc2 => k_is)
    (case vc2 => rfl)
    (case np2 => first | rfl | kernel_rfl)
    (case rc2 => decide +kernel)
    (case a3 => k_is)
    (case l3 => k_is)
    (case c3_ => k_is)
    (case k3 => k_is)
    (case a4 => k_is)
    (case l4 => k_is)
    (case c4_ => k_is)
    (case k4 => k_is)
    (case a5 => k_is)
    (case l5 => k_is)
    (case c5_ => k_is)
    (case k5 => k_is)
    (case a6 => k_is)
    (case l6 => k_is)
    (case c6_ => k_is)
    (case k6 => k_is)
    (case lc6 => k_is)
    (case vc6 => rfl)
    (case np6 => first | rfl | kernel_rfl)
    (case rc6 => decide +kernel)
    (case a7 => k_is)
    (case l7 => k_is)
    (case c7_ => k_is)
    (case k7 => k_is)
    (case a8 => k_is)
    (case l8 => k_is)
    (case c8_ => k_is)
    (case k8 => k_is)
    (case a9 => k_is)
    (case l9 => k_is)
    (case c9_ => k_is)
    (case k9 => k_is)
    (case a10 => k_is)
    (case l10 => k_is)
    (case c10_ => k_is)
    (case k10 => k_is)
    (case a11 => k_is)
    (case l11 => k_is)
    (case c11_ => k_is)
    (case k11 => k_is)
    (case a12 => k_is)
    (case l12 => k_is)
    (case c12_ => k_is)
    (case k12 => k_is)
    (case lc12 => k_is)
    (case vc12 => rfl)
    (case np12 => first | rfl | kernel_rfl)
    (case rc12 => decide +kernel)
    (case a13 => k_is)
    (case l13 => k_is)
    (case c13_ => k_is)
    (case k13 => k_is)
    (case a14 => k_is)
    (case l14 => k_is)
    (case c14_ => k_is)
    (case k14 => k_is)
    (case a15 => k_is)
    (case l15 => k_is)
    (case c15_ => k_is)
    (case k15 => k_is)
    (case a16 => k_is)
    (case l16 => k_is)
    (case c16_ => k_is)
    (case k16 => k_is)
    (case a17 => k_is)
    (case l17 => k_is)
    (case c17_ => k_is)
    (case k17 => k_is)
    (case lc17 => k_is)
    (case vc17 => rfl)
    (case np17 => first | rfl | kernel_rfl)
    (case rc17 => decide +kernel)
    (case a18 => k_is)
    (case l18 => k_is)
    (case c18_ => k_is)
    (case k18 => k_is)
    (case a19 => k_is)
    (case l19 => k_is)
    (case c19_ => k_is)
    (case k19 => k_is)
    (case lc19 => k_is)
    (case vc19 => rfl)
    (case np19 => first | rfl | kernel_rfl)
    (case rc19 => decide +kernel)
    (case a20 => k_is)
    (case l20 => k_is)
    (case c20_ => k_is)
    (case k20 => k_is)
    (case a21 => k_is)
    (case l21 => k_is)
    (case c21_ => k_is)
    (case k21 => k_is)
    (case a22 => k_is)
    (case l22 => k_is)
    (case c22_ => k_is)
    (case k22 => k_is)
    (case a23 => k_is)
    (case l23 => k_is)
    (case c23_ => k_is)
    (case k23 => k_is)
    (case a24 => k_is)
    (case l24 => k_is)
    (case c24_ => k_is)
    (case k24 => k_is)
    (case a25 => k_is)
    (case l25 => k_is)
    (case c25_ => k_is)
    (case k25 => k_is)
    (case a26 => k_is)
    (case l26 => k_is)
    (case c26_ => k_is)
    (case k26 => k_is)
    (case a27 => k_is)
    (case l27 => k_is)
    (case c27_ => k_is)
    (case k27 => k_is)
    (case a28 => k_is)
    (case l28 => k_is)
    (case c28_ => k_is)
    (case k28 => k_is)
    (case a29 => k_is)
    (case l29 => k_is)
    (case c29_ => k_is)
    (case k29 => k_is)
    (case a30 => k_is)
    (case l30 => k_is)
    (case c30_ => k_is)
    (case k30 => k_is)
    (case z0 => k_is)
    (case z1 => k_is)
    (case z2 => k_is)
    (case z3 => k_is)
    (case z4 => k_is)
    (case z5 => k_is)
    (case z6 => k_is)
    (case z7 => k_is)
    (case z8 => k_is)
    (case z9 => k_is)
    (case z10 => k_is)
    (case z11 => k_is)
    (case z12 => k_is)
    (case z13 => k_is)
    (case z14 => k_is)

