import PyProof.Rows.All
import Wide.All
import OpenK.AllK
import Wide.FinOn
import HandS.ForMost
import HandS.Walk
import HandS.IsInst
import HandS.DictComp
import HandS.SortInts
import HandS.NoneIn
import HandS.Replace
import HandS.TupAny
import HandS.TupLe
import PyProof.ListStr
import PyProof.TupleOfStr
import KE.GoesNew
import HandS.Zip
import HandS.More
import PyProof.StrLawsFirst
import HandS.Conv
import KE.KSortedM
import HandS.AnyAll
import HandS.EndTab
import PyProof.TupleOfGen
import HandS.EndOwn
import KE.KDictPairs
import KE.SortData
import KE.DataCmp
import PyProof.DictWalks
import KE.KDictWalk
import HandS.Style
import PyProof.CollectStr
import PyProof.SliceStr2
import PyProof.TupleOfSeq
import HandS.Star
import HandS.Wide
import KE.DataMinMax
import HandS.GenOver
import HandS.GenList
import KE.DatumIndex
import PyProof.ConsumeWalk
import HandS.SetFor
import PyProof.StrWalks
import PyProof.SetRoads
import PyProof.Rows.StrCase
import HandS.TupMul
import PyProof.ListNew
import HandS.SetBool
import KE.DataMinKey
import HandS.SortKw
import PySem.Challenge.RW_stretchkeep_k18_choices_cut
set_option Elab.async false
set_option linter.all false
set_option maxRecDepth 100000
namespace My
open PySem PySem.Spec PyProof.Rows L2
/-! ### heaps -/
/-- all but r is as it was -/
def Kp (r : Addr) (H H' : Hp) : Prop := ∀ b o, b ≠ r → H b = some o → H' b = some o
theorem Kp.rfl' {r : Addr} {H : Hp} : Kp r H H := fun _ _ _ h => h
theorem Kp.trans {r : Addr} {H H1 H2 : Hp} (a : Kp r H H1) (b : Kp r H1 H2) : Kp r H H2 := fun c o n h => b c o n (a c o n h)
theorem Kp.new {r p : Addr} {H H1 : Hp} {o : HO} (a : Kp r H H1) (n : H1 p = none) : Kp r H (upd H1 p o) := fun b x nb h => by
  have h1 := a b x nb h
  rw [upd_ne (ne_of_none h1 n)]
  exact h1
theorem Kp.own {r : Addr} {H H1 : Hp} {o : HO} (a : Kp r H H1) : Kp r H (upd H1 r o) := fun b x nb h => by
  rw [upd_ne nb]
  exact a b x nb h
/-- an object that H does not know is written -/
theorem Kp.mut {r p : Addr} {H H1 : Hp} {o : HO} (a : Kp r H H1) (n : H p = none) : Kp r H (upd H1 p o) := fun b x nb h => by
  rw [upd_ne (ne_of_none h n)]
  exact a b x nb h
theorem Same.kp {r : Addr} {H H' : Hp} (s : Same H H') : Kp r H H' := fun b o _ h => s b o h
theorem Same.new {p : Addr} {H H1 : Hp} {o : HO} (a : Same H H1) (n : H1 p = none) : Same H (upd H1 p o) := fun b x h => by
  have h1 := a b x h
  rw [upd_ne (ne_of_none h1 n)]
  exact h1
theorem Same.mut {p : Addr} {H H1 : Hp} {o : HO} (a : Same H H1) (n : H p = none) : Same H (upd H1 p o) := fun b x h => by
  rw [upd_ne (ne_of_none h n)]
  exact a b x h
theorem Same.tup {K : PySem.W.Frag} {H H' : Hp} {a : Addr} {xs : List V} (e : Same H H') (h : SqT K H a xs) : SqT K H' a xs := by
  rcases h with (h | ⟨o, h⟩) | h
  · exact .inl (.inl (e _ _ h))
  · exact .inl (.inr ⟨o, e _ _ h⟩)
  · exact .inr h
theorem Kp.none {r p : Addr} {H H' : Hp} (e : Kp r H H') (n : p ≠ r) (h : H' p = Option.none) : H p = Option.none := by
  cases q : H p with
  | none => rfl
  | some o =>
    rw [e p o n q] at h
    cases h
theorem keep_new {H : Hp} {p b : Addr} {o x : HO} (h : H b = some x) (n : H p = Option.none) : (upd H p o) b = some x := by
  rw [upd_ne (ne_of_none h n)]
  exact h
theorem keep_ne {H : Hp} {p b : Addr} {o x : HO} (h : H b = some x) (n : b ≠ p) : (upd H p o) b = some x := by
  rw [upd_ne n]
  exact h
/-! ### a word between a statement and the rest -/
def tMid (t u : TS) : TS := fun D σ H => ∃ M : L2.St → Hp → Prop, t { D with nx := M } σ H ∧ ∀ σ1 H1, M σ1 H1 → u D σ1 H1
theorem pss_mid {X : Cx} {st : Stmt} {r : List Stmt} {t u : TS} (a : PS X st t) (b : PSs X r u) : PSs X (st :: r) (tMid t u) := ⟨fun pins s σ H D I h => by
  obtain ⟨M, hm, hu⟩ := h
  refine wpAny_execs_cons (thn (a.run pins s σ H { D with nx := M } I hm) fun f s1 q => ?_)
  cases f
  case next =>
    obtain ⟨σ1, H1, I1, q1⟩ := q
    exact b.run pins s1 σ1 H1 D I1 (hu σ1 H1 q1)
  all_goals exact q⟩
/-! ### texts -/
/-- a text of these codes; one sign -/
abbrev tx (l : List Nat) : V := .str ⟨l.toArray⟩
abbrev sg (c : Nat) : V := .str ⟨#[c]⟩
theorem signs_vals {x : Str} {acc : Array Value} (h : ItemsOf (SignAt x) acc x.cps.size) : Vals (x.cps.toList.map sg) acc.toList := by
  obtain ⟨hz, hi⟩ := h
  have key : ∀ (l : List Nat) (us : List Value), l.length = us.length → (∀ (j : Nat) (c : Nat) (v : Value), l[j]? = some c → us[j]? = some v → ∃ t, v = Value.str ⟨#[c]⟩ t) → Vals (l.map sg) us := by
    intro l
    induction l with
    | nil =>
      intro us hl _
      cases us with
      | nil => exact .nil
      | cons a b => cases hl
    | cons c l ih =>
      intro us hl hh
      cases us with
      | nil => cases hl
      | cons u us =>
        refine .cons ?_ (ih us (Nat.succ.inj hl) fun j c v h1 h2 => hh (j + 1) c v h1 h2)
        obtain ⟨t, e⟩ := hh 0 c u rfl rfl
        exact ⟨t, e⟩
  refine key _ _ (by rw [Array.length_toList, Array.length_toList, hz]) fun j c v h1 h2 => ?_
  obtain ⟨cc, t, e1, e2⟩ := hi j v (by rw [← Array.getElem?_toList]; exact h2)
  rw [Array.getElem?_toList] at h1
  rw [h1] at e1
  cases e1
  exact ⟨t, e2⟩
/-- the text of one sign -/
abbrev sS (c : Nat) : Str := ⟨#[c]⟩
theorem str_empty : (Str.ofString "").cps = #[] := by decide +kernel
theorem join_signs : ∀ l : List Nat, Txt.join (Str.ofString "") (l.map sS) = ⟨l.toArray⟩ := by
  intro l
  show PySem.Builtin.Str.glued (Str.ofString "") (l.map sS) = _
  rw [PySem.StrLaws.glued_eq_join]
  induction l with
  | nil => rfl
  | cons c l ih =>
    cases l with
    | nil => rfl
    | cons d l =>
      show sS c ++ Str.ofString "" ++ Str.join (Str.ofString "") ((d :: l).map sS) = _
      rw [ih]
      show (⟨(#[c] ++ (Str.ofString "").cps) ++ (d :: l).toArray⟩ : Str) = _
      rw [str_empty]
      simp
theorem ltCps_one {a b : Nat} (h : ltCps [a] [b] = false) : b ≤ a := by
  simp [ltCps] at h
  exact h
theorem rising_signs : ∀ (l : List Nat) (c : Nat), risingS (sS c) (l.map sS) = true → (c :: l).Pairwise (· ≤ ·)
  | [], c, _ => List.pairwise_singleton _ _
  | d :: l, c, h => by
    have h' : (!ltCps [d] [c] && risingS (sS d) (l.map sS)) = true := h
    rw [Bool.and_eq_true, Bool.not_eq_true'] at h'
    have hd := ltCps_one h'.1
    have ih := rising_signs l d h'.2
    refine List.Pairwise.cons (fun x hx => ?_) ih
    rcases List.mem_cons.mp hx with e | hx
    · rw [e]
      exact hd
    · exact Nat.le_trans hd ((List.pairwise_cons.mp ih).1 x hx)
theorem sorted_signs : ∀ (l : List Nat), sortedS (l.map sS) = true → l.Pairwise (· ≤ ·)
  | [], _ => List.Pairwise.nil
  | c :: l, h => rising_signs l c h
theorem perm_signs {ys : List Str} {l : List Nat} (h : ys.Perm (l.map sS)) : ∃ l' : List Nat, ys = l'.map sS ∧ l'.Perm l := by
  let hd : Str → Nat := fun z => z.cps.toList.headD 0
  refine ⟨ys.map hd, ?_, ?_⟩
  · rw [List.map_map]
    have e : ∀ y ∈ ys, (sS ∘ hd) y = y := fun y hy => by
      obtain ⟨c, _, rfl⟩ := List.mem_map.mp (h.mem_iff.mp hy)
      rfl
    conv => lhs; rw [← List.map_id ys]
    exact (List.map_congr_left e).symm
  · have e := h.map hd
    rw [List.map_map] at e
    have e2 : l.map (hd ∘ sS) = l := by
      conv => rhs; rw [← List.map_id l]
      exact List.map_congr_left fun c _ => rfl
    rw [e2] at e
    exact e
theorem strict_of {l : List Nat} (h : l.Pairwise (· ≤ ·)) (n : l.Nodup) : l.Pairwise (· < ·) := by
  refine (h.and n).imp fun {a b} q => ?_
  have h1 := q.1
  have h2 : a ≠ b := q.2
  omega
theorem map_sg (l : List Nat) : l.map sg = (l.map sS).map V.str := by
  rw [List.map_map]
  rfl
theorem erase_map {α β : Type} (f : α → β) : ∀ (l : List α) (k : Nat), (l.map f).eraseIdx k = (l.eraseIdx k).map f
  | [], _ => rfl
  | _ :: _, 0 => rfl
  | a :: l, k + 1 => by
    show f a :: (l.map f).eraseIdx k = f a :: (l.eraseIdx k).map f
    rw [erase_map f l k]
theorem pop_perm : ∀ {l : List Nat} {k : Nat} {y : Nat}, l[k]? = some y → (y :: l.eraseIdx k).Perm l
  | [], k, y, h => by simp at h
  | a :: l, 0, y, h => by
    have e : a = y := Option.some.inj h
    rw [e]
    exact List.Perm.refl _
  | a :: l, k + 1, y, h => by
    have ih := pop_perm (l := l) (k := k) (y := y) h
    exact (List.Perm.swap a y (l.eraseIdx k)).trans (ih.cons a)
theorem popped {l : List Nat} {k : Nat} {y : Nat} (h : l[k]? = some y) (f : List Nat) : (l.eraseIdx k ++ (f ++ [y])).Perm (l ++ f) := by
  have p := pop_perm h
  have p1 : (l.eraseIdx k ++ (f ++ [y])).Perm ([y] ++ (l.eraseIdx k ++ f)) := by
    rw [← List.append_assoc]
    exact List.perm_append_comm
  refine p1.trans ?_
  rw [← List.append_assoc]
  exact p.append_right f
section
variable {X : Cx}
theorem call_list_txt (hc : X.calm = true := by rfl) : CallR X (.type "list") (fun xs H Q => ∃ z : Str, xs = [.str z] ∧ z.length ≤ sizeLine ∧ ∀ l, H l = none → Q (.ref l) (upd H l (.lst (z.cps.toList.map sg)))) := by
  intro pins s σ H xs us Q I r h
  obtain ⟨z, rfl, hz, q⟩ := h
  obtain ⟨u, rfl, rx⟩ := vals1 r
  obtain ⟨t, rfl⟩ := rx
  refine PySem.call_list_str (I.ok.hd hc) z t (fun h' tk acc c kp e hi => ?_) hz
  have hv := signs_vals hi
  exact ⟨.ref s.heap.objs.size, _, I.laid (t' := tk) kp (Nat.le_refl _) (show ObjOk X.prog X.w _ h' _ (.lst (z.cps.toList.map sg)) from ⟨by rw [List.length_map, Array.length_toList]; exact hz, acc.toList, c, hv, by rw [Array.toArray_toList]; exact e⟩), rfl, q _ (I.hok.fresh (Nat.le_refl _))⟩
end
end My

set_option Elab.async false
set_option linter.all false
set_option maxRecDepth 100000
set_option maxHeartbeats 1000000
namespace My
open PySem PySem.Spec PyProof.Rows L2
/-! ### enumerate over a text, over a tuple -/
def ItEg (go : Nat → Hp → Prop) (val : Nat → Hp → V → Prop) (stop : Nat → Hp → Prop) : It :=
  ⟨go, fun i H v H' => ∃ T x, v = .ref T ∧ H T = none ∧ H' = upd H T (.tup [.int (i : Nat), x]) ∧ val i H x, stop⟩
theorem turn_eg {P : Program} {w : World} {K : PySem.W.Frag} {elts : List Expr} {kk : Nat} {tpos : Pos} {e it : Addr} {Sub : Nat → Heap → Prop} {go stop : Nat → Hp → Prop} {val : Nat → Hp → V → Prop} (hne : e ≠ it)
    (obj : ∀ i h, Sub i h → ∃ o, h.get? it = some o ∧ ∀ v, o.data ≠ .cell v)
    (keep : ∀ i h h', Sub i h → (∀ o, h.get? it = some o → h'.get? it = some o) → Sub i h')
    (draw : ∀ (X : Cx) (pins : List (Addr × Obj)) (σ : L2.St) (H : Hp) (s : Shared) (i : Nat), X.prog = P → X.w = w → X.K = K → X.calm = true → Inv X pins σ H s → (∃ old, IsEnum s.heap e it ((i : Nat) : Int) old) → Sub i s.heap → go i H ∨ stop i H →
      ∃ (fp : List Addr) (n : Nat) (Pd : Nat → Value → Prop) (St : Nat → Heap → Prop), Draws P w X.A.in1 it fp n Pd St ∧ St i s.heap ∧ (∀ j h, St j h → Sub j h) ∧ e ∉ fp ∧ (go i H → i < n) ∧ (stop i H → i = n) ∧ (go i H → ∀ u, Pd i u → ∃ x, RelV x u ∧ val i H x)) :
    Turn P w K (.Tuple elts kk tpos) (ItEg go val stop) [e, it] e (fun i h => (∃ old, IsEnum h e it ((i : Nat) : Int) old) ∧ Sub i h) where
  mem := by simp
  obj := fun i h st b hb => by
    obtain ⟨⟨old, he⟩, hs⟩ := st
    have hb2 : b = e ∨ b = it := by simpa using hb
    rcases hb2 with z | z
    · rw [z]
      exact ⟨_, he, fun v q => nomatch q⟩
    · rw [z]
      exact obj i h hs
  keep := fun i h h' st k => by
    obtain ⟨⟨old, he⟩, hs⟩ := st
    exact ⟨⟨old, k e (by simp) _ he⟩, keep i h h' hs fun o q => k it (by simp) o q⟩
  item := by
    intro X hP hw hK hc i pins s σ H E I hf st hg
    obtain ⟨fp, n, Pd, St, D, hst, hsub, hef, hlt, _, hval⟩ := draw X pins σ H s i hP hw hK hc I st.1 st.2 (.inl hg)
    obtain ⟨⟨old, he⟩, hs⟩ := st
    subst hP hw hK
    have hel : e < s.heap.objs.size := Heap.lt_size he
    have hil : it < s.heap.objs.size := by
      obtain ⟨o, q, _⟩ := obj i _ hs
      exact Heap.lt_size q
    refine wpAny_pyNext_enum_itemC D he hst (hlt hg) hne hef fun u h' tk hu ho hst' hT hsz hk => ?_
    obtain ⟨x, ru, hv⟩ := hval hg u hu
    refine ⟨_, rfl, wpAny_letOwnedTupleGo_enum (s := { s with heap := h', toks := tk + 1 }) ho fun h'' he' sb => ?_⟩
    have hT2 : h''.get? s.heap.objs.size = some { cls := .type "tuple", data := .seq #[.int i tk, u] } := (sb.2 _ (Nat.ne_of_gt hel)).trans hT
    have new : ObjOk X.prog X.w (upd H s.heap.objs.size (.tup [.int (i : Nat), x])) h'' s.heap.objs.size (.tup [.int (i : Nat), x]) := ⟨by show 2 ≤ sizeLine; decide, [.int i tk, u], .cons ⟨_, rfl⟩ (.cons ru .nil), ⟨_, hT2, rfl, _, rfl⟩⟩
    have I1 : Inv X pins σ (upd H s.heap.objs.size (.tup [.int (i : Nat), x])) { s with heap := h'', toks := tk + 1 } :=
      I.turnedNew (ch := [e, it]) (fun b ob hb q => (sb.2 b fun z => hb (by simp [z])).trans (hk b ob (fun z => hb (by simp [z])) (fun z => hb (by simp [z])) q)) hf (Nat.le_refl _) new
    refine ⟨.ref s.heap.objs.size, _, I1, rfl, ⟨_, x, rfl, I.hok.fresh (Nat.le_refl _), rfl, hv⟩, ⟨⟨u, ?_⟩, keep _ _ _ (hsub _ _ hst') fun o q => (sb.2 it (Ne.symm hne)).trans q⟩, fun b hb => ?_⟩
    · have e1 : ((i + 1 : Nat) : Int) = (i : Int) + 1 := by omega
      rw [e1]
      exact he'
    · have hb2 : b = e ∨ b = it := by simpa using hb
      have hb' : b < s.heap.objs.size := by
        rcases hb2 with z | z
        · rw [z]
          exact hel
        · rw [z]
          exact hil
      rw [upd_ne (Nat.ne_of_lt hb')]
      exact (hf b hb).1
  done := by
    intro X hP hw hK hc i pins s σ H E I hf st hg
    obtain ⟨fp, n, Pd, St, D, hst, hsub, hef, _, heq, _⟩ := draw X pins σ H s i hP hw hK hc I st.1 st.2 (.inr hg)
    obtain ⟨⟨old, he⟩, hs⟩ := st
    subst hP hw hK
    have ei := heq hg
    subst ei
    obtain ⟨f0, f1, f2, f3, f4, f5⟩ := hf it (by simp)
    exact wpAny_pyNext_enum_endD D he hst fun h' eb => ⟨rfl, I.turned (t' := s.toks) (fun b o hb q => eb b o hb q) f0 f1 f3 f4 f5⟩
  self := fun A i s Q E st h => by
    obtain ⟨⟨old, he⟩, _⟩ := st
    exact wpAny_pyIter_enum he h
/-- the signs of a text with their places -/
def Ites (z : Str) : It := ItEg (fun i _ => i < z.cps.size) (fun i _ x => ∃ c, z.cps[i]? = some c ∧ x = sg c) (fun i _ => i = z.cps.size)
theorem turn_es {P : Program} {w : World} {K : PySem.W.Frag} {elts : List Expr} {kk : Nat} {tpos : Pos} {e it : Addr} (z : Str) (t : Tok) (hne : e ≠ it) :
    Turn P w K (.Tuple elts kk tpos) (Ites z) [e, it] e (fun i h => (∃ old, IsEnum h e it ((i : Nat) : Int) old) ∧ h.IsStrIter it (strIterType z) z t i) := by
  refine turn_eg hne (fun i h st => ?_) (fun i h h' st k => ?_) (fun X pins σ H s i hP hw hK hc I hen st hg => ?_)
  · obtain ⟨o, e1, c, d⟩ := st
    exact ⟨o, e1, fun v q => by rw [d] at q; cases q⟩
  · obtain ⟨o, ho, r⟩ := st
    exact ⟨o, k o ho, r⟩
  · have hh : X.A.in1.handled = none := I.ok.hd hc
    subst hP hw hK
    refine ⟨_, _, _, _, Draws.text hh it z t, st, fun _ _ q => q, fun q => hne (by simpa using q), fun q => q, fun q => q, fun _ u hu => ?_⟩
    obtain ⟨c, tk, e1, e2⟩ := hu
    exact ⟨sg c, ⟨tk, e2⟩, c, e1, rfl⟩
section
variable {X : Cx}
def iEnumS (ta : TA) : TI := fun σ H R => ta σ H fun vs H1 => ∃ z, vs = [.str z] ∧ R (Ites z) H1
theorem fresh2 {pins : List (Addr × Obj)} {σ : L2.St} {H : Hp} {s : Shared} (I : Inv X pins σ H s) : ∀ b ∈ [s.heap.objs.size + 1, s.heap.objs.size], FpOk X pins H b := fun b hb => by
  have hb2 : b = s.heap.objs.size + 1 ∨ b = s.heap.objs.size := by simpa using hb
  have hle : s.heap.objs.size ≤ b := by
    rcases hb2 with z | z
    · rw [z]
      exact Nat.le_succ _
    · rw [z]
      exact Nat.le_refl _
  exact I.fpOk hle (I.hok.fresh hle)
theorem pi_enumS {e : Expr} {ta : TA} {p pos tpos : Pos} {elts : List Expr} {kk : Nat} (hg : Gl X "enumerate") (hm : X.mg "enumerate" = none) (ha : PA X [e] ta) (hs : starEach [e] X.env = [(false, eval e X.env)] := by rfl) :
    PI X (.Tuple elts kk tpos) (.Call (.Name "enumerate" p) [e] [] pos) (iEnumS ta) := by
  refine ⟨fun pins s σ H R I h => ?_⟩
  refine Call_ (ld_blt I hg hm boot_enumerate (PyProof.Rows.callWith_type1 (thn (ha.run pos pins s σ H _ I h) fun us s1 ⟨vs, H1, I1, r1, q1⟩ => ?_) hs rfl))
  obtain ⟨z, rfl, q⟩ := q1
  obtain ⟨u, rfl, ru⟩ := vals1 r1
  obtain ⟨t, rfl⟩ := ru
  refine call_enumerate_str fun h' he hit hsz hk => wpAny_pyIter_enum he ?_
  exact ⟨s1.heap.objs.size + 1, [s1.heap.objs.size + 1, s1.heap.objs.size], _, _, H1, rfl, I1.kept (t' := s1.toks) hk, turn_es z t (Nat.succ_ne_self _), ⟨⟨.none, he⟩, hit⟩, fresh2 I1, q⟩
end
theorem walk_es {z : Str} : Walk (Ites z) z.cps.size (fun _ => True) (YPair (fun i => some (.int (i : Nat))) (fun i => z.cps[i]?.map sg)) := by
  refine ⟨fun _ _ hi _ => hi, fun _ _ => rfl, fun i H v H' hi _ y => ?_⟩
  obtain ⟨T, x, h1, h2, h3, c, h4, h5⟩ := y
  exact ⟨T, .int (i : Nat), x, h1, h2, h3, rfl, by show Option.map sg z.cps[i]? = some x; rw [h4, h5]; rfl⟩
end My

set_option Elab.async false
set_option linter.all false
set_option maxRecDepth 100000
set_option maxHeartbeats 1000000
namespace My
open PySem PySem.Spec PyProof.Rows L2
/-! ### calls by named readings -/
def rLenSq (K : PySem.W.Frag) : List V → Hp → VK → Prop := fun xs H Q => ∃ p ys, xs = [.ref p] ∧ (SqL K H p ys ∨ SqT K H p ys) ∧ Q (.int (ys.length : Nat)) H
def rListSq (K : PySem.W.Frag) : List V → Hp → VK → Prop := fun xs H Q => ∃ p ys, xs = [.ref p] ∧ (SqL K H p ys ∨ SqT K H p ys) ∧ ∀ l, H l = none → Q (.ref l) (upd H l (.lst ys))
def rTupSq (K : PySem.W.Frag) : List V → Hp → VK → Prop := fun xs H Q => ∃ p ys, xs = [.ref p] ∧ ((SqL K H p ys ∧ ∀ l, H l = none → Q (.ref l) (upd H l (.tup ys))) ∨ (SqT K H p ys ∧ Q (.ref p) H))
section
variable (K : PySem.W.Frag) {X : Cx}
theorem cLenSq (hK : X.K = K := by rfl) : CallR X (.builtin "len") (rLenSq K) := by
  subst hK
  exact call_len_seq
theorem cListSq (hK : X.K = K := by rfl) : CallR X (.type "list") (rListSq K) := by
  subst hK
  exact call_list_of
theorem cTupSq (hK : X.K = K := by rfl) : CallR X (.type "tuple") (rTupSq K) := by
  subst hK
  exact call_tuple_of
theorem ixL (hK : X.K = K := by rfl) : IxR X (rIxL K) := by
  subst hK
  exact ix_list
theorem ixT (hK : X.K = K := by rfl) : IxR X (rIxT K) := by
  subst hK
  exact ix_tup
theorem piL {tg l : Expr} {tl : TE} (hl : PE X l tl) (hK : X.K = K := by rfl) : PI X tg l (iList K tl) := by
  subst hK
  exact pi_list hl
theorem piT {tg l : Expr} {tl : TE} (hl : PE X l tl) (hK : X.K = K := by rfl) : PI X tg l (iTup K tl) := by
  subst hK
  exact pi_tup hl
theorem pgT {es : List Expr} {k : Nat} {t : TGs} {n : Nat} {pos : Pos} (h : PGs X es t) (hK : X.K = K := by rfl) (hc : X.calm = true := by rfl) (hn : (assignEach es X.env).length = n := by rfl) (hst : (assignEach es X.env).findIdx? (·.1) = none := by rfl) : PG X (.Tuple es k pos) (gTup K n t) := by
  subst hK
  exact pg_tup hc h hn hst
theorem inSq (hK : X.K = K := by rfl) : OpR X (compareOp .In) (rIn K false) := by
  subst hK
  exact op_in_seq
theorem notInSq (hK : X.K = K := by rfl) : OpR X (compareOp .NotIn) (rIn K true) := by
  subst hK
  exact op_notIn_seq
theorem eqDK (hu : X.A.units + 64 < cLine) (hK : X.K = K := by rfl) : OpR X (compareOp .Eq) (rEqD K) := by
  subst hK
  exact op_eqD hu
theorem bmK {T id : String} {name : Str} {r : V → List V → Hp → VK → Prop} {o e : Expr} {es : List Expr} {to : TE} {t : TA} {apos cpos : Pos} (pa : PlainAttrs T) (slot : Slot T name id) (hty : typeOf (.builtin id) = pure (.type "method_descriptor")) (hm : MtR X id r) (ho : PE X o to) (ha : PA X (e :: es) t) (hK : X.K = K := by rfl)
    (hbase : attributeBase o name X.env (eval o X.env) = eval o X.env := by rfl)
    (hfew : ((backTo cpos (starEach (e :: es) X.env)).all (fun x => !x.1) && (backToKw cpos (keywordEach [] X.env)).all (fun x => x.1.isSome) && decide ((e :: es).length + ([] : List Keyword).length + (if ([] : List Keyword).isEmpty then 0 else 1) < 30)) = true := by rfl)
    (hline : (apos.endLine == cpos.line) = true := by rfl) (hs : starEach (e :: es) X.env = (false, eval e X.env) :: starEach es X.env := by rfl) (hplain : (backTo cpos (starEach es X.env)).any (·.1) = false := by rfl) :
    PE X (.Call (.Attribute o name apos) (e :: es) [] cpos) (tBM K T r to t) := by
  subst hK
  exact pe_bm pa slot hty hm ho ha hbase hfew hline hs hplain
theorem zipAK {e e2 : Expr} {ta : TA} {p pos tpos : Pos} {elts : List Expr} {kk : Nat} (hg : Gl X "zip") (hm : X.mg "zip" = none) (ha : PA X [e, e2] ta) (hK : X.K = K := by rfl)
    (hs : starEach [e, e2] X.env = (false, eval e X.env) :: starEach [e2] X.env := by rfl) (hpl : (backTo pos (starEach [e2] X.env)).any (·.1) = false := by rfl) :
    PI X (.Tuple elts kk tpos) (.Call (.Name "zip" p) [e, e2] [] pos) (RZ.iZipA K ta) := by
  subst hK
  exact RZ.pi_zipA hg hm ha hs hpl
theorem isiK (hK : X.K = K := by rfl) : CallR X (.builtin "isinstance") (rIsi K) := by
  subst hK
  exact call_isi
end
/-! ### frozen data: numbers, texts, None, truths, tuples of these -/
mutual
inductive Fz (H : Hp) : V → PyData → Prop
  | non : Fz H .non .none
  | bl (b : Bool) : Fz H (.bl b) (.bool b)
  | int (i : Int) : Fz H (.int i) (.int i)
  | str (x : Str) : Fz H (.str x) (.str x)
  | tup {a : Addr} {xs : List V} {ds : List PyData} : H a = some (.tup xs) → FzA H xs ds → Fz H (.ref a) (.tuple ds)
inductive FzA (H : Hp) : List V → List PyData → Prop
  | nil : FzA H [] []
  | cons {v : V} {vs : List V} {d : PyData} {ds : List PyData} : Fz H v d → FzA H vs ds → FzA H (v :: vs) (d :: ds)
end
/-- tuples stay -/
def Kt (H H' : Hp) : Prop := ∀ b xs, H b = some (.tup xs) → H' b = some (.tup xs)
theorem Kt.rfl' {H : Hp} : Kt H H := fun _ _ h => h
theorem Kt.trans {H H1 H2 : Hp} (a : Kt H H1) (b : Kt H1 H2) : Kt H H2 := fun c o h => b c o (a c o h)
theorem Kt.new {H : Hp} {p : Addr} {o : HO} (n : H p = none) : Kt H (upd H p o) := fun b xs h => by
  rw [upd_ne (ne_of_none h n)]
  exact h
theorem Kt.lst {H : Hp} {p : Addr} {xs : List V} {o : HO} (n : H p = some (.lst xs)) : Kt H (upd H p o) := fun b ys h => by
  have e : b ≠ p := fun z => by
    rw [z, n] at h
    cases h
  rw [upd_ne e]
  exact h
theorem Kt.dct {H : Hp} {p : Addr} {xs : List (Key × V)} {o : HO} (n : H p = some (.dK xs)) : Kt H (upd H p o) := fun b ys h => by
  have e : b ≠ p := fun z => by
    rw [z, n] at h
    cases h
  rw [upd_ne e]
  exact h
theorem Kp.kt {r : Addr} {H H' : Hp} {xs : List V} (k : Kp r H H') (h : H r = some (.lst xs)) : Kt H H' := fun b ys e => k b _ (fun z => by
  rw [z, h] at e
  cases e) e
theorem Same.kt {H H' : Hp} (k : Same H H') : Kt H H' := fun b ys e => k b _ e
mutual
theorem Fz.mono {H H' : Hp} (k : Kt H H') : ∀ (d : PyData) (v : V), Fz H v d → Fz H' v d
  | .none, _, .non => .non
  | .bool _, _, .bl b => .bl b
  | .int _, _, .int i => .int i
  | .str _, _, .str x => .str x
  | .tuple ds, _, .tup h a => .tup (k _ _ h) (FzA.mono k ds _ a)
theorem FzA.mono {H H' : Hp} (k : Kt H H') : ∀ (ds : List PyData) (vs : List V), FzA H vs ds → FzA H' vs ds
  | [], _, .nil => .nil
  | d :: ds, _, .cons h a => .cons (Fz.mono k d _ h) (FzA.mono k ds _ a)
end
theorem Fz.kt {H H' : Hp} {v : V} {d : PyData} (h : Fz H v d) (k : Kt H H') : Fz H' v d := Fz.mono k d v h
theorem FzA.kt {H H' : Hp} {vs : List V} {ds : List PyData} (h : FzA H vs ds) (k : Kt H H') : FzA H' vs ds := FzA.mono k ds vs h
mutual
theorem Fz.dp {K : PySem.W.Frag} {H : Hp} : ∀ (d : PyData) (v : V), Fz H v d → Dp K H v d
  | .none, _, .non => .non
  | .bool _, _, .bl b => .bl b
  | .int _, _, .int i => .int i
  | .str _, _, .str x => .str x
  | .tuple ds, _, .tup h a => .tup (.inl (.inl h)) (FzA.dp ds _ a)
theorem FzA.dp {K : PySem.W.Frag} {H : Hp} : ∀ (ds : List PyData) (vs : List V), FzA H vs ds → DpAll K H vs ds
  | [], _, .nil => .nil
  | d :: ds, _, .cons h a => .cons (Fz.dp d _ h) (FzA.dp ds _ a)
end
theorem Fz.to {K : PySem.W.Frag} {H : Hp} {v : V} {d : PyData} (h : Fz H v d) : Dp K H v d := Fz.dp d v h
theorem FzA.len : ∀ {H : Hp} {vs : List V} {ds : List PyData}, FzA H vs ds → vs.length = ds.length
  | _, _, _, .nil => rfl
  | _, _, _, .cons _ a => by
    rw [List.length_cons, List.length_cons, FzA.len a]
theorem FzA.get : ∀ {H : Hp} {vs : List V} {ds : List PyData} {i : Nat} {d : PyData}, FzA H vs ds → ds[i]? = some d → ∃ v, vs[i]? = some v ∧ Fz H v d
  | _, _, _, _, _, .nil, h => by simp at h
  | _, _, _, 0, _, .cons a _, h => ⟨_, rfl, Option.some.inj h ▸ a⟩
  | _, _, _, i + 1, _, .cons _ a, h => FzA.get (i := i) a h
theorem FzA.getV : ∀ {H : Hp} {vs : List V} {ds : List PyData} {i : Nat} {v : V}, FzA H vs ds → vs[i]? = some v → ∃ d, ds[i]? = some d ∧ Fz H v d
  | _, _, _, _, _, .nil, h => by simp at h
  | _, _, _, 0, _, .cons a _, h => ⟨_, rfl, Option.some.inj h ▸ a⟩
  | _, _, _, i + 1, _, .cons _ a, h => FzA.getV (i := i) a h
theorem FzA.app : ∀ {H : Hp} {vs ws : List V} {ds es : List PyData}, FzA H vs ds → FzA H ws es → FzA H (vs ++ ws) (ds ++ es)
  | _, _, _, _, _, .nil, b => b
  | _, _, _, _, _, .cons a r, b => .cons a (FzA.app r b)
theorem FzA.snoc {H : Hp} {vs : List V} {ds : List PyData} {v : V} {d : PyData} (a : FzA H vs ds) (b : Fz H v d) : FzA H (vs ++ [v]) (ds ++ [d]) := a.app (.cons b .nil)
theorem FzA.ints : ∀ {H : Hp} {ns : List Int} {vs : List V}, FzA H vs (ns.map PyData.int) → vs = ns.map V.int
  | _, [], _, .nil => rfl
  | _, n :: ns, _, .cons (.int _) a => by
    rw [FzA.ints (ns := ns) a]
    rfl
theorem FzA.ofInts : ∀ {H : Hp} {ns : List Int}, FzA H (ns.map V.int) (ns.map PyData.int)
  | _, [] => .nil
  | _, n :: ns => .cons (.int n) (FzA.ofInts (ns := ns))
/-- a tuple, opened -/
theorem Fz.open {H : Hp} {v : V} {ds : List PyData} (h : Fz H v (.tuple ds)) : ∃ (a : Addr) (xs : List V), v = .ref a ∧ H a = some (.tup xs) ∧ FzA H xs ds := by
  cases h with
  | tup h a => exact ⟨_, _, rfl, h, a⟩
theorem FzA.one {H : Hp} {vs : List V} {d : PyData} (h : FzA H vs [d]) : ∃ x, vs = [x] ∧ Fz H x d := by
  cases h with
  | cons a r =>
    cases r
    exact ⟨_, rfl, a⟩
theorem FzA.two {H : Hp} {vs : List V} {d e : PyData} (h : FzA H vs [d, e]) : ∃ x y, vs = [x, y] ∧ Fz H x d ∧ Fz H y e := by
  cases h with
  | cons a r =>
    obtain ⟨y, rfl, b⟩ := r.one
    exact ⟨_, y, rfl, a, b⟩
theorem FzA.three {H : Hp} {vs : List V} {d e f : PyData} (h : FzA H vs [d, e, f]) : ∃ x y z, vs = [x, y, z] ∧ Fz H x d ∧ Fz H y e ∧ Fz H z f := by
  cases h with
  | cons a r =>
    obtain ⟨y, z, rfl, b, c⟩ := r.two
    exact ⟨_, y, z, rfl, a, b, c⟩
theorem Fz.isStr {H : Hp} {v : V} {x : Str} (h : Fz H v (.str x)) : v = .str x := by
  cases h
  rfl
theorem Fz.isInt {H : Hp} {v : V} {i : Int} (h : Fz H v (.int i)) : v = .int i := by
  cases h
  rfl
theorem Fz.isNon {H : Hp} {v : V} (h : Fz H v .none) : v = .non := by
  cases h
  rfl
/-- a tuple just made -/
theorem Fz.made {H : Hp} {p : Addr} {xs : List V} {ds : List PyData} (n : H p = Option.none) (h : FzA H xs ds) : Fz (upd H p (.tup xs)) (.ref p) (.tuple ds) := .tup upd_same (h.kt (.new n))
theorem at_ints {ns : List Int} {d : Int} (h0 : 0 ≤ d) (h1 : d < (ns.length : Nat)) : ∃ t ∈ ns, atI (ns.map V.int) d = some (.int t) := by
  have hd : d.toNat < ns.length := by omega
  refine ⟨ns[d.toNat], List.getElem_mem hd, L2.at_of (j := d.toNat) (by omega) ?_⟩
  rw [List.getElem?_map, List.getElem?_eq_getElem hd]
  rfl
/-! ### tables -/
abbrev rowD (row : List Int) : PyData := .tuple (row.map PyData.int)
abbrev rowsD (rows : List (List Int)) : PyData := .tuple (rows.map rowD)
abbrev tabD (cols : List Nat) (rows : List (List Int)) : PyData := .tuple [.str ⟨cols.toArray⟩, rowsD rows]
/-- rising unlike letters -/
structure Cols (l : List Nat) : Prop where
  up : l.Pairwise (· < ·)
  az : ∀ c ∈ l, 97 ≤ c ∧ c ≤ 122
theorem Cols.nd {l : List Nat} (c : Cols l) : l.Nodup := c.up.imp fun {a b} h => by
  have : a < b := h
  omega
def RowOk (n : Nat) (row : List Int) : Prop := row.length = n ∧ ∀ x ∈ row, 0 ≤ x ∧ x < 1000
def RowsOk (n : Nat) (rows : List (List Int)) : Prop := ∀ row ∈ rows, RowOk n row
theorem row_open {H : Hp} {v : V} {row : List Int} (h : Fz H v (rowD row)) : ∃ a, v = .ref a ∧ H a = some (.tup (row.map V.int)) := by
  obtain ⟨a, xs, rfl, ha, f⟩ := h.open
  rw [FzA.ints f] at ha
  exact ⟨a, rfl, ha⟩
theorem row_made {H : Hp} {p : Addr} {row : List Int} (n : H p = none) : Fz (upd H p (.tup (row.map V.int))) (.ref p) (rowD row) := Fz.made n FzA.ofInts
theorem tab_open {H : Hp} {v : V} {cols : List Nat} {rows : List (List Int)} (h : Fz H v (tabD cols rows)) : ∃ (t R : Addr) (vs : List V), v = .ref t ∧ H t = some (.tup [tx cols, .ref R]) ∧ H R = some (.tup vs) ∧ FzA H vs (rows.map rowD) := by
  obtain ⟨t, xs, rfl, ht, f⟩ := h.open
  obtain ⟨x, y, rfl, fx, fy⟩ := f.two
  obtain ⟨R, vs, rfl, hR, fv⟩ := fy.open
  rw [fx.isStr] at ht
  exact ⟨t, R, vs, rfl, ht, hR, fv⟩
theorem can_row (row : List Int) : PyData.canLay0 (rowD row) = true := by
  show PyData.canLayAll0 (row.map PyData.int) = true
  induction row with
  | nil => rfl
  | cons a r ih =>
    show (PyData.canLay0 (.int a) && PyData.canLayAll0 (r.map PyData.int)) = true
    rw [ih]
    rfl
theorem can_rows (rows : List (List Int)) : PyData.canLay0 (rowsD rows) = true := by
  show PyData.canLayAll0 (rows.map rowD) = true
  induction rows with
  | nil => rfl
  | cons a r ih =>
    show (PyData.canLay0 (rowD a) && PyData.canLayAll0 (r.map rowD)) = true
    rw [ih, can_row]
    rfl
theorem dep_row (row : List Int) : PyData.depth (rowD row) ≤ 1 := by
  show PyData.depthAll (row.map PyData.int) + 1 ≤ 1
  induction row with
  | nil => exact Nat.le_refl _
  | cons a r ih =>
    show max (PyData.depth (.int a)) (PyData.depthAll (r.map PyData.int)) + 1 ≤ 1
    have e : PyData.depth (.int a) = 0 := rfl
    rw [e]
    omega
theorem dep_rows (rows : List (List Int)) : PyData.depth (rowsD rows) ≤ 2 := by
  show PyData.depthAll (rows.map rowD) + 1 ≤ 2
  induction rows with
  | nil => decide
  | cons a r ih =>
    show max (PyData.depth (rowD a)) (PyData.depthAll (r.map rowD)) + 1 ≤ 2
    have := dep_row a
    omega
theorem shaped_rows (rows : List (List Int)) : SeqAt.shaped (rowsD rows) = true := by
  unfold SeqAt.shaped
  rw [can_rows, Bool.true_and]
  have := dep_rows rows
  exact decide_eq_true (by omega)
/-! ### questions -/
abbrev eqD (p : Nat × Int) : PyData := .tuple [.str ⟨#[p.1]⟩, .int p.2]
abbrev rchD : Option (Nat × Int × Int) → PyData
  | none => .none
  | some (c, lo, hi) => .tuple [.str ⟨#[c]⟩, .int lo, .int hi]
structure QOk (cols : List Nat) (es : List (Nat × Int)) (rc : Option (Nat × Int × Int)) : Prop where
  up : (es.map (·.1)).Pairwise (· < ·)
  ok : ∀ p ∈ es, p.1 ∈ cols ∧ 0 ≤ p.2 ∧ p.2 < 1000
  len : es.length ≤ cols.length
  rc : ∀ c lo hi, rc = some (c, lo, hi) → c ∈ cols ∧ c ∉ es.map (·.1) ∧ 0 ≤ lo ∧ lo ≤ hi ∧ hi < 1000
theorem idx_first : ∀ {l : List Nat} {c i : Nat}, l[i]? = some c → (∀ k, k < i → l[k]? ≠ some c) → l.idxOf c = i
  | [], c, i, h, _ => by simp at h
  | a :: l, c, 0, h, _ => by
    have e : a = c := Option.some.inj h
    rw [e]
    simp
  | a :: l, c, i + 1, h, hn => by
    have e : a ≠ c := fun z => hn 0 (Nat.succ_pos _) (by rw [z]; rfl)
    have ih := idx_first (l := l) (c := c) (i := i) h fun k hk => hn (k + 1) (Nat.succ_lt_succ hk)
    rw [List.idxOf_cons, ih]
    have eb : (a == c) = false := by simp [e]
    rw [eb]
    rfl
/-- the place of a letter -/
theorem ix_one {l : List Nat} {c : Nat} (h : c ∈ l) : ∃ r, Builtin.Str.occurrences (⟨l.toArray⟩ : Str) ⟨#[c]⟩ 0 (⟨l.toArray⟩ : Str).length 1 = l.idxOf c :: r := by
  have hx : (⟨l.toArray⟩ : Str).cps.toList = l := by simp
  rcases PySem.StrLaws.occ_head (⟨l.toArray⟩ : Str) ⟨#[c]⟩ 1 (Nat.le_refl 1) with ⟨h0, hn⟩ | ⟨i, r, h0, ha, hn⟩
  · exfalso
    obtain ⟨i, hi⟩ := List.mem_iff_getElem?.mp h
    exact hn i ((PySem.StrLaws.subAt_one _ c i).mpr (by rw [hx]; exact hi))
  · refine ⟨r, ?_⟩
    rw [h0]
    have e1 : l[i]? = some c := by
      have := (PySem.StrLaws.subAt_one _ c i).mp ha
      rw [hx] at this
      exact this
    have e3 : l.idxOf c = i := idx_first e1 fun k hk z => hn k hk ((PySem.StrLaws.subAt_one _ c k).mpr (by rw [hx]; exact z))
    rw [e3]
end My

set_option Elab.async false
set_option linter.all false
set_option maxRecDepth 100000
set_option maxHeartbeats 1000000
namespace My
open PySem PySem.Spec PyProof.Rows L2
/-! ### name = {.. for ..} on one line -/
section
variable {X : Cx} {pins : List (Addr × Obj)} {σ : L2.St} {H : Hp} {s : Shared}
/-- an object of the frame's own at C may become anything: all that is known stays -/
theorem past {C : Addr} {h' : Heap} {t' : Nat} (I : Inv X pins σ H s) (f : FpOk X pins H C) (kp : ∀ b u, b ≠ C → s.heap.get? b = some u → h'.get? b = some u) : Inv X pins σ H { s with heap := h', toks := t' } :=
  I.turned kp f.1 f.2.1 f.2.2.2.1 f.2.2.2.2.1 f.2.2.2.2.2
/-- it is neither the frame's dict nor one of its cells -/
theorem apart_of {C a : Addr} {y : Str} (f : FpOk X pins H C) (ha : a = X.env.locals ∨ X.env.cells.lookup y = some a) : C ≠ a := fun z =>
  ha.elim (fun e => f.2.1 (z.trans e)) fun e => f.2.2.2.2.1 y a e z.symm
/-- the dict that was made goes to the name y while the comprehension's frame C is still there -/
theorem kept_at {C L : Addr} {m : Str → Option Value} {i : Nat} {y : Str} {py : Pos} {D : Ends} {E : Value → Shared → Prop} (I : Inv X pins σ H s) (f : FpOk X pins H C) (hn : s.heap.Ns C m) (hN : X.N.Nodup) (hy : X.N[i]? = some y) (hyl : X.env.scope.names.lookup y = some .local)
    (q : D.nx (σ.set i (some (.ref L))) H) : wpAny (model X.prog X.w) X.A (assign (.Name y py) X.env (.ref L)) (fun _ s' => ∃ m', s'.heap.Ns C m' ∧ ∀ h3, Heap.SameBut C s'.heap h3 → SP X pins D .next { s' with heap := h3 }) E s :=
  wpAny_assign_Name (store_ok2 (v := .ref L) I hN hy (.inl hyl) rfl (fun s2 J ⟨_, sb, ha⟩ => ⟨m, hn.sameBut sb (apart_of f ha), fun h3 sb3 => ⟨_, H, past (t' := s2.toks) J f fun b u ne e => (sb3.2 b ne).trans e, q⟩⟩) (.inr hyl))
theorem ps_setDc {i : Nat} {y : Str} {py : Pos} {kx vx tg iter : Expr} {ifs : List Expr} {scope : Scope} {own : List (Str × Nat)} {pos spos : Pos} {wi : TI} {g : TG} {tt : TT} {tk tv : TE} (hc : X.calm = true) (hN : X.N.Nodup) (hy : X.N[i]? = some y) (hyl : X.env.scope.names.lookup y = some .local)
    (hsw : swapsWith (.DictComp kx vx [⟨tg, iter, ifs, 0⟩] scope pos) (some (.Name y py)) spos.line X.env = pure true) (hi : PI X tg iter wi) (ok : BlkOk X.N X.env.scope scope own)
    (hg : ∀ (s : Shared) (H : Hp) (C : Addr) (cl : List (Str × Addr)) (fp : List Addr), PG (X.blk s H scope (compEnvC scope cl C X.env) fp) tg g)
    (ht : ∀ (s : Shared) (H : Hp) (C : Addr) (cl : List (Str × Addr)) (fp : List Addr), PTs (X.blk s H scope (compEnvC scope cl C X.env) fp) ifs tt)
    (kp : ∀ (s : Shared) (H : Hp) (C : Addr) (cl : List (Str × Addr)) (fp : List Addr), PE (X.blk s H scope (compEnvC scope cl C X.env) fp) kx tk)
    (vp : ∀ (s : Shared) (H : Hp) (C : Addr) (cl : List (Str × Addr)) (fp : List Addr), PE (X.blk s H scope (compEnvC scope cl C X.env) fp) vx tv) (hs : ∀ x, foldedSetIterable iter X.env x = pure x := by intro _; rfl) :
    PS X (.Assign [.Name y py] (.DictComp kx vx [⟨tg, iter, ifs, 0⟩] scope pos) spos) (tAsg (tDc wi g tt tk tv (own.map (·.2))) (gName i)) := by
  constructor
  intro pins s σ H D I h
  have made := dc_core (pos := pos) (pos' := firstIterPos [⟨tg, iter, ifs, 0⟩] pos) (use := some (assign (.Name y py) X.env)) (Qf := fun _ s' => SP X pins D .next s') (Q := fun x H1 => gName i x σ H1 D.nx) hc hN I hi ok hg ht kp vp hs h
    fun L C s' m H' I' q hn f => kept_at I' f hn hN hy hyl q
  rw [exec_Assign_Name_used _ _ _ _ hsw]
  exact wpAny_bind (wpAny_standAt (wpAny_bind (wpAny_bind (thn made fun _ _ z => wpAny_pure (wpAny_pure z)))))
end
theorem sw_dict {kx vx : Expr} {gs : List Comprehension} {scope : Scope} {pos py : Pos} {y : Str} {l : Nat} {env : Env} (hk : env.scope.kind = .function) (hy : env.scope.names.lookup y = some .local) (hl : (py.line == pos.line) = true)
    (ha : (scope.names.any fun (n, k) => n == y && (k == .local || k == .cell)) = false) : swapsWith (.DictComp kx vx gs scope pos) (some (.Name y py)) l env = pure true :=
  Eq.trans (b := swapsWith (.ListComp kx gs scope pos) (some (.Name y py)) l env) rfl (sw_true hk hy hl ha)
/-! ### spans: letters with their bounds -/
inductive SpA (H : Hp) : List (Key × V) → List (Nat × Int × Int) → Prop
  | nil : SpA H [] []
  | cons {p : Addr} {c : Nat} {lo hi : Int} {kvs : List (Key × V)} {l : List (Nat × Int × Int)} : H p = some (.tup [.int lo, .int hi]) → SpA H kvs l → SpA H ((Sum.inr (sS c), .ref p) :: kvs) ((c, lo, hi) :: l)
theorem SpA.kt {H H' : Hp} {kvs : List (Key × V)} {l : List (Nat × Int × Int)} (h : SpA H kvs l) (k : Kt H H') : SpA H' kvs l := by
  induction h with
  | nil => exact .nil
  | cons a _ ih => exact .cons (k _ _ a) ih
theorem SpA.snoc {H : Hp} {kvs : List (Key × V)} {l : List (Nat × Int × Int)} {p : Addr} {c : Nat} {lo hi : Int} (h : SpA H kvs l) (hp : H p = some (.tup [.int lo, .int hi])) : SpA H (kvs ++ [(Sum.inr (sS c), .ref p)]) (l ++ [(c, lo, hi)]) := by
  induction h with
  | nil => exact .cons hp .nil
  | cons a _ ih => exact .cons a ih
theorem SpA.len {H : Hp} {kvs : List (Key × V)} {l : List (Nat × Int × Int)} (h : SpA H kvs l) : kvs.length = l.length := by
  induction h with
  | nil => rfl
  | cons _ _ ih => rw [List.length_cons, List.length_cons, ih]
theorem sS_inj {a b : Nat} (h : sS a = sS b) : a = b := by
  have z3 : (#[a] : Array Nat) = #[b] := congrArg Str.cps h
  simpa using z3
theorem SpA.none {H : Hp} {kvs : List (Key × V)} {l : List (Nat × Int × Int)} {c : Nat} (h : SpA H kvs l) (n : c ∉ l.map (·.1)) : valV kvs (Sum.inr (sS c)) = Option.none := by
  induction h with
  | nil => rfl
  | @cons p d lo hi kvs l a r ih =>
    rw [valV_neg (fun z => n ?_)]
    · exact ih fun q => n (List.mem_cons_of_mem _ q)
    · have : d = c := sS_inj (Sum.inr.inj z)
      rw [← this]
      exact List.mem_cons_self ..
/-- at its place: the letter's entry -/
theorem SpA.get {H : Hp} {kvs : List (Key × V)} {l : List (Nat × Int × Int)} (h : SpA H kvs l) {i : Nat} {k : Key} {v : V} (e : kvs[i]? = some (k, v)) : ∃ (p : Addr) (c : Nat) (lo hi : Int), k = Sum.inr (sS c) ∧ v = .ref p ∧ H p = some (.tup [.int lo, .int hi]) ∧ l[i]? = some (c, lo, hi) := by
  induction h generalizing i with
  | nil => simp at e
  | @cons p c lo hi kvs l a r ih =>
    cases i with
    | zero =>
      have z := Option.some.inj e
      cases z
      exact ⟨p, c, lo, hi, rfl, rfl, a, rfl⟩
    | succ i => exact ih (i := i) e
theorem SpA.look {H : Hp} {kvs : List (Key × V)} {l : List (Nat × Int × Int)} (h : SpA H kvs l) (nd : (l.map (·.1)).Nodup) {c : Nat} {lo hi : Int} (m : (c, lo, hi) ∈ l) : ∃ p, valV kvs (Sum.inr (sS c)) = some (.ref p) ∧ H p = some (.tup [.int lo, .int hi]) := by
  induction h with
  | nil => cases m
  | @cons p d lo' hi' kvs l a r ih =>
    rcases List.mem_cons.mp m with z | z
    · cases z
      exact ⟨p, valV_pos rfl, a⟩
    · have nd2 := List.nodup_cons.mp nd
      have hdc : d ≠ c := fun q => nd2.1 (by
        have := List.mem_map_of_mem (f := fun x : Nat × Int × Int => x.1) z
        rw [q]
        exact this)
      obtain ⟨p', h1, h2⟩ := ih nd2.2 z
      refine ⟨p', ?_, h2⟩
      rw [valV_neg (fun q => hdc (sS_inj (Sum.inr.inj q)))]
      exact h1
def spanL (es : List (Nat × Int)) (rc : Option (Nat × Int × Int)) : List (Nat × Int × Int) := es.map (fun p => (p.1, p.2, p.2)) ++ rc.toList
theorem spanL_keys (es : List (Nat × Int)) : (es.map (fun p => (p.1, p.2, p.2))).map (·.1) = es.map (·.1) := by
  rw [List.map_map]
  rfl
theorem spanL_nd {cols : List Nat} {es : List (Nat × Int)} {rc : Option (Nat × Int × Int)} (h : QOk cols es rc) : ((spanL es rc).map (·.1)).Nodup := by
  have h1 : (es.map (·.1)).Nodup := h.up.imp fun {a b} q => by
    have : a < b := q
    omega
  unfold spanL
  rw [List.map_append, spanL_keys]
  cases rc with
  | none => simpa using h1
  | some t =>
    obtain ⟨c, lo, hi⟩ := t
    have := (h.rc c lo hi rfl).2.1
    show (es.map (·.1) ++ [c]).Nodup
    refine List.nodup_append.mpr ⟨h1, by simp, fun a ha b hb z => ?_⟩
    rw [List.mem_singleton.mp hb] at z
    rw [z] at ha
    exact this ha
/-! ### what fits -/
def rowAt (cols : List Nat) (row : List Int) (c : Nat) : Int := row.getD (cols.idxOf c) 0
theorem row_at {cols : List Nat} {row : List Int} {c : Nat} (hl : row.length = cols.length) (h : c ∈ cols) : (row.map V.int)[cols.idxOf c]? = some (.int (rowAt cols row c)) := by
  have hi : cols.idxOf c < row.length := by
    rw [hl]
    exact List.idxOf_lt_length_of_mem h
  unfold rowAt
  rw [List.getElem?_map, List.getElem?_eq_getElem hi, List.getD_eq_getElem?_getD, List.getElem?_eq_getElem hi]
  rfl
/-! ### data with lists -/
mutual
inductive Ft (H : Hp) : V → PyData → Prop
  | non : Ft H .non .none
  | bl (b : Bool) : Ft H (.bl b) (.bool b)
  | int (i : Int) : Ft H (.int i) (.int i)
  | str (x : Str) : Ft H (.str x) (.str x)
  | lst {a : Addr} {xs : List V} {ds : List PyData} : H a = some (.lst xs) → FtA H xs ds → Ft H (.ref a) (.list ds)
  | tup {a : Addr} {xs : List V} {ds : List PyData} : H a = some (.tup xs) → FtA H xs ds → Ft H (.ref a) (.tuple ds)
inductive FtA (H : Hp) : List V → List PyData → Prop
  | nil : FtA H [] []
  | cons {v : V} {vs : List V} {d : PyData} {ds : List PyData} : Ft H v d → FtA H vs ds → FtA H (v :: vs) (d :: ds)
end
mutual
theorem Ft.mono {H H' : Hp} (k : Same H H') : ∀ (d : PyData) (v : V), Ft H v d → Ft H' v d
  | .none, _, .non => .non
  | .bool _, _, .bl b => .bl b
  | .int _, _, .int i => .int i
  | .str _, _, .str x => .str x
  | .list ds, _, .lst h a => .lst (k _ _ h) (FtA.mono k ds _ a)
  | .tuple ds, _, .tup h a => .tup (k _ _ h) (FtA.mono k ds _ a)
theorem FtA.mono {H H' : Hp} (k : Same H H') : ∀ (ds : List PyData) (vs : List V), FtA H vs ds → FtA H' vs ds
  | [], _, .nil => .nil
  | d :: ds, _, .cons h a => .cons (Ft.mono k d _ h) (FtA.mono k ds _ a)
end
theorem FtA.len : ∀ {H : Hp} {vs : List V} {ds : List PyData}, FtA H vs ds → vs.length = ds.length
  | _, _, _, .nil => rfl
  | _, _, _, .cons _ a => by
    rw [List.length_cons, List.length_cons, FtA.len a]
theorem FtA.getV : ∀ {H : Hp} {vs : List V} {ds : List PyData} {i : Nat} {v : V}, FtA H vs ds → vs[i]? = some v → ∃ d, ds[i]? = some d ∧ Ft H v d
  | _, _, _, _, _, .nil, h => by simp at h
  | _, _, _, 0, _, .cons a _, h => ⟨_, rfl, Option.some.inj h ▸ a⟩
  | _, _, _, i + 1, _, .cons _ a, h => FtA.getV (i := i) a h
theorem FtA.ofInts : ∀ {H : Hp} (ns : List Int), FtA H (ns.map V.int) (ns.map PyData.int)
  | _, [] => .nil
  | _, n :: ns => .cons (.int n) (FtA.ofInts ns)
mutual
def wd : PyData → Nat
  | .list xs => max xs.length (wdA xs)
  | .tuple xs => max xs.length (wdA xs)
  | _ => 0
def wdA : List PyData → Nat
  | [] => 0
  | x :: xs => max (wd x) (wdA xs)
end
/-! ### what isinstance tells of data -/
def tyN : PyData → String
  | .none => "NoneType"
  | .bool _ => "bool"
  | .int _ => "int"
  | .str _ => "str"
  | .list _ => "list"
  | .tuple _ => "tuple"
  | .dict _ => "dict"
def isTp : PyData → Bool
  | .tuple _ => true
  | _ => false
def isLs : PyData → Bool
  | .list _ => true
  | _ => false
def isBl : PyData → Bool
  | .bool _ => true
  | _ => false
def isSt : PyData → Bool
  | .str _ => true
  | _ => false
theorem ty_ft {K : PySem.W.Frag} {H : Hp} {v : V} {d : PyData} (h : Ft H v d) : TyX K H v (.type (tyN d)) := by
  cases h with
  | non => exact .base .non
  | bl b => exact .base (.bl b)
  | int i => exact .base (.int i)
  | str x => exact .base (.str x)
  | lst h _ => exact .base (.lst h)
  | tup h _ => exact .base (.tup h)
theorem kit_tp {K : PySem.W.Frag} (d : PyData) : PySem.W.kitOne K (.type (tyN d)) (.type "tuple") = some (isTp d) := by
  cases d <;> exact kit_ty (by kernel_rfl)
theorem kit_ls {K : PySem.W.Frag} (d : PyData) : PySem.W.kitOne K (.type (tyN d)) (.type "list") = some (isLs d) := by
  cases d <;> exact kit_ty (by kernel_rfl)
theorem kit_bl {K : PySem.W.Frag} (d : PyData) : PySem.W.kitOne K (.type (tyN d)) (.type "bool") = some (isBl d) := by
  cases d <;> exact kit_ty (by kernel_rfl)
theorem kit_st {K : PySem.W.Frag} (d : PyData) : PySem.W.kitOne K (.type (tyN d)) (.type "str") = some (isSt d) := by
  cases d <;> exact kit_ty (by kernel_rfl)
theorem walk_zipT {K : PySem.W.Frag} {a b : Addr} {xs ys : List V} {n : Nat} (h1 : n = xs.length) (h2 : n = ys.length) : Walk (RZ.ItzT K a b) n (fun H => SqT K H a xs ∧ SqT K H b ys) (YPair (fun i => xs[i]?) (fun i => ys[i]?)) := by
  refine ⟨fun i _ hi q => ?_, fun _ q => ⟨xs, ys, q.1, q.2, by omega⟩, fun i H v H' _ q y => ?_⟩
  · have e1 : i < xs.length := by omega
    have e2 : i < ys.length := by omega
    exact ⟨xs, ys, xs[i], ys[i], q.1, q.2, by simp [e1], by simp [e2]⟩
  · obtain ⟨T, x, z, q1, q2, q3, q4, q5⟩ := y
    exact ⟨T, x, z, q1, q2, q3, q4 xs q.1, q5 ys q.2⟩
theorem depA_ints : ∀ ns : List Int, PyData.depthAll (ns.map PyData.int) = 0
  | [] => rfl
  | n :: ns => by
    show max (PyData.depth (.int n)) (PyData.depthAll (ns.map PyData.int)) = 0
    rw [depA_ints ns]
    rfl
theorem dep_ints (ns : List Int) : PyData.depth (.list (ns.map PyData.int)) = 1 := by
  show PyData.depthAll (ns.map PyData.int) + 1 = 1
  rw [depA_ints]
theorem wdA_mem : ∀ {ds : List PyData} {d : PyData}, d ∈ ds → wd d ≤ wdA ds
  | x :: xs, d, h => by
    show wd d ≤ max (wd x) (wdA xs)
    rcases List.mem_cons.mp h with e | e
    · rw [e]
      exact Nat.le_max_left _ _
    · exact Nat.le_trans (wdA_mem e) (Nat.le_max_right _ _)
theorem depA_mem : ∀ {ds : List PyData} {d : PyData}, d ∈ ds → d.depth ≤ PyData.depthAll ds
  | x :: xs, d, h => by
    show d.depth ≤ max x.depth (PyData.depthAll xs)
    rcases List.mem_cons.mp h with e | e
    · rw [e]
      exact Nat.le_max_left _ _
    · exact Nat.le_trans (depA_mem e) (Nat.le_max_right _ _)
end My

set_option Elab.async false
set_option linter.all false
set_option maxRecDepth 100000
set_option maxHeartbeats 1000000
namespace My
open PySem PySem.Spec PyProof.Rows L2
/-! ### lists of numbers compared -/
theorem dp_ints {K : PySem.W.Frag} {H : Hp} : ∀ ns : List Int, DpAll K H (ns.map V.int) (ns.map PyData.int)
  | [] => .nil
  | n :: ns => .cons (.int n) (dp_ints ns)
theorem can_ints : ∀ ns : List Int, PyData.canLayAll0 (ns.map PyData.int) = true
  | [] => rfl
  | n :: ns => by
    show (PyData.canLay0 (.int n) && PyData.canLayAll0 (ns.map PyData.int)) = true
    rw [can_ints ns]
    rfl
theorem shaped_ints (ns : List Int) : SeqAt.shaped (.list (ns.map PyData.int)) = true := by
  unfold SeqAt.shaped
  show (PyData.canLayAll0 (ns.map PyData.int) && decide (PyData.depth (.list (ns.map PyData.int)) ≤ 64)) = true
  rw [can_ints, dep_ints]
  rfl
/-! ### questions and what fits -/
/-- the letter taken out of equals -/
def fewer (es : List (Nat × Int)) (c : Nat) : List (Nat × Int) := es.filter fun p => !decide (p.1 = c)
theorem QOk.sub {cols : List Nat} {es es' : List (Nat × Int)} {rc : Option (Nat × Int × Int)} (h : QOk cols es rc) (s : es'.Sublist es) : QOk cols es' none :=
  ⟨h.up.sublist (s.map _), fun p hp => h.ok p (s.subset hp), Nat.le_trans s.length_le h.len, fun _ _ _ z => nomatch z⟩
theorem QOk.reach {cols : List Nat} {es : List (Nat × Int)} {rc : Option (Nat × Int × Int)} (h : QOk cols es rc) {c : Nat} {lo hi : Int} (h1 : c ∈ cols) (h2 : c ∉ es.map (·.1)) (h3 : 0 ≤ lo) (h4 : lo ≤ hi) (h5 : hi < 1000) : QOk cols es (some (c, lo, hi)) :=
  ⟨h.up, h.ok, h.len, fun c' lo' hi' z => by
    have z2 := Option.some.inj z
    have e1 : c = c' := congrArg (·.1) z2
    have e2 : lo = lo' := congrArg (·.2.1) z2
    have e3 : hi = hi' := congrArg (·.2.2) z2
    rw [← e1, ← e2, ← e3]
    exact ⟨h1, h2, h3, h4, h5⟩⟩
end My

set_option Elab.async false
set_option linter.all false
set_option maxRecDepth 100000
set_option maxHeartbeats 2000000
namespace My
open PySem PySem.Spec PyProof.Rows L2
/-! ### generator expressions whose element changes nothing -/
/-- the element at a place of the walked thing: what it gives, from any state in which what stood still stands -/
def EltQ (X : Cx) (σ : L2.St) (G : Hp) (P : Addr) (scope : Scope) (x : Str) (elt : Expr) (Pf F : Nat → Value → Prop) : Prop :=
  ∀ (pins : List (Addr × Obj)) (u1 : Shared), Inv X pins σ G u1 → ∀ (ce : Env) (B : Around) (E' : Value → Shared → Prop) (i : Nat) (v : Value) (u2 : Shared) (m2 : Str → Option Value), B.handled = none → ce.scope = scope → ce.cells = cloFrom X.env.cells scope.names [] →
    Pf i v → u2.heap.Ns ce.locals m2 → m2 x = some v → (∀ b o, b ≠ P → u1.heap.get? b = some o → u2.heap.get? b = some o) → wpAny (model X.prog X.w) B (eval elt ce) (fun y u3 => F i y ∧ Keeps u2 u3) E' u2
/-- the generator stands, ready to be walked n times -/
def ReadyQ (X : Cx) (pins : List (Addr × Obj)) (σ : L2.St) (G : Hp) (P : Addr) (n : Nat) (F : Nat → Value → Prop) (g : Addr) (u5 : Shared) : Prop :=
  ∃ (fp wr : List Addr) (Gn : Array GenState → Array GenState → Prop) (St : Nat → Shared → Prop),
    WalksS X.prog X.w X.A.in4 g fp wr Gn n F St ∧ St 0 u5 ∧ (∀ i s, St i s → s.TypeIs (.ref g) "generator") ∧ (∀ b ∈ fp, b < u5.heap.objs.size) ∧ g ∈ fp ∧
    ∀ u', Moved wr Gn u5 u' → ∃ G2, GxR.Tabbed P G G2 ∧ Inv X pins σ G2 u'
/-- what a walk over the value v begins with -/
def Src (X : Cx) (pins : List (Addr × Obj)) (σ : L2.St) (G : Hp) (P : Addr) (v : Value) (n : Nat) (Pf : Nat → Value → Prop) : Prop :=
  ∀ (u1 : Shared), Inv X pins σ G u1 → ∀ (Q : Value → Shared → Prop) (E : Value → Shared → Prop), (∀ (o : Obj) (St : Nat → Heap → Prop) (fps : List Addr),
    (∀ A' : Around, A'.handled = none → Walks X.prog X.w A' u1.heap.objs.size (u1.heap.objs.size :: fps) [u1.heap.objs.size] n Pf St) → St 0 (u1.heap.push o) → (∀ b ∈ fps, b < u1.heap.objs.size ∧ b ≠ P) →
    Q (.ref u1.heap.objs.size) { u1 with heap := u1.heap.push o }) → wpAny (model X.prog X.w) X.A (pyIter v) Q E u1
section
variable {X : Cx} {pins : List (Addr × Obj)} {σ : L2.St} {H : Hp} {s : Shared}
theorem src_str {G : Hp} {P : Addr} (a : Str) (t : Tok) : Src X pins σ G P (.str a t) a.cps.size (SignAt a) := by
  intro u1 I Q E h
  refine wpAny_pyIter_str fun o St W hst => ?_
  exact h o St [] W hst (fun b hb => nomatch hb)
/-- what stood stands: a frame knows what it knew -/
theorem grew {s' : Shared} (I : Inv X pins σ H s) (os : s'.os = s.os) (bare : AllBare s'.gens) (kp : ∀ b u, s.heap.get? b = some u → s'.heap.get? b = some u) : Inv X pins σ H s' :=
  I.call' (ch := []) os (Un.kept kp) (I.hok.kept kp) bare fun _ hb => nomatch hb
/-- the code object of a generator expression comes out of its maker's table, or is made and written into it; then the built-ins are looked up -/
theorem gen_code {c P : Addr} {gpos : Pos} {qn : Str} {scope : Scope} {R : Value → Addr → Shared → Prop} (I : Inv X pins σ H s) (TB : LamX.TabB X.base X.mg c P) (hcode : X.env.code = .ref c) (hT : GxR.TabG H P)
    (h : ∀ (code : Value) (H2 : Hp) (s2 : Shared), GxR.Tabbed P H H2 → Inv X pins σ H2 s2 → (∀ b u, b ≠ P → s.heap.get? b = some u → s2.heap.get? b = some u) → s.heap.objs.size ≤ s2.heap.objs.size → R code builtinsNs s2) :
    wpAny (model X.prog X.w) X.A (genexprCode X.env gpos qn scope) (fun code s3 => wpAny (model X.prog X.w) X.A (builtinsFor X.env.globals X.env.builtins) (R code) X.xe s3) X.xe s := by
  obtain ⟨ps, hP, tri⟩ := hT
  have rawP := I.hok P _ hP
  have hd : PySem.W.CodeHd s.heap c P := TB.code.keeps I.bk
  have go : ∀ (code : Value) (g : Heap) (tk : Nat) (more : Array Value), Heap.ExtBut P s.heap g → s.heap.objs.size ≤ g.objs.size → g.get? P = some { cls := .none, data := .fields (ps ++ more) } → TriplesOk (ps ++ more).toList →
      wpAny (model X.prog X.w) X.A (builtinsFor X.env.globals X.env.builtins) (R code) X.xe { s with heap := g, toks := tk } := fun code g tk more ext le tab tri' => by
    have J : Inv X pins σ (upd H P (.tbl (ps ++ more))) { s with heap := g, toks := tk } := GxR.inv_tab (g' := s.gens) (d' := s.drawn) I hP ext tab I.bare
    obtain ⟨bm, ob, b1, b2, _, _, b5, b6, b7, b8⟩ := TB.bm
    refine wpAny_builtinsFor (m := X.mg) ?_ b1 b2 (J.bk _ _ b5) b6 b7 b8 (h code _ _ ⟨⟨_, upd_same, tri'⟩, fun b ne => upd_ne ne⟩ J ext le)
    rw [J.ok.glob]
    exact J.mod.glob.keeps J.bk
  match hf : codeAmong gpos ps.toList with
  | some cv => exact wpAny_genexprCode_hit hcode (hd.code rawP tri) hf (go cv s.heap s.toks #[] (Heap.ExtBut.refl _ _) (Nat.le_refl _) (by rw [Array.append_empty]; exact rawP) (by rw [Array.append_empty]; exact tri))
  | none =>
    refine wpAny_genexprCodeX hcode (hd.code rawP tri) (hd.tab rawP) hf fun c' g tk ext ge lt isC _ isT _ => go _ g tk _ ext (Nat.le_trans ge (Nat.le_of_lt lt)) isT.2 ?_
    obtain ⟨_, _, _, _, _, _, _, _, _, _, _, _, _, _, _, _, _, _, _, z, _⟩ := isC
    exact z
/-- the generator (elt for x in iter), its element changing nothing -/
theorem gen_q {c P : Addr} {elt iter : Expr} {x : Str} {px gpos : Pos} {scope : Scope} {te : TE} {k : Nat} {Q' : Value → Shared → Prop} {R : V → Hp → Nat → (Nat → Value → Prop) → Prop} {R0 : V → Hp → Prop}
    (hr : Room k X.A) (TB : LamX.TabB X.base X.mg c P) (hcode : X.env.code = .ref c) (S : GxR.GenS X.env scope x) (hi : PE X iter te)
    (hs : ∀ v, genFold iter X.env v = pure v) (I : Inv X pins σ H s)
    (h : te σ H R0) (hc : ∀ v G, R0 v G → ∃ (n : Nat) (Pf F : Nat → Value → Prop), (∀ u, RelV v u → Src X pins σ G P u n Pf) ∧ GxR.TabG G P ∧ EltQ X σ G P scope x elt Pf F ∧ R v G n F)
    (hQ : ∀ v G n F g u5, R v G n F → ReadyQ X pins σ G P n F g u5 → Q' (.ref g) u5) :
    wpAny (model X.prog X.w) X.A (eval (.GeneratorExp elt [⟨.Name x px, iter, [], 0⟩] scope gpos) X.env) Q' X.xe s := by
  have deep : X.A.depth < recursionLimit := by
    have := hr.dp
    omega
  refine wpAny_GeneratorExp_walksQ hr.hd S.co (closure_ok S.free) S.cell S.dot S.loc S.kind deep (thn (hi.run pins s σ H _ I h) fun xv u1 ⟨v, G, I1, rv, h0⟩ => ?_) hs
  obtain ⟨n, Pf, F, src, hT, elq, hR⟩ := hc v G h0
  refine src xv rv u1 I1 _ _ fun o St fps W st0 below => ?_
  -- the walked thing's iterator o at i0; the table at P is older
  generalize hi0 : u1.heap.objs.size = i0 at W below ⊢
  have older : P ≠ i0 := fun z => by
    obtain ⟨ps, e, _⟩ := hT
    rw [I1.hok.fresh (Nat.le_of_eq (hi0.trans z.symm))] at e
    cases e
  have Io : Inv X pins σ G { u1 with heap := u1.heap.push o } := grew I1 rfl I1.bare fun b u e => Heap.get?_push_of_some _ e
  refine ⟨Io.nolimit, gen_code Io TB hcode hT fun code G2 s4 tab I4 kp le => ?_⟩
  have lt4 : i0 < s4.heap.objs.size := Nat.lt_of_lt_of_le (by rw [← hi0, Heap.size_push]; exact Nat.lt_succ_self _) le
  have kp1 : ∀ b u, b ≠ P → u1.heap.get? b = some u → s4.heap.get? b = some u := fun b u ne e => kp b u ne (Heap.get?_push_of_some _ e)
  have fo : FpOk X pins G2 i0 := I1.fpOk (Nat.le_of_eq hi0) ((tab.2 i0 older.symm).trans (I1.hok.fresh (Nat.le_of_eq hi0)))
  refine ⟨i0, i0 :: fps, [i0], n, Pf, St, fun _ => true, F, rfl, W, (W X.A hr.hd).frame _ _ _ st0 fun b hb u e => kp b u ?_ e, fun b hb => ?_, I4.nolimit, fun z => ?_, fun g keep => ⟨?_, fun A' E' i v s₂ m₂ hA hv _ hn hm stay => ?_⟩, fun g h5 tk5 gs bare above size5 stay W5 at5 => ?_⟩
  · exact (List.mem_cons.mp hb).elim (fun z q => older (q.symm.trans z)) fun z => (below b z).2
  · exact (List.mem_cons.mp hb).elim (fun z => z ▸ lt4) fun z => Nat.lt_trans (below b z).1 lt4
  · obtain ⟨_, ns, _⟩ := I1.nolimit
    exact Nat.ne_of_lt (hi0 ▸ ns.lt) (List.mem_singleton.mp z)
  · intro A' E' i v s₂ m₂ _ _ _ _ _
    rw [List.forIn_nil]
    exact wpAny_pure ⟨rfl, GxR.keeps_refl _⟩
  · refine elq pins u1 I1 _ A' E' i v s₂ m₂ hA rfl rfl hv hn hm fun b u ne e => ?_
    have here := kp1 b u ne e
    exact stay b (List.mem_range.mpr (Heap.lt_size here)) (fun z => Nat.ne_of_lt (hi0 ▸ Heap.lt_size e) (List.mem_singleton.mp z)) u (keep b u here)
  · rw [show passing (fun _ => true) n 0 = List.range n from GxR.passing_true n] at W5
    rw [List.length_range] at W5
    have place : ∀ {i : Nat} {y : Value}, (∃ j, (List.range n)[i]? = some j ∧ F j y) → F i y := fun ⟨j, e, fj⟩ => by
      obtain ⟨_, q⟩ := List.getElem?_eq_some_iff.mp e
      rw [List.getElem_range] at q
      rw [q]
      exact fj
    have W6 : WalksS X.prog X.w X.A.in4 g (g :: s4.heap.objs.size :: List.range s4.heap.objs.size) [s4.heap.objs.size, i0] (GenOnlyQ s4.gens.size) n F _ := { W5 with item := fun i s Q E lt st k => W5.item i s Q E lt st fun y s' z => k y s' (place z) }
    refine hQ v G n F g _ hR ⟨_, _, _, _, W6, at5, fun i s st => Heap.IsGen.typeIs st.1, fun b hb => ?_, List.mem_cons_self, fun u' mv => ⟨G2, tab, ?_⟩⟩
    · show b < h5.objs.size
      rw [show h5.objs.size = g + 1 from size5]
      rcases List.mem_cons.mp hb with z | z
      · exact z ▸ Nat.lt_succ_self g
      · refine Nat.lt_succ_of_lt ((List.mem_cons.mp z).elim (fun e => e ▸ above) fun e => Nat.lt_trans (List.mem_range.mp e) above)
    · have J := past (t' := s4.toks) (h' := u'.heap) I4 fo fun b u ne e => mv.heap b u (fun z => (List.mem_cons.mp z).elim (fun q => Nat.ne_of_lt (Heap.lt_size e) q) fun q => ne (List.mem_singleton.mp q)) (stay b u e)
      exact grew J mv.os (AllBare.movedS (I4.bare.push bare) mv) fun _ _ e => e
/-! tuple(elt for x in text): numbers -/
def tTupG (P : Addr) (te : TE) (D : V → L2.St → Hp → List V → Prop) : TE := fun σ H Q => te σ H fun v G => ∃ xs : List V, D v σ G xs ∧ GxR.TabG G P ∧ ∀ G2, GxR.Tabbed P G G2 → ∀ p, G2 p = none → Q (.ref p) (upd G2 p (.tup xs))
theorem vals_of_items : ∀ (xs : List V) (us : List Value), xs.length = us.length → (∀ (j : Nat) (x : V) (u : Value), xs[j]? = some x → us[j]? = some u → RelV x u) → Vals xs us
  | [], [], _, _ => .nil
  | x :: xs, u :: us, hl, hh => .cons (hh 0 x u rfl rfl) (vals_of_items xs us (Nat.succ.inj hl) fun j y w h1 h2 => hh (j + 1) y w h1 h2)
theorem pe_tupG {c P : Addr} {elt iter : Expr} {x : Str} {px p pos gpos : Pos} {scope : Scope} {te : TE} {k : Nat} {D : V → L2.St → Hp → List V → Prop}
    (hr : Room k X.A) (hg : Gl X "tuple") (hm : X.mg "tuple" = none) (TB : LamX.TabB X.base X.mg c P) (hcode : X.env.code = .ref c) (S : GxR.GenS X.env scope x) (hi : PE X iter te)
    (hD : ∀ (pins : List (Addr × Obj)) (σ : L2.St) (G : Hp) (v : V) (xs : List V), D v σ G xs → xs.length ≤ sizeLine ∧ ∃ (Pf F : Nat → Value → Prop), (∀ u, RelV v u → Src X pins σ G P u xs.length Pf) ∧ EltQ X σ G P scope x elt Pf F ∧ ∀ (i : Nat) (y : Value) (z : V), xs[i]? = some z → F i y → RelV z y)
    (hs : ∀ v, genFold iter X.env v = pure v := by intro _; rfl)
    (he : starEach [.GeneratorExp elt [⟨.Name x px, iter, [], 0⟩] scope gpos] X.env = (false, eval (.GeneratorExp elt [⟨.Name x px, iter, [], 0⟩] scope gpos) X.env) :: starEach [] X.env := by rfl) :
    PE X (.Call (.Name "tuple" p) [.GeneratorExp elt [⟨.Name x px, iter, [], 0⟩] scope gpos] [] pos) (tTupG P te D) := by
  refine ⟨fun pins s σ H Q I h => ?_⟩
  refine Call_ (ld_blt I hg hm boot_tuple (PyProof.Rows.callWith_type1 ?_ he))
  rw [he]
  refine Calls.spliced_cons (gen_q (R := fun v G n F => ∃ xs : List V, D v σ G xs ∧ xs.length = n ∧ xs.length ≤ sizeLine ∧ (∀ (i : Nat) (y : Value) (z : V), xs[i]? = some z → F i y → RelV z y) ∧ ∀ G2, GxR.Tabbed P G G2 → ∀ p, G2 p = none → Q (.ref p) (upd G2 p (.tup xs))) hr TB hcode S hi hs I h (fun v G h0 => ?_) fun v G n F g u5 hR hG => ?_)
  · obtain ⟨xs, hd, hT, q⟩ := h0
    obtain ⟨hz, Pf, F, hsrc, hel, hF⟩ := hD pins σ G v xs hd
    exact ⟨xs.length, Pf, F, hsrc, hT, hel, xs, hd, rfl, hz, hF, q⟩
  · obtain ⟨xs, hd, hn, hz, hF, q⟩ := hR
    obtain ⟨fp, wr, Gn, St, W, hst, hty, hfp, hgf, hI⟩ := hG
    refine Calls.spliced_nil ?_
    refine call_tuple_gen W.in4_3 hty hst hfp hgf (fun u' acc mv hit => ?_) (by rw [← hn]; exact hz)
    obtain ⟨G2, hTb, J⟩ := hI u' mv
    have hv : Vals xs acc.toList := vals_of_items _ _ (by rw [show acc.toList.length = acc.size from Array.length_toList, hit.1, hn]) fun j z y h1 h2 => hF j y z h1 (hit.2 j y (by rw [← Array.getElem?_toList]; exact h2))
    have J2 : Inv X pins σ (upd G2 u'.heap.objs.size (.tup xs)) { u' with heap := u'.heap.push { cls := .type "tuple", data := .seq acc } } :=
      J.laid (t' := u'.toks) (fun b o e => Heap.get?_push_of_some _ e) (Nat.le_refl _) (show ObjOk X.prog X.w _ _ _ (.tup xs) from ⟨hz, acc.toList, hv, by rw [Array.toArray_toList]; exact IsTup.new _ _⟩)
    exact ⟨.ref u'.heap.objs.size, _, J2, rfl, q G2 hTb _ (J.hok.fresh (Nat.le_refl _))⟩
/-! all(elt for x in ..) -/
/-! ### what a captured name holds -/
theorem clo_look {cells : List (Str × Addr)} {names : List (Str × NameKind)} {y : Str} {c : Addr} (hy : (y, NameKind.free) ∈ names) (hc : cells.lookup y = some c) : (cloFrom cells names []).lookup y = some c := by
  obtain ⟨c', e⟩ := mem_lookup (cloFrom_has (acc := []) (cells := cells) hy)
  have hm : (y, c') ∈ cloFrom cells names [] := by
    have : ∀ {l : List (Str × Addr)} {n : Str} {d : Addr}, l.lookup n = some d → (n, d) ∈ l := by
      intro l
      induction l with
      | nil =>
        intro n d h
        cases h
      | cons p l ih =>
        intro n d h
        rw [List.lookup_cons] at h
        cases hb : n == p.1 with
        | true =>
          rw [hb] at h
          have e1 : n = p.1 := by simpa using hb
          have e2 : p.2 = d := Option.some.inj h
          rw [e1, ← e2]
          exact List.mem_cons_self ..
        | false =>
          rw [hb] at h
          exact List.mem_cons_of_mem _ (ih h)
    exact this e
  rcases cloFrom_mem hm with z | ⟨_, z⟩
  · cases z
  · rw [e, z, hc]
    rfl
theorem capt {G : Hp} {u1 : Shared} {i : Nat} {y : Str} {v : V} {scope : Scope} (I : Inv X pins σ G u1) (hN : X.N[i]? = some y) (hv : σ[i]? = some (some v)) (hk : X.env.scope.names.lookup y = some .cell) (hy : (y, NameKind.free) ∈ scope.names) :
    ∃ u c, RelV v u ∧ (cloFrom X.env.cells scope.names []).lookup y = some c ∧ u1.heap.IsCell c (some u) := by
  obtain ⟨m, hm, hl⟩ := I.loc
  obtain ⟨u, ru, lk⟩ := hl i y v hN hv (.inr (.inl hk))
  rcases lk with ⟨k1, _⟩ | ⟨_, c, hc, hcell⟩
  · have : X.env.kindOf y = some .cell := hk
    rw [this] at k1
    cases k1
  · exact ⟨u, c, ru, clo_look hy hc, hcell⟩
theorem cell_kept {G : Hp} {P c : Addr} {u1 u2 : Shared} {u : Value} (I : Inv X pins σ G u1) (hT : GxR.TabG G P) (hc : u1.heap.IsCell c (some u)) (hk : ∀ b o, b ≠ P → u1.heap.get? b = some o → u2.heap.get? b = some o) : u2.heap.IsCell c (some u) := by
  obtain ⟨o, ho, hd⟩ := hc
  refine ⟨o, hk c o (fun z => ?_) ho, hd⟩
  obtain ⟨ps, hP, _⟩ := hT
  have h1 : u1.heap.get? P = some { cls := .none, data := .fields ps } := I.hok P _ hP
  rw [z, h1] at ho
  cases ho
  cases hd
/-! x in y, y a captured text -/
/-! r[y.index(x)], r a captured tuple of numbers, y a captured text -/
theorem elt_row {G : Hp} {P ra : Addr} {scope : Scope} {x y rn : Str} {p1 p2 p3 p4 p5 p6 : Pos} {i j : Nat} {a : Str} {cols : List Nat} {row : List Int} (hT : GxR.TabG G P) (hN : X.N[i]? = some y) (hv : σ[i]? = some (some (tx cols))) (hk : X.env.scope.names.lookup y = some .cell)
    (hN2 : X.N[j]? = some rn) (hv2 : σ[j]? = some (some (.ref ra))) (hk2 : X.env.scope.names.lookup rn = some .cell) (hra : G ra = some (.tup (row.map V.int))) (hrl : row.length = cols.length) (hac : ∀ c ∈ a.cps.toList, c ∈ cols)
    (hf : scope.kind = .function) (hx : scope.names.lookup x = some .local) (hy : (y, NameKind.free) ∈ scope.names) (hyl : scope.names.lookup y = some .free) (hr : (rn, NameKind.free) ∈ scope.names) (hrf : scope.names.lookup rn = some .free)
    (hline : (p3.endLine == p5.line) = true) (hd1 : (x == ("__debug__" : Str)) = false := by decide) (hd2 : (y == ("__debug__" : Str)) = false := by decide) (hd3 : (y == ("__classdict__" : Str)) = false := by decide) (hd4 : (rn == ("__debug__" : Str)) = false := by decide) (hd5 : (rn == ("__classdict__" : Str)) = false := by decide) :
    EltQ X σ G P scope x (.Subscript (.Name rn p1) (.Call (.Attribute (.Name y p2) "index" p3) [.Name x p4] [] p5) p6) (SignAt a) (fun l w => ∃ c t, a.cps[l]? = some c ∧ w = .int (rowAt cols row c) t) := by
  intro pins u1 I ce B E' l v u2 m2 hB hs hcl hP hn hm hk3
  obtain ⟨c, t, hc, rfl⟩ := hP
  obtain ⟨uy, cl, ru, hl, hcell⟩ := capt I hN hv hk hy
  obtain ⟨t2, rfl⟩ := ru
  obtain ⟨ur, cl2, ru2, hl2, hcell2⟩ := capt I hN2 hv2 hk2 hr
  cases ru2
  have hcc : c ∈ cols := hac c (by
    have : a.cps.toList[l]? = some c := by rw [Array.getElem?_toList]; exact hc
    exact List.mem_of_getElem? this)
  obtain ⟨orest, hocc⟩ := ix_one hcc
  have hat := row_at hrl hcc
  obtain ⟨its, rv, pl, hz⟩ := I.tuple (show SqT X.K G ra (row.map V.int) from .inl (.inl hra))
  obtain ⟨w, hw, rw'⟩ := rv.get hat
  obtain ⟨tw, rfl⟩ := rw'
  have pl2 : u2.heap.IsTuple ra its.toArray := by
    obtain ⟨o, ho, r1, r2⟩ := pl
    refine ⟨o, hk3 ra o (fun z => ?_) ho, r1, r2⟩
    obtain ⟨ps, hPp, _⟩ := hT
    rw [z, hPp] at hra
    cases hra
  have hidx : cols.idxOf c < its.length := (List.getElem?_eq_some_iff.mp hw).1
  have kf : ce.scope.kind = .function := by rw [hs]; exact hf
  refine PyProof.Rows.Subscript_ ?_
  refine wpAny_Name (wpAny_loadName_free kf (show ce.scope.names.lookup rn = some .free by rw [hs]; exact hrf) (by rw [hcl]; exact hl2) (cell_kept I hT hcell2 hk3) ?_ hd5) hd4
  refine wpAny_Call_method_late (by rfl) (by rfl) hline rfl ?_
  refine wpAny_Name (wpAny_loadName_free kf (show ce.scope.names.lookup y = some .free by rw [hs]; exact hyl) (by rw [hcl]; exact hl) (cell_kept I hT hcell hk3) ?_ hd3) hd2
  refine ⟨"str", "str.index", PySem.F.plainAttrs_str, PySem.F.slot_str_index, PySem.F.type_str_index, typeIs_str _ _ _, (fun _ z => nomatch z), ?_⟩
  refine Calls.callWith_builtin (by rfl) (Calls.evalArgs_plain ?_)
  refine Calls.spliced_cons (wpAny_Name (wpAny_loadName_local kf (show ce.scope.names.lookup x = some .local by rw [hs]; exact hx) hn hm ?_) hd1)
  refine Calls.spliced_nil ?_
  refine PySem.SC.index hocc ?_
  have hsz : its.length ≤ sizeLine := by
    have := rv.length
    rw [← this]
    exact hz
  have h63 := line63
  refine subscriptTail_builtinR (x := .int (rowAt cols row c) tw) (s := { u2 with toks := u2.toks + 1 }) pl2.typeIs slot_tuple_getitem.lookup ?_ (by rfl)
  refine getItem_tuple (j := cols.idxOf c) (s := { u2 with toks := u2.toks + 1 }) pl2 (by omega) (by omega) ?_ (by simpa using hw) ⟨rfl, ⟨c, tw, hc, rfl⟩, GxR.keeps_tok _ _⟩
  rw [List.size_toArray]
  exact PySem.seqIndex_of (by omega) (by omega)
end
end My

set_option Elab.async false
set_option linter.all false
set_option maxRecDepth 100000
set_option maxHeartbeats 2000000
namespace My
open PySem PySem.Spec PyProof.Rows L2
section
variable {X : Cx} {pins : List (Addr × Obj)} {σ : L2.St} {H : Hp} {s : Shared}
/-! d[x][n], d a captured dict of pairs of numbers -/
theorem elt_want {G : Hp} {P d : Addr} {scope : Scope} {x dn : Str} {p1 p2 p3 p4 p5 : Pos} {i kd : Nat} {n : Int} {a : Str} {kvs : List (Key × V)} {f : Nat → Int} (hT : GxR.TabG G P) (hN : X.N[i]? = some dn) (hv : σ[i]? = some (some (.ref d))) (hk : X.env.scope.names.lookup dn = some .cell)
    (hd : G d = some (.dK kvs)) (hn01 : n = 0 ∨ n = 1) (hac : ∀ c ∈ a.cps.toList, ∃ (p : Addr) (lo hi : Int), valV kvs (Sum.inr (sS c)) = some (.ref p) ∧ G p = some (.tup [.int lo, .int hi]) ∧ f c = (if n = 0 then lo else hi))
    (hf : scope.kind = .function) (hx : scope.names.lookup x = some .local) (hy : (dn, NameKind.free) ∈ scope.names) (hyl : scope.names.lookup dn = some .free)
    (hd1 : (x == ("__debug__" : Str)) = false := by decide) (hd2 : (dn == ("__debug__" : Str)) = false := by decide) (hd3 : (dn == ("__classdict__" : Str)) = false := by decide) :
    EltQ X σ G P scope x (.Subscript (.Subscript (.Name dn p1) (.Name x p2) p3) (.Constant (.int n) kd p4) p5) (SignAt a) (fun l w => ∃ c t, a.cps[l]? = some c ∧ w = .int (f c) t) := by
  intro pins u1 I ce B E' l v u2 m2 hB hs hcl hP hn hm hk3
  obtain ⟨c, t, hc, rfl⟩ := hP
  obtain ⟨ud, cl, ru, hl, hcell⟩ := capt I hN hv hk hy
  cases ru
  obtain ⟨p, lo, hi, hval, hp, hfc⟩ := hac c (by
    have : a.cps.toList[l]? = some c := by rw [Array.getElem?_toList]; exact hc
    exact List.mem_of_getElem? this)
  have neP : ∀ {b : Addr} {o : HO}, G b = some o → (∀ q, o ≠ .tbl q) → b ≠ P := fun {b o} hb ho z => by
    obtain ⟨ps, hPp, _⟩ := hT
    rw [z, hPp] at hb
    exact ho ps (Option.some.inj hb).symm
  obtain ⟨hz, hds, vs, rel, dd⟩ := dk_of I.hok hd
  have hndP : d ≠ P := neP hd (fun q z => nomatch z)
  have dd2 : u2.heap.DictOf (mixKind X.prog X.w) d vs := by
    exact dd.at fun o ho => hk3 d o hndP ho
  obtain ⟨wv, hw, rwv⟩ := RelO.some_of (v := .ref p) (o := valueAt vs (Sum.inr (sS c))) (by rw [← hval]; exact rel.val _)
  cases rwv
  obtain ⟨its, rv, pl, hz2⟩ := I.tuple (show SqT X.K G p [.int lo, .int hi] from .inl (.inl hp))
  have hnpP : p ≠ P := neP hp (fun q z => nomatch z)
  have pl2 : u2.heap.IsTuple p its.toArray := by
    obtain ⟨o, ho, r⟩ := pl
    exact ⟨o, hk3 p o hnpP ho, r⟩
  have kf : ce.scope.kind = .function := by rw [hs]; exact hf
  refine PyProof.Rows.Subscript_ ?_
  refine subD_of PySem.F.slot_dict_getitem.lookup (fun _ _ => rfl) ?_
  refine wpAny_Name (wpAny_loadName_free kf (show ce.scope.names.lookup dn = some .free by rw [hs]; exact hyl) (by rw [hcl]; exact hl) (cell_kept I hT hcell hk3) ?_ hd3) hd2
  refine wpAny_Name (wpAny_loadName_local kf (show ce.scope.names.lookup x = some .local by rw [hs]; exact hx) hn hm ?_) hd1
  refine ⟨dd2.typeIs, wpAny_getItem_of (k := Sum.inr (sS c)) (kV_is (k := Sum.inr (sS c)) ⟨t, rfl⟩) dd2.mapOf hw ?_⟩
  refine wpAny_Constant_int ?_
  have hl2 : its.length = 2 := rv.length.symm
  have two : ∃ (j : Nat) (tw : Tok), j < 2 ∧ n = (j : Int) ∧ its[j]? = some (.int (f c) tw) := by
    rcases hn01 with z | z
    · obtain ⟨w, hw0, rw0⟩ := rv.get (i := 0) rfl
      obtain ⟨tw, rfl⟩ := rw0
      exact ⟨0, tw, by decide, z, by rw [hw0, hfc, if_pos z]⟩
    · obtain ⟨w, hw0, rw0⟩ := rv.get (i := 1) rfl
      obtain ⟨tw, rfl⟩ := rw0
      exact ⟨1, tw, by decide, z, by rw [hw0, hfc, if_neg (by rw [z]; decide)]⟩
  obtain ⟨j, tw, hj2, hnj, hitj⟩ := two
  refine subscriptTail_builtinR (x := .int (f c) tw) pl2.typeIs slot_tuple_getitem.lookup ?_ (by rfl)
  refine getItem_tuple (j := j) pl2 (by omega) (by omega) ?_ (by simpa using hitj) ⟨rfl, ⟨c, tw, hc, rfl⟩, GxR.keeps_tok _ _⟩
  rw [List.size_toArray, hl2, hnj]
  exact PySem.seqIndex_of (by omega) (by omega)
end
end My

set_option Elab.async false
set_option linter.all false
set_option maxRecDepth 100000
set_option maxHeartbeats 2000000
namespace My
open PySem PySem.Spec PyProof.Rows L2
/-! ### tables of code objects: they may grow, all else stays -/
def TG (Ps : List Addr) (H : Hp) : Prop := ∀ P ∈ Ps, GxR.TabG H P
def Sx (Ps : List Addr) (H H' : Hp) : Prop := ∀ b o, b ∉ Ps → H b = some o → H' b = some o
theorem Sx.rfl' {Ps : List Addr} {H : Hp} : Sx Ps H H := fun _ _ _ h => h
theorem Sx.trans {Ps : List Addr} {H H1 H2 : Hp} (a : Sx Ps H H1) (b : Sx Ps H1 H2) : Sx Ps H H2 := fun c o n h => b c o n (a c o n h)
theorem Same.sx {Ps : List Addr} {H H' : Hp} (s : Same H H') : Sx Ps H H' := fun b o _ h => s b o h
theorem TG.same {Ps : List Addr} {H H' : Hp} (t : TG Ps H) (s : Same H H') : TG Ps H' := fun P hP => by
  obtain ⟨ps, h, r⟩ := t P hP
  exact ⟨ps, s _ _ h, r⟩
theorem TG.not {Ps : List Addr} {H : Hp} {b : Addr} {o : HO} (t : TG Ps H) (h : H b = some o) (ho : ∀ q, o ≠ .tbl q) : b ∉ Ps := fun hb => by
  obtain ⟨ps, h2, _⟩ := t b hb
  rw [h2] at h
  exact ho ps (Option.some.inj h).symm
theorem TG.kp {Ps : List Addr} {H H' : Hp} {r : Addr} {xs : List V} (t : TG Ps H) (hr : H r = some (.lst xs)) (k : Kp r H H') : TG Ps H' := fun P hP => by
  obtain ⟨ps, h, q⟩ := t P hP
  refine ⟨ps, k _ _ (fun z => ?_) h, q⟩
  rw [z, hr] at h
  cases h
theorem TG.new {Ps : List Addr} {H : Hp} {p : Addr} {o : HO} (t : TG Ps H) (n : H p = none) : TG Ps (upd H p o) := t.same (Same.new (Same.refl H) n)
theorem Sx.kt {Ps : List Addr} {H H' : Hp} (t : TG Ps H) (s : Sx Ps H H') : Kt H H' := fun b xs h => s b _ (t.not h fun q z => nomatch z) h
theorem Sx.lst {Ps : List Addr} {H H' : Hp} {b : Addr} {xs : List V} (t : TG Ps H) (s : Sx Ps H H') (h : H b = some (.lst xs)) : H' b = some (.lst xs) := s b _ (t.not h fun q z => nomatch z) h
theorem Sx.dct {Ps : List Addr} {H H' : Hp} {b : Addr} {xs : List (Key × V)} (t : TG Ps H) (s : Sx Ps H H') (h : H b = some (.dK xs)) : H' b = some (.dK xs) := s b _ (t.not h fun q z => nomatch z) h
theorem Sx.new {Ps : List Addr} {H H1 : Hp} {p : Addr} {o : HO} (s : Sx Ps H H1) (n : H1 p = none) : Sx Ps H (upd H1 p o) := fun b x nb h => keep_new (s b x nb h) n
theorem Sx.mut {Ps : List Addr} {H H1 : Hp} {p : Addr} {o : HO} (s : Sx Ps H H1) (n : H p = none) : Sx Ps H (upd H1 p o) := fun b x nb h => keep_ne (s b x nb h) (ne_of_none h n)
theorem Sx.free {Ps : List Addr} {H H' : Hp} {p : Addr} (t : TG Ps H') (s : Sx Ps H H') (h : H' p = none) : H p = none := by
  cases q : H p with
  | none => rfl
  | some o =>
    by_cases hp : p ∈ Ps
    · obtain ⟨ps, h2, _⟩ := t p hp
      rw [h] at h2
      cases h2
    · rw [s p o hp q] at h
      cases h
/-- one table of them has grown -/
theorem Tabbed.sx {Ps : List Addr} {P : Addr} {H H' : Hp} (hP : P ∈ Ps) (t : GxR.Tabbed P H H') : Sx Ps H H' := fun b o nb h => by
  rw [t.2 b fun z => nb (z ▸ hP)]
  exact h
theorem Tabbed.tg {Ps : List Addr} {P : Addr} {H H' : Hp} (g : TG Ps H) (t : GxR.Tabbed P H H') : TG Ps H' := fun P' hP' => by
  by_cases e : P' = P
  · rw [e]
    exact t.1
  · obtain ⟨ps, h, q⟩ := g P' hP'
    exact ⟨ps, (t.2 P' e).trans h, q⟩
/-! ### a def whose code object is told -/
def FunC (K : PySem.W.Frag) (x qual : Str) (st : Stmt) (f : Addr) (fd : FuncData) (c : Addr) : Prop :=
  ∃ (oc : Value) (od : Option Addr) (kV doc pm : Value) (an : Option Addr) (ct : Value) (osl : Array (Option Value)), fd = PySem.W.fnOf x qual (defArgs st) (defBody st) (defScope st) .none kV doc pm an (.ref c) ct ∧ K.lookup f = some ⟨oc, od, .func fd, osl⟩ ∧ PySem.W.codeIn K (.ref c) qual = true
theorem FunC.ok {P : Program} {w : World} {K : PySem.W.Frag} {mg : Str → Option Value} {base : Heap} {x qual : Str} {st : Stmt} {f c : Addr} {fd : FuncData} {N ps : List Str} {k : Nat} {sp : Sp} (F : FunC K x qual st f fd c) (S : FnScope N ps (defScope st)) (len : ∀ vs H Q E, sp vs H Q E → vs.length = ps.length)
    (hbody : ∀ (A : Around) (outer : List Env) (s : Shared) (H : Hp) (vs : List V) (Q : VK) (E : XK), Room k (A.deeper (envOfC qual (defScope st) s.heap.objs.size f (.ref c))) → sp vs H Q E →
      ∃ t, PSs (cxOf CX0 P w K mg base N qual (defScope st) f (.ref c) A outer s H E).nox (defBody st) t ∧ t { nx := fun _ H' => Q .non H', rt := Q } (start N vs) H) : FnOk P w K mg base CX0 (k + 1) f fd ps sp := by
  obtain ⟨oc, od, kV, doc, pm, an, ct, osl, rfl, lk, hcd⟩ := F
  refine fn_of lk hcd S len fun A outer s H vs Q E hr hsp => ?_
  obtain ⟨t, h, q⟩ := hbody A outer s H vs Q E hr hsp
  exact ⟨t, h.nox, q⟩
theorem FunC.fn {K : PySem.W.Frag} {x qual : Str} {st : Stmt} {f c : Addr} {fd : FuncData} (F : FunC K x qual st f fd c) (k : PySem.W.keepIn K (.ref f) = true) : Fun K x qual st f fd := by
  obtain ⟨oc, od, kV, doc, pm, an, ct, osl, e, lk, hcd⟩ := F
  exact ⟨⟨oc, od, kV, doc, pm, an, .ref c, ct, osl, e, lk, hcd⟩, k⟩
/-- the generator expression's scope within a def's -/
def genC (sc scope : Scope) (x : Str) : Bool :=
  (match scope.kind with | .function => true | _ => false) && !scope.isCoroutine && (scope.names.all fun y => match y.2 with | .cell => false | .free => (match sc.names.lookup y.1 with | some .cell => true | _ => false) | _ => true) &&
    (match scope.names.lookup (".0" : Str) with | some .local => true | _ => false) && (match scope.names.lookup x with | some .local => true | _ => false)
theorem genS_by {sc scope : Scope} {x : Str} {env : Env} {n : Nat} (h : genC sc scope x = true) (hc : env.cells = cellsFrom n sc.names []) : GxR.GenS env scope x := by
  unfold genC at h
  simp only [Bool.and_eq_true] at h
  obtain ⟨⟨⟨⟨h1, h2⟩, h3⟩, h4⟩, h5⟩ := h
  rw [List.all_eq_true] at h3
  refine ⟨?_, ?_, fun y hy z => ?_, ?_, ?_, fun y hy z => ?_⟩
  · revert h1
    cases scope.kind <;> simp
  · simpa using h2
  · have := h3 y hy
    rw [z] at this
    cases this
  · revert h4
    cases scope.names.lookup (".0" : Str) with
    | none => simp
    | some k => cases k <;> simp
  · revert h5
    cases scope.names.lookup x with
    | none => simp
    | some k => cases k <;> simp
  · have q := h3 y hy
    rw [z] at q
    have q2 : sc.names.lookup y.1 = some .cell := by
      revert q
      cases sc.names.lookup y.1 with
      | none => simp
      | some k => cases k <;> simp
    have := PySem.W.cellsFrom_some sc.names n [] (.inl q2)
    rw [hc]
    exact Option.isSome_iff_exists.mp this
/-! ### the generator expressions that we met -/
def DRow (P : Addr) (i j : Nat) : V → L2.St → Hp → List V → Prop := fun v σ G xs => GxR.TabG G P ∧ ∃ (a : Str) (cols : List Nat) (ra : Addr) (row : List Int), v = .str a ∧ a.length ≤ sizeLine ∧ σ[i]? = some (some (tx cols)) ∧ σ[j]? = some (some (.ref ra)) ∧ G ra = some (.tup (row.map V.int)) ∧ row.length = cols.length ∧ (∀ c ∈ a.cps.toList, c ∈ cols) ∧ xs = a.cps.toList.map fun c => V.int (rowAt cols row c)
theorem hd_row {X : Cx} {P : Addr} {scope : Scope} {x y rn : Str} {p1 p2 p3 p4 p5 p6 : Pos} {i j : Nat} (hN : X.N[i]? = some y) (hk : X.env.scope.names.lookup y = some .cell) (hN2 : X.N[j]? = some rn) (hk2 : X.env.scope.names.lookup rn = some .cell)
    (hf : scope.kind = .function) (hx : scope.names.lookup x = some .local) (hyl : scope.names.lookup y = some .free) (hrf : scope.names.lookup rn = some .free) (hy : (y, NameKind.free) ∈ scope.names) (hr : (rn, NameKind.free) ∈ scope.names) (hline : (p3.endLine == p5.line) = true)
    (hd1 : (x == ("__debug__" : Str)) = false := by decide) (hd2 : (y == ("__debug__" : Str)) = false := by decide) (hd3 : (y == ("__classdict__" : Str)) = false := by decide) (hd4 : (rn == ("__debug__" : Str)) = false := by decide) (hd5 : (rn == ("__classdict__" : Str)) = false := by decide) :
    ∀ (pins : List (Addr × Obj)) (σ : L2.St) (G : Hp) (v : V) (xs : List V), DRow P i j v σ G xs → xs.length ≤ sizeLine ∧ ∃ (Pf F : Nat → Value → Prop), (∀ u, RelV v u → Src X pins σ G P u xs.length Pf) ∧
      EltQ X σ G P scope x (.Subscript (.Name rn p1) (.Call (.Attribute (.Name y p2) "index" p3) [.Name x p4] [] p5) p6) Pf F ∧ ∀ (l : Nat) (y : Value) (z : V), xs[l]? = some z → F l y → RelV z y := by
  intro pins σ G v xs h
  obtain ⟨hT, a, cols, ra, row, rfl, hz, hv, hv2, hra, hrl, hac, rfl⟩ := h
  have hl : (a.cps.toList.map fun c => V.int (rowAt cols row c)).length = a.cps.size := by rw [List.length_map]; exact Array.length_toList
  refine ⟨by rw [hl]; exact hz, _, _, fun u ru => ?_, elt_row hT hN hv hk hN2 hv2 hk2 hra hrl hac hf hx hy hyl hr hrf hline hd1 hd2 hd3 hd4 hd5, fun l y z h1 h2 => ?_⟩
  · obtain ⟨t, rfl⟩ := ru
    rw [hl]
    exact src_str a t
  · obtain ⟨c, t, hc, rfl⟩ := h2
    rw [List.getElem?_map, Array.getElem?_toList, hc] at h1
    cases h1
    exact ⟨t, rfl⟩
def DWant (P : Addr) (i : Nat) (n : Int) : V → L2.St → Hp → List V → Prop := fun v σ G xs => GxR.TabG G P ∧ ∃ (a : Str) (d : Addr) (kvs : List (Key × V)) (f : Nat → Int), v = .str a ∧ a.length ≤ sizeLine ∧ σ[i]? = some (some (.ref d)) ∧ G d = some (.dK kvs) ∧
  (∀ c ∈ a.cps.toList, ∃ (p : Addr) (lo hi : Int), valV kvs (Sum.inr (sS c)) = some (.ref p) ∧ G p = some (.tup [.int lo, .int hi]) ∧ f c = (if n = 0 then lo else hi)) ∧ xs = a.cps.toList.map fun c => V.int (f c)
theorem hd_want {X : Cx} {P : Addr} {scope : Scope} {x dn : Str} {p1 p2 p3 p4 p5 : Pos} {i kd : Nat} {n : Int} (hn01 : n = 0 ∨ n = 1) (hN : X.N[i]? = some dn) (hk : X.env.scope.names.lookup dn = some .cell)
    (hf : scope.kind = .function) (hx : scope.names.lookup x = some .local) (hyl : scope.names.lookup dn = some .free) (hy : (dn, NameKind.free) ∈ scope.names)
    (hd1 : (x == ("__debug__" : Str)) = false := by decide) (hd2 : (dn == ("__debug__" : Str)) = false := by decide) (hd3 : (dn == ("__classdict__" : Str)) = false := by decide) :
    ∀ (pins : List (Addr × Obj)) (σ : L2.St) (G : Hp) (v : V) (xs : List V), DWant P i n v σ G xs → xs.length ≤ sizeLine ∧ ∃ (Pf F : Nat → Value → Prop), (∀ u, RelV v u → Src X pins σ G P u xs.length Pf) ∧
      EltQ X σ G P scope x (.Subscript (.Subscript (.Name dn p1) (.Name x p2) p3) (.Constant (.int n) kd p4) p5) Pf F ∧ ∀ (l : Nat) (y : Value) (z : V), xs[l]? = some z → F l y → RelV z y := by
  intro pins σ G v xs h
  obtain ⟨hT, a, d, kvs, f, rfl, hz, hv, hd, hac, rfl⟩ := h
  have hl : (a.cps.toList.map fun c => V.int (f c)).length = a.cps.size := by rw [List.length_map]; exact Array.length_toList
  refine ⟨by rw [hl]; exact hz, _, _, fun u ru => ?_, elt_want hT hN hv hk hd hn01 hac hf hx hy hyl hd1 hd2 hd3, fun l y z h1 h2 => ?_⟩
  · obtain ⟨t, rfl⟩ := ru
    rw [hl]
    exact src_str a t
  · obtain ⟨c, t, hc, rfl⟩ := h2
    rw [List.getElem?_map, Array.getElem?_toList, hc] at h1
    cases h1
    exact ⟨t, rfl⟩
/-! ### the end: the tables of all defs are empty -/
def OwnTC (K : PySem.W.Frag) (fa : Addr) (h : Heap) : Prop := ∀ (c P : Addr) (o : Obj) (fd : FuncData) (e : Value) (dd : Option Addr) (vs : Array Value) (sl : Array (Option Value)), K.lookup fa = some o → o.data = .func fd → fd.code = .ref c → K.lookup c = some ⟨e, dd, .fields vs, sl⟩ → vs[11]? = some (.ref P) →
  h.get? P = some { cls := .none, data := .fields #[] } ∧ PySem.W.CodeHd h c P
/-- the table of each def that the top has bound is empty, and its code object shows it -/
theorem own_of {q : Program} {loose : List Str} {mean : ExcName → Option Value} {mg mb : Str → Option Value} {h : Heap} {K : PySem.W.Frag} (KX : K.In h) (T : Top q loose mean mg mb h) {nm : Str} {fb : Addr} (hr : ((recsOf q).any fun e => e.name == nm) = true) (hm : mg nm = some (.ref fb)) : OwnTC K fb h := by
  intro c P o fd e dd vs sl lf df cf lc at11
  obtain ⟨d, hd, en⟩ := List.any_eq_true.mp hr
  obtain ⟨fb', o', fd', c', P', h1, h2, h3, h4, isC, isT⟩ := T.tab d hd
  obtain rfl : fb = fb' := Value.ref.inj (Option.some.inj (hm.symm.trans ((congrArg mg (beq_iff_eq.mp en)).symm.trans h1)))
  obtain rfl : o = o' := Option.some.inj ((KX _ _ lf).symm.trans h2)
  obtain rfl : fd = fd' := Data.func.inj (df.symm.trans h3)
  obtain rfl : c = c' := Value.ref.inj (cf.symm.trans h4)
  have hd := PySem.W.CodeHd.of isC isT
  obtain ⟨⟨oc, vc, g1, _, g3, g4⟩, empty⟩ := isT
  obtain rfl := Option.some.inj ((KX _ _ lc).symm.trans g1)
  obtain rfl : vs = vc := Data.fields.inj g3
  obtain rfl : P = P' := Value.ref.inj (Option.some.inj (at11.symm.trans g4))
  exact ⟨empty, hd⟩
theorem walk_ofTabs {l : PySem.W.OpenLaw} {n k : Nat} {q : Program} {loose : List Str} {XP : (Str → Option Value) → Heap → Prop} {YP : World → Heap → Prop} {d : DefRec} {K : Params → PySem.W.Frag} {CX : World → CXT} {x : Str}
    (most : l.most = some n) (short : n ≤ sizeLine) (plain : d.params.defaults = []) (room : Room k callerA) (inK : ∀ (w : World) (h : Heap), YP w h → (K w.params).In h)
    (F : ∀ (w : World) (mg : Str → Option Value) (fa : Addr) (h : Heap), YP w h → (K w.params).In h → h.Ns mainGlobals mg → mg d.name = some (.ref fa) →
      (∀ (nm : Str) (fb : Addr), ((recsOf q).any fun e => e.name == nm) = true → mg nm = some (.ref fb) → OwnTC (K w.params) fb h) → LamX.LawAtS l w (K w.params) (CX w) k n x mg fa h)
    (calm : ∀ (w : World) (H : Hp) (s : Shared) (e : Value) (s' : Shared), CX w [] H s (fun _ _ _ => False) e s' → False) :
    PySem.W.WalkO q loose XP YP l.row.toRowW d [] (fun f vs => PySem.call f vs) :=
  Att.attach_callB most plain fun w _ s₁ _ _ _ _ _ _ _ a _ ns G Y _ _ _ mgF obj isInts len bits gens =>
    have KX := inK w _ Y
    let ⟨_, _, _, empty, out, code, bind, pre, ok⟩ := F w _ _ _ Y KX G.T.g mgF fun _ _ => own_of KX G.T
    LamX.law_callTs KX G.T.g G.T.b G.T.builtins G.T.nolimit gens empty out code G.T.bmain obj isInts (Nat.le_trans len short) room ok bind (fun H tabs list => pre H a ns len bits tabs list) fun H e s' => calm w H s₁ e s'
end My

set_option Elab.async false
set_option linter.all false
set_option maxRecDepth 100000
set_option maxHeartbeats 2000000
namespace My
open PySem PySem.Spec PyProof.Rows L2
/-! ### texts by their codes -/
theorem inV_signs (c : Nat) : ∀ l : List Nat, inV (sg c) (l.map sg) = decide (c ∈ l)
  | [] => rfl
  | d :: l => by
    have ih := inV_signs c l
    show (((sS d) == (sS c)) || inV (sg c) (l.map sg)) = decide (c ∈ d :: l)
    rw [ih]
    by_cases e : d = c
    · rw [e]
      simp
    · have e2 : ((sS d) == (sS c)) = false := by
        rw [Bool.eq_false_iff]
        intro z
        exact e (sS_inj (by simpa using z))
      have e3 : ¬ c = d := fun z => e z.symm
      rw [e2]
      simp [e3]
theorem flat_signs (l : List Nat) : (l.map sg).all flatV = true := by
  rw [List.all_map, List.all_eq_true]
  intro c _
  rfl
theorem cut_take (l : List Nat) (k : Nat) : cutS ⟨l.toArray⟩ none (some (k : Int)) = ⟨(l.take k).toArray⟩ := by
  unfold cutS
  rw [HT.sIx_none, HT.sIx_nat]
  show (⟨((l.toArray.toList.drop 0).take (min k l.toArray.size - 0)).toArray⟩ : Str) = _
  have e1 : l.toArray.toList = l := by simp
  have e2 : l.toArray.size = l.length := by simp
  rw [e1, e2, List.drop_zero, Nat.sub_zero]
  congr 2
  rw [List.take_eq_take_iff]
  omega
theorem cut_one (l : List Nat) (k : Nat) (hk : k ≤ l.length) : cutS ⟨l.toArray⟩ (some (k : Int)) (some ((k : Int) + 1)) = ⟨((l.drop k).take 1).toArray⟩ := by
  unfold cutS
  have e0 : ((k : Int) + 1) = ((k + 1 : Nat) : Int) := by omega
  rw [e0, HT.sIx_nat, HT.sIx_nat]
  show (⟨((l.toArray.toList.drop (min k l.toArray.size)).take (min (k + 1) l.toArray.size - min k l.toArray.size)).toArray⟩ : Str) = _
  have e1 : l.toArray.toList = l := by simp
  have e2 : l.toArray.size = l.length := by simp
  rw [e1, e2, Nat.min_eq_left hk]
  congr 2
  rw [List.take_eq_take_iff, List.length_drop]
  omega
theorem tx_inj {a b : List Nat} (h : tx a = tx b) : a = b := by
  have h2 : (⟨a.toArray⟩ : Str) = ⟨b.toArray⟩ := V.str.inj h
  have h3 : a.toArray = b.toArray := congrArg Str.cps h2
  simpa using h3
/-! ### the letters that a question uses -/
def eqPart (one : List Nat) (es : List (Nat × Int)) : List Nat := one.takeWhile fun c => decide (c ∈ es.map (·.1))
def usedM (one : List Nat) (es : List (Nat × Int)) (rc : Option (Nat × Int × Int)) : List Nat :=
  match rc with
  | none => eqPart one es
  | some (c, _, _) => if (one.drop (eqPart one es).length).take 1 = [c] then one.take ((eqPart one es).length + 1) else eqPart one es
theorem eqPart_take (one : List Nat) (es : List (Nat × Int)) : eqPart one es = one.take (eqPart one es).length := by
  unfold eqPart
  exact List.prefix_iff_eq_take.mp (List.takeWhile_prefix _)
theorem eqPart_le (one : List Nat) (es : List (Nat × Int)) : (eqPart one es).length ≤ one.length := (List.takeWhile_prefix _).length_le
theorem take_while_at {α : Type} (p : α → Bool) : ∀ (l : List α) (k : Nat), k ≤ l.length → (∀ i (h : i < l.length), i < k → p l[i] = true) → (∀ (h : k < l.length), p l[k] = false) → (l.takeWhile p).length = k
  | [], k, hk, _, _ => by
    have : k = 0 := by
      have : k ≤ 0 := hk
      omega
    rw [this]
    rfl
  | a :: l, 0, _, _, h => by
    have := h (by simp)
    rw [List.takeWhile_cons, show p a = false from this]
    rfl
  | a :: l, k + 1, hk, h1, h2 => by
    have e := h1 0 (by simp) (by omega)
    rw [List.takeWhile_cons, show p a = true from e]
    have ih := take_while_at p l k (by have : k + 1 ≤ l.length + 1 := hk; omega) (fun i hi hik => h1 (i + 1) (by simpa using hi) (by omega)) (fun h => h2 (by simpa using h))
    show (a :: l.takeWhile p).length = k + 1
    rw [List.length_cons, ih]
section
variable (K : PySem.W.Frag) {X : Cx}
theorem ltTK (hu : X.A.units < cLine) (hK : X.K = K := by rfl) : OpR X (compareOp .Lt) (rLtT K) := by
  subst hK
  exact op_ltT hu
theorem leTK (hu : X.A.units < cLine) (hK : X.K = K := by rfl) : OpR X (compareOp .LtE) (rLeT K) := by
  subst hK
  exact op_leT hu
end
/-! ### the bounds that a question asks of a letter -/
def spanOf (es : List (Nat × Int)) (rc : Option (Nat × Int × Int)) (c : Nat) : Int × Int := match (spanL es rc).find? (fun t => decide (t.1 = c)) with
  | some t => t.2
  | none => (0, 0)
theorem spanOf_mem {es : List (Nat × Int)} {rc : Option (Nat × Int × Int)} {c : Nat} {lo hi : Int} (nd : ((spanL es rc).map (·.1)).Nodup) (h : (c, lo, hi) ∈ spanL es rc) : spanOf es rc c = (lo, hi) := by
  unfold spanOf
  generalize spanL es rc = l at nd h
  induction l with
  | nil => cases h
  | cons t l ih =>
    rw [List.find?_cons]
    by_cases e : t.1 = c
    · rw [decide_eq_true e]
      rcases List.mem_cons.mp h with z | z
      · rw [← z]
      · have := (List.nodup_cons.mp nd).1
        exfalso
        apply this
        show t.1 ∈ _
        rw [e]
        exact List.mem_map_of_mem (f := fun t : Nat × Int × Int => t.1) z
    · rw [decide_eq_false e]
      rcases List.mem_cons.mp h with z | z
      · exfalso
        apply e
        rw [← z]
      · exact ih (List.nodup_cons.mp nd).2 z
theorem mem_tw {α : Type} (p : α → Bool) : ∀ (l : List α) (a : α), a ∈ l.takeWhile p → p a = true
  | [], _, h => by cases h
  | b :: l, a, h => by
    rw [List.takeWhile_cons] at h
    by_cases e : p b = true
    · rw [if_pos e] at h
      rcases List.mem_cons.mp h with z | z
      · rw [z]
        exact e
      · exact mem_tw p l a z
    · rw [if_neg e] at h
      cases h
theorem used_span {one : List Nat} {es : List (Nat × Int)} {rc : Option (Nat × Int × Int)} {c : Nat} (h : c ∈ usedM one es rc) : ∃ lo hi, (c, lo, hi) ∈ spanL es rc := by
  have eqp : ∀ c ∈ eqPart one es, ∃ lo hi, (c, lo, hi) ∈ spanL es rc := fun c hc => by
    have hm : c ∈ es.map (·.1) := by
      unfold eqPart at hc
      have := mem_tw _ _ _ hc
      exact of_decide_eq_true this
    obtain ⟨p, hp, rfl⟩ := List.mem_map.mp hm
    exact ⟨p.2, p.2, List.mem_append_left _ (List.mem_map_of_mem (f := fun p : Nat × Int => (p.1, p.2, p.2)) hp)⟩
  cases rc with
  | none => exact eqp c h
  | some t =>
    obtain ⟨d, lo, hi⟩ := t
    have h2 : c ∈ (if (one.drop (eqPart one es).length).take 1 = [d] then one.take ((eqPart one es).length + 1) else eqPart one es) := h
    by_cases e : (one.drop (eqPart one es).length).take 1 = [d]
    · rw [if_pos e, List.take_add, ← eqPart_take, e] at h2
      rcases List.mem_append.mp h2 with z | z
      · exact eqp c z
      · rw [List.mem_singleton.mp z]
        exact ⟨lo, hi, List.mem_append_right _ (by simp)⟩
    · rw [if_neg e] at h2
      exact eqp c h2
theorem used_sub {one : List Nat} {es : List (Nat × Int)} {rc : Option (Nat × Int × Int)} : ∃ k, usedM one es rc = one.take k ∧ k ≤ one.length + 1 := by
  have hl := eqPart_le one es
  cases rc with
  | none => exact ⟨_, eqPart_take one es, by omega⟩
  | some t =>
    obtain ⟨d, lo, hi⟩ := t
    show ∃ k, (if (one.drop (eqPart one es).length).take 1 = [d] then one.take ((eqPart one es).length + 1) else eqPart one es) = one.take k ∧ _
    by_cases e : (one.drop (eqPart one es).length).take 1 = [d]
    · rw [if_pos e]
      exact ⟨_, rfl, by omega⟩
    · rw [if_neg e]
      exact ⟨_, eqPart_take one es, by omega⟩
theorem used_in {one : List Nat} {es : List (Nat × Int)} {rc : Option (Nat × Int × Int)} {c : Nat} (h : c ∈ usedM one es rc) : c ∈ one := by
  obtain ⟨k, e, _⟩ := used_sub (one := one) (es := es) (rc := rc)
  rw [e] at h
  exact List.mem_of_mem_take h
theorem used_len (one : List Nat) (es : List (Nat × Int)) (rc : Option (Nat × Int × Int)) : (usedM one es rc).length ≤ one.length := by
  obtain ⟨k, e, _⟩ := used_sub (one := one) (es := es) (rc := rc)
  rw [e, List.length_take]
  exact Nat.min_le_right _ _
theorem TG.mut {Ps : List Addr} {H : Hp} {p : Addr} {xs : List V} {o : HO} (t : TG Ps H) (h : H p = some (.lst xs)) : TG Ps (upd H p o) := fun P hP => by
  obtain ⟨ps, h2, q⟩ := t P hP
  refine ⟨ps, ?_, q⟩
  rw [upd_ne (fun z => ?_)]
  · exact h2
  · rw [z, h] at h2
    cases h2
theorem row_at_fz {H : Hp} {p : Addr} {row : List Int} (h : H p = some (.tup (row.map V.int))) : Fz H (.ref p) (rowD row) := .tup h FzA.ofInts
/-! ### stretches -/
def keyM (cols : List Nat) (row : List Int) (ls : List Nat) : List Int := ls.map (rowAt cols row)
def leK (ns ms : List Int) : Bool := Ob.lexAt (fun j => decide (ns.getD j 0 = ms.getD j 0)) (fun j => decide (ns.getD j 0 ≤ ms.getD j 0)) (decide (ns.length ≤ ms.length)) 0 (min ns.length ms.length)
def loM (es : List (Nat × Int)) (rc : Option (Nat × Int × Int)) (u : List Nat) : List Int := u.map fun c => (spanOf es rc c).1
def hiM (es : List (Nat × Int)) (rc : Option (Nat × Int × Int)) (u : List Nat) : List Int := u.map fun c => (spanOf es rc c).2
def aheadM (cols : List Nat) (rows : List (List Int)) (one : List Nat) (es : List (Nat × Int)) (rc : Option (Nat × Int × Int)) : Nat := (rows.filter fun row => HT.lexLt (keyM cols row (usedM one es rc)) (loM es rc (usedM one es rc))).length
def behindM (cols : List Nat) (rows : List (List Int)) (one : List Nat) (es : List (Nat × Int)) (rc : Option (Nat × Int × Int)) : Nat := (rows.filter fun row => leK (keyM cols row (usedM one es rc)) (hiM es rc (usedM one es rc))).length
end My

set_option Elab.async false
set_option linter.all false
set_option maxRecDepth 100000
set_option maxHeartbeats 2000000
namespace My
open PySem PySem.Spec PyProof.Rows L2
/-! ### tuples whose own object is told: without a dict of its own -/
def rTupF (K : PySem.W.Frag) : List V → Hp → VK → Prop := fun xs H Q => ∃ (p : Addr) (ys : List V), xs = [.ref p] ∧ SqL K H p ys ∧ ∀ (l : Addr) (o : Obj), H l = none → o.dict = none → Q (.ref l) (upd H l (.frz o (.tup ys)))
section
variable (K : PySem.W.Frag) {X : Cx}
theorem cTupF (hK : X.K = K := by rfl) : CallR X (.type "tuple") (rTupF K) := by
  subst hK
  intro pins s σ H xs us Q I r h
  obtain ⟨p, ys, rfl, hq, q⟩ := h
  obtain ⟨u, rfl, rx⟩ := vals1 r
  cases rx
  obtain ⟨its, rv, pl, hz⟩ := I.list hq
  have hlen := rv.length
  refine call_tuple_list pl.isList (fun h2 kp => ?_) (by rw [List.size_toArray]; omega)
  have I1 : Inv X pins σ H { s with heap := h2 } := I.kept (t' := s.toks) kp
  have new : ObjOk X.prog X.w (upd H h2.objs.size (.frz { cls := .type "tuple", data := .seq its.toArray } (.tup ys))) (h2.push { cls := .type "tuple", data := .seq its.toArray }) h2.objs.size (.frz { cls := .type "tuple", data := .seq its.toArray } (.tup ys)) := ⟨Heap.get?_push_size _ rfl, hz, its, rv, IsTup.new _ _⟩
  have I2 := I1.laid (t' := s.toks) (fun b o e => Heap.get?_push_of_some _ e) (Nat.le_refl _) new
  exact ⟨.ref h2.objs.size, _, I2, rfl, q _ _ (I1.hok.fresh (Nat.le_refl _)) rfl⟩
end
theorem app_txt (a b : List Nat) : ((⟨a.toArray⟩ : Str) ++ (⟨b.toArray⟩ : Str)) = ⟨(a ++ b).toArray⟩ := by
  show (⟨a.toArray ++ b.toArray⟩ : Str) = _
  rw [List.append_toArray]
/-! ### questions: their equals are such a tuple -/
def KT (H H' : Hp) : Prop := Kt H H' ∧ ∀ b o xs, H b = some (.frz o (.tup xs)) → H' b = some (.frz o (.tup xs))
theorem KT.rfl' {H : Hp} : KT H H := ⟨Kt.rfl', fun _ _ _ h => h⟩
theorem KT.trans {H H1 H2 : Hp} (a : KT H H1) (b : KT H1 H2) : KT H H2 := ⟨a.1.trans b.1, fun c o xs h => b.2 c o xs (a.2 c o xs h)⟩
theorem Same.kT {H H' : Hp} (s : Same H H') : KT H H' := ⟨Same.kt s, fun b o xs h => s b _ h⟩
theorem Kp.kT {r : Addr} {H H' : Hp} {xs : List V} (k : Kp r H H') (hr : H r = some (.lst xs)) : KT H H' := ⟨k.kt hr, fun b o ys h => k b _ (fun z => by
  rw [z, hr] at h
  cases h) h⟩
theorem Sx.kT {Ps : List Addr} {H H' : Hp} (t : TG Ps H) (s : Sx Ps H H') : KT H H' := ⟨s.kt t, fun b o xs h => s b _ (t.not h fun q z => nomatch z) h⟩
theorem KT.new {H : Hp} {p : Addr} {o : HO} (n : H p = none) : KT H (upd H p o) := ⟨Kt.new n, fun b u xs h => keep_new h n⟩
theorem KT.lst {H : Hp} {p : Addr} {xs : List V} {o : HO} (n : H p = some (.lst xs)) : KT H (upd H p o) := ⟨Kt.lst n, fun b u ys h => keep_ne h fun z => by
  rw [z, n] at h
  cases h⟩
def EZ (H : Hp) (ev : V) (es : List (Nat × Int)) : Prop := ∃ (ea : Addr) (o : Obj) (ps : List V), ev = .ref ea ∧ o.dict = none ∧ H ea = some (.frz o (.tup ps)) ∧ FzA H ps (es.map eqD)
def QZ (H : Hp) (qv : V) (es : List (Nat × Int)) (rc : Option (Nat × Int × Int)) : Prop := ∃ (qa : Addr) (ev y : V), qv = .ref qa ∧ H qa = some (.tup [ev, y]) ∧ EZ H ev es ∧ Fz H y (rchD rc)
theorem EZ.kT {H H' : Hp} {ev : V} {es : List (Nat × Int)} (h : EZ H ev es) (k : KT H H') : EZ H' ev es := by
  obtain ⟨ea, o, ps, rfl, h1, h2, h3⟩ := h
  exact ⟨ea, o, ps, rfl, h1, k.2 _ _ _ h2, h3.kt k.1⟩
theorem QZ.kT {H H' : Hp} {qv : V} {es : List (Nat × Int)} {rc : Option (Nat × Int × Int)} (h : QZ H qv es rc) (k : KT H H') : QZ H' qv es rc := by
  obtain ⟨qa, ev, y, rfl, h1, h2, h3⟩ := h
  exact ⟨qa, ev, y, rfl, k.1 _ _ h1, h2.kT k, h3.kt k.1⟩
theorem EZ.made {H : Hp} {te : Addr} {o : Obj} {ps : List V} {es : List (Nat × Int)} (n : H te = none) (ho : o.dict = none) (f : FzA H ps (es.map eqD)) : EZ (upd H te (.frz o (.tup ps))) (.ref te) es := ⟨te, o, ps, rfl, ho, upd_same, f.kt (.new n)⟩
theorem QZ.made {H : Hp} {v : Addr} {ev y : V} {es : List (Nat × Int)} {rc : Option (Nat × Int × Int)} (n : H v = none) (e : EZ H ev es) (f : Fz H y (rchD rc)) : QZ (upd H v (.tup [ev, y])) (.ref v) es rc := ⟨v, ev, y, rfl, upd_same, e.kT (.new n), f.kt (.new n)⟩
end My

set_option Elab.async false
set_option linter.all false
set_option maxRecDepth 100000
set_option maxHeartbeats 2000000
namespace My
open PySem PySem.Spec PyProof.Rows L2
section
variable (K : PySem.W.Frag) {X : Cx}
end
/-! ### the order of keys, by a sign -/
theorem lexAt_shift {e r : Nat → Bool} {z : Bool} : ∀ (k i : Nat), Ob.lexAt e r z (i + 1) k = Ob.lexAt (fun j => e (j + 1)) (fun j => r (j + 1)) z i k
  | 0, i => rfl
  | k + 1, i => by
    show (if e (i + 1) = true then Ob.lexAt e r z (i + 1 + 1) k else r (i + 1)) = (if e (i + 1) = true then Ob.lexAt (fun j => e (j + 1)) (fun j => r (j + 1)) z (i + 1) k else r (i + 1))
    rw [lexAt_shift k (i + 1)]
theorem leK_cons (a b : Int) (as bs : List Int) : leK (a :: as) (b :: bs) = if a = b then leK as bs else decide (a ≤ b) := by
  unfold leK
  have e : min (a :: as).length (b :: bs).length = min as.length bs.length + 1 := by
    rw [List.length_cons, List.length_cons]
    omega
  rw [e, Ob.lexAt_succ, lexAt_shift]
  simp only [List.getD_cons_zero, List.getD_cons_succ, List.length_cons, Nat.add_le_add_iff_right, decide_eq_true_eq]
def sgn (k lo hi : Int) : Int := (if decide (hi < k) = true then 1 else 0) - (if decide (k < lo) = true then 1 else 0)
def signF (k lo hi : Nat → Int) (u : List Nat) (s : Int) : Int := u.foldl (fun s c => if s = 0 then sgn (k c) (lo c) (hi c) else s) s
theorem signF_stay (k lo hi : Nat → Int) : ∀ (u : List Nat) (s : Int), s ≠ 0 → signF k lo hi u s = s
  | [], s, _ => rfl
  | c :: u, s, h => by
    show signF k lo hi u (if s = 0 then sgn (k c) (lo c) (hi c) else s) = s
    rw [if_neg h]
    exact signF_stay k lo hi u s h
def Thin (lo hi : Nat → Int) : List Nat → Prop
  | [] => True
  | c :: r => lo c ≤ hi c ∧ (r ≠ [] → lo c = hi c) ∧ Thin lo hi r
theorem Thin.all {lo hi : Nat → Int} : ∀ {l : List Nat}, (∀ c ∈ l, lo c = hi c) → Thin lo hi l
  | [], _ => trivial
  | c :: l, h => ⟨by rw [h c (by simp)]; exact Int.le_refl _, fun _ => h c (by simp), Thin.all fun d hd => h d (by simp [hd])⟩
theorem Thin.app {lo hi : Nat → Int} {d : Nat} (hd : lo d ≤ hi d) : ∀ {l : List Nat}, (∀ c ∈ l, lo c = hi c) → Thin lo hi (l ++ [d])
  | [], _ => ⟨hd, fun z => absurd rfl z, trivial⟩
  | c :: l, h => ⟨by rw [h c (by simp)]; exact Int.le_refl _, fun _ => h c (by simp), Thin.app hd fun e he => h e (by simp [he])⟩
theorem sign_lex (k lo hi : Nat → Int) : ∀ (u : List Nat), Thin lo hi u → HT.lexLt (u.map k) (u.map lo) = decide (signF k lo hi u 0 < 0) ∧ leK (u.map k) (u.map hi) = decide (signF k lo hi u 0 < 1)
  | [], _ => ⟨rfl, rfl⟩
  | c :: u, h => by
    obtain ⟨h1, h2, h3⟩ := h
    have ih := sign_lex k lo hi u h3
    rw [List.map_cons, List.map_cons, List.map_cons, HT.lexLt_cons, leK_cons]
    show _ = decide (signF k lo hi u (if (0 : Int) = 0 then sgn (k c) (lo c) (hi c) else 0) < 0) ∧ _ = decide (signF k lo hi u (if (0 : Int) = 0 then sgn (k c) (lo c) (hi c) else 0) < 1)
    rw [if_pos rfl]
    rcases Int.lt_or_le (k c) (lo c) with e | e
    · have es : sgn (k c) (lo c) (hi c) = -1 := by
        unfold sgn
        rw [decide_eq_false (show ¬ hi c < k c by omega), decide_eq_true e]
        rfl
      rw [es, signF_stay _ _ _ _ _ (by decide), if_neg (show ¬ k c = lo c by omega), if_neg (show ¬ k c = hi c by omega), decide_eq_true e, decide_eq_true (show k c ≤ hi c by omega)]
      exact ⟨rfl, rfl⟩
    · rcases Int.lt_or_le (hi c) (k c) with f | f
      · have es : sgn (k c) (lo c) (hi c) = 1 := by
          unfold sgn
          rw [decide_eq_false (show ¬ k c < lo c by omega), decide_eq_true f]
          rfl
        rw [es, signF_stay _ _ _ _ _ (by decide), if_neg (show ¬ k c = lo c by omega), if_neg (show ¬ k c = hi c by omega), decide_eq_false (show ¬ k c < lo c by omega), decide_eq_false (show ¬ k c ≤ hi c by omega)]
        exact ⟨rfl, rfl⟩
      · have es : sgn (k c) (lo c) (hi c) = 0 := by
          unfold sgn
          rw [decide_eq_false (show ¬ k c < lo c by omega), decide_eq_false (show ¬ hi c < k c by omega)]
          rfl
        rw [es]
        by_cases hu : u = []
        · subst hu
          show (if k c = lo c then false else decide (k c < lo c)) = false ∧ (if k c = hi c then true else decide (k c ≤ hi c)) = true
          rw [decide_eq_false (show ¬ k c < lo c by omega), decide_eq_true f]
          exact ⟨by split <;> rfl, by split <;> rfl⟩
        · have e2 := h2 hu
          rw [if_pos (show k c = lo c by omega), if_pos (show k c = hi c by omega)]
          exact ih
def signM (cols : List Nat) (row : List Int) (es : List (Nat × Int)) (rc : Option (Nat × Int × Int)) (u : List Nat) : Int := signF (rowAt cols row) (fun c => (spanOf es rc c).1) (fun c => (spanOf es rc c).2) u 0
theorem span_eq {cols : List Nat} {es : List (Nat × Int)} {rc : Option (Nat × Int × Int)} (hok : QOk cols es rc) {c : Nat} {v : Int} (h : (c, v) ∈ es) : spanOf es rc c = (v, v) := spanOf_mem (spanL_nd hok) (List.mem_append_left _ (List.mem_map_of_mem (f := fun p : Nat × Int => (p.1, p.2, p.2)) h))
theorem span_rc {cols : List Nat} {es : List (Nat × Int)} {c : Nat} {lo hi : Int} (hok : QOk cols es (some (c, lo, hi))) : spanOf es (some (c, lo, hi)) c = (lo, hi) := spanOf_mem (spanL_nd hok) (List.mem_append_right _ (by simp))
theorem used_thin {cols one : List Nat} {es : List (Nat × Int)} {rc : Option (Nat × Int × Int)} (hok : QOk cols es rc) : Thin (fun c => (spanOf es rc c).1) (fun c => (spanOf es rc c).2) (usedM one es rc) := by
  have eqp : ∀ c ∈ eqPart one es, (spanOf es rc c).1 = (spanOf es rc c).2 := fun c hc => by
    have hm0 := mem_tw (fun c => decide (c ∈ es.map fun p : Nat × Int => p.1)) one c hc
    have hm : c ∈ es.map (·.1) := of_decide_eq_true hm0
    obtain ⟨p, hp, rfl⟩ := List.mem_map.mp hm
    rw [span_eq hok (c := p.1) (v := p.2) hp]
  cases rc with
  | none => exact Thin.all eqp
  | some t =>
    obtain ⟨d, lo, hi⟩ := t
    show Thin _ _ (if (one.drop (eqPart one es).length).take 1 = [d] then one.take ((eqPart one es).length + 1) else eqPart one es)
    by_cases e : (one.drop (eqPart one es).length).take 1 = [d]
    · rw [if_pos e, List.take_add, ← eqPart_take, e]
      refine Thin.app ?_ eqp
      show (spanOf es (some (d, lo, hi)) d).1 ≤ (spanOf es (some (d, lo, hi)) d).2
      rw [span_rc hok]
      exact (hok.rc d lo hi rfl).2.2.2.1
    · rw [if_neg e]
      exact Thin.all eqp
theorem ahead_sign {cols : List Nat} {rows : List (List Int)} {one : List Nat} {es : List (Nat × Int)} {rc : Option (Nat × Int × Int)} (hok : QOk cols es rc) : aheadM cols rows one es rc = (rows.filter fun row => decide (signM cols row es rc (usedM one es rc) < 0)).length := by
  unfold aheadM
  congr 2
  funext row
  exact (sign_lex (rowAt cols row) (fun c => (spanOf es rc c).1) (fun c => (spanOf es rc c).2) _ (used_thin hok)).1
theorem behind_sign {cols : List Nat} {rows : List (List Int)} {one : List Nat} {es : List (Nat × Int)} {rc : Option (Nat × Int × Int)} (hok : QOk cols es rc) : behindM cols rows one es rc = (rows.filter fun row => decide (signM cols row es rc (usedM one es rc) < 1)).length := by
  unfold behindM
  congr 2
  funext row
  exact (sign_lex (rowAt cols row) (fun c => (spanOf es rc c).1) (fun c => (spanOf es rc c).2) _ (used_thin hok)).2
end My

set_option Elab.async false
set_option linter.all false
set_option maxRecDepth 100000
set_option maxHeartbeats 2000000
namespace My
open PySem PySem.Spec PyProof.Rows L2
section
variable (K : PySem.W.Frag) {X : Cx}
theorem slLK (hK : X.K = K := by rfl) : SlR X (rSlL K) := by
  subst hK
  exact sl_list
end
/-! ### what a stretch of the sorted rows holds -/
def below (cols : List Nat) (rows : List (List Int)) (es : List (Nat × Int)) (rc : Option (Nat × Int × Int)) (u : List Nat) (n : Int) (o : Nat) : Bool := decide (signM cols (rows.getD o []) es rc u < n)
end My

set_option Elab.async false
set_option linter.all false
set_option maxRecDepth 100000
set_option maxHeartbeats 2000000
namespace My
open PySem PySem.Spec PyProof.Rows L2
/-! ### a walk over a dict's keys, texts of one sign -/
section
variable {X : Cx} {pins : List (Addr × Obj)} {σ : L2.St}
end
theorem SpA.keys {H : Hp} {kvs : List (Key × V)} {l : List (Nat × Int × Int)} (h : SpA H kvs l) : kvs.map (·.1) = (l.map (·.1)).map fun c => (Sum.inr (sS c) : Key) := by
  induction h with
  | nil => rfl
  | cons _ _ ih =>
    rw [List.map_cons, List.map_cons, List.map_cons, ih]
end My

set_option Elab.async false
set_option linter.all false
set_option maxRecDepth 100000
set_option maxHeartbeats 2000000
namespace My
open PySem PySem.Spec PyProof.Rows L2
/-! ### one stretch -/
/-! the used beginning -/
theorem tw_all {α : Type} (p : α → Bool) : ∀ {l : List α}, (∀ x ∈ l, p x = true) → l.takeWhile p = l
  | [], _ => rfl
  | a :: l, h => by
    rw [List.takeWhile_cons, if_pos (h a (by simp)), tw_all p fun x hx => h x (by simp [hx])]
theorem tw_stop {α : Type} (p : α → Bool) {d : α} (hd : p d = false) (r : List α) : ∀ {l : List α}, (∀ x ∈ l, p x = true) → (l ++ d :: r).takeWhile p = l
  | [], _ => by
    show (d :: r).takeWhile p = []
    rw [List.takeWhile_cons, hd]
    rfl
  | a :: l, h => by
    show (a :: (l ++ d :: r)).takeWhile p = a :: l
    rw [List.takeWhile_cons, if_pos (h a (by simp)), tw_stop p hd r fun x hx => h x (by simp [hx])]
theorem eqPart_in {one : List Nat} {es : List (Nat × Int)} : ∀ c ∈ eqPart one es, decide (c ∈ es.map fun p : Nat × Int => p.1) = true := fun c hc => mem_tw (fun c => decide (c ∈ es.map fun p : Nat × Int => p.1)) one c hc
theorem used_used {cols one : List Nat} {es : List (Nat × Int)} {rc : Option (Nat × Int × Int)} (hok : QOk cols es rc) : usedM (usedM one es rc) es rc = usedM one es rc := by
  have e0 : eqPart (eqPart one es) es = eqPart one es := tw_all (fun c => decide (c ∈ es.map fun p : Nat × Int => p.1)) eqPart_in
  cases rc with
  | none => exact e0
  | some t =>
    obtain ⟨d, lo, hi⟩ := t
    have hd := (hok.rc d lo hi rfl).2.1
    have un : ∀ l, usedM l es (some (d, lo, hi)) = (if (l.drop (eqPart l es).length).take 1 = [d] then l.take ((eqPart l es).length + 1) else eqPart l es) := fun l => rfl
    by_cases e : (one.drop (eqPart one es).length).take 1 = [d]
    · have e1 : usedM one es (some (d, lo, hi)) = eqPart one es ++ [d] := by
        rw [un, if_pos e, List.take_add, ← eqPart_take, e]
      have e2 : eqPart (eqPart one es ++ [d]) es = eqPart one es := tw_stop (fun c => decide (c ∈ es.map fun p : Nat × Int => p.1)) (decide_eq_false hd) [] eqPart_in
      rw [e1, un, e2, List.drop_left, if_pos (show List.take 1 [d] = [d] from rfl)]
      have : (eqPart one es).length + 1 = (eqPart one es ++ [d]).length := by simp
      rw [this, List.take_length]
    · have e1 : usedM one es (some (d, lo, hi)) = eqPart one es := by rw [un, if_neg e]
      rw [e1, un, e0, List.drop_length, if_neg (by simp)]
theorem ahead_none {cols : List Nat} {rows : List (List Int)} {one : List Nat} {es : List (Nat × Int)} {rc : Option (Nat × Int × Int)} (hok : QOk cols es rc) (h : usedM one es rc = []) : aheadM cols rows one es rc = 0 ∧ behindM cols rows one es rc = rows.length := by
  rw [ahead_sign hok, behind_sign hok, h]
  constructor
  · have e : (rows.filter fun row => decide (signM cols row es rc [] < 0)) = [] := List.filter_eq_nil_iff.mpr fun r _ z => by
      have z2 : decide ((0 : Int) < 0) = true := z
      exact absurd z2 (by decide)
    rw [e]
    rfl
  · have e : (rows.filter fun row => decide (signM cols row es rc [] < 1)) = rows := List.filter_eq_self.mpr fun r _ => rfl
    rw [e]
/-! the letters of the question, the reach's behind, serve it -/
end My

set_option Elab.async false
set_option linter.all false
set_option maxRecDepth 100000
set_option maxHeartbeats 2000000
namespace My
open PySem PySem.Spec PyProof.Rows L2
theorem nodup_sub_len : ∀ {l m : List Nat}, l.Nodup → (∀ c ∈ l, c ∈ m) → l.length ≤ m.length
  | [], _, _, _ => Nat.zero_le _
  | a :: l, m, h, hs => by
    have h2 := List.nodup_cons.mp h
    have ha := hs a (by simp)
    have ih := nodup_sub_len (m := m.erase a) h2.2 (fun c hc => (List.mem_erase_of_ne (fun e => h2.1 (by rw [← e]; exact hc))).mpr (hs c (by simp [hc])))
    rw [List.length_erase_of_mem ha] at ih
    have hp : 0 < m.length := List.length_pos_of_mem ha
    rw [List.length_cons]
    omega
end My

set_option Elab.async false
set_option linter.all false
set_option maxRecDepth 100000
set_option maxHeartbeats 2000000
namespace My
open PySem PySem.Spec PyProof.Rows L2
section
variable {X : Cx}
/-! ### text[::-1] -/
end
section
variable {prog : Program} {w : World} {A : Around} {E : Value → Shared → Prop} {s : Shared}
/-- sorted of what is collected as fewer than 64 texts -/
theorem sorted_texts {x : Value} {Q : Value → Shared → Prop} (got : wpAny (model prog w) A.in1 (collect x) (fun out s1 => ∃ zs, StrsAre out zs ∧ out.length < 64 ∧ ∀ (ys : List Str) (us : List Value) (c : Nat) (h' : Heap),
      StrsAre us ys → ys.Perm zs → sortedS ys = true → h'.get? s1.heap.objs.size = some (seqObj "list" us.toArray c) → (∀ b u, s1.heap.get? b = some u → h'.get? b = some u) → Q (.ref s1.heap.objs.size) { s1 with heap := h' }) E s) :
    wpAny (model prog w) A (call (.builtin "sorted") [x]) Q E s := by
  refine Calls.call_function_entry kind_sorted plain_sorted entry_sorted (args_sorted1 _) (wpAny_bind (wpAny_pure (wpAny_bind (wpAny_mono got ?_ fun _ _ z => z))))
  rintro out s1 ⟨zs, ht, l64, goal⟩
  have le : out.length ≤ sizeLine := by rw [sizeLine_eq]; omega
  refine wpAny_bind (wpAny_newList ?_ le)
  have hp : (s1.heap.push (seqObj "list" out.toArray 0)).get? s1.heap.objs.size = some (seqObj "list" out.toArray 0) := Heap.get?_push_size _ rfl
  refine wpAny_bind (wpAny_holding (wpAny_call_entry slot_list_sort ⟨_, hp, rfl⟩ entry_list_sort (list_sort_treeK strKind_oneLt (s := { s1 with heap := _ }) hp ht.keysOf (fun _ _ _ e => keyKind_strs (e ▸ ht)) l64 fun st pm so => ⟨_, rfl, ?_⟩) (args_list_sort _)))
  have ⟨ys, y1, y2, y3⟩ := sorted_out_str ht pm so
  have ⟨c, hc⟩ := sortedHeap_at (vs := out) (out := (arrOf st).map (·.2)) hp
  refine wpAny_pure ⟨_, rfl, goal ys _ c _ y1 y2 y3 (by rw [Array.toArray_toList]; exact hc) fun b u e => ?_⟩
  have lt := Heap.lt_size e
  exact (sortedHeap_old (Nat.ne_of_lt lt) (by rw [size_push']; exact Nat.lt_succ_of_lt lt)).trans (Heap.get?_push_of_some _ e)
end
section
variable {X : Cx}
/-! ### sorted(text) -/
end
end My

set_option Elab.async false
set_option linter.all false
set_option maxRecDepth 100000
set_option maxHeartbeats 2000000
namespace My
open PySem PySem.Spec PyProof.Rows L2
/-! ### a <= b <= c <= d as a test -/
section
variable {X : Cx} {a b c d : Expr} {ta tb tc td : TE} {pos : Pos}
end
/-! ### more letters used, fewer rows -/
theorem used_un (l : List Nat) (es : List (Nat × Int)) (d : Nat) (lo hi : Int) : usedM l es (some (d, lo, hi)) = (if (l.drop (eqPart l es).length).take 1 = [d] then l.take ((eqPart l es).length + 1) else eqPart l es) := rfl
/-- one letter more -/
theorem used_more (one : List Nat) (c : Nat) (es : List (Nat × Int)) (rc : Option (Nat × Int × Int)) : ∃ more, usedM (one ++ [c]) es rc = usedM one es rc ++ more := by
  have hA : eqPart (one ++ [c]) es = (if (eqPart one es).length = one.length then one ++ [c].takeWhile (fun c => decide (c ∈ es.map fun p : Nat × Int => p.1)) else eqPart one es) := List.takeWhile_append
  by_cases e : (eqPart one es).length = one.length
  · rw [if_pos e] at hA
    have e1 : eqPart one es = one := by
      rw [eqPart_take, e, List.take_length]
    have e2 : usedM one es rc = one := by
      cases rc with
      | none => exact e1
      | some t =>
        obtain ⟨d, lo, hi⟩ := t
        rw [used_un, e, List.drop_length, if_neg (by simp), e1]
    obtain ⟨k, ek, _⟩ := used_sub (one := one ++ [c]) (es := es) (rc := rc)
    rw [e2]
    have hp : ∃ m, eqPart (one ++ [c]) es = one ++ m := ⟨_, hA⟩
    obtain ⟨m, hm⟩ := hp
    cases rc with
    | none => exact ⟨m, hm⟩
    | some t =>
      obtain ⟨d, lo, hi⟩ := t
      rw [used_un]
      split
      · rw [hm, List.length_append, Nat.add_assoc, List.take_append, List.take_of_length_le (by omega)]
        exact ⟨_, rfl⟩
      · exact ⟨m, hm⟩
  · rw [if_neg e] at hA
    have hlt : (eqPart one es).length < one.length := by
      have : (eqPart one es).length ≤ one.length := by
        have h1 : (eqPart one es).length = (one.take (eqPart one es).length).length := by rw [← eqPart_take]
        rw [List.length_take] at h1
        omega
      omega
    refine ⟨[], ?_⟩
    rw [List.append_nil]
    cases rc with
    | none => exact hA
    | some t =>
      obtain ⟨d, lo, hi⟩ := t
      rw [used_un, used_un, hA, List.drop_append_of_le_length (by omega), List.take_append_of_le_length (by rw [List.length_drop]; omega), List.take_append_of_le_length (by omega)]
end My

set_option Elab.async false
set_option linter.all false
set_option maxRecDepth 100000
set_option maxHeartbeats 2000000
namespace My
open PySem PySem.Spec PyProof.Rows L2
section
variable (K : PySem.W.Frag) {X : Cx}
theorem paStarK {e : Expr} {te : TE} {es : List Expr} {t : TA} {p : Pos} (he : PE X e te) (hr : PA X es t) (hK : X.K = K := by rfl) (hs : starEach (.Starred e p :: es) X.env = (true, eval e X.env) :: starEach es X.env := by rfl) : PA X (.Starred e p :: es) (StX.tStar K te t) := by
  subst hK
  exact StX.pa_star he hr hs
/-! ### the least of a list -/
def minM (n : Int) (ns : List Int) : Int := ns.foldl min n
theorem minM_spec : ∀ (ns : List Int) (n : Int), (minM n ns = n ∨ minM n ns ∈ ns) ∧ minM n ns ≤ n ∧ ∀ y ∈ ns, minM n ns ≤ y
  | [], n => ⟨.inl rfl, Int.le_refl _, fun y h => nomatch h⟩
  | m :: ns, n => by
    obtain ⟨h1, h2, h3⟩ := minM_spec ns (min n m)
    have e : minM n (m :: ns) = minM (min n m) ns := rfl
    rw [e]
    refine ⟨?_, by omega, fun y hy => ?_⟩
    · rcases h1 with z | z
      · rw [z]
        by_cases c : n ≤ m
        · exact .inl (by omega)
        · exact .inr (by rw [show min n m = m by omega]; exact List.mem_cons_self ..)
      · exact .inr (List.mem_cons_of_mem _ z)
    · rcases List.mem_cons.mp hy with z | z
      · omega
      · exact h3 y z
theorem minM_of {n m : Int} {ns : List Int} (h : m ∈ n :: ns) (hl : ∀ y ∈ n :: ns, m ≤ y) : m = minM n ns := by
  obtain ⟨h1, h2, h3⟩ := minM_spec ns n
  have a1 : m ≤ minM n ns := by
    rcases h1 with z | z
    · rw [z]
      exact hl n (by simp)
    · exact hl _ (by simp [z])
  have a2 : minM n ns ≤ m := by
    rcases List.mem_cons.mp h with z | z
    · omega
    · exact h3 m z
  omega
def rMinM (K : PySem.W.Frag) : List V → Hp → VK → Prop := fun vs H Q => ∃ (a : Addr) (n : Int) (ns : List Int), vs = [.ref a] ∧ SqL K H a ((n :: ns).map V.int) ∧ Q (.int (minM n ns)) H
theorem minK (hc : X.calm = true := by rfl) (hK : X.K = K := by rfl) : CallR X (.builtin "min") (rMinM K) := by
  subst hK
  intro pins s σ H xs us Q I r h
  obtain ⟨a, n, ns, rfl, hs, q⟩ := h
  refine cr_min hc pins s σ H _ us Q I r ⟨a, n :: ns, rfl, hs, by simp, fun m hm hl => ?_⟩
  rw [minM_of hm hl]
  exact q
end
/-! ### keys of a merged dict -/
theorem put_keys (acc : List (Key × V)) (k : Key) (v : V) : (k ∈ acc.map (·.1) ∧ (putK acc k v).map (·.1) = acc.map (·.1)) ∨ (k ∉ acc.map (·.1) ∧ (putK acc k v).map (·.1) = acc.map (·.1) ++ [k]) := by
  unfold putK
  by_cases h : (acc.any fun kv => decide (kv.1 = k)) = true
  · rw [if_pos h]
    refine .inl ⟨?_, ?_⟩
    · obtain ⟨kv, h1, h2⟩ := List.any_eq_true.mp h
      rw [← of_decide_eq_true h2]
      exact List.mem_map_of_mem h1
    · rw [List.map_map]
      refine List.map_congr_left fun kv _ => ?_
      show (if kv.1 = k then (kv.1, v) else kv).1 = kv.1
      split <;> rfl
  · rw [if_neg h]
    refine .inr ⟨fun z => h ?_, ?_⟩
    · obtain ⟨kv, h1, h2⟩ := List.mem_map.mp z
      exact List.any_eq_true.mpr ⟨kv, h1, decide_eq_true h2⟩
    · rw [List.map_append]
      rfl
/-! ### choices: texts in a row -/
abbrev txS (l : List Nat) : Str := ⟨l.toArray⟩
theorem txS_inj {a b : List Nat} (h : txS a = txS b) : a = b := tx_inj (congrArg V.str h)
theorem txS_of (z : Str) : txS z.cps.toList = z := by
  cases z
  simp
structure OneOk (cols o : List Nat) : Prop where
  ne : o ≠ []
  sub : ∀ c ∈ o, c ∈ cols
  nd : o.Nodup
theorem OneOk.len {cols o : List Nat} (h : OneOk cols o) : o.length ≤ cols.length := nodup_sub_len h.nd h.sub
/-- what dict(..) and sorted(..) make of lists that were drawn -/
structure ChOk (cols : List Nat) (ch : List (List Nat)) : Prop where
  ok : ∀ o ∈ ch, OneOk cols o
  nd : ch.Nodup
  up : sortedS (ch.map txS) = true
/-! ### prices -/
def priceM (cols : List Nat) (rows : List (List Int)) (o : List Nat) (es : List (Nat × Int)) (rc : Option (Nat × Int × Int)) : Int := (behindM cols rows o es rc : Int) - (aheadM cols rows o es rc : Int) + 1
def priceByM (cols : List Nat) (rows : List (List Int)) (ov : Option (List Nat)) (es : List (Nat × Int)) (rc : Option (Nat × Int × Int)) : Int := match ov with
  | none => (rows.length : Int)
  | some o => priceM cols rows o es rc
def priceOfM (cols : List Nat) (rows : List (List Int)) (ch : List (List Nat)) (es : List (Nat × Int)) (rc : Option (Nat × Int × Int)) : Int := minM (rows.length : Int) (ch.map fun o => priceM cols rows o es rc)
def oV : Option (List Nat) → V
  | none => .non
  | some o => tx o
end My

set_option Elab.async false
set_option linter.all false
set_option maxRecDepth 100000
set_option maxHeartbeats 2000000
namespace My
open PySem PySem.Spec PyProof.Rows L2
/-! ### drawn lists, each with True -/
theorem ch_tx (ch : List (List Nat)) : (ch.map txS).map V.str = ch.map tx := by
  rw [List.map_map]
  rfl
theorem one_ok {cols one rest : List Nat} (hc : cols.Nodup) (hp : (rest ++ one).Perm cols) (h0 : 0 < one.length) : OneOk cols one :=
  ⟨fun e => by rw [e] at h0; exact Nat.lt_irrefl _ h0, fun c h => hp.mem_iff.mp (List.mem_append_right _ h), (List.nodup_append.mp (hp.nodup_iff.mpr hc)).2.1⟩
end My

set_option Elab.async false
set_option linter.all false
set_option maxRecDepth 100000
set_option maxHeartbeats 2000000
namespace My
open PySem PySem.Spec PyProof.Rows L2
theorem signs_len (l : List Nat) : ((l.map sS).map fun x : Str => x.length).sum = l.length := by
  induction l with
  | nil => rfl
  | cons a k ih =>
    rw [List.map_cons, List.map_cons, List.sum_cons, ih, List.length_cons]
    show 1 + k.length = k.length + 1
    omega
/-! ### texts cut -/
/-! ### list(x), x a text or a row -/
/-! ### a need and a list: two ways to look -/
end My

set_option Elab.async false
set_option linter.all false
set_option maxRecDepth 100000
set_option maxHeartbeats 2000000
namespace My
open PySem PySem.Spec PyProof.Rows L2
/-! ### sorted again -/
/-! ### rows of lists of numbers -/
mutual
theorem Ft.dp {K : PySem.W.Frag} {H : Hp} : ∀ (d : PyData) (v : V), Ft H v d → Dp K H v d
  | .none, _, .non => .non
  | .bool _, _, .bl b => .bl b
  | .int _, _, .int i => .int i
  | .str _, _, .str z => .str z
  | .list ds, _, .lst h a => .lst (.inl (.inl h)) (FtA.dp ds _ a)
  | .tuple ds, _, .tup h a => .tup (.inl (.inl h)) (FtA.dp ds _ a)
theorem FtA.dp {K : PySem.W.Frag} {H : Hp} : ∀ (ds : List PyData) (vs : List V), FtA H vs ds → DpAll K H vs ds
  | [], _, .nil => .nil
  | d :: ds, _, .cons h a => .cons (Ft.dp d _ h) (FtA.dp ds _ a)
end
theorem FtA.snoc {H : Hp} : ∀ {vs : List V} {ds : List PyData} {v : V} {d : PyData}, FtA H vs ds → Ft H v d → FtA H (vs ++ [v]) (ds ++ [d])
  | _, _, _, _, .nil, h => .cons h .nil
  | _, _, _, _, .cons a r, h => .cons a (r.snoc h)
end My
namespace My
open PySem PySem.Spec PyProof.Rows L2
end My

set_option Elab.async false
set_option linter.all false
set_option maxRecDepth 100000
set_option maxHeartbeats 2000000
namespace My
open PySem PySem.Spec PyProof.Rows L2
/-! ### generator expressions whose element calls defs -/
/-- the context of a generator expression's own frame -/
abbrev gxC (X : Cx) (A : Around) (s : Shared) (H : Hp) (cenv : Env) (fp : List Addr) (pn : List (Addr × Obj)) : Cx :=
  { X with A := A, s_0 := s, H_0 := H, env := cenv, outer := X.stack, stack := cenv :: X.stack, ex := fp, fn := fun _ => false, pn := pn, xe := fun _ _ => False }
theorem over_gen {A : Around} {elt : Expr} {gs : List Comprehension} {scope : Scope} {pos : Pos} {it acc : Value} {env : Env} : A.over (.compLoop (.GeneratorExp elt gs scope pos) 0 it acc env) [] = A.deeper env := rfl
section
variable {X : Cx} {pins : List (Addr × Obj)} {σ : L2.St} {H : Hp} {s : Shared}
/-- what its consumer wrote at S while it slept -/
theorem woke {S : Addr} {o o' : Obj} {pins0 : List (Addr × Obj)} {s' : Shared} (I : Inv X ((S, o) :: pins0) σ H s) (h0 : X.s_0.heap.objs.size ≤ S) (hc : ∀ x c, X.env.cells.lookup x = some c → c ≠ S) (hpn : ∀ p ∈ X.pn ++ pins0, p.1 ≠ S)
    (os : s'.os = s.os) (bare : AllBare s'.gens) (keep : ∀ b u, b ≠ S → s.heap.get? b = some u → s'.heap.get? b = some u) (own : s'.heap.get? S = some o') (hd : ∀ v, o'.data ≠ .cell v) : Inv X ((S, o') :: pins0) σ H s' := by
  obtain ⟨p1, p2, p3, p4, p5⟩ := I.pin (S, o) (List.mem_append_right _ List.mem_cons_self)
  have I0 : Inv X pins0 σ H s := I.pins_of fun p hp => I.pin p (List.mem_append_right _ (List.mem_cons_of_mem _ hp))
  have J : Inv X pins0 σ H { s with heap := s'.heap, toks := s.toks } := I0.turned (t' := s.toks) keep p2 p3 (.inr h0) hc hpn
  have J2 : Inv X pins0 σ H s' := J.call' (ch := []) os (Un.kept fun b o e => e) J.hok bare (fun b hb => absurd hb (by simp))
  refine J2.pins_of fun p hp => ?_
  rcases List.mem_cons.mp hp with z | z
  · rw [z]
    exact ⟨own, p2, p3, p4, hd⟩
  · exact J2.pin p (List.mem_append_right _ z)
/-- a scope without cells makes none -/
theorem none_made : ∀ {names : List (Str × NameKind)}, (∀ y ∈ names, y.2 ≠ .cell) → (∀ n acc, cellsFrom n names acc = acc) ∧ ∀ h, pushCells h names = h
  | [], _ => ⟨fun _ _ => rfl, fun _ => rfl⟩
  | y :: r, no => by
    have hy : (y.2 == NameKind.cell) = false := beq_eq_false_iff_ne.mpr (no y List.mem_cons_self)
    have ⟨p, q⟩ := none_made (names := r) fun z hz => no z (List.mem_cons_of_mem y hz)
    exact ⟨fun n acc => by rw [cellsFrom, hy]; exact p n acc, fun h => by rw [pushCells, hy]; exact q h⟩
/-- names keep their places when only their kinds change -/
theorem lookup_kinds {f : Str × NameKind → Str × NameKind} (same : ∀ p, (f p).1 = p.1) {x : Str} {k : NameKind} : ∀ {names : List (Str × NameKind)}, names.lookup x = some k → (names.map f).lookup x = some (f (x, k)).2
  | [], e => nomatch e
  | (n, j) :: r, e => by
    rw [List.map_cons, show f (n, j) = (n, (f (n, j)).2) from Prod.ext (same _) rfl]
    cases hx : x == n with
    | true =>
      rw [List.lookup_cons, hx] at e ⊢
      obtain rfl : j = k := Option.some.inj e
      rw [eq_of_beq hx]
    | false =>
      rw [List.lookup_cons, hx] at e ⊢
      exact lookup_kinds same e
/-- a free name stays free or is a cell in the block's scope -/
theorem relab_free {env : Env} {scope : Scope} {x : Str} (e : scope.names.lookup x = some .free) : (relabel scope env).names.lookup x = some .cell ∨ (relabel scope env).names.lookup x = some .free := by
  unfold relabel
  rw [lookup_kinds (fun p => ?_) e]
  · dsimp only
    split
    · exact .inl rfl
    · exact .inr rfl
  · dsimp only
    split <;> rfl
/-- the generator's frame as it begins: what a block's frame would know, with the iterator under its own name -/
theorem gx_start {scope : Scope} {own : List (Str × Nat)} {fp : List Addr} {A : Around} {code : Value} {it : Value} {h' : Heap} {go : Obj} {G : Array GenState} {tk : Nat} (I : Inv X pins σ H s) (ok : BlkOk X.N X.env.scope scope own) (hcell : ∀ y ∈ scope.names, y.2 ≠ .cell) (hN : X.N.Nodup)
    (hfp : ∀ b ∈ fp, FpOk X pins H b ∧ b < s.heap.objs.size) (hA : A.handled = none) (hfr : A.frames = some X.stack) (hn : h'.Ns s.heap.objs.size (fun y => if y = ".0" then some it else none))
    (hs : Heap.SameBut s.heap.objs.size (s.heap.push { cls := .type "frame", data := .dict #[] }) h') (hG : AllBare G) (hgp : (h'.push go).get? h'.objs.size = some go) (hgd : ∀ v, go.data ≠ .cell v) :
    Inv (gxC X (A.deeper (genEnv scope (cloFrom X.env.cells scope.names []) s.heap.objs.size code builtinsNs X.env)) s H (genEnv scope (cloFrom X.env.cells scope.names []) s.heap.objs.size code builtinsNs X.env) fp [(h'.objs.size, go)]) [] (wipe σ (own.map (·.2))) H
      { s with gens := G, toks := tk, heap := h'.push go } := by
  have J := block_start I ok hN hfp
  rw [(none_made hcell).1, (none_made hcell).2] at J
  have lt : s.heap.objs.size < h'.objs.size := hn.lt
  have kp : ∀ b o, s.heap.get? b = some o → (h'.push go).get? b = some o := fun b o e => Heap.get?_push_of_some _ (hs.extBut b o (Nat.ne_of_lt (Heap.lt_size e)) (Heap.get?_push_of_some _ e))
  have cells : ∀ {c : Addr} {v : Option Value}, (s.heap.push { cls := .type "dict", data := .dict #[] }).IsCell c v → (h'.push go).IsCell c v := by
    rintro c v ⟨o, e, d⟩
    have ne : c ≠ s.heap.objs.size := fun z => by
      rw [z, Heap.get?_push_size _ rfl] at e
      rw [← Option.some.inj e] at d
      cases d
    exact ⟨o, kp c o (Heap.get?_push_ne _ _ _ ne ▸ e), d⟩
  have outside : ∀ {y : Str}, scope.names.lookup y = some .cell ∨ scope.names.lookup y = some .free → (relabel scope X.env).names.lookup y = some .cell ∨ (relabel scope X.env).names.lookup y = some .free := fun z => z.elim (fun e => absurd rfl (hcell _ (PySem.mem_of_lookup e))) relab_free
  refine { ok := { mod := J.ok.mod, kind := ok.kind, glob := J.ok.glob, blt := rfl, above := Nat.le_refl _, inj := J.ok.inj, has := fun y z => J.ok.has y (outside z), cab := (fun _ _ z => nomatch z), hd := fun _ => hA, frames := Around.frames_deeper hfr, stk := .inr ⟨rfl, rfl⟩,
                   exf := J.ok.exf, bs := J.ok.bs, bsz := J.ok.bsz, noex := J.ok.noex, exfs := J.ok.exfs, funs := J.ok.funs, frf := J.ok.frf }
           os := rfl, bare := hG, base := Un.kept kp, loc := ⟨_, hn.push go, fun i y v hy hv vis => ?_⟩, cell := fun y c e => (J.cell y c e).imp fun _ => cells, free := J.free, freeC := J.freeC, pin := ?_, hok := I.hok.kept kp, len := J.len }
  · obtain ⟨m, hm, all⟩ := J.loc
    have blank : m y = none := hm.agree (Heap.Ns.new s.heap (.type "dict")) y
    have get := all i y v hy hv
    rcases vis with l | l
    · have l2 : (relabel scope X.env).names.lookup y = some .local := lookup_relabel_local l
      obtain ⟨u, _, z | z⟩ := get (.inl l2)
      · rw [blank] at z
        exact nomatch z.2
      · rcases z.1 with z | z <;> exact nomatch l2.symm.trans z
    · obtain ⟨u, r, z | ⟨_, c, e, k⟩⟩ := get (.inr (outside l))
      · rw [blank] at z
        exact nomatch z.2
      · exact ⟨u, r, .inr ⟨l, c, e, cells k⟩⟩
  · intro p hp
    obtain rfl : p = (h'.objs.size, go) := by simpa using hp
    refine ⟨hgp, I.hok.fresh (Nat.le_of_lt lt), Nat.ne_of_gt lt, fun z => ?_, hgd⟩
    rcases List.mem_cons.mp (I.stkSub _ z) with e | e
    · exact Nat.lt_irrefl _ (Nat.lt_trans lt (show h'.objs.size < _ from (show h'.objs.size = X.env.locals from e) ▸ I.lt))
    · exact I.nofs (Nat.le_of_lt lt) e
end
end My

set_option Elab.async false
set_option linter.all false
set_option maxRecDepth 100000
set_option maxHeartbeats 2000000
namespace My
open PySem PySem.Spec PyProof.Rows L2
/-- where such a generator stands: i items are out; S: what its consumer keeps -/
structure GxAt (X : Cx) (fp : List Addr) (tn : Nat → Heap → Prop) (σ0 : L2.St) (W : Nat → Hp → Prop) (S : Addr) (i : Nat) (o : Obj) (H : Hp) (s : Shared) : Prop where
  inv : Inv X [(S, o)] σ0 H s
  st : tn i s.heap
  nfp : ∀ b ∈ fp, H b = none
  w : W i H
/-- the consumer wrote at S alone -/
structure Wrote (S : Addr) (s s' : Shared) (o' : Obj) : Prop where
  os : s'.os = s.os
  bare : AllBare s'.gens
  keep : ∀ b u, b ≠ S → s.heap.get? b = some u → s'.heap.get? b = some u
  own : s'.heap.get? S = some o'
  nc : ∀ v, o'.data ≠ .cell v
def gxY (X : Cx) (fp : List Addr) (tn : Nat → Heap → Prop) (σ0 : L2.St) (W : Nat → Hp → Prop) (S : Addr) (n : Nat) (F : Nat → V) : Protocol := fun m s₀ v s kap =>
  ∃ i o H, m + i + 1 = n ∧ RelV (F i) v ∧ s₀.heap.get? S = some o ∧ GxAt X fp tn σ0 W S (i + 1) o H s ∧ ∀ s'' o', Wrote S s s'' o' → kap (.send .none) s''
def gxP (X : Cx) (σ0 : L2.St) (W : Nat → Hp → Prop) (S : Addr) (n : Nat) : Nat → Shared → Shared → Prop := fun m s₀ s₁ => m = 0 ∧ ∃ o H, Inv X [(S, o)] σ0 H s₁ ∧ W n H
section
variable {X : Cx}
/-- one item's reading -/
def gxStep (J : It) (g : L2.TG) (te : TE) (vs : List Nat) (σ0 : L2.St) (W : Nat → Hp → Prop) (n : Nat) (F : Nat → V) : Prop :=
  ∀ i H, W i H → (i < n → J.go i H ∧ ∀ x H', J.yld i H x H' → g x σ0 H' fun σ2 H2 => wipe σ2 vs = σ0 ∧ te σ2 H2 fun y H3 => y = F i ∧ W (i + 1) H3) ∧ (i = n → J.stop i H)
theorem gx_loop {A : Around} {elt tg iter : Expr} {scope : Scope} {pos : Pos} {J : It} {fp : List Addr} {it : Addr} {tn : Nat → Heap → Prop} {g : L2.TG} {te : TE} {vs : List Nat} {σ0 : L2.St} {W : Nat → Hp → Prop} {n : Nat} {F : Nat → V} {S : Addr}
    (hA : A.deeper X.env = X.A) (T : Turn X.prog X.w X.K tg J fp it tn) (hc : X.calm = true) (hex : X.ex = fp) (hSf : S ∉ fp) (hpf : ∀ p ∈ X.pn, p.1 ∉ fp) (hxe : ∀ e s, X.xe e s → False) (hco : X.env.scope.isCoroutine = false)
    (h0 : X.s_0.heap.objs.size ≤ S) (hcs : ∀ x c, X.env.cells.lookup x = some c → c ≠ S) (hpS : ∀ p ∈ X.pn, p.1 ≠ S)
    (pg : PG X tg g) (pe : PE X elt te) (step : gxStep J g te vs σ0 W n F) :
    ∀ (k i : Nat) (s₀ s : Shared) (o : Obj) (H : Hp), i + k = n → s₀.heap.get? S = some o → GxAt X fp tn σ0 W S i o H s →
      Seg (model X.prog X.w) A (fun m s₀ r s₁ => r = .ok .next ∧ gxP X σ0 W S n m s₀ s₁) (gxY X fp tn σ0 W S n F) k s₀
        (.compLoop (.GeneratorExp elt [⟨tg, iter, [], 0⟩] scope pos) 0 (.ref it) .none X.env)
        ((model X.prog X.w).den (.compLoop (.GeneratorExp elt [⟨tg, iter, [], 0⟩] scope pos) 0 (.ref it) .none X.env)) [] s := by
  have stat : ∀ {o : Obj} {σ' : L2.St} {H' : Hp} {s' : Shared}, Inv X [(S, o)] σ' H' s' → (∀ b ∈ fp, H' b = none) → ∀ b ∈ fp, FpOk X [(S, o)] H' b := fun {o σ' H' s'} I' hn b hb =>
    ⟨hn b hb, (I'.ok.exf b (hex ▸ hb)).1, I'.ok.exfs b (hex ▸ hb), .inl (hex ▸ hb), fun x c e => (I'.ok.exf b (hex ▸ hb)).2 x c e, fun p hp z => by
      rcases List.mem_append.mp hp with q | q
      · exact hpf p q (z ▸ hb)
      · have e : p = (S, o) := by simpa using q
        rw [e] at z
        exact hSf (by rw [show S = b from z]; exact hb)⟩
  intro k
  induction k with
  | zero =>
    intro i s₀ s o H hk hs0 G
    have hin : i = n := by omega
    subst hin
    show Seg _ A _ _ _ s₀ _ ((compTurn (.GeneratorExp elt [⟨tg, iter, [], 0⟩] scope pos) 0 (.ref it) .none X.env).onRaise (leaving X.env)) [] s
    rw [compTurn_gen, Sem.onRaise_eq_wrap]
    refine seg_bind_wrap (wpAny_standAt ?_)
    refine seg_bind_wrap ?_
    rw [over_gen, hA]
    refine thnF (T.done X rfl rfl rfl hc i [(S, o)] s σ0 H (fun _ _ => False) G.inv (stat G.inv G.nfp) G.st ((step i H G.w).2 rfl)) fun r s6 ⟨hr, I6⟩ => ?_
    subst hr
    exact seg_end (.ok .next) ⟨rfl, rfl, o, H, I6, G.w⟩
  | succ k ih =>
    intro i s₀ s o H hk hs0 G
    have hlt : i < n := by omega
    obtain ⟨go, st⟩ := (step i H G.w).1 hlt
    show Seg _ A _ _ _ s₀ _ ((compTurn (.GeneratorExp elt [⟨tg, iter, [], 0⟩] scope pos) 0 (.ref it) .none X.env).onRaise (leaving X.env)) [] s
    rw [compTurn_gen, Sem.onRaise_eq_wrap]
    refine seg_bind_wrap (wpAny_standAt ?_)
    refine seg_bind_wrap ?_
    rw [over_gen, hA]
    refine thnF (T.item X rfl rfl rfl hc i [(S, o)] s σ0 H (fun _ _ => False) G.inv (stat G.inv G.nfp) G.st go) fun r s6 ⟨u, hr, h6⟩ => ?_
    subst hr
    refine seg_bind_wrap ?_
    rw [over_gen, hA]
    refine thnF h6 fun _ s7 ⟨x, H7, I7, r7, y7, st7, n7⟩ => ?_
    have I7' := I7.pinned (stat I7 n7) (T.obj _ _ st7)
    refine seg_bind_wrap ?_
    rw [over_gen, hA]
    refine wpAny_mono (pg.run _ s7 _ H7 x u _ I7' r7 (st x H7 y7)) (fun _ s8 h8 => ?_) (fun e s' z => (hxe e s' z).elim)
    obtain ⟨σ8, H8, I8, hw8, q8⟩ := h8
    refine seg_bind_wrap (wpAny_tests_nil ?_)
    simp only [if_true]
    have hy : ∀ v, yieldOut X.env v = yieldValue v := fun v => by simp only [yieldOut, hco, Bool.false_eq_true, if_false]
    simp only [hy]
    rw [Sem.bind_eq_wrap', Sem.bind_eq_wrap', Sem.wrap_wrap, Sem.wrap_wrap]
    refine seg_wrap ?_
    rw [over_gen, hA]
    refine wpAny_mono (pe.run _ s8 σ8 H8 _ I8 q8) (fun yv s10 h10 => ?_) (fun e s' z => (hxe e s' z).elim)
    obtain ⟨y, H10, I10, r10, ey, w10⟩ := h10
    have pin' : ∀ b ∈ fp, ∀ ob, s7.heap.get? b = some ob → s10.heap.get? b = some ob ∧ H10 b = none := fun b hb ob e =>
      let z := I10.pin (b, ob) (List.mem_append_right _ (List.mem_append_right _ (mem_pinsAt hb e)))
      ⟨z.1, z.2.1⟩
    have hl : σ0.length = σ8.length := by rw [← hw8, wipe_length]
    have I11 : Inv X [(S, o)] σ0 H10 s10 := (I10.unpinned (pins := [(S, o)])).weak hl fun j v e => by
      rw [← hw8] at e
      exact (wipe_some e).1
    have G11 : GxAt X fp tn σ0 W S (i + 1) o H10 s10 := ⟨I11, T.keep _ _ _ st7 fun b hb ob e => (pin' b hb ob e).1, fun b hb => by
      obtain ⟨ob, e, _⟩ := T.obj _ _ st7 b hb
      exact (pin' b hb ob e).2, w10⟩
    refine seg_at (seg_yield rfl rfl rfl ⟨i, o, H10, by omega, by rw [← ey]; exact r10, hs0, G11, fun s'' o' z => ?_⟩)
    refine seg_again rfl (ih (i + 1) s'' s'' o' H10 (by omega) z.own ⟨woke G11.inv h0 hcs (fun p hp => hpS p (by simpa using hp)) z.os z.bare z.keep z.own z.nc, T.keep _ _ _ G11.st fun b hb ob e => z.keep b ob (fun q => hSf (q ▸ hb)) e, G11.nfp, G11.w⟩)
/-- from its beginning -/
theorem gx_begin {A : Around} {elt tg iter : Expr} {scope : Scope} {pos : Pos} {J : It} {fp : List Addr} {it : Addr} {tn : Nat → Heap → Prop} {R : GenEnd} {Y : Protocol} {k : Nat} {s₀ s : Shared} (T : Turn X.prog X.w X.K tg J fp it tn) (st : tn 0 s.heap)
    (loop : Seg (model X.prog X.w) A R Y k s₀ (.compLoop (.GeneratorExp elt [⟨tg, iter, [], 0⟩] scope pos) 0 (.ref it) .none X.env)
        ((model X.prog X.w).den (.compLoop (.GeneratorExp elt [⟨tg, iter, [], 0⟩] scope pos) 0 (.ref it) .none X.env)) [] s) :
    Seg (model X.prog X.w) A R Y k s₀ (.compStart (.GeneratorExp elt [⟨tg, iter, [], 0⟩] scope pos) 0 (.ref it) .none X.env)
        ((model X.prog X.w).den (.compStart (.GeneratorExp elt [⟨tg, iter, [], 0⟩] scope pos) 0 (.ref it) .none X.env)) [] s := by
  show Seg _ A _ _ _ s₀ _ ((compStart (.GeneratorExp elt [⟨tg, iter, [], 0⟩] scope pos) 0 (.ref it) .none X.env).onRaise (leaving X.env)) [] s
  unfold compStart
  rw [Sem.onRaise_eq_wrap]
  show Seg _ A _ _ _ s₀ _ ((ask >>= _).wrap _ _ _ _) [] s
  refine seg_bind_wrap (wpAny_askSetting ?_)
  split
  · exact seg_again rfl loop
  · refine seg_bind_wrap (wpAny_rule ?_)
    show Seg _ A _ _ _ s₀ _ ((standAt iter.pos >>= _).wrap _ _ _ _) [] s
    exact seg_bind_wrap (wpAny_standAt (seg_bind_wrap (T.self _ 0 s _ _ st (seg_again rfl loop))))
end
end My

set_option Elab.async false
set_option linter.all false
set_option maxRecDepth 100000
set_option maxHeartbeats 2000000
namespace My
open PySem PySem.Spec PyProof.Rows L2
section
variable {X : Cx}
/-- what sum() walks: the generator at a sleeps, k items are still to come -/
structure GxSt (X : Cx) (A : Around) (fp : List Addr) (tn : Nat → Heap → Prop) (σ0 : L2.St) (W : Nat → Hp → Prop) (S : Addr) (n : Nat) (F : Nat → V) (a : Addr) (g k : Nat) (s : Shared) : Prop where
  gen : s.heap.IsGen a g
  lim : s.heap.NoLimit
  bare : AllBare s.gens
  go : ∃ gs, s.gens[g]? = some gs ∧ ∀ s'' o', Wrote S s s'' o' → gs.Goes (model X.prog X.w) A (fun m s₀ r s₁ => r = .ok .next ∧ gxP X σ0 W S n m s₀ s₁) (gxY X fp tn σ0 W S n F) k (.send .none) s''
theorem sum_loopC {A : Around} {fp : List Addr} {tn : Nat → Heap → Prop} {σ0 : L2.St} {W : Nat → Hp → Prop} {S : Addr} {n : Nat} {val : Nat → Int} {a : Addr} {g : Nat} {go : Obj} {R : Result → Shared → Prop}
    (hh : A.handled = none) (hd : A.depth < recursionLimit) (hSa : S ≠ a) (hSc : S ≠ cStatics) (hpn : (a, go) ∈ X.pn) (hgo : ∀ h : Heap, h.get? a = some go → h.IsGen a g)
    (hfit : ∀ j, j < n → InLong (val j) ∧ InLong (preSum val (j + 1)))
    (hR : ∀ s' t' o H, Inv X [(S, o)] σ0 H s' → W n H → R (.ok (.ret (.int (preSum val n) t'))) s') :
    ∀ (k i : Nat) (s : Shared) (tA : Tok) (c : Nat), i + k = n → GxSt X A.in1.in1 fp tn σ0 W S n (fun i => .int (val i)) a g k s → s.heap.get? S = some { cls := .type "list", dict := none, data := .seq #[.int (preSum val i) tA] c, slots := #[] } →
      codeAny (model X.prog X.w) A (.builtin "sum.loop" ⟨[.ref a, .ref S, rawInt 0, rawInt 0], []⟩) R s := by
  intro k
  induction k with
  | zero =>
    intro i s tA c hk Z hS
    have hin : i = n := by omega
    subst hin
    obtain ⟨hg, hl, hb, gs, hgs, hgoes⟩ := Z
    refine codeAny_builtin F.entry_sum_loop ?_
    rw [Around.under_plainId F.plain_sum_loop _]
    show wpAny _ A.in1 (seqItems? (.ref S) >>= _) _ _ s
    refine wpAny_bind (wpAny_seqItems hS rfl ?_)
    show wpAny _ A.in1 (tryCatch (pyNext (.ref a)) _ >>= _) _ _ s
    refine wpAny_bind (wpAny_tryCatch (wpAny_pyNext_genexpQ (A := A.in1) hh hl hd hg hgs (hgoes (s.setGen g .running) _ ⟨rfl, allBare_setGen hb rfl, fun b u _ e => e, hS, fun v z => by cases z⟩) (fun v s₁ gs' hbare hv => ?_) fun s₁ hp h' hk' => ?_))
    · obtain ⟨i', o, H, _, _, _, G, hkap⟩ := hv
      obtain ⟨p1, _, _, _, p5⟩ := G.inv.pin (S, o) (List.mem_append_right _ List.mem_cons_self)
      exact (hkap s₁ o ⟨rfl, G.inv.bare, fun b u _ e => e, p1, p5⟩).elim
    · obtain ⟨_, o, H, I, w⟩ := hp
      refine wpAny_pure (hR _ tA o H ?_ w)
      exact I.call' (ch := []) rfl (Un.kept hk') (I.hok.kept hk') (allBare_setGen I.bare rfl) (fun b hb => absurd hb (by simp))
  | succ k ih =>
    intro i s tA c hk Z hS
    have hlt : i < n := by omega
    obtain ⟨hg, hl, hb, gs, hgs, hgoes⟩ := Z
    have hgl : g < s.gens.size := (Array.getElem?_eq_some_iff.mp hgs).1
    refine codeAny_builtin F.entry_sum_loop ?_
    rw [Around.under_plainId F.plain_sum_loop _]
    show wpAny _ A.in1 (seqItems? (.ref S) >>= _) _ _ s
    refine wpAny_bind (wpAny_seqItems hS rfl ?_)
    show wpAny _ A.in1 (tryCatch (pyNext (.ref a)) _ >>= _) _ _ s
    refine wpAny_bind (wpAny_tryCatch (GenW.wpAny_gsz (n := g + 1) hgl (wpAny_pyNext_genexpQ (A := A.in1) hh hl hd hg hgs (hgoes (s.setGen g .running) _ ⟨rfl, allBare_setGen hb rfl, fun b u _ e => e, hS, fun v z => by cases z⟩) (fun v s₁ gs' hbare hv => ?_) fun s₁ hp h' hk' => ?_)))
    · intro hsz
      obtain ⟨i', o, H, hi', hrel, hs0, G, hkap⟩ := hv
      have ei : i' = i := by omega
      subst ei
      obtain ⟨t, rfl⟩ : ∃ t, v = .int (val i') t := hrel
      have eo : o = { cls := .type "list", dict := none, data := .seq #[.int (preSum val i') tA] c, slots := #[] } := by
        have h1 : s.heap.get? S = some o := hs0
        rw [hS] at h1
        exact (Option.some.inj h1).symm
      obtain ⟨p1, _, _, _, p5⟩ := G.inv.pin (S, o) (List.mem_append_right _ List.mem_cons_self)
      have hS' : s₁.heap.get? S = some { cls := .type "list", dict := none, data := .seq #[.int (preSum val i') tA] c, slots := #[] } := by rw [← eo]; exact p1
      obtain ⟨⟨f1, f2⟩, f3, f4⟩ := hfit i' hlt
      have hc : ((decide (-(2 ^ 63) ≤ val i') && decide (val i' < 2 ^ 63)) && (decide (-(2 ^ 63) ≤ preSum val i' + val i') && decide (preSum val i' + val i' < 2 ^ 63))) = true := by
        simp only [preSum] at f3 f4
        simp only [Bool.and_eq_true, decide_eq_true_eq]
        exact ⟨⟨f1, f2⟩, f3, f4⟩
      show wpAny _ A.in1 (if (_ : Bool) = true then (mkInt (preSum val i' + val i') >>= _) else _) _ _ _
      split
      · refine wpAny_bind (wpAny_mkInt ?_)
        show wpAny _ A.in1 (updateSeq S (fun _ => #[.int (preSum val i' + val i') s₁.toks]) >>= _) _ _ _
        refine wpAny_bind ?_
        have hsz1 : g < s₁.gens.size := by
          have q : (s₁.setGen g gs').gens.size = s₁.gens.size := GenW.setGen_size _ _ _
          have hsz' : g + 1 ≤ (s₁.setGen g gs').gens.size := hsz
          omega
        have keep3 : ∀ (f : Obj → Obj) (b : Addr) (u : Obj), b ≠ S → s₁.heap.get? b = some u → (s₁.heap.update S f).get? b = some u := fun f b u hbS e => (Heap.get?_update_other _ _ (Ne.symm hbS)).trans e
        refine wpAny_updateSeq (s := { s₁.setGen g gs' with toks := s₁.toks + 1 }) hS' rfl (wpAny_pure ⟨plainId_quiet F.plain_sum_loop _, ih (i' + 1) _ s₁.toks _ (by omega) ⟨?_, ?_, ?_, gs', ?_, fun s'' o'' z => ?_⟩ (Heap.get?_update_self _ hS' rfl)⟩)
        · exact hgo _ (keep3 _ a go (Ne.symm hSa) (G.inv.pin (a, go) (List.mem_append_left _ hpn)).1)
        · obtain ⟨mc, hns, hnn⟩ := G.inv.nolimit
          exact ⟨mc, hns.at' fun o e => keep3 _ _ o (Ne.symm hSc) e, hnn⟩
        · exact allBare_setGen (s := s₁) G.inv.bare hbare
        · exact setGen_at (s := s₁) hsz1
        · exact hkap s'' o'' ⟨z.os, z.bare, fun b u hbS e => z.keep b u hbS (keep3 _ b u hbS e), z.own, z.nc⟩
      · rename_i hneg
        exact absurd hc hneg
    · exact absurd hp.1 (Nat.succ_ne_zero k)
end
end My

set_option Elab.async false
set_option linter.all false
set_option maxRecDepth 100000
set_option maxHeartbeats 2000000
namespace My
open PySem PySem.Spec PyProof.Rows L2
section
variable {X : Cx} {pins : List (Addr × Obj)} {σ : L2.St} {H : Hp} {s : Shared}
/-- the generator expression's scope -/
structure GxS (X : Cx) (scope : Scope) (own : List (Str × Nat)) : Prop where
  blk : BlkOk X.N X.env.scope scope own
  co : scope.isCoroutine = false
  cell : ∀ y ∈ scope.names, y.2 ≠ .cell
  dot : scope.names.lookup (".0" : Str) = some NameKind.local
/-- the generator at a, as it was made -/
def GxNew (X : Cx) (pins : List (Addr × Obj)) (σ : L2.St) (elt tg iter : Expr) (scope : Scope) (pos : Pos) (own : List (Str × Nat)) (J : It) (H2 : Hp) (a : Addr) (s5 : Shared) : Prop :=
  ∃ (s4 : Shared) (code : Value) (cenv : Env) (fp : List Addr) (it : Addr) (tn : Nat → Heap → Prop) (go : Obj),
    cenv = genEnv scope (cloFrom X.env.cells scope.names []) s4.heap.objs.size code builtinsNs X.env ∧ Inv X pins σ H2 s4 ∧ (∀ b ∈ fp, FpOk X pins H2 b ∧ b < s4.heap.objs.size) ∧ Turn X.prog X.w X.K tg J fp it tn ∧ tn 0 s5.heap ∧
    s5.gens = s4.gens.push (.fresh (.compStart (.GeneratorExp elt [⟨tg, iter, [], 0⟩] scope pos) 0 (.ref it) .none cenv)) ∧ (∀ h : Heap, h.get? a = some go → h.IsGen a s4.gens.size) ∧ s5.heap.get? a = some go ∧ s4.heap.objs.size < a ∧
    (∀ A : Around, A.handled = none → A.frames = some X.stack → Inv (gxC X (A.deeper cenv) s4 H2 cenv fp [(a, go)]) [] (wipe σ (own.map (·.2))) H2 s5)
theorem gx_make {c P : Addr} {elt tg iter : Expr} {gpos : Pos} {scope : Scope} {own : List (Str × Nat)} {wi : TI} {k : Nat} {Q' : Value → Shared → Prop} {R : It → Hp → Prop}
    (hr : Room k X.A) (TB : LamX.TabB X.base X.mg c P) (hcode : X.env.code = .ref c) (S : GxS X scope own) (hN : X.N.Nodup) (hi : PI X tg iter wi)
    (hs : ∀ v, genFold iter X.env v = pure v) (I : Inv X pins σ H s) (h : wi σ H fun J H1 => GxR.TabG H1 P ∧ R J H1)
    (hQ : ∀ J H1 H2 a s5, R J H1 → GxR.Tabbed P H1 H2 → GxNew X pins σ elt tg iter scope gpos own J H2 a s5 → Q' (.ref a) s5) :
    wpAny (model X.prog X.w) X.A (eval (.GeneratorExp elt [⟨tg, iter, [], 0⟩] scope gpos) X.env) Q' X.xe s := by
  have caught : ∀ y ∈ scope.names, y.2 = .free → ∃ c, X.env.cells.lookup y.1 = some c := fun y hy e => I.ok.has _ (S.blk.free y hy e)
  have deep : X.A.depth < recursionLimit := by
    have := hr.dp
    omega
  refine wpAny_GeneratorExp_make S.co (closure_ok caught) S.cell S.dot S.blk.kind deep (thn (hi.run pins s σ H _ I h) fun xv s1 hx => thn hx fun itv s2 h2 => ?_) hs
  obtain ⟨it, fp, tn, J, H1, rfl, I2, T, st2, f2, hT, hR⟩ := h2
  refine ⟨I2.nolimit, gen_code I2 TB hcode hT fun code H2 s4 tab I4 kp _ h' hn' hs' => ?_⟩
  have apart : ∀ b ∈ fp, b ≠ P := fun b hb z => by
    obtain ⟨_, e, _⟩ := hT
    rw [← z, (f2 b hb).1] at e
    cases e
  have kp5 : ∀ (go : Obj) b u, s4.heap.get? b = some u → (h'.push go).get? b = some u := fun go b u e => Heap.get?_push_of_some _ (hs'.extBut b u (Nat.ne_of_lt (Heap.lt_size e)) (Heap.get?_push_of_some _ e))
  have f4 : ∀ b ∈ fp, FpOk X pins H2 b ∧ b < s4.heap.objs.size := fun b hb => by
    obtain ⟨o, e, _⟩ := T.obj _ _ st2 b hb
    exact ⟨⟨(tab.2 b (apart b hb)).trans (f2 b hb).1, (f2 b hb).2⟩, Heap.lt_size (kp b o (apart b hb) e)⟩
  generalize hgo : ({ cls := .type "generator", data := .fields #[.int s4.gens.size 0, .str "<genexpr>" (s4.toks + 1), .str (X.env.qual ++ "<genexpr>") (s4.toks + 1 + 1)] } : Obj) = go
  have hgp : (h'.push go).get? h'.objs.size = some go := Heap.get?_push_size _ (by rw [← hgo]; rfl)
  have hgd : ∀ v, go.data ≠ .cell v := fun v z => by
    rw [← hgo] at z
    cases z
  exact hQ J H1 H2 h'.objs.size _ hR tab ⟨s4, code, _, fp, it, tn, go, rfl, I4, f4, T, T.keep _ _ _ st2 fun b hb u e => kp5 go b u (kp b u (apart b hb) e), rfl, fun hh e => ⟨go, _, _, e, by rw [← hgo], by rw [← hgo], by rw [← hgo]⟩, hgp, hn'.lt,
    fun A hA hfr => gx_start I4 S.blk S.cell hN f4 hA hfr hn' hs' (I4.bare.push rfl) hgp hgd⟩
/-- sum(elt for target in iter) of numbers -/
def tSumC (P : Addr) (wi : TI) (g : L2.TG) (te : TE) (vs : List Nat) : TE := fun σ H Q => wi σ H fun J H1 => GxR.TabG H1 P ∧ ∀ H2, GxR.Tabbed P H1 H2 →
  ∃ (n : Nat) (val : Nat → Int) (W : Nat → Hp → Prop), (∀ j, j < n → InLong (val j) ∧ InLong (preSum val (j + 1))) ∧ W 0 H2 ∧ gxStep J g te vs (wipe σ vs) W n (fun i => .int (val i)) ∧ ∀ H3, W n H3 → Q (.int (preSum val n)) H3
theorem pe_sumC {c P : Addr} {elt tg iter : Expr} {p pos gpos : Pos} {scope : Scope} {own : List (Str × Nat)} {wi : TI} {g : L2.TG} {te : TE} {k : Nat}
    (hr : Room (k + 3) X.A) (hg : Gl X "sum") (hm : X.mg "sum" = none) (TB : LamX.TabB X.base X.mg c P) (hcode : X.env.code = .ref c) (S : GxS X scope own) (hN : X.N.Nodup) (hc : X.calm = true) (hi : PI X tg iter wi)
    (pg : ∀ (A : Around) (s : Shared) (H : Hp) (C : Addr) (cl : List (Str × Addr)) (code : Value) (fp : List Addr) (pn : List (Addr × Obj)), PG (gxC X A s H (genEnv scope cl C code builtinsNs X.env) fp pn) tg g)
    (pe : ∀ (A : Around) (s : Shared) (H : Hp) (C : Addr) (cl : List (Str × Addr)) (code : Value) (fp : List Addr) (pn : List (Addr × Obj)), Room k A → PE (gxC X A s H (genEnv scope cl C code builtinsNs X.env) fp pn) elt te)
    (hb : bootBuiltins "sum" = some (.builtin "sum") := by decide +kernel) (hs : ∀ v, genFold iter X.env v = pure v := by intro _; rfl)
    (he : starEach [.GeneratorExp elt [⟨tg, iter, [], 0⟩] scope gpos] X.env = (false, eval (.GeneratorExp elt [⟨tg, iter, [], 0⟩] scope gpos) X.env) :: starEach [] X.env := by rfl) :
    PE X (.Call (.Name "sum" p) [.GeneratorExp elt [⟨tg, iter, [], 0⟩] scope gpos] [] pos) (tSumC P wi g te (own.map (·.2))) := by
  refine ⟨fun pins s σ H Q I h => ?_⟩
  refine wpAny_Call_Name_kw (ld_blt I hg hm hb (PyProof.Rows.callWith_builtin1 ?_ he (by rfl)))
  rw [he]
  refine Calls.spliced_cons (gx_make hr TB hcode S hN hi hs I h fun J H1 H2 a s5 hR hTb hG => ?_)
  refine Calls.spliced_nil ?_
  obtain ⟨n, val, W, hfit, w0, step, hend⟩ := hR H2 hTb
  obtain ⟨s4, code, cenv, fp, it, tn, go, ec, I4, f4, T, st5, egs, hgen, hga, hlt, hInv⟩ := hG
  have I5 := hInv X.A.in1.in1 hr.hd I4.ok.frames
  have hroom : Room k (X.A.in1.in1.deeper cenv) := hr.in1.in1.deeper cenv
  have pg' := pg (X.A.in1.in1.deeper cenv) s4 H2 s4.heap.objs.size (cloFrom X.env.cells scope.names []) code fp [(a, go)]
  have pe' := pe (X.A.in1.in1.deeper cenv) s4 H2 s4.heap.objs.size (cloFrom X.env.cells scope.names []) code fp [(a, go)] hroom
  rw [← ec] at pg' pe'
  have hgen5 : s5.heap.IsGen a s4.gens.size := hgen _ hga
  refine call_function_tree F.kind_sum F.plain_sum F.entry_sum (F.args_sum1 _) ?_
  unfold Builtin.«sum»
  simp only [List.length_cons, List.length_nil]
  rw [if_neg (by decide)]
  refine wpAny_bind (wpAny_of_eq (show Builtin.Builtins.bindParams "sum" ["start"] 0 { } = pure [none] from rfl) ?_)
  refine wpAny_bind (wpAny_pyIter_gen hgen5 ?_)
  refine wpAny_bind (wpAny_mkInt ?_)
  refine wpAny_bind (wpAny_pure ?_)
  simp only [List.forIn_cons, List.forIn_nil]
  refine wpAny_bind (wpAny_bind (wpAny_bind (wpAny_isInstance (T := "int") (b := false) (typeIs_int _ _ _) PySem.sub_int_str ?_)))
  simp only [Bool.false_eq_true, if_false]
  refine wpAny_pure (wpAny_bind (wpAny_bind (wpAny_isInstance (T := "int") (b := false) (typeIs_int _ _ _) PySem.sub_int_bytes ?_)))
  simp only [Bool.false_eq_true, if_false]
  refine wpAny_pure (wpAny_bind (wpAny_bind (wpAny_isInstance (T := "int") (b := false) (typeIs_int _ _ _) PySem.sub_int_bytearray ?_)))
  simp only [Bool.false_eq_true, if_false]
  refine wpAny_pure (wpAny_pure ?_)
  refine wpAny_bind (wpAny_newObj_type ?_)
  have hSo : ∀ o : Obj, o.isFreed = false → (s5.heap.push o).get? s5.heap.objs.size = some o := fun o ho => Heap.get?_push_size _ ho
  have kp : ∀ (o : Obj) b u, s5.heap.get? b = some u → (s5.heap.push o).get? b = some u := fun o b u e => Heap.get?_push_of_some _ e
  have hla : a < s5.heap.objs.size := Heap.lt_size hga
  have hcs5 : cStatics < s5.heap.objs.size := by
    obtain ⟨mc, hns, _⟩ := I5.nolimit
    exact hns.lt
  have F5 : FpOk (gxC X (X.A.in1.in1.deeper cenv) s4 H2 cenv fp [(a, go)]) [] H2 s5.heap.objs.size := I5.fpOk (Nat.le_refl _) (I5.hok.fresh (Nat.le_refl _))
  have hSf : s5.heap.objs.size ∉ fp := fun hb => by
    obtain ⟨o, e, _⟩ := T.obj _ _ st5 _ hb
    exact Nat.lt_irrefl _ (Heap.lt_size e)
  have hpf : ∀ p ∈ [(a, go)], p.1 ∉ fp := fun p hp hb => by
    rw [List.mem_singleton.mp hp] at hb
    exact Nat.lt_irrefl _ (Nat.lt_trans (f4 a hb).2 hlt)
  have h04 : s4.heap.objs.size ≤ s5.heap.objs.size := Nat.le_of_lt (Nat.lt_trans hlt hla)
  refine wpAny_pure ⟨plainId_quiet F.plain_sum_loop _, sum_loopC (X := gxC X (X.A.in1.in1.deeper cenv) s4 H2 cenv fp [(a, go)]) (A := X.A) (fp := fp) (tn := tn) (σ0 := wipe σ (own.map (·.2))) (W := W) (S := s5.heap.objs.size) (n := n) (val := val) (a := a) (g := s4.gens.size) (go := go)
    hr.hd (by have := hr.dp; omega) (Nat.ne_of_gt hla) (Nat.ne_of_gt hcs5) (List.mem_singleton.mpr rfl) hgen hfit (fun s' t' o H3 I' w' => ?_) n 0 _ s5.toks 0 (Nat.zero_add n) ⟨?_, ?_, ?_, .fresh (.compStart (.GeneratorExp elt [⟨tg, iter, [], 0⟩] scope gpos) 0 (.ref it) .none cenv), ?_, fun s'' o' z => ⟨rfl, ?_⟩⟩ (hSo _ rfl)⟩
  · refine ⟨.int (preSum val n), H3, ?_, ⟨t', rfl⟩, hend H3 w'⟩
    exact I4.call' (ch := fp) I'.os I'.base I'.hok I'.bare fun b hb => ⟨(f4 b hb).1.2.2.2.1, (f4 b hb).1.2.1, (f4 b hb).1.2.2.2.2.1, (f4 b hb).1.2.2.2.2.2⟩
  · exact hgen _ (kp _ _ _ hga)
  · exact I5.nolimit.keeps (kp _)
  · exact I5.bare
  · show s5.gens[s4.gens.size]? = _
    rw [egs]
    exact Array.getElem?_push_size ..
  · have Iz : Inv (gxC X (X.A.in1.in1.deeper cenv) s4 H2 cenv fp [(a, go)]) [(s5.heap.objs.size, o')] (wipe σ (own.map (·.2))) H2 s'' := by
      have kz : ∀ b u, s5.heap.get? b = some u → s''.heap.get? b = some u := fun b u e => z.keep b u (Nat.ne_of_lt (Heap.lt_size e)) (kp _ b u e)
      have J2 := I5.call' (s' := s'') (ch := []) z.os (Un.kept kz) (I5.hok.kept kz) z.bare (fun b hb => absurd hb (by simp))
      refine J2.pins_of fun p hp => ?_
      rw [List.mem_singleton.mp hp]
      exact ⟨z.own, F5.1, F5.2.1, F5.2.2.1, z.nc⟩
    have stz : tn 0 s''.heap := T.keep _ _ _ st5 fun b hb u e => z.keep b u (fun q => hSf (q ▸ hb)) (kp _ b u e)
    refine gx_begin (X := gxC X (X.A.in1.in1.deeper cenv) s4 H2 cenv fp [(a, go)]) T stz (gx_loop (X := gxC X (X.A.in1.in1.deeper cenv) s4 H2 cenv fp [(a, go)]) rfl T hc rfl hSf hpf (fun _ _ q => q) (by rw [ec]; exact S.co) h04 F5.2.2.2.2.1 (fun p hp q => ?_) pg' pe' step n 0 s'' s'' o' H2 (Nat.zero_add n) z.own ⟨Iz, stz, fun b hb => (f4 b hb).1.1, w0⟩)
    have hp' : p = (a, go) := List.mem_singleton.mp hp
    rw [hp'] at q
    exact Nat.ne_of_lt hla q
end
end My

set_option Elab.async false
set_option linter.all false
set_option maxRecDepth 100000
set_option maxHeartbeats 2000000
namespace My
open PySem PySem.Spec PyProof.Rows L2
def gxCk (scope : Scope) : Bool := !scope.isCoroutine && (scope.names.all fun y => match y.2 with | .cell => false | _ => true) && (match scope.names.lookup (".0" : Str) with | some .local => true | _ => false)
theorem gxS_by {X : Cx} {scope : Scope} {own : List (Str × Nat)} (b : BlkOk X.N X.env.scope scope own) (h : gxCk scope = true) : GxS X scope own := by
  unfold gxCk at h
  simp only [Bool.and_eq_true] at h
  obtain ⟨⟨h1, h2⟩, h3⟩ := h
  rw [List.all_eq_true] at h2
  refine ⟨b, by simpa using h1, fun y hy z => ?_, ?_⟩
  · have q := h2 y hy
    rw [z] at q
    cases q
  · revert h3
    cases scope.names.lookup (".0" : Str) with
    | none => simp
    | some k => cases k <;> simp
theorem sum_step {J : It} {n : Nat} {G : Hp → Prop} {Y : Nat → Hp → V → Hp → Prop} (w : Walk J n G Y) {g : L2.TG} {te : TE} {vs : List Nat} {σ0 : L2.St} {val : Nat → Int} {Pv : Nat → Hp → Prop}
    (hG : ∀ i H, i ≤ n → Pv i H → G H) (hs : ∀ i x H H', i < n → Pv i H → Y i H x H' → g x σ0 H' fun σ2 H2 => wipe σ2 vs = σ0 ∧ te σ2 H2 fun y H3 => y = .int (val i) ∧ i + 1 ≤ n ∧ Pv (i + 1) H3) :
    gxStep J g te vs σ0 (fun i H => i ≤ n ∧ Pv i H) n (fun i => .int (val i)) := fun i H hW => ⟨fun hi => ⟨w.goes i H hi (hG i H hW.1 hW.2), fun x H' y => hs i x H H' hi hW.2 (w.yields i H x H' hi (hG i H hW.1 hW.2) y)⟩, fun e => by
    subst e
    exact w.stops H (hG i H hW.1 hW.2)⟩
/-! sums -/
def atL (l : List Int) (i : Nat) : Int := l.getD i 0
theorem pre_take (l : List Int) : ∀ n, n ≤ l.length → preSum (atL l) n = (l.take n).sum
  | 0, _ => rfl
  | n + 1, h => by
    have h' : n < l.length := h
    show preSum (atL l) n + atL l n = _
    rw [pre_take l n (Nat.le_of_lt h'), List.take_succ_eq_append_getElem h', List.sum_append]
    show _ = _ + (l[n] + 0)
    unfold atL
    rw [List.getD_eq_getElem?_getD, List.getElem?_eq_getElem h', Int.add_zero]
    rfl
theorem sum_bound {B : Int} : ∀ (l : List Int), (∀ x ∈ l, -B ≤ x ∧ x ≤ B) → -(B * l.length) ≤ l.sum ∧ l.sum ≤ B * l.length
  | [], _ => by simp
  | x :: l, h => by
    obtain ⟨h1, h2⟩ := sum_bound l fun y hy => h y (List.mem_cons_of_mem _ hy)
    obtain ⟨h3, h4⟩ := h x (List.mem_cons_self ..)
    rw [List.sum_cons, List.length_cons, Int.natCast_succ, Int.mul_add, Int.mul_one]
    omega
theorem fit_of {l : List Int} (hl : l.length ≤ 1000) (h : ∀ x ∈ l, -1000000000 ≤ x ∧ x ≤ 1000000000) : ∀ j, j < l.length → InLong (atL l j) ∧ InLong (preSum (atL l) (j + 1)) := fun j hj => by
  have h1 : atL l j ∈ l := by
    unfold atL
    rw [List.getD_eq_getElem?_getD, List.getElem?_eq_getElem hj]
    exact List.getElem_mem hj
  obtain ⟨a1, a2⟩ := h _ h1
  obtain ⟨b1, b2⟩ := sum_bound (B := 1000000000) (l.take (j + 1)) fun x hx => h x (List.mem_of_mem_take hx)
  rw [← pre_take l (j + 1) hj] at b1 b2
  have b3 : (l.take (j + 1)).length ≤ 1000 := by
    rw [List.length_take]
    omega
  unfold InLong
  constructor <;> constructor <;> omega
theorem at_map {α : Type} {f : α → Int} {l : List α} {i : Nat} {a : α} (h : l[i]? = some a) : atL (l.map f) i = f a := by
  unfold atL
  rw [List.getD_eq_getElem?_getD, List.getElem?_map, h]
  rfl
theorem price_bound {cols : List Nat} {rows : List (List Int)} {ch : List (List Nat)} {es : List (Nat × Int)} {rc : Option (Nat × Int × Int)} (hr : rows.length ≤ 100) : -100 ≤ priceOfM cols rows ch es rc ∧ priceOfM cols rows ch es rc ≤ 100 := by
  obtain ⟨h1, h2, h3⟩ := minM_spec (ch.map fun o => priceM cols rows o es rc) (rows.length : Int)
  unfold priceOfM
  refine ⟨?_, by omega⟩
  rcases h1 with e | e
  · rw [e]
    omega
  · obtain ⟨o, _, e2⟩ := List.mem_map.mp e
    rw [← e2]
    have : aheadM cols rows o es rc ≤ rows.length := List.length_filter_le _ _
    unfold priceM
    omega
/-! works -/
structure Ask where
  es : List (Nat × Int)
  rc : Option (Nat × Int × Int)
  often : Int
def AskZ (H : Hp) (v : V) (a : Ask) : Prop := ∃ (p : Addr) (qv : V), v = .ref p ∧ H p = some (.tup [qv, .int a.often]) ∧ QZ H qv a.es a.rc
theorem AskZ.kT {H H' : Hp} {v : V} {a : Ask} (h : AskZ H v a) (k : KT H H') : AskZ H' v a := by
  obtain ⟨p, qv, rfl, h1, h2⟩ := h
  exact ⟨p, qv, rfl, k.1 _ _ h1, h2.kT k⟩
inductive AsksZ (H : Hp) : List V → List Ask → Prop
  | nil : AsksZ H [] []
  | cons {v : V} {a : Ask} {vs : List V} {as : List Ask} : AskZ H v a → AsksZ H vs as → AsksZ H (v :: vs) (a :: as)
theorem AsksZ.kT {H H' : Hp} {vs : List V} {as : List Ask} (h : AsksZ H vs as) (k : KT H H') : AsksZ H' vs as := by
  induction h with
  | nil => exact .nil
  | cons a _ ih => exact .cons (a.kT k) ih
theorem AsksZ.len {H : Hp} {vs : List V} {as : List Ask} (h : AsksZ H vs as) : vs.length = as.length := by
  induction h with
  | nil => rfl
  | cons _ _ ih => rw [List.length_cons, List.length_cons, ih]
theorem AsksZ.snoc {H : Hp} {vs : List V} {as : List Ask} {v : V} {a : Ask} (h : AsksZ H vs as) (x : AskZ H v a) : AsksZ H (vs ++ [v]) (as ++ [a]) := by
  induction h with
  | nil => exact .cons x .nil
  | cons b _ ih => exact .cons b ih
theorem AsksZ.get {H : Hp} {vs : List V} {as : List Ask} (h : AsksZ H vs as) : ∀ {i : Nat} {v : V}, vs[i]? = some v → ∃ a, as[i]? = some a ∧ AskZ H v a := by
  induction h with
  | nil =>
    intro i v e
    cases e
  | cons b _ ih =>
    intro i v e
    cases i with
    | zero =>
      cases e
      exact ⟨_, rfl, b⟩
    | succ i => exact ih (i := i) e
def WorkZ (H : Hp) (v : V) (cols : List Nat) (rows : List (List Int)) (as : List Ask) (chg : Int) : Prop :=
  ∃ (wa : Addr) (tv : V) (aa : Addr) (vs : List V), v = .ref wa ∧ H wa = some (.tup [tv, .ref aa, .int chg]) ∧ Fz H tv (tabD cols rows) ∧ H aa = some (.tup vs) ∧ AsksZ H vs as
theorem WorkZ.kT {H H' : Hp} {v : V} {cols : List Nat} {rows : List (List Int)} {as : List Ask} {chg : Int} (h : WorkZ H v cols rows as chg) (k : KT H H') : WorkZ H' v cols rows as chg := by
  obtain ⟨wa, tv, aa, vs, rfl, h1, h2, h3, h4⟩ := h
  exact ⟨wa, tv, aa, vs, rfl, k.1 _ _ h1, h2.kt k.1, k.1 _ _ h3, h4.kT k⟩
structure AsksOk (cols : List Nat) (as : List Ask) : Prop where
  len : as.length ≤ 5
  ok : ∀ a ∈ as, QOk cols a.es a.rc ∧ 1 ≤ a.often ∧ a.often ≤ 1000000
def roomM (ch : List (List Nat)) : Int := (ch.map fun o => (o.length : Int)).sum
def keepM (chg : Int) (ch : List (List Nat)) : Int := chg * (ch.map fun o => (o.length : Int) + 1).sum
def askedM (cols : List Nat) (rows : List (List Int)) (ch : List (List Nat)) (as : List Ask) : Int := (as.map fun a => a.often * priceOfM cols rows ch a.es a.rc).sum
def workM (cols : List Nat) (rows : List (List Int)) (ch : List (List Nat)) (as : List Ask) (chg : Int) : Int := askedM cols rows ch as + keepM chg ch
end My

set_option Elab.async false
set_option linter.all false
set_option maxRecDepth 100000
set_option maxHeartbeats 2000000
namespace My
open PySem PySem.Spec PyProof.Rows L2
/-! ### slices of a tuple of its own, sorted(tuple of texts) -/
theorem AsksZ.take {H : Hp} {vs : List V} {as : List Ask} (h : AsksZ H vs as) : ∀ n, AsksZ H (vs.take n) (as.take n) := by
  induction h with
  | nil => exact fun n => by rw [List.take_nil, List.take_nil]; exact .nil
  | cons a _ ih =>
    intro n
    cases n with
    | zero => exact .nil
    | succ n => exact .cons a (ih n)
theorem AsksZ.drop {H : Hp} {vs : List V} {as : List Ask} (h : AsksZ H vs as) : ∀ n, AsksZ H (vs.drop n) (as.drop n) := by
  induction h with
  | nil => exact fun n => by rw [List.drop_nil, List.drop_nil]; exact .nil
  | cons a r ih =>
    intro n
    cases n with
    | zero => exact .cons a r
    | succ n => exact ih n
theorem AsksOk.take {cols : List Nat} {as : List Ask} (h : AsksOk cols as) (n : Nat) : AsksOk cols (as.take n) := ⟨by rw [List.length_take]; have := h.len; omega, fun a ha => h.ok a (List.mem_of_mem_take ha)⟩
theorem AsksOk.drop {cols : List Nat} {as : List Ask} (h : AsksOk cols as) (n : Nat) : AsksOk cols (as.drop n) := ⟨by rw [List.length_drop]; have := h.len; omega, fun a ha => h.ok a (List.mem_of_mem_drop ha)⟩
def strD (o : List Nat) : PyData := .str (txS o)
/-! ### prices of more lists -/
theorem sum_le {α : Type} {f g : α → Int} : ∀ l : List α, (∀ x ∈ l, f x ≤ g x) → (l.map f).sum ≤ (l.map g).sum
  | [], _ => Int.le_refl _
  | a :: l, h => by
    have h1 := sum_le l fun x hx => h x (List.mem_cons_of_mem _ hx)
    have h2 := h a (List.mem_cons_self ..)
    rw [List.map_cons, List.sum_cons, List.map_cons, List.sum_cons]
    omega
theorem perm_sum : ∀ {l l' : List Int}, l.Perm l' → l.sum = l'.sum := by
  intro l l' h
  induction h with
  | nil => rfl
  | cons x _ ih => rw [List.sum_cons, List.sum_cons, ih]
  | swap x y l =>
    rw [List.sum_cons, List.sum_cons, List.sum_cons, List.sum_cons]
    omega
  | trans _ _ h1 h2 => rw [h1, h2]
theorem used_app (one : List Nat) (es : List (Nat × Int)) (rc : Option (Nat × Int × Int)) : ∀ l : List Nat, ∃ more, usedM (one ++ l) es rc = usedM one es rc ++ more := by
  intro l
  induction l generalizing one with
  | nil => exact ⟨[], by rw [List.append_nil, List.append_nil]⟩
  | cons c l ih =>
    obtain ⟨m1, e1⟩ := used_more one c es rc
    obtain ⟨m2, e2⟩ := ih (one ++ [c])
    refine ⟨m1 ++ m2, ?_⟩
    rw [show one ++ c :: l = one ++ [c] ++ l by simp, e2, e1, List.append_assoc]
end My

set_option Elab.async false
set_option linter.all false
set_option maxRecDepth 100000
set_option maxHeartbeats 2000000
namespace My
open PySem PySem.Spec PyProof.Rows L2
/-! ### data that lies away from some places -/
/-! ### what isinstance tells of data, more -/
def isIn : PyData → Bool
  | .int _ => true
  | .bool _ => true
  | _ => false
theorem kit_in {K : PySem.W.Frag} (d : PyData) : PySem.W.kitOne K (.type (tyN d)) (.type "int") = some (isIn d) := by
  cases d <;> exact kit_ty (by kernel_rfl)
/-! ### questions, of any data -/
end My
namespace My
open PySem PySem.Spec PyProof.Rows L2
end My

set_option Elab.async false
set_option linter.all false
set_option maxRecDepth 100000
set_option maxHeartbeats 4000000
namespace My
open PySem PySem.Spec PyProof.Rows L2
/-! ### sets of texts that can be walked

A table is told by the list of the texts in it, each with its token; a set is a table whose texts are all different. -/
/-- a text in a table -/
def entS (w : World) (p : Str × Tok) : Int × Value := (hashStr w p.1, .str p.1 p.2)
/-- the table holds these texts, and the model tells its order -/
structure TxTab (w : World) (es : Array (Int × Value)) (t : SetTable) (ps : List (Str × Tok)) : Prop where
  all : es.toList.Perm (ps.map (entS w))
  few : ps.length < scanBound
  told : t.fits es.size = true ∧ Ris t.place.toList ∧ (w.params.followText "set-order" = true ∨ t.led = true)
/-- an object that is a set without members -/
abbrev blankS (w : World) : Obj := { cls := .type "set", dict := none, data := .set #[] 0 (.fresh 0 0 (!w.params.followText "set-order")) }
/-- the set of texts at a: ks its members -/
def SetS (w : World) (h : Heap) (a : Addr) (ks : List Str) : Prop :=
  ks.Nodup ∧ ∃ (o : Obj) (es : Array (Int × Value)) (ep : Nat) (t : SetTable) (ps : List (Str × Tok)), h.get? a = some o ∧ o.ExactSet ∧ o.data = .set es ep t ∧ TxTab w es t ps ∧ ks = ps.map Prod.fst
section
variable {w : World} {es : Array (Int × Value)} {t : SetTable} {ps : List (Str × Tok)} {h h' : Heap} {a : Addr} {ks : List Str} {k : Str} {tk : Tok}
theorem TxTab.none (w : World) : TxTab w #[] (.fresh 0 0 (!w.params.followText "set-order")) [] where
  all := .nil
  few := by decide
  told := ⟨rfl, .nil, by cases e : w.params.followText "set-order" <;> simp [SetTable.fresh]⟩
theorem TxTab.size (T : TxTab w es t ps) : es.size = ps.length := by
  have := T.all.length_eq
  simpa using this
theorem TxTab.small (T : TxTab w es t ps) : es.size < scanBound := T.size ▸ T.few
theorem TxTab.kind (T : TxTab w es t ps) (P : Program) : ElemsOf (PySem.strKind P w) es.toList := by
  intro e he
  obtain ⟨p, _, rfl⟩ := List.mem_map.mp (T.all.mem_iff.mp he)
  exact ⟨⟨p.1, strKind_is P w p.1 p.2, rfl⟩, rfl⟩
theorem is_entS {P : Program} {p : Str × Tok} : (PySem.strKind P w).is k (entS w p).2 = true ↔ p.1 = k := by
  refine ⟨fun q => ?_, fun q => q ▸ strKind_is P w p.1 p.2⟩
  have ⟨_, z⟩ := Value.isStrOf_shape (x := k) (v := .str p.1 p.2) q
  exact (Value.str.inj z).1
/-- the search in the table -/
theorem TxTab.search (T : TxTab w es t ps) (P : Program) (k : Str) : (es.toList.findIdx? fun e => (PySem.strKind P w).is k e.2).isSome = decide (k ∈ ps.map Prod.fst) := by
  rw [List.findIdx?_isSome, Bool.eq_iff_iff, List.any_eq_true, decide_eq_true_iff, List.mem_map]
  constructor
  · rintro ⟨e, he, q⟩
    obtain ⟨p, hp, rfl⟩ := List.mem_map.mp (T.all.mem_iff.mp he)
    exact ⟨p, hp, is_entS.mp q⟩
  · rintro ⟨p, hp, q⟩
    exact ⟨entS w p, T.all.mem_iff.mpr (List.mem_map_of_mem hp), is_entS.mpr q⟩
/-- one text more -/
theorem TxTab.lay (T : TxTab w es t ps) (k : Str) (tk : Tok) (room : ps.length + 1 < scanBound) : TxTab w (layNew t es (hashStr w k) (.str k tk)).1 (layNew t es (hashStr w k) (.str k tk)).2.1 ((k, tk) :: ps) where
  all := by
    refine (layNew_perm t es _ _).trans ?_
    rw [Array.toList_push]
    exact List.perm_append_comm.trans (T.all.cons _)
  few := room
  told := ⟨layNew_fits .., layNew_ris _ _ _ _ T.told.2.1, by rw [layNew_led]; exact T.told.2.2⟩
theorem TxTab.relay (T : TxTab w es t ps) (n : Nat) : TxTab w (relayAll t es n).1 (relayAll t es n).2.1 ps where
  all := (relayAll_perm t es n).trans T.all
  few := T.few
  told := ⟨relayAll_fits .., relayAll_ris .., by rw [relayAll_led]; exact T.told.2.2⟩
theorem TxTab.off (T : TxTab w es t ps) : TxTab w es { t with plain := false } ps := ⟨T.all, T.few, SetTable.fits_plain_off T.told.1, T.told.2⟩
theorem SetS.at (R : SetS w h a ks) (k : ∀ o, h.get? a = some o → h'.get? a = some o) : SetS w h' a ks :=
  let ⟨nd, o, es, ep, t, ps, ho, r⟩ := R
  ⟨nd, o, es, ep, t, ps, k o ho, r⟩
theorem SetS.obj (R : SetS w h a ks) : ∃ o, h.get? a = some o ∧ o.ExactSet :=
  let ⟨_, o, _, _, _, _, ho, hex, _⟩ := R
  ⟨o, ho, hex⟩
theorem SetS.blank (ho : h.get? a = some (blankS w)) : SetS w h a [] :=
  ⟨.nil, _, _, _, _, [], ho, ⟨rfl, rfl, rfl⟩, rfl, TxTab.none w, rfl⟩
/-- a table stored -/
theorem TxTab.stored {o : Obj} {e0 : Array (Int × Value)} {ep : Nat} {t0 : SetTable} (T : TxTab w es t ps) (ho : h.get? a = some o) (hex : o.ExactSet) (hd : o.data = .set e0 ep t0) (nd : (ps.map Prod.fst).Nodup) : SetS w (h.update a (Obj.putSet es t)) a (ps.map Prod.fst) :=
  ⟨nd, _, es, ep + 1, t, ps, store_at ho hd, hex, rfl, T, rfl⟩
end
section
variable {P : Program} {w : World} {A : Around} {E : Value → Shared → Prop} {s : Shared} {a : Addr} {ks : List Str}
/-- what only tells the log of rules -/
theorem wp_told {b : Bool} {m : Bool → Sem Unit} {Q : Unit → Shared → Prop} (h1 : ∃ r, m true = rule r) (h2 : m false = pure ()) (q : Q () s) : wpAny (model P w) A (m b) Q E s := by
  obtain ⟨r, h1⟩ := h1
  cases b
  · rw [h2]; exact wpAny_pure q
  · rw [h1]; exact wpAny_rule q
theorem setS_add {k : Str} {tk : Tok} {Q : Bool → Shared → Prop} (R : SetS w s.heap a ks) (room : ks.length + 1 < scanBound)
    (hQ : ∀ h' b, Heap.SameBut a s.heap h' → SetS w h' a (if k ∈ ks then ks else k :: ks) → Q b { s with heap := h' }) :
    wpAny (model P w) A (setAddHashed a (.str k tk) ((PySem.strKind P w).hash k)) Q E s := by
  have R0 := R
  obtain ⟨nd, o, es, ep, t, ps, ho, hex, hd, T, rfl⟩ := R
  have look := T.search P k
  unfold setAddHashed setAddHashedIn setAddByScan
  refine wpAny_holding (wpAny_bind (wpAny_setState_of ho hd T.told.1 ?_))
  simp only [byScan_of (x := Value.str k tk) rfl T.small (T.kind P), if_true, bind_assoc]
  refine wpAny_bind (wpAny_rule (wpAny_bind (wpAny_setScan_of (strKind_is P w k tk) ho hd T.told.1 (T.kind P) ?_)))
  by_cases hin : k ∈ ps.map Prod.fst
  · rw [decide_eq_true hin, Option.isSome_iff_exists] at look
    obtain ⟨j, e⟩ := look
    rw [if_pos hin] at hQ
    rw [e]
    exact wpAny_bind (wpAny_pure (wpAny_pure (hQ _ false (Heap.SameBut.refl a s.heap) R0)))
  · rw [decide_eq_false hin, Option.isSome_eq_false_iff, Option.isNone_iff_eq_none] at look
    rw [if_neg hin] at hQ
    rw [look]
    have T1 := T.lay k tk (by simpa using room)
    have nd1 : (((k, tk) :: ps).map Prod.fst).Nodup := List.nodup_cons.mpr ⟨hin, nd⟩
    rw [show hashStr w k = (PySem.strKind P w).hash k from rfl] at T1
    generalize layNew t es ((PySem.strKind P w).hash k) (.str k tk) = Y at T1 ⊢
    obtain ⟨es1, t1, wd, gave⟩ := Y
    refine wpAny_bind (wpAny_bind (wp_told (b := gave) ⟨_, rfl⟩ rfl ?_))
    simp only [show hashByValue 8 (.str k tk) = pure false from hashByValue_scannable 8 rfl, pure_bind, Bool.false_eq_true, if_false, if_true]
    split
    have T2 := T1.off
    generalize ({ t1 with plain := false } : SetTable) = t2 at T2 ⊢
    rotate_left
    have T2 := T1
    generalize t1 = t2 at T2 ⊢
    all_goals
      refine wpAny_bind (wpAny_storeSet_of ho hd ?_ (fits_of_scanBound T2.small))
      have sb := Heap.SameBut.update s.heap a (Obj.putSet es1 t2)
      split
      · have T3 := T2.relay (SetTable.grown es1.size)
        generalize relayAll t2 es1 (SetTable.grown es1.size) = Y3 at T3 ⊢
        have h1 := store_at (es' := es1) (t' := t2) ho hd
        refine wpAny_bind (wp_told (b := Y3.2.2) ⟨_, rfl⟩ rfl ?_)
        refine wpAny_bind (wpAny_storeSet_of h1 rfl ?_ (fits_of_scanBound T3.small))
        exact wpAny_pure (wpAny_pure (hQ _ true (sb.trans (.update _ a _)) (T3.stored h1 hex rfl nd1)))
      · exact wpAny_pure (wpAny_pure (hQ _ true sb (T2.stored ho hex hd nd1)))
end
section
variable {prog : Program} {w : World} {A : Around} {I S : Addr} {fp wr : List Addr} {G : Array GenState → Array GenState → Prop} {n : Nat} {Pv : Nat → Value → Prop} {St : Nat → Shared → Prop} {zs : List Str}
end
section
variable {prog : Program} {w : World} {A : Around} {E : Value → Shared → Prop} {s : Shared}
end
end My

set_option Elab.async false
set_option linter.all false
set_option maxRecDepth 100000
set_option maxHeartbeats 2000000
namespace My
open PySem PySem.Spec PyProof.Rows L2
/-! ### calls of defs that are promised where no repr is under way -/
/-! ### tables, of any data -/
end My
namespace My
open PySem PySem.Spec PyProof.Rows L2
theorem inV_no : ∀ bs : List Bool, inV (.bl false) (bs.map V.bl) = !bs.all id
  | [] => rfl
  | b :: bs => by
    have ih := inV_no bs
    cases b with
    | false => rfl
    | true => exact ih
end My

set_option Elab.async false
set_option linter.all false
set_option maxRecDepth 100000
set_option maxHeartbeats 4000000
namespace My
open PySem PySem.Spec PyProof.Rows L2
/-! ### set(list of texts), sorted(set of texts) -/
section
variable {prog : Program} {w : World} {A : Around} {E : Value → Shared → Prop} {s : Shared}
theorem strs_at {us : List Value} {zs : List Str} (h : StrsAre us zs) : ∀ {i : Nat} {v : Value}, us[i]? = some v → ∃ x t, zs[i]? = some x ∧ v = .str x t := by
  induction h with
  | nil => exact fun e => nomatch e
  | cons x t r ih =>
    rintro (_ | i) v e
    · exact ⟨x, t, rfl, (Option.some.inj e).symm⟩
    · exact ih e
theorem strs_val {us : List Value} {zs : List Str} (h : StrsAre us zs) (i : Nat) (v : Value) (e : us[i]? = some v) : ∃ t, v = .str (zs.getD i ⟨#[]⟩) t := by
  obtain ⟨x, t, hx, rfl⟩ := strs_at h e
  exact ⟨t, by rw [List.getD_eq_getElem?_getD, hx]; rfl⟩
/-- the text of a value -/
def txtOf : Value → Str
  | .str k _ => k
  | _ => ⟨#[]⟩
theorem strs_perm {out : List Value} {ps : List (Str × Tok)} (pm : out.Perm (ps.map fun p => Value.str p.1 p.2)) : ∃ zs, StrsAre out zs ∧ zs.Perm (ps.map Prod.fst) := by
  refine ⟨out.map txtOf, ?_, by simpa [Function.comp_def, txtOf] using pm.map txtOf⟩
  have all : ∀ v ∈ out, v = .str (txtOf v) (match v with | .str _ t => t | _ => 0) := fun v hv => by
    obtain ⟨p, _, rfl⟩ := List.mem_map.mp (pm.mem_iff.mp hv)
    rfl
  clear pm
  induction out with
  | nil => exact .nil
  | cons v l ih =>
    have e := all v List.mem_cons_self
    have r := ih fun u hu => all u (List.mem_cons_of_mem _ hu)
    rw [e]
    exact .cons _ _ r
end
/-- the set of texts at a -/
def SetSO (w : World) (a : Addr) (ks : List Str) : HO := .ext fun h => SetS w h a ks
section
variable {X : Cx}
theorem setSO_new {w : World} {P : Program} {H : Hp} {h : Heap} {a : Addr} {ks : List Str} (R : SetS w h a ks) : ObjOk P w H h a (SetSO w a ks) :=
  ⟨R, R.obj.imp fun _ => And.left, fun _ _ p k => SetS.at p k⟩
/-- sorted(set of texts), fewer than 64 members -/
def rSortSet (w : World) : List V → Hp → VK → Prop := fun xs H Q => ∃ (a : Addr) (ks : List Str), xs = [.ref a] ∧ H a = some (SetSO w a ks) ∧ ks.length < 64 ∧ ∀ (ys : List Str) (p : Addr), ys.Perm ks → sortedS ys = true → H p = none → Q (.ref p) (upd H p (.lst (ys.map V.str)))
theorem cSortSet (w : World) (hcalm : X.calm = true := by rfl) (hw : X.w = w := by rfl) : CallR X (.builtin "sorted") (rSortSet w) := by
  subst hw
  rintro pins s σ H vs us Q I r ⟨a, ks, rfl, ha, l64, q⟩
  obtain ⟨nd, o, es, ep, t, ps, ho, hex, hd, T, rfl⟩ : SetS X.w s.heap a ks := (I.hok a _ ha).1
  rw [Vals.ref1 r]
  rw [List.length_map] at l64
  refine sorted_texts (collect_set (I.ok.hd hcalm) ⟨o, ho, hex.1, hd⟩ T.told.1 T.small T.told.2.1 T.told.2.2 fun s1 out k1 hz g1 o1 pm => ?_)
  have pm2 : out.Perm (ps.map fun p => Value.str p.1 p.2) := pm.trans (by simpa [Function.comp_def, entS] using T.all.map Prod.snd)
  obtain ⟨zs, z1, z2⟩ := strs_perm pm2
  refine ⟨zs, z1, by rw [pm2.length_eq, List.length_map]; exact l64, fun ys us c h' y1 y2 y3 hp old => ?_⟩
  obtain ⟨h1, g, d, tk, os⟩ := s1
  obtain rfl : os = s.os := o1
  have n : (ys.map V.str).length ≤ sizeLine := by rw [List.length_map, y2.length_eq, z2.length_eq, List.length_map, sizeLine_eq]; omega
  have free : H h1.objs.size = none := I.hok.fresh hz
  have keep : ∀ b u, s.heap.get? b = some u → h'.get? b = some u := fun b u e => old b u (k1 b u e)
  have J : Inv X pins σ (upd H h1.objs.size (.lst (ys.map V.str))) { s with heap := h', gens := g, drawn := d, toks := tk } := I.call (ch := []) (Un.laid keep hz free) (I.hok.laid keep hz ⟨n, us, c, vals_of_strs y1, hp⟩) ((show g = s.gens from g1) ▸ I.bare) (fun _ z => nomatch z)
  exact ⟨.ref h1.objs.size, _, J, rfl, q ys _ (y2.trans z2) y3 free⟩
end
end My

set_option Elab.async false
set_option linter.all false
set_option maxRecDepth 100000
set_option maxHeartbeats 4000000
namespace My
open PySem PySem.Spec PyProof.Rows L2
/-! ### max(list of texts, key=len, default=a text) -/
theorem best_at (val : Nat → Int) : ∀ k, argBest (fun i j => decide (val i > val j)) k ≤ k ∧ ∀ j, j ≤ k → val j ≤ val (argBest (fun i j => decide (val i > val j)) k)
  | 0 => ⟨Nat.le_refl _, fun j hj => by
      have e : j = 0 := by omega
      rw [e]
      exact Int.le_refl _⟩
  | k + 1 => by
    obtain ⟨h1, h2⟩ := best_at val k
    show (if decide (val (k + 1) > val (argBest _ k)) = true then k + 1 else argBest _ k) ≤ k + 1 ∧ ∀ j, j ≤ k + 1 → val j ≤ val (if decide (val (k + 1) > val (argBest _ k)) = true then k + 1 else argBest _ k)
    by_cases h : val (k + 1) > val (argBest (fun i j => decide (val i > val j)) k)
    · rw [if_pos (decide_eq_true h)]
      refine ⟨Nat.le_refl _, fun j hj => ?_⟩
      by_cases e : j = k + 1
      · rw [e]
        exact Int.le_refl _
      · have := h2 j (by omega)
        omega
    · rw [if_neg (by rw [decide_eq_false h]; decide)]
      refine ⟨by omega, fun j hj => ?_⟩
      by_cases e : j = k + 1
      · rw [e]
        omega
      · exact h2 j (by omega)
theorem strs_len : ∀ {us : List Value} {zs : List Str}, StrsAre us zs → us.length = zs.length := by
  intro us zs h
  induction h with
  | nil => rfl
  | cons x t r ih => rw [List.length_cons, List.length_cons, ih]
section
variable {prog : Program} {w : World} {A : Around} {E : Value → Shared → Prop} {s : Shared}
theorem max_len_list {l : Addr} {items : Array Value} {zs : List Str} {d : Value} {Q : Value → Shared → Prop} (hh : A.handled = none) (hl : s.heap.IsList l items) (hi : StrsAre items.toList zs) (hz : ∀ z ∈ zs, z.length ≤ sizeLine)
    (h0 : zs = [] → ∀ h' tk, (∀ b o, s.heap.get? b = some o → h'.get? b = some o) → Q d { s with heap := h', toks := tk })
    (h1 : ∀ (m : Str) (t : Tok) h' tk, m ∈ zs → (∀ z ∈ zs, z.length ≤ m.length) → (∀ b o, s.heap.get? b = some o → h'.get? b = some o) → Q (.str m t) { s with heap := h', toks := tk }) :
    wpAny (model prog w) A (call (.builtin "max") [.ref l] [(Str.ofString "key", .builtin "len"), (Str.ofString "default", d)]) Q E s := by
  have hlen : items.size = zs.length := by
    have e0 := strs_len hi
    rw [Array.length_toList] at e0
    exact e0
  have hvs : ∀ i v, items[i]? = some v → ∃ t, v = Value.str (zs.getD i ⟨#[]⟩) t := fun i v e => strs_val hi i v (by rw [Array.getElem?_toList]; exact e)
  refine call_max_walkKBD (W.iter_listW (A := A.in1) hh hl fun s₂ e Wk st hfp hw hk => ?_)
  have hsz : s₂.heap.objs.size = s.heap.objs.size + 1 := by
    rw [e]
    exact Heap.size_push ..
  refine ⟨_, _, _, _, _, _, _, fun s' => ∃ h' tk, s' = { s with heap := h', toks := tk } ∧ ∀ b o, s.heap.get? b = some o → h'.get? b = some o, fun i k _ => ∃ t, k = .int ((zs.getD i ⟨#[]⟩).length : Nat) t, fun i j => decide (((zs.getD i ⟨#[]⟩).length : Int) > ((zs.getD j ⟨#[]⟩).length : Int)), rfl, Wk, st, hfp, ⟨?_, ?_, ?_, ?_⟩, ?_, ?_, ?_⟩
  · rintro s1 s' ⟨h', tk, rfl, hk'⟩ mv
    refine ⟨s'.heap, s'.toks, ?_, fun b o eb => mv.heap b o (fun hb => ?_) (hk' b o eb)⟩
    · obtain ⟨hp, g, dr, tk2, os⟩ := s'
      have g1 : g = s.gens := mv.gens
      have g2 : dr = s.drawn := mv.drawn
      have g3 : os = s.os := mv.os
      rw [g1, g2, g3]
    · have hlt := Heap.lt_size eb
      rcases List.mem_cons.mp hb with z | z
      · rw [z, hsz] at hlt
        exact absurd hlt (Nat.not_lt.mpr (Nat.le_succ _))
      · have z2 : b = s.heap.objs.size := List.mem_singleton.mp z
        rw [z2] at hlt
        exact Nat.lt_irrefl _ hlt
  · exact fun i k s1 s' hv _ => hv
  · rintro i v s1 o Q1 E1 hin hP ⟨h', tk, rfl, hk'⟩ hst hS hQ
    obtain ⟨t, rfl⟩ := hvs i v hP
    have hn := line63
    have hzi : (zs.getD i ⟨#[]⟩).length ≤ sizeLine := by
      have hi2 : i < zs.length := by omega
      rw [List.getD_eq_getElem?_getD, List.getElem?_eq_getElem hi2]
      exact hz _ (List.getElem_mem hi2)
    refine len_str (by omega) (hQ _ _ ⟨h', tk + 1 + 1, rfl, hk'⟩ hst hS ⟨_, rfl⟩ fun j k' hv => hv)
  · rintro i j ki kj s1 Q1 E1 _ ⟨t, rfl⟩ ⟨u, rfl⟩ hQ
    exact CmpOf.ints_gt (P := fun i v => ∃ t, v = .int ((zs.getD i ⟨#[]⟩).length : Nat) t) (fun i => ((zs.getD i ⟨#[]⟩).length : Int)) (fun i v hv => hv) i j _ _ s1 Q1 E1 ⟨t, rfl⟩ ⟨u, rfl⟩ hQ
  · rw [e]
    exact ⟨_, _, rfl, fun b o eb => Heap.get?_push_of_some _ eb⟩
  · rintro hz0 s' ⟨h', tk, rfl, hk'⟩
    exact h0 (List.eq_nil_of_length_eq_zero (by omega)) h' tk hk'
  · rintro hp v s' hP ⟨h', tk, rfl, hk'⟩
    obtain ⟨t, rfl⟩ := hvs _ v hP
    obtain ⟨b1, b2⟩ := best_at (fun i => ((zs.getD i ⟨#[]⟩).length : Int)) (items.size - 1)
    generalize argBest (fun i j => decide (((zs.getD i ⟨#[]⟩).length : Int) > ((zs.getD j ⟨#[]⟩).length : Int))) (items.size - 1) = kk at b1 b2 hP ⊢
    have hkk : kk < zs.length := by omega
    have ekk : zs.getD kk ⟨#[]⟩ = zs[kk] := by
      rw [List.getD_eq_getElem?_getD, List.getElem?_eq_getElem hkk]
      rfl
    refine h1 _ t h' tk (by rw [ekk]; exact List.getElem_mem hkk) (fun z hz => ?_) hk'
    obtain ⟨j, hj, ej⟩ := List.getElem_of_mem hz
    have := b2 j (by omega)
    have ez : zs.getD j ⟨#[]⟩ = z := by
      rw [List.getD_eq_getElem?_getD, List.getElem?_eq_getElem hj]
      exact ej
    rw [ez] at this
    omega
end
section
variable {X : Cx}
def tMaxLen (K : PySem.W.Frag) (te td : TE) : TE := fun σ H Q => te σ H fun v H1 => td σ H1 fun d H2 => ∃ (a : Addr) (zs : List Str), v = .ref a ∧ SqL K H2 a (zs.map V.str) ∧ (∀ z ∈ zs, z.length ≤ sizeLine) ∧ (zs = [] → Q d H2) ∧ ∀ m ∈ zs, (∀ z ∈ zs, z.length ≤ m.length) → Q (.str m) H2
def mlQ (K : PySem.W.Frag) (td : TE) (σ : L2.St) (Q : VK) : List V → Hp → Prop
  | [v], H1 => td σ H1 fun d H2 => ∃ (a : Addr) (zs : List Str), v = .ref a ∧ SqL K H2 a (zs.map V.str) ∧ (∀ z ∈ zs, z.length ≤ sizeLine) ∧ (zs = [] → Q d H2) ∧ ∀ m ∈ zs, (∀ z ∈ zs, z.length ≤ m.length) → Q (.str m) H2
  | _, _ => False
theorem ml_one {K : PySem.W.Frag} {td : TE} {σ : L2.St} {Q : VK} {vs : List V} {H1 : Hp} (h : mlQ K td σ Q vs H1) : ∃ v, vs = [v] ∧ td σ H1 fun d H2 => ∃ (a : Addr) (zs : List Str), v = .ref a ∧ SqL K H2 a (zs.map V.str) ∧ (∀ z ∈ zs, z.length ≤ sizeLine) ∧ (zs = [] → Q d H2) ∧ ∀ m ∈ zs, (∀ z ∈ zs, z.length ≤ m.length) → Q (.str m) H2 := by
  match vs, h with
  | [v], h => exact ⟨v, rfl, h⟩
theorem pe_maxLen {e ed : Expr} {te td : TE} {p1 p2 p3 q1 q2 : Pos} {n1 n2 : Option Str} (K : PySem.W.Frag) (hc : X.calm = true) (hg : Gl X "max") (hm : X.mg "max" = none) (hg2 : Gl X "len") (hm2 : X.mg "len" = none) (hA : PA X [e] (tCons te tNil)) (hd : PE X ed td) (hK : X.K = K := by rfl)
    (hb : bootBuiltins "max" = some (.builtin "max") := by decide +kernel) (hb2 : bootBuiltins "len" = some (.builtin "len") := by decide +kernel)
    (hse : backTo p2 (starEach [e] X.env) = (false, eval e X.env) :: backTo p2 (starEach [] X.env) := by rfl) (hpl : (backTo p2 (starEach [e] X.env)).any (·.1) = false := by rfl)
    (hall : (backToKw p2 (keywordEach [⟨n1, .Name "len" p3, q1⟩, ⟨n2, ed, q2⟩] X.env)).all (·.1.isSome) = true := by rfl)
    (hnone : (backToKw p2 (keywordEach [⟨n1, .Name "len" p3, q1⟩, ⟨n2, ed, q2⟩] X.env)).any (·.1.isNone) = false := by rfl)
    (hks : (backToKw p2 (keywordEach [⟨n1, .Name "len" p3, q1⟩, ⟨n2, ed, q2⟩] X.env)).filterMap (·.1) = [Str.ofString "key", Str.ofString "default"] := by rfl) :
    PE X (.Call (.Name "max" p1) [e] [⟨n1, .Name "len" p3, q1⟩, ⟨n2, ed, q2⟩] p2) (tMaxLen K te td) := by
  subst hK
  refine ⟨fun pins s σ H Q I h => ?_⟩
  refine wpAny_Call_Name_kw (ld_blt I hg hm hb ?_)
  refine PyProof.Rows.callWith_kw (thn (hA.run p2 pins s σ H (mlQ X.K td σ Q) I h) fun us s1 ⟨vs, H1, I1, r1, q1⟩ => ?_) hse hpl hall hnone
  · obtain ⟨v, rfl, q1⟩ := ml_one q1
    rw [hks]
    show wpAny _ _ (evalAll ((do let v ← eval (.Name "len" p3) X.env; standAt p2; pure v) :: [(do let v ← eval ed X.env; standAt p2; pure v)])) _ _ s1
    refine wpAny_evalAll_cons (wpAny_bind (ld_blt I1 hg2 hm2 hb2 (wpAny_bind (wpAny_standAt (wpAny_pure ?_)))))
    refine wpAny_evalAll_cons (wpAny_bind (thn (hd.run pins s1 σ H1 _ I1 q1) fun du s2 ⟨dv, H2, I2, r2, a, zs, ea, hs, hz, q0, qm⟩ => wpAny_bind (wpAny_standAt (wpAny_pure ?_))))
    refine wpAny_evalAll_nil ?_
    subst ea
    obtain ⟨u, rfl, ru⟩ := vals1 r1
    cases ru
    obtain ⟨its, rv, hl, _⟩ := I2.list hs
    refine max_len_list (zs := zs) (I2.ok.hd hc) hl.isList (by simpa using rv.strs) hz (fun hz0 h' tk hk => ?_) fun m t h' tk hm1 hm2 hk => ?_
    · exact ⟨dv, H2, I2.kept hk, r2, q0 hz0⟩
    · exact ⟨.str m, H2, I2.kept hk, ⟨t, rfl⟩, qm m hm1 hm2⟩
end
end My

set_option Elab.async false
set_option linter.all false
set_option maxRecDepth 100000
set_option maxHeartbeats 4000000
namespace My
open PySem PySem.Spec PyProof.Rows L2 PpSet
/-! ### {text for x in .. if ..} -/
section
variable {P : Program} {w : World} {A : Around} {E : Value → Shared → Prop} {s : Shared} {a : Addr} {ks : List Str}
theorem addS_call {k : Str} {tk : Tok} {Q : Value → Shared → Prop} (R : SetS w s.heap a ks) (room : ks.length + 1 < scanBound)
    (fin : ∀ h', Heap.SameBut a s.heap h' → SetS w h' a (if k ∈ ks then ks else k :: ks) → Q .none { s with heap := h', toks := s.toks + 1 }) :
    wpAny (model P w) A (call (.builtin "set.add") [.ref a, .str k tk]) Q E s := by
  have ⟨o, ho, hex⟩ := R.obj
  refine wpAny_call_entry F.slot_set_add (T := "set") ⟨o, ho, hex.1⟩ F.entry_set_add ?_ (F.args_set_add_2 _ _)
  unfold Builtin.«set.add» Builtin.Frozenset.oneOther Builtin.Frozenset.addrOf setAdd
  simp only [List.isEmpty_nil, bind_assoc]
  refine wpAny_bind (wpAny_pure (wpAny_bind (wpAny_pure (wpAny_bind (wpAny_holding ?_)))))
  refine wpAny_bind ((PySem.strKind P w).pyHash (k := k) (strKind_is _ _ _ _) ?_)
  exact setS_add (s := { s with toks := s.toks + 1 }) R room fun h' b sb r => wpAny_pure ⟨_, rfl, fin h' sb r⟩
theorem freshS {h : Heap} (w : World) : SetS w (h.push (blankS w)) h.objs.size [] := .blank (Heap.get?_push_size _ rfl)
end
section
variable {X : Cx}
/-- the step of the set at D by a text -/
def addTo (w : World) (D : Addr) (y : V) (H : Hp) (N : Hp → Prop) : Prop := ∃ (z : Str) (ks : List Str), y = .str z ∧ H D = some (SetSO w D ks) ∧ ks.length + 1 < scanBound ∧ N (upd H D (SetSO w D (if z ∈ ks then ks else z :: ks)))
def turnS (w : World) (D : Addr) (g : L2.TG) (tt : TT) (te : TE) (vs : List Nat) (σ : L2.St) (x : V) (H : Hp) (N : Hp → Prop) : Prop :=
  g x (wipe σ vs) H fun σ2 H2 => wipe σ2 vs = wipe σ vs ∧ tt σ2 H2 fun b H3 => if b = true then te σ2 H3 fun y H4 => addTo w D y H4 N else N H3
def tScT (w : World) (wi : TI) (g : L2.TG) (tt : TT) (te : TE) (vs : List Nat) : TE := fun σ H Q => wi σ H fun J H1 => ∀ D, H1 D = none → ∃ W : Nat → Nat → Hp → Prop, (∃ m, W 0 m (upd H1 D (SetSO w D []))) ∧ ∀ i m H, W i m H →
  (J.stop i H ∧ Q (.ref D) H) ∨ (J.go i H ∧ ∃ N : Hp → Prop, (∀ H', N H' → ∃ m', m' < m ∧ W (i + 1) m' H') ∧ ∀ x H', J.yld i H x H' → turnS w D g tt te vs σ x H' N)
theorem addS_ok {pins : List (Addr × Obj)} {σ : L2.St} {H : Hp} {s : Shared} {E : Value → Shared → Prop} {D : Addr} {ks : List Str} {z : Str} {t : Tok} {Q : Value → Shared → Prop} (I : L2.Inv X pins σ H s) (hD : H D = some (SetSO X.w D ks)) (room : ks.length + 1 < scanBound)
    (h : ∀ s', L2.Inv X pins σ (upd H D (SetSO X.w D (if z ∈ ks then ks else z :: ks))) s' → Q .none s') : wpAny (model X.prog X.w) X.A (call (.builtin "set.add") [.ref D, .str z t]) Q E s := by
  have R : SetS X.w s.heap D ks := (I.hok D _ hD).1
  refine addS_call R room fun h' sb new => ?_
  have he : ∃ u, h'.get? D = some u := new.obj.imp fun _ => And.left
  exact h _ (I.write (e := D) (t' := s.toks + 1) (by rw [hD]; trivial) (.inl rfl) (fun b u hb hu => (sb.2 b hb).trans hu) he (setSO_new new))
set_option maxHeartbeats 8000000 in
theorem pe_scT {elt tg iter : Expr} {ifs : List Expr} {scope : Scope} {own : List (PySem.Str × Nat)} {pos : Pos} {wi : TI} {g : L2.TG} {tt : TT} {te : TE} (w : World) (hc : X.calm = true) (hN : X.N.Nodup) (hi : PI X tg iter wi) (ok : BlkOk X.N X.env.scope scope own)
    (hg : ∀ (s : Shared) (H : Hp) (C : Addr) (cl : List (PySem.Str × Addr)) (fp : List Addr), PG (X.blk s H scope (compEnvC scope cl C X.env) fp) tg g)
    (ht : ∀ (s : Shared) (H : Hp) (C : Addr) (cl : List (PySem.Str × Addr)) (fp : List Addr), PTs (X.blk s H scope (compEnvC scope cl C X.env) fp) ifs tt)
    (he : ∀ (s : Shared) (H : Hp) (C : Addr) (cl : List (PySem.Str × Addr)) (fp : List Addr), PE (X.blk s H scope (compEnvC scope cl C X.env) fp) elt te)
    (hs : ∀ x, foldedSetIterable iter X.env x = pure x := by intro _; rfl) (hw : X.w = w := by rfl) :
    PE X (.SetComp elt [⟨tg, iter, ifs, 0⟩] scope pos) (tScT w wi g tt te (own.map (·.2))) := by
  subst hw
  refine ⟨fun pins s σ H Q I h => ?_⟩
  rw [eval_SetComp]
  have hfree : ∀ y ∈ scope.names, y.2 = .free → ∃ c, X.env.cells.lookup y.1 = some c := fun y hy e => (ok.free y hy e).elim (fun k => I.ok.has _ (.inl k)) (fun k => I.ok.has _ (.inr k))
  refine wpAny_comprehension_free (use := none) rfl hs (closure_ok hfree) ok.kind (fun y hy e => by rw [ok.uniq y hy, e]) (thn (hi.run pins s σ H _ I h) fun xv sa hx => thn hx fun itv sb hb => ?_)
  obtain ⟨it, fp, tn, J, Hb, e, Ib, T, stb, fb, q⟩ := hb
  subst e
  refine (newSet_ok (newEnv_comp ?_))
  generalize hD : sb.heap.objs.size = D
  obtain ⟨W, ⟨m0, w0⟩, turn⟩ := q D (Ib.hok.fresh (Nat.le_of_eq hD))
  -- the new set
  generalize hsc : ({ sb with heap := sb.heap.push { cls := .type "set", dict := none, data := .set #[] 0 (.fresh 0 0 (!X.w.params.followText "set-order")) } } : Shared) = sc
  have hpush : sc.heap = sb.heap.push { cls := .type "set", dict := none, data := .set #[] 0 (.fresh 0 0 (!X.w.params.followText "set-order")) } := by rw [← hsc]
  generalize hHc : upd Hb D (SetSO X.w D []) = Hc at w0
  have Ic : L2.Inv X pins σ Hc sc := by
    rw [← hsc, ← hHc]
    refine Ib.laid (t' := sb.toks) (fun b o eb => Heap.get?_push_of_some _ eb) (Nat.le_of_eq hD) ?_
    rw [← hD]
    exact setSO_new (freshS X.w)
  have fc : ∀ b ∈ fp, FpOk X pins Hc b ∧ b < sc.heap.objs.size := fun b hbf => by
    obtain ⟨o, eo, _⟩ := T.obj _ _ stb b hbf
    have hlt := Heap.lt_size eo
    have hne : b ≠ D := by
      rw [← hD]
      exact Nat.ne_of_lt hlt
    refine ⟨⟨?_, (fb b hbf).2⟩, ?_⟩
    · rw [← hHc, upd_ne hne]
      exact (fb b hbf).1
    · rw [hpush, Heap.size_push]
      exact Nat.lt_succ_of_lt hlt
  have stc : tn 0 sc.heap := T.keep _ _ _ stb fun b _ o eb => by
    rw [hpush]
    exact Heap.get?_push_of_some _ eb
  have Id := block_start Ic ok hN fc
  generalize hC : sc.heap.objs.size = C at Id ⊢
  generalize hcl : cellsFrom (C + 1) scope.names (cloFrom X.env.cells scope.names []) = cl at Id
  have pg := hg sc Hc C cl fp
  have pt := ht sc Hc C cl fp
  have pe := he sc Hc C cl fp
  have key : codeAny (model X.prog X.w) X.A (.compStart (.SetComp elt [⟨tg, iter, ifs, 0⟩] scope pos) 0 (.ref it) (.ref D) (compEnvC scope cl C X.env)) (compPost (model X.prog X.w) X.A X.xe none (EP X pins σ Q) (.ref D) C) { sc with heap := pushCells (sc.heap.push { cls := .type "dict", data := .dict #[] }) scope.names } := by
    have cL : (compEnvC scope cl C X.env).locals = C := rfl
    generalize compEnvC scope cl C X.env = ce at Id pg pt pe cL ⊢
    generalize hsd : ({ sc with heap := pushCells (sc.heap.push { cls := .type "dict", data := .dict #[] }) scope.names } : Shared) = sd at Id ⊢
    have std : tn 0 sd.heap := T.keep _ _ _ stc fun b _ o eb => by
      rw [← hsd]
      exact pushCells_keeps _ _ _ _ (Heap.get?_push_of_some _ eb)
    have stat : ∀ {σ' : L2.St} {H' : Hp} {s' : Shared}, L2.Inv (X.blk sc Hc scope ce fp) [] σ' H' s' → (∀ b ∈ fp, H' b = none) → ∀ b ∈ fp, FpOk (X.blk sc Hc scope ce fp) [] H' b := fun I' hn b hbf =>
      ⟨hn b hbf, (I'.ok.exf b hbf).1, I'.ok.exfs b hbf, .inl hbf, fun x c ec => (I'.ok.exf b hbf).2 x c ec, fun p hp => absurd (show p ∈ ([] : List (Addr × Obj)) ++ [] from hp) (by simp)⟩
    have loop : codeAny (model X.prog X.w) X.A (.compLoop (.SetComp elt [⟨tg, iter, ifs, 0⟩] scope pos) 0 (.ref it) (.ref D) ce) (compPost (model X.prog X.w) X.A X.xe none (EP X pins σ Q) (.ref D) C) sd := by
      refine compLoopS_any (fun n s' => ∃ i H', L2.Inv (X.blk sc Hc scope ce fp) [] (wipe σ (own.map (·.2))) H' s' ∧ tn i s'.heap ∧ (∀ b ∈ fp, H' b = none) ∧ W i n H') ?_ m0 ⟨0, Hc, Id, std, (fun b hbf => (fc b hbf).1.1), w0⟩
      rintro n u5 ⟨i, G5, J5, tn5, fr5, ww5⟩
      rcases turn i n G5 ww5 with ⟨stop, qq⟩ | ⟨go, N, hN2, step⟩
      · refine thnF (T.done (X.blk sc Hc scope ce fp) rfl rfl rfl hc i [] u5 _ G5 (fun _ _ => False) J5 (stat J5 fr5) tn5 stop) fun r u6 ⟨hr, J6⟩ => ?_
        subst hr
        have J7 : L2.Inv X pins σ G5 u6 := Ic.call' (ch := fp) J6.os J6.base J6.hok J6.bare fun b hbf => by
          obtain ⟨⟨_, f1, _, f3, f4, f5⟩, _⟩ := fc b hbf
          exact ⟨f3, f1, f4, f5⟩
        have nC : G5 C = none := by
          have z : G5 ce.locals = none := J6.free
          rw [cL] at z
          exact z
        obtain ⟨m, hn, _⟩ := J6.loc
        have hn2 : u6.heap.Ns C m := by
          have z : u6.heap.Ns ce.locals m := hn
          rw [cL] at z
          exact z
        obtain ⟨g0, g1, g2, g3, g4, g5⟩ := Ic.fpOk (b := C) (Nat.le_of_eq hC) nC
        exact ⟨m, hn2, fun h'' sbt => ⟨.ref D, G5, J7.turned (t' := u6.toks) (fun b o hbb eb => (sbt.2 b hbb).trans eb) g0 g1 g3 g4 g5, rfl, qq⟩⟩
      · refine thnF (T.item (X.blk sc Hc scope ce fp) rfl rfl rfl hc i [] u5 _ G5 (fun _ _ => False) J5 (stat J5 fr5) tn5 go) fun r u6 ⟨u, hr, hh6⟩ => ?_
        subst hr
        refine thnF hh6 fun _ u7 ⟨x, G7, J7, rr7, yy7, tn7, fr7⟩ => ?_
        refine thnF (pg.run _ u7 _ G7 x u _ (J7.pinned (stat J7 fr7) (T.obj _ _ tn7)) rr7 (step x G7 yy7)) fun _ u8 ⟨τ8, G8, J8, hw8, qq8⟩ => ?_
        refine thnF (pt.run _ u8 τ8 G8 _ J8 qq8) fun b u9 ⟨G9, J9, qq9⟩ => ?_
        have last : ∀ {s' : Shared} {H' : Hp}, L2.Inv (X.blk sc Hc scope ce fp) ([] ++ pinsAt fp u7.heap) τ8 H' s' → N H' → ∃ m, m < n ∧ ∃ i H', L2.Inv (X.blk sc Hc scope ce fp) [] (wipe σ (own.map (·.2))) H' s' ∧ tn i s'.heap ∧ (∀ b ∈ fp, H' b = none) ∧ W i m H' := fun {s' H'} I' nx => by
          obtain ⟨m', hm, w'⟩ := hN2 H' nx
          have pin' : ∀ b ∈ fp, ∀ o, u7.heap.get? b = some o → s'.heap.get? b = some o ∧ H' b = none := fun b hbf o eo => by
            have z := I'.pin (b, o) (List.mem_append_right _ (List.mem_append_right _ (mem_pinsAt hbf eo)))
            exact ⟨z.1, z.2.1⟩
          refine ⟨m', hm, i + 1, H', (I'.unpinned (pins := [])).weak (by rw [← hw8, wipe_length]) (fun j v ej => ?_), T.keep _ _ _ tn7 fun b hbf o eo => (pin' b hbf o eo).1, fun b hbf => ?_, w'⟩
          · rw [← hw8] at ej
            exact (wipe_some ej).1
          · obtain ⟨o, eo, _⟩ := T.obj _ _ tn7 b hbf
            exact (pin' b hbf o eo).2
        cases b with
        | false =>
          simp only [Bool.false_eq_true, if_false] at qq9 ⊢
          exact last J9 qq9
        | true =>
          simp only [if_true] at qq9 ⊢
          refine thnF (pe.run _ u9 τ8 G9 _ J9 qq9) fun zv s10 ⟨yv, H10, I10, r10, z, ks, ey, hD10, hz10, nx⟩ => ?_
          subst ey
          obtain ⟨t, rfl⟩ := r10
          exact addS_ok (X := X.blk sc Hc scope ce fp) I10 hD10 hz10 fun s11 I11 => last I11 nx
    exact codeAny_compStart_set loop (T.self X.A 0 _ _ _ std loop)
  exact key
end
/-- over what is walked -/
theorem scT_it {J : It} {n : Nat} {G : Hp → Prop} {Y : Nat → Hp → V → Hp → Prop} (wk : Walk J n G Y) {w : World} {g : L2.TG} {tt : TT} {te : TE} {vs : List Nat} {σ : L2.St} {H1 : Hp} {D : Addr} {Qd : Hp → Prop} (Pv : Nat → Hp → Prop)
    (h0 : Pv 0 (upd H1 D (SetSO w D []))) (hG : ∀ i H, i ≤ n → Pv i H → G H) (hs : ∀ i x H H', i < n → Pv i H → Y i H x H' → turnS w D g tt te vs σ x H' (Pv (i + 1))) (hd : ∀ H, Pv n H → Qd H) :
    ∃ W : Nat → Nat → Hp → Prop, (∃ m, W 0 m (upd H1 D (SetSO w D []))) ∧ ∀ i m H, W i m H → (J.stop i H ∧ Qd H) ∨ (J.go i H ∧ ∃ N : Hp → Prop, (∀ H', N H' → ∃ m', m' < m ∧ W (i + 1) m' H') ∧ ∀ x H', J.yld i H x H' → turnS w D g tt te vs σ x H' N) := by
  refine ⟨fun i m H => m = n - i ∧ i ≤ n ∧ Pv i H, ⟨n, rfl, Nat.zero_le _, h0⟩, ?_⟩
  rintro i m H ⟨rfl, hi, p⟩
  by_cases hlt : i < n
  · exact .inr ⟨wk.goes i H hlt (hG i H hi p), Pv (i + 1), fun H' p' => ⟨n - (i + 1), by omega, rfl, hlt, p'⟩, fun x H' y => hs i x H H' hlt p (wk.yields i H x H' hlt (hG i H hi p) y)⟩
  · obtain rfl : i = n := by omega
    exact .inl ⟨wk.stops H (hG i H hi p), hd H p⟩
end My

set_option Elab.async false
set_option linter.all false
set_option maxRecDepth 100000
set_option maxHeartbeats 2000000
namespace My
open PySem PySem.Spec PyProof.Rows L2
/-! ### sorted texts -/
theorem rising_pw : ∀ (l : List Str) (p : Str), risingS p l = true → (p :: l).Pairwise (fun a b => a.cps.toList ≤ b.cps.toList)
  | [], p, _ => List.pairwise_singleton _ _
  | x :: l, p, h => by
    unfold risingS at h
    rw [Bool.and_eq_true] at h
    have h1 : p.cps.toList ≤ x.cps.toList := by
      have z := h.1
      rw [ltCps_eq] at z
      have z2 : decide (x.cps.toList < p.cps.toList) = false := by simpa using z
      exact List.not_lt.mp (of_decide_eq_false z2)
    have ih := rising_pw l x h.2
    refine List.pairwise_cons.mpr ⟨fun y hy => ?_, ih⟩
    rcases List.mem_cons.mp hy with z | z
    · rw [z]
      exact h1
    · exact List.le_trans h1 ((List.pairwise_cons.mp ih).1 y z)
theorem sortedS_pw : ∀ {l : List Str}, sortedS l = true → l.Pairwise (fun a b => a.cps.toList ≤ b.cps.toList)
  | [], _ => List.Pairwise.nil
  | x :: l, h => rising_pw l x h
theorem sortedS_eq {l m : List Str} (h : l.Perm m) (h1 : sortedS l = true) (h2 : sortedS m = true) : l = m := by
  refine List.Perm.eq_of_pairwise (le := fun a b : Str => a.cps.toList ≤ b.cps.toList) (fun a b _ _ h3 h4 => ?_) (sortedS_pw h1) (sortedS_pw h2) h
  have e := List.le_antisymm h3 h4
  rw [← txS_of a, ← txS_of b, e]
theorem texts_eq {l m : List (List Nat)} (n1 : l.Nodup) (n2 : m.Nodup) (hm : ∀ x, x ∈ l ↔ x ∈ m) (h1 : sortedS (l.map txS) = true) (h2 : sortedS (m.map txS) = true) : l = m := by
  have hp : l.Perm m := (List.perm_ext_iff_of_nodup n1 n2).mpr hm
  have e := sortedS_eq (hp.map txS) h1 h2
  exact List.map_inj_right (fun a b h => txS_inj h) |>.mp e
/-! ### used beginnings -/
theorem used_prefix (o : List Nat) (es : List (Nat × Int)) (rc : Option (Nat × Int × Int)) : usedM o es rc = o.take (usedM o es rc).length := by
  obtain ⟨k, e, _⟩ := used_sub (one := o) (es := es) (rc := rc)
  have h : usedM o es rc <+: o := by
    rw [e]
    exact List.take_prefix _ _
  exact List.prefix_iff_eq_take.mp h
theorem used_cut {cols o : List Nat} {es : List (Nat × Int)} {rc : Option (Nat × Int × Int)} (h : QOk cols es rc) {k : Nat} (hk : (usedM o es rc).length ≤ k) : usedM (o.take k) es rc = usedM o es rc := by
  have e1 : o.take k = usedM o es rc ++ (o.take k).drop (usedM o es rc).length := by
    have e0 : (o.take k).take (usedM o es rc).length = usedM o es rc := by
      rw [List.take_take, Nat.min_eq_left hk]
      exact (used_prefix o es rc).symm
    conv => lhs; rw [← List.take_append_drop (usedM o es rc).length (o.take k), e0]
  obtain ⟨m1, h1⟩ := used_app (usedM o es rc) es rc ((o.take k).drop (usedM o es rc).length)
  rw [← e1, used_used h] at h1
  obtain ⟨m2, h2⟩ := used_app (o.take k) es rc (o.drop k)
  rw [List.take_append_drop, h1] at h2
  have hl := congrArg List.length h2
  rw [List.length_append, List.length_append] at hl
  have z : m1 = [] := List.eq_nil_of_length_eq_zero (by omega)
  rw [h1, z, List.append_nil]
theorem price_cut {cols : List Nat} {rows : List (List Int)} {o : List Nat} {es : List (Nat × Int)} {rc : Option (Nat × Int × Int)} (h : QOk cols es rc) {k : Nat} (hk : (usedM o es rc).length ≤ k) : priceM cols rows (o.take k) es rc = priceM cols rows o es rc := by
  unfold priceM aheadM behindM
  rw [used_cut h hk]
theorem price_nil {cols : List Nat} {rows : List (List Int)} {o : List Nat} {es : List (Nat × Int)} {rc : Option (Nat × Int × Int)} (h : QOk cols es rc) (hk : usedM o es rc = []) : priceM cols rows o es rc = (rows.length : Int) + 1 := by
  obtain ⟨h1, h2⟩ := ahead_none (rows := rows) h hk
  unfold priceM
  rw [h1, h2]
  omega
/-! ### lists cut -/
theorem foldl_max : ∀ (l : List Nat) (n : Nat), n ≤ l.foldl max n ∧ (∀ x ∈ l, x ≤ l.foldl max n) ∧ (l.foldl max n = n ∨ l.foldl max n ∈ l)
  | [], n => ⟨Nat.le_refl _, (fun x h => nomatch h), .inl rfl⟩
  | a :: l, n => by
    obtain ⟨h1, h2, h3⟩ := foldl_max l (max n a)
    rw [List.foldl_cons]
    refine ⟨by omega, fun x hx => ?_, ?_⟩
    · rcases List.mem_cons.mp hx with z | z
      · omega
      · exact h2 x z
    · rcases h3 with z | z
      · by_cases e : n ≤ a
        · exact .inr (by rw [z, Nat.max_eq_right e]; exact List.mem_cons_self)
        · exact .inl (by rw [z, Nat.max_eq_left (by omega)])
      · exact .inr (List.mem_cons_of_mem _ z)
def cutLen (as : List Ask) (o : List Nat) : Nat := (as.map fun a => (usedM o a.es a.rc).length).foldl max 0
def cutO (as : List Ask) (o : List Nat) : List Nat := o.take (cutLen as o)
theorem cutLen_ge {as : List Ask} {o : List Nat} {a : Ask} (h : a ∈ as) : (usedM o a.es a.rc).length ≤ cutLen as o := (foldl_max _ 0).2.1 _ (List.mem_map.mpr ⟨a, h, rfl⟩)
theorem cutLen_at (as : List Ask) (o : List Nat) : cutLen as o = 0 ∨ ∃ a ∈ as, (usedM o a.es a.rc).length = cutLen as o := by
  rcases (foldl_max (as.map fun a => (usedM o a.es a.rc).length) 0).2.2 with z | z
  · exact .inl z
  · obtain ⟨a, ha, e⟩ := List.mem_map.mp z
    exact .inr ⟨a, ha, e⟩
theorem cutLen_is {as : List Ask} {o : List Nat} {m : Nat} (h1 : ∀ a ∈ as, (usedM o a.es a.rc).length ≤ m) (h2 : m = 0 ∨ ∃ a ∈ as, (usedM o a.es a.rc).length = m) : m = cutLen as o := by
  rcases h2 with z | ⟨a, ha, e⟩
  · rcases cutLen_at as o with y | ⟨b, hb, f⟩
    · omega
    · have := h1 b hb
      omega
  · have g1 := cutLen_ge (o := o) ha
    rcases cutLen_at as o with y | ⟨b, hb, f⟩
    · omega
    · have := h1 b hb
      omega
/-- the longest used is the list cut -/
theorem cutO_is {as : List Ask} {o m : List Nat} (h : ∃ a ∈ as, usedM o a.es a.rc = m) (h1 : ∀ a ∈ as, (usedM o a.es a.rc).length ≤ m.length) : m = cutO as o := by
  obtain ⟨a, ha, e⟩ := h
  have e2 : m.length = cutLen as o := cutLen_is h1 (.inr ⟨a, ha, by rw [e]⟩)
  have e3 := used_prefix o a.es a.rc
  rw [e, e2] at e3
  exact e3
theorem cutO_nil {as : List Ask} {o : List Nat} (h : cutO as o = []) (ho : o ≠ []) : ∀ a ∈ as, usedM o a.es a.rc = [] := fun a ha => by
  have h1 := cutLen_ge (o := o) ha
  have h2 : cutLen as o = 0 := by
    have z := congrArg List.length h
    unfold cutO at z
    rw [List.length_take, List.length_nil] at z
    have : 0 < o.length := List.length_pos_iff.mpr ho
    omega
  exact List.eq_nil_of_length_eq_zero (by omega)
structure CutOf (as : List Ask) (ch fs : List (List Nat)) : Prop where
  nd : fs.Nodup
  up : sortedS (fs.map txS) = true
  mem : ∀ x, x ∈ fs ↔ (x ≠ [] ∧ ∃ o ∈ ch, cutO as o = x)
theorem CutOf.one {as : List Ask} {ch fs gs : List (List Nat)} (h : CutOf as ch fs) (g : CutOf as ch gs) : fs = gs := texts_eq h.nd g.nd (fun x => (h.mem x).trans (g.mem x).symm) h.up g.up
theorem cutO_cutO {cols : List Nat} {as : List Ask} (hok : AsksOk cols as) (o : List Nat) : cutO as (cutO as o) = cutO as o := by
  have e : ∀ a ∈ as, usedM (cutO as o) a.es a.rc = usedM o a.es a.rc := fun a ha => used_cut (hok.ok a ha).1 (cutLen_ge ha)
  have e2 : cutLen as (cutO as o) = cutLen as o := by
    unfold cutLen
    congr 1
    exact List.map_congr_left fun a ha => by rw [show usedM (cutO as o) a.es a.rc = usedM o a.es a.rc from e a ha]
  unfold cutO at e2 ⊢
  rw [e2, List.take_take, Nat.min_self]
theorem CutOf.again {cols : List Nat} {as : List Ask} {ch fs : List (List Nat)} (hok : AsksOk cols as) (h : CutOf as ch fs) : CutOf as fs fs := by
  refine ⟨h.nd, h.up, fun x => ⟨fun hx => ?_, fun ⟨h0, o, ho, e⟩ => ?_⟩⟩
  · obtain ⟨h0, o, ho, e⟩ := (h.mem x).mp hx
    refine ⟨h0, x, hx, ?_⟩
    rw [← e]
    exact cutO_cutO hok o
  · obtain ⟨_, o2, _, e2⟩ := (h.mem o).mp ho
    rw [← e2, cutO_cutO hok o2, e2] at e
    rw [← e]
    exact ho
theorem sum_inj {f : List Nat → Int} {g : List Nat → List Nat} : ∀ (ch fs : List (List Nat)), fs.Nodup → (∀ x ∈ fs, ∃ o ∈ ch, g o = x) → (∀ o, f (g o) ≤ f o) → (∀ o, 0 ≤ f o) → (fs.map f).sum ≤ (ch.map f).sum
  | [], fs, _, h, _, _ => by
    cases fs with
    | nil => exact Int.le_refl _
    | cons x fs =>
      obtain ⟨o, ho, _⟩ := h x List.mem_cons_self
      cases ho
  | o :: ch, fs, nd, h, h1, h0 => by
    rw [List.map_cons, List.sum_cons]
    by_cases hin : g o ∈ fs
    · have hp := List.perm_cons_erase hin
      have e1 : (fs.map f).sum = f (g o) + ((fs.erase (g o)).map f).sum := by
        rw [perm_sum (hp.map f), List.map_cons, List.sum_cons]
      have ih := sum_inj ch (fs.erase (g o)) (nd.erase _) (fun x hx => by
        obtain ⟨hne, hx2⟩ := (List.Nodup.mem_erase_iff nd).mp hx
        obtain ⟨o2, ho2, e⟩ := h x hx2
        rcases List.mem_cons.mp ho2 with z | z
        · rw [z] at e
          exact absurd e.symm hne
        · exact ⟨o2, z, e⟩) h1 h0
      have := h1 o
      omega
    · have ih := sum_inj ch fs nd (fun x hx => by
        obtain ⟨o2, ho2, e⟩ := h x hx
        rcases List.mem_cons.mp ho2 with z | z
        · rw [z] at e
          rw [e] at hin
          exact absurd hx hin
        · exact ⟨o2, z, e⟩) h1 h0
      have := h0 o
      omega
theorem cutO_len (as : List Ask) (o : List Nat) : (cutO as o).length ≤ o.length := by
  unfold cutO
  rw [List.length_take]
  omega
theorem CutOf.room {as : List Ask} {ch fs : List (List Nat)} (h : CutOf as ch fs) : roomM fs ≤ roomM ch := by
  unfold roomM
  refine sum_inj (f := fun o => (o.length : Int)) (g := cutO as) ch fs h.nd (fun x hx => ((h.mem x).mp hx).2) (fun o => ?_) (fun o => Int.natCast_nonneg _)
  exact Int.ofNat_le.mpr (cutO_len as o)
theorem CutOf.keep {as : List Ask} {ch fs : List (List Nat)} {chg : Int} (h : CutOf as ch fs) (h0 : 0 ≤ chg) : keepM chg fs ≤ keepM chg ch := by
  unfold keepM
  refine Int.mul_le_mul_of_nonneg_left ?_ h0
  refine sum_inj (f := fun o => (o.length : Int) + 1) (g := cutO as) ch fs h.nd (fun x hx => ((h.mem x).mp hx).2) (fun o => ?_) (fun o => ?_)
  · have := cutO_len as o
    show ((cutO as o).length : Int) + 1 ≤ (o.length : Int) + 1
    omega
  · show 0 ≤ (o.length : Int) + 1
    omega
theorem CutOf.priceOf {cols : List Nat} {rows : List (List Int)} {as : List Ask} {ch fs : List (List Nat)} (hok : AsksOk cols as) (hne : ∀ o ∈ ch, o ≠ []) (h : CutOf as ch fs) {a : Ask} (ha : a ∈ as) : priceOfM cols rows fs a.es a.rc ≤ priceOfM cols rows ch a.es a.rc := by
  obtain ⟨f1, f2, f3⟩ := minM_spec (fs.map fun o => priceM cols rows o a.es a.rc) (rows.length : Int)
  obtain ⟨g1, g2, g3⟩ := minM_spec (ch.map fun o => priceM cols rows o a.es a.rc) (rows.length : Int)
  unfold priceOfM
  rcases g1 with z | z
  · rw [z]
    exact f2
  · obtain ⟨o, ho, e⟩ := List.mem_map.mp z
    rw [← e]
    have hq := (hok.ok a ha).1
    by_cases hc : cutO as o = []
    · have hu := cutO_nil hc (hne o ho) a ha
      have hp := price_nil (rows := rows) hq hu
      rw [hp]
      omega
    · have hm : cutO as o ∈ fs := (h.mem _).mpr ⟨hc, o, ho, rfl⟩
      have := f3 _ (List.mem_map.mpr ⟨_, hm, rfl⟩)
      have e2 : priceM cols rows (cutO as o) a.es a.rc = priceM cols rows o a.es a.rc := price_cut hq (cutLen_ge ha)
      rw [e2] at this
      exact this
theorem CutOf.work {cols : List Nat} {rows : List (List Int)} {as : List Ask} {ch fs : List (List Nat)} {chg : Int} (hok : AsksOk cols as) (hne : ∀ o ∈ ch, o ≠ []) (h : CutOf as ch fs) (h0 : 0 ≤ chg) : workM cols rows fs as chg ≤ workM cols rows ch as chg := by
  unfold workM
  have h1 := h.keep h0
  have h2 : askedM cols rows fs as ≤ askedM cols rows ch as := by
    unfold askedM
    refine sum_le as fun a ha => ?_
    have := (hok.ok a ha).2.1
    exact Int.mul_le_mul_of_nonneg_left (h.priceOf hok hne ha) (by omega)
  omega
theorem cutO_sub {as : List Ask} {o : List Nat} {c : Nat} (h : c ∈ cutO as o) : c ∈ o := List.mem_of_mem_take h
/-! ### texts in lists -/
theorem inV_texts (o : List Nat) : ∀ l : List (List Nat), inV (tx o) (l.map tx) = decide (o ∈ l)
  | [] => rfl
  | a :: l => by
    have ih := inV_texts o l
    show ((txS a == txS o) || inV (tx o) (l.map tx)) = decide (o ∈ a :: l)
    rw [ih]
    by_cases e : a = o
    · rw [e]
      simp
    · have e2 : (txS a == txS o) = false := by
        rw [Bool.eq_false_iff]
        intro z
        exact e (txS_inj (by simpa using z))
      have e3 : ¬ o = a := fun z => e z.symm
      rw [e2]
      simp [e3]
theorem flat_texts (l : List (List Nat)) : (l.map tx).all flatV = true := by
  rw [List.all_eq_true]
  intro v hv
  obtain ⟨c, _, rfl⟩ := List.mem_map.mp hv
  rfl
theorem strs_texts (ys : List Str) : ∃ l : List (List Nat), ys = l.map txS := by
  refine ⟨ys.map fun z => z.cps.toList, ?_⟩
  rw [List.map_map]
  conv => lhs; rw [← List.map_id ys]
  exact List.map_congr_left fun z _ => (txS_of z).symm
theorem nodup_texts {l : List (List Nat)} (h : (l.map txS).Nodup) : l.Nodup := (List.pairwise_map.mp h).imp fun {a b} h z => h (by rw [z])
end My

set_option Elab.async false
set_option linter.all false
set_option maxRecDepth 100000
set_option maxHeartbeats 2000000
namespace My
open PySem PySem.Spec PyProof.Rows L2
/-! ### tuples of texts as data -/
theorem ftA_texts {H : Hp} : ∀ fs : List (List Nat), FtA H (fs.map tx) (fs.map strD)
  | [] => .nil
  | o :: fs => .cons (.str _) (ftA_texts fs)
theorem ft_texts {H : Hp} {p : Addr} {fs : List (List Nat)} (h : H p = some (.tup (fs.map tx))) : Ft H (.ref p) (.tuple (fs.map strD)) := .tup h (ftA_texts fs)
theorem depA_texts : ∀ fs : List (List Nat), PyData.depthAll (fs.map strD) = 0
  | [] => rfl
  | o :: fs => by
    show max (PyData.depth (strD o)) (PyData.depthAll (fs.map strD)) = 0
    rw [depA_texts fs]
    rfl
theorem wdA_texts : ∀ fs : List (List Nat), wdA (fs.map strD) = 0
  | [] => rfl
  | o :: fs => by
    show max (wd (strD o)) (wdA (fs.map strD)) = 0
    rw [wdA_texts fs]
    rfl
theorem dep_texts (fs : List (List Nat)) : PyData.depth (.tuple (fs.map strD)) < 3 := by
  show PyData.depthAll (fs.map strD) + 1 < 3
  rw [depA_texts]
  decide
theorem wd_texts {fs : List (List Nat)} (h : fs.length ≤ 1000) : wd (.tuple (fs.map strD)) ≤ 1000 := by
  show max (fs.map strD).length (wdA (fs.map strD)) ≤ 1000
  rw [wdA_texts, List.length_map]
  omega
theorem cutLen_le (as : List Ask) (o : List Nat) : cutLen as o ≤ o.length := by
  rcases cutLen_at as o with z | ⟨a, _, e⟩
  · omega
  · rw [← e]
    exact used_len _ _ _
theorem cutO_ne {as : List Ask} {o : List Nat} : cutO as o ≠ [] ↔ 0 < cutLen as o := by
  have h1 := cutLen_le as o
  have h2 : (cutO as o).length = cutLen as o := by
    unfold cutO
    rw [List.length_take]
    omega
  rw [← h2]
  exact List.length_pos_iff.symm
end My

set_option Elab.async false
set_option linter.all false
set_option maxRecDepth 100000
set_option maxHeartbeats 1000000
namespace My
open PySem PySem.Spec PyProof.Rows L2
def topS (i : Nat) : Stmt := PySem.Challenge.pw_stretchkeep_k18_choices_cut.main.body.getD i (.Pass ⟨0, 0, 0, 0⟩)
abbrev s_picked : Stmt := topS 1
theorem sc_picked : FnScope ["columns", "row", "letters"] ["columns", "row", "letters"] (defScope s_picked) := ⟨rfl, rfl, rfl, by decide +kernel, rfl, by decide +kernel, by decide +kernel⟩
abbrev s_letters_of : Stmt := topS 3
theorem sc_letters_of : FnScope ["equals", "letter", "number"] ["equals"] (defScope s_letters_of) := ⟨rfl, rfl, rfl, by decide +kernel, rfl, by decide +kernel, by decide +kernel⟩
abbrev s_spans : Stmt := topS 4
theorem sc_spans : FnScope ["question", "equals", "reach", "letter", "wanted", "low", "high", "number"] ["question"] (defScope s_spans) := ⟨rfl, rfl, rfl, by decide +kernel, rfl, by decide +kernel, by decide +kernel⟩
abbrev s_used : Stmt := topS 6
theorem sc_used : FnScope ["one", "question", "equals", "reach", "letters", "many"] ["one", "question"] (defScope s_used) := ⟨rfl, rfl, rfl, by decide +kernel, rfl, by decide +kernel, by decide +kernel⟩
abbrev s_stretch : Stmt := topS 7
theorem sc_stretch : FnScope ["table", "one", "question", "columns", "rows", "letters", "first", "last", "keys", "ahead", "behind", "wanted", "row", "key"] ["table", "one", "question"] (defScope s_stretch) := ⟨rfl, rfl, rfl, by decide +kernel, rfl, by decide +kernel, by decide +kernel⟩
abbrev s_price_by : Stmt := topS 9
theorem sc_price_by : FnScope ["table", "one", "question", "columns", "rows", "start", "end"] ["table", "one", "question"] (defScope s_price_by) := ⟨rfl, rfl, rfl, by decide +kernel, rfl, by decide +kernel, by decide +kernel⟩
abbrev s_price_of : Stmt := topS 10
theorem sc_price_of : FnScope ["table", "choice", "question", "one"] ["table", "choice", "question"] (defScope s_price_of) := ⟨rfl, rfl, rfl, by decide +kernel, rfl, by decide +kernel, by decide +kernel⟩
abbrev s_upkeep : Stmt := topS 11
theorem sc_upkeep : FnScope ["changes", "choice", "one"] ["changes", "choice"] (defScope s_upkeep) := ⟨rfl, rfl, rfl, by decide +kernel, rfl, by decide +kernel, by decide +kernel⟩
abbrev s_price : Stmt := topS 12
theorem sc_price : FnScope ["work", "choice", "asks", "changes", "asked", "table", "question", "often"] ["work", "choice"] (defScope s_price) := ⟨rfl, rfl, rfl, by decide +kernel, rfl, by decide +kernel, by decide +kernel⟩
abbrev s_room : Stmt := topS 13
theorem sc_room : FnScope ["choice", "one"] ["choice"] (defScope s_room) := ⟨rfl, rfl, rfl, by decide +kernel, rfl, by decide +kernel, by decide +kernel⟩
abbrev s_cut_list : Stmt := topS 14
theorem sc_cut_list : FnScope ["asks", "one", "question", "often"] ["asks", "one"] (defScope s_cut_list) := ⟨rfl, rfl, rfl, by decide +kernel, rfl, by decide +kernel, by decide +kernel⟩
abbrev s_cut : Stmt := topS 15
theorem sc_cut : FnScope ["work", "choice", "table", "asks", "changes", "beginnings", "one"] ["work", "choice"] (defScope s_cut) := ⟨rfl, rfl, rfl, by decide +kernel, rfl, by decide +kernel, by decide +kernel⟩
abbrev s_l_bag : Stmt := topS 17
theorem sc_l_bag : FnScope ["script"] ["script"] (defScope s_l_bag) := ⟨rfl, rfl, rfl, by decide +kernel, rfl, by decide +kernel, by decide +kernel⟩
abbrev s_l_lot : Stmt := topS 18
theorem sc_l_lot : FnScope ["bag", "many", "at", "cell", "one", "two", "three", "found"] ["bag", "many"] (defScope s_l_lot) := ⟨rfl, rfl, rfl, by decide +kernel, rfl, by decide +kernel, by decide +kernel⟩
abbrev s_l_columns : Stmt := topS 19
theorem sc_l_columns : FnScope ["bag", "most", "left", "found", "k"] ["bag", "most"] (defScope s_l_columns) := ⟨rfl, rfl, rfl, by decide +kernel, rfl, by decide +kernel, by decide +kernel⟩
abbrev s_l_table : Stmt := topS 20
theorem sc_l_table : FnScope ["bag", "most", "rows", "columns", "spread", "found", "k", "letter"] ["bag", "most", "rows"] (defScope s_l_table) := ⟨rfl, rfl, rfl, by decide +kernel, rfl, by decide +kernel, by decide +kernel⟩
abbrev s_l_near : Stmt := topS 21
theorem sc_l_near : FnScope ["bag", "table", "at", "way", "number"] ["bag", "table", "at"] (defScope s_l_near) := ⟨rfl, rfl, rfl, by decide +kernel, rfl, by decide +kernel, by decide +kernel⟩
abbrev s_l_question : Stmt := topS 22
theorem sc_l_question : FnScope ["bag", "table", "columns", "equals", "others", "at", "letter", "some"] ["bag", "table"] (defScope s_l_question) := ⟨rfl, rfl, rfl, by decide +kernel, rfl, by decide +kernel, by decide +kernel⟩
abbrev s_l_used : Stmt := topS 23
theorem sc_l_used : FnScope ["one", "question", "letters", "many", "letter", "number"] ["one", "question"] (defScope s_l_used) := ⟨rfl, rfl, rfl, by decide +kernel, rfl, by decide +kernel, by decide +kernel⟩
abbrev s_l_same : Stmt := topS 24
theorem sc_l_same : FnScope ["found", "due", "one", "other"] ["found", "due"] (defScope s_l_same) := ⟨rfl, rfl, rfl, by decide +kernel, rfl, by decide +kernel, by decide +kernel⟩
abbrev s_l_choice : Stmt := topS 25
theorem sc_l_choice : FnScope ["bag", "columns", "found", "k", "left", "one", "j"] ["bag", "columns"] (defScope s_l_choice) := ⟨rfl, rfl, rfl, by decide +kernel, rfl, by decide +kernel, by decide +kernel⟩
abbrev s_l_cut : Stmt := topS 26
theorem sc_l_cut : FnScope ["choice", "asks", "found", "one", "size", "question", "often"] ["choice", "asks"] (defScope s_l_cut) := ⟨rfl, rfl, rfl, by decide +kernel, rfl, by decide +kernel, by decide +kernel⟩
abbrev s_law : Stmt := topS 27
theorem sc_law : FnScope ["script", "bag", "turn", "table", "asks", "k", "question", "work", "choice", "found"] ["script"] (defScope s_law) := ⟨rfl, rfl, rfl, by decide +kernel, rfl, by decide +kernel, by decide +kernel⟩
structure Ad where
  f_picked : Addr
  d_picked : FuncData
  c_picked : Addr
  P_picked : Addr
  f_letters_of : Addr
  d_letters_of : FuncData
  f_spans : Addr
  d_spans : FuncData
  f_used : Addr
  d_used : FuncData
  f_stretch : Addr
  d_stretch : FuncData
  c_stretch : Addr
  P_stretch : Addr
  f_price_by : Addr
  d_price_by : FuncData
  f_price_of : Addr
  d_price_of : FuncData
  f_upkeep : Addr
  d_upkeep : FuncData
  c_upkeep : Addr
  P_upkeep : Addr
  f_price : Addr
  d_price : FuncData
  c_price : Addr
  P_price : Addr
  f_room : Addr
  d_room : FuncData
  c_room : Addr
  P_room : Addr
  f_cut_list : Addr
  d_cut_list : FuncData
  f_cut : Addr
  d_cut : FuncData
  f_l_bag : Addr
  d_l_bag : FuncData
  f_l_lot : Addr
  d_l_lot : FuncData
  f_l_columns : Addr
  d_l_columns : FuncData
  f_l_table : Addr
  d_l_table : FuncData
  f_l_near : Addr
  d_l_near : FuncData
  f_l_question : Addr
  d_l_question : FuncData
  f_l_used : Addr
  d_l_used : FuncData
  f_l_same : Addr
  d_l_same : FuncData
  f_l_choice : Addr
  d_l_choice : FuncData
  f_l_cut : Addr
  d_l_cut : FuncData
  f_law : Addr
  d_law : FuncData
abbrev Ad.Ps (Z : Ad) : List Addr := [Z.P_picked, Z.P_stretch, Z.P_upkeep, Z.P_room, Z.P_price]
structure Tb (base : Heap) (mg : Str → Option Value) (Z : Ad) : Prop where
  t_picked : LamX.TabB base mg Z.c_picked Z.P_picked
  t_stretch : LamX.TabB base mg Z.c_stretch Z.P_stretch
  t_upkeep : LamX.TabB base mg Z.c_upkeep Z.P_upkeep
  t_room : LamX.TabB base mg Z.c_room Z.P_room
  t_price : LamX.TabB base mg Z.c_price Z.P_price
structure Tx (K : PySem.W.Frag) (mg : Str → Option Value) (Z : Ad) : Prop where
  F_picked : Fun K "picked" "picked" s_picked Z.f_picked Z.d_picked
  C_picked : FunC K "picked" "picked" s_picked Z.f_picked Z.d_picked Z.c_picked
  b_picked : Binds K Z.d_picked ["columns", "row", "letters"] []
  g_picked : mg "picked" = some (.ref Z.f_picked)
  F_letters_of : Fun K "letters_of" "letters_of" s_letters_of Z.f_letters_of Z.d_letters_of
  b_letters_of : Binds K Z.d_letters_of ["equals"] []
  g_letters_of : mg "letters_of" = some (.ref Z.f_letters_of)
  F_spans : Fun K "spans" "spans" s_spans Z.f_spans Z.d_spans
  b_spans : Binds K Z.d_spans ["question"] []
  g_spans : mg "spans" = some (.ref Z.f_spans)
  F_used : Fun K "used" "used" s_used Z.f_used Z.d_used
  b_used : Binds K Z.d_used ["one", "question"] []
  g_used : mg "used" = some (.ref Z.f_used)
  F_stretch : Fun K "stretch" "stretch" s_stretch Z.f_stretch Z.d_stretch
  C_stretch : FunC K "stretch" "stretch" s_stretch Z.f_stretch Z.d_stretch Z.c_stretch
  b_stretch : Binds K Z.d_stretch ["table", "one", "question"] []
  g_stretch : mg "stretch" = some (.ref Z.f_stretch)
  F_price_by : Fun K "price_by" "price_by" s_price_by Z.f_price_by Z.d_price_by
  b_price_by : Binds K Z.d_price_by ["table", "one", "question"] []
  g_price_by : mg "price_by" = some (.ref Z.f_price_by)
  F_price_of : Fun K "price_of" "price_of" s_price_of Z.f_price_of Z.d_price_of
  b_price_of : Binds K Z.d_price_of ["table", "choice", "question"] []
  g_price_of : mg "price_of" = some (.ref Z.f_price_of)
  F_upkeep : Fun K "upkeep" "upkeep" s_upkeep Z.f_upkeep Z.d_upkeep
  C_upkeep : FunC K "upkeep" "upkeep" s_upkeep Z.f_upkeep Z.d_upkeep Z.c_upkeep
  b_upkeep : Binds K Z.d_upkeep ["changes", "choice"] []
  g_upkeep : mg "upkeep" = some (.ref Z.f_upkeep)
  F_price : Fun K "price" "price" s_price Z.f_price Z.d_price
  C_price : FunC K "price" "price" s_price Z.f_price Z.d_price Z.c_price
  b_price : Binds K Z.d_price ["work", "choice"] []
  g_price : mg "price" = some (.ref Z.f_price)
  F_room : Fun K "room" "room" s_room Z.f_room Z.d_room
  C_room : FunC K "room" "room" s_room Z.f_room Z.d_room Z.c_room
  b_room : Binds K Z.d_room ["choice"] []
  g_room : mg "room" = some (.ref Z.f_room)
  F_cut_list : Fun K "cut_list" "cut_list" s_cut_list Z.f_cut_list Z.d_cut_list
  b_cut_list : Binds K Z.d_cut_list ["asks", "one"] []
  g_cut_list : mg "cut_list" = some (.ref Z.f_cut_list)
  F_cut : Fun K "cut" "cut" s_cut Z.f_cut Z.d_cut
  b_cut : Binds K Z.d_cut ["work", "choice"] []
  g_cut : mg "cut" = some (.ref Z.f_cut)
  F_l_bag : Fun K "_law_bag" "_law_bag" s_l_bag Z.f_l_bag Z.d_l_bag
  b_l_bag : Binds K Z.d_l_bag ["script"] []
  g_l_bag : mg "_law_bag" = some (.ref Z.f_l_bag)
  F_l_lot : Fun K "_law_lot" "_law_lot" s_l_lot Z.f_l_lot Z.d_l_lot
  b_l_lot : Binds K Z.d_l_lot ["bag", "many"] []
  g_l_lot : mg "_law_lot" = some (.ref Z.f_l_lot)
  F_l_columns : Fun K "_law_columns" "_law_columns" s_l_columns Z.f_l_columns Z.d_l_columns
  b_l_columns : Binds K Z.d_l_columns ["bag", "most"] []
  g_l_columns : mg "_law_columns" = some (.ref Z.f_l_columns)
  F_l_table : Fun K "_law_table" "_law_table" s_l_table Z.f_l_table Z.d_l_table
  b_l_table : Binds K Z.d_l_table ["bag", "most", "rows"] []
  g_l_table : mg "_law_table" = some (.ref Z.f_l_table)
  F_l_near : Fun K "_law_near" "_law_near" s_l_near Z.f_l_near Z.d_l_near
  b_l_near : Binds K Z.d_l_near ["bag", "table", "at"] []
  g_l_near : mg "_law_near" = some (.ref Z.f_l_near)
  F_l_question : Fun K "_law_question" "_law_question" s_l_question Z.f_l_question Z.d_l_question
  b_l_question : Binds K Z.d_l_question ["bag", "table"] []
  g_l_question : mg "_law_question" = some (.ref Z.f_l_question)
  F_l_used : Fun K "_law_used" "_law_used" s_l_used Z.f_l_used Z.d_l_used
  b_l_used : Binds K Z.d_l_used ["one", "question"] []
  g_l_used : mg "_law_used" = some (.ref Z.f_l_used)
  F_l_same : Fun K "_law_same" "_law_same" s_l_same Z.f_l_same Z.d_l_same
  b_l_same : Binds K Z.d_l_same ["found", "due"] []
  g_l_same : mg "_law_same" = some (.ref Z.f_l_same)
  F_l_choice : Fun K "_law_choice" "_law_choice" s_l_choice Z.f_l_choice Z.d_l_choice
  b_l_choice : Binds K Z.d_l_choice ["bag", "columns"] []
  g_l_choice : mg "_law_choice" = some (.ref Z.f_l_choice)
  F_l_cut : Fun K "_law_cut" "_law_cut" s_l_cut Z.f_l_cut Z.d_l_cut
  b_l_cut : Binds K Z.d_l_cut ["choice", "asks"] []
  g_l_cut : mg "_law_cut" = some (.ref Z.f_l_cut)
  F_law : Fun K "law" "law" s_law Z.f_law Z.d_law
  b_law : Binds K Z.d_law ["script"] []
  g_law : mg "law" = some (.ref Z.f_law)
  m_len : mg "len" = none
  m_range : mg "range" = none
  m_list : mg "list" = none
  m_sorted : mg "sorted" = none
  m_tuple : mg "tuple" = none
  m_min : mg "min" = none
  m_max : mg "max" = none
  m_enumerate : mg "enumerate" = none
  m_dict : mg "dict" = none
  m_isinstance : mg "isinstance" = none
  m_zip : mg "zip" = none
  m_bool : mg "bool" = none
  m_str : mg "str" = none
  m_int : mg "int" = none
  m_sum : mg "sum" = none
section
variable {P : Program} {w : World} {K : PySem.W.Frag} {mg : Str → Option Value} {base : Heap} {Z : Ad}
/-! ### a bag of numbers -/
def Bag (b bl : Addr) (H : Hp) : Prop := ∃ (ns : List Int) (k : Nat) (n : Int), b ≠ bl ∧ H b = some (.lst [.ref bl, .int k, .int n]) ∧ H bl = some (.lst (ns.map V.int))
theorem Bag.same {b bl : Addr} {H H' : Hp} (h : Bag b bl H) (s : Same H H') : Bag b bl H' := by
  obtain ⟨ns, k, n, e, h1, h2⟩ := h
  exact ⟨ns, k, n, e, s _ _ h1, s _ _ h2⟩
theorem Bag.upd {b bl p : Addr} {H : Hp} {o : HO} (h : Bag b bl H) (h1 : p ≠ b) (h2 : p ≠ bl) : Bag b bl (L2.upd H p o) := by
  obtain ⟨ns, k, n, e, g1, g2⟩ := h
  exact ⟨ns, k, n, e, keep_ne g1 (fun z => h1 z.symm), keep_ne g2 (fun z => h2 z.symm)⟩
theorem Bag.new {b bl p : Addr} {H : Hp} {o : HO} (h : Bag b bl H) (n : H p = none) : Bag b bl (L2.upd H p o) := h.same (Same.new (Same.refl H) n)
theorem Bag.ne {b bl p : Addr} {H : Hp} (h : Bag b bl H) (n : H p = none) : p ≠ b ∧ p ≠ bl := by
  obtain ⟨ns, k, m, e, g1, g2⟩ := h
  exact ⟨(ne_of_none g1 n).symm, (ne_of_none g2 n).symm⟩
theorem Kp.kTb {b bl : Addr} {H H' : Hp} (k : Kp b H H') (h : Bag b bl H) : KT H H' := by
  obtain ⟨ns, m, n, e, g1, g2⟩ := h
  exact k.kT g1
def spBag (K : PySem.W.Frag) : Sp := fun vs H Q _ => ∃ (a : Addr) (ns : List Int), vs = [.ref a] ∧ SqL K H a (ns.map V.int) ∧ ns.length ≤ 63 ∧ ∀ (b bl : Addr) (H' : Hp), Same H H' → H b = none → H bl = none → Bag b bl H' → Q (.ref b) H'
theorem ok_bag (T : Tx K mg Z) : FnOk P w K mg base CX0 1 Z.f_l_bag Z.d_l_bag ["script"] (spBag K) := by
  refine T.F_l_bag.ok sc_l_bag (fun vs H Q E h => ?_) (fun cdv A outer s H vs Q E hr h => ?_)
  · obtain ⟨a, ns, rfl, _⟩ := h
    rfl
  · obtain ⟨a, ns, rfl, hS, hl, q⟩ := h
    refine ⟨_, (pss_one (ps_ret (pe_lst (pa_cons (pe_callTy (cListSq K) (by rfl) T.m_list (by decide +kernel) (pa_cons (pe_slice (slLK K) (pv 0) po_none (po_some pe_int)) pa_nil)) (pa_cons pe_int (pa_cons pe_int pa_nil)))))), ?_⟩
    refine ⟨.ref a, rfl, _, rfl, a, _, rfl, hS, fun p np => ?_⟩
    have ecut : cutV (ns.map V.int) none (some (63 : Int)) = ns.map V.int := by
      unfold cutV
      rw [HT.sIx_none, show (63 : Int) = ((63 : Nat) : Int) from rfl, HT.sIx_nat, List.drop_zero, List.take_of_length_le (by rw [List.length_map]; omega)]
    rw [ecut]
    refine ⟨p, _, rfl, .inl (.inl (.inl upd_same)), fun l nl => ?_⟩
    refine ⟨(by show 3 ≤ sizeLine; decide), fun b nb => ?_⟩
    have s1 : Same H (upd H p (.lst (ns.map V.int))) := Same.new (Same.refl H) np
    have s2 : Same H (upd (upd H p (.lst (ns.map V.int))) l (.lst (ns.map V.int))) := Same.new s1 nl
    exact q b l _ (Same.new s2 nb) (Same.free s2 nb) (Same.free s1 nl) ⟨ns, (0 : Nat), (0 : Int), (fun e => by rw [e, upd_same] at nb; cases nb), upd_same, keep_new upd_same nb⟩
/-! ### _law_lot -/
def spLot (K : PySem.W.Frag) : Sp := fun vs H Q _ => ∃ (b bl : Addr) (m : Int), vs = [.ref b, .int m] ∧ Bag b bl H ∧ 0 < m ∧ m < 1073741824 ∧ ∀ (d : Int) (H' : Hp), Kp b H H' → Bag b bl H' → 0 ≤ d → d < m → Q (.int d) H'
set_option maxHeartbeats 4000000 in
theorem ok_lot (T : Tx K mg Z) : FnOk P w K mg base CX0 1 Z.f_l_lot Z.d_l_lot ["bag", "many"] (spLot K) := by
  refine T.F_l_lot.ok sc_l_lot (fun vs H Q E h => ?_) (fun cdv A outer s H vs Q E hr h => ?_)
  · obtain ⟨b, bl, m, rfl, _⟩ := h
    rfl
  · obtain ⟨b, bl, m, rfl, hB, h0, h1, q⟩ := h
    obtain ⟨ns, k, n, hne, hb, hbl⟩ := hB
    refine ⟨_, (pss_mid (ps_if (pt_cmpR op_eq (pe_ix (ixL K) (pv 0) pe_int (fun _ _ => rfl)) pe_int (nomark _)) (pss_cons (ps_set (i := 2) sc_l_lot.nd rfl (.inl rfl) (pe_ix (ixL K) (pv 0) pe_int (fun _ _ => rfl)))
      (pss_cons (ps_asg (pe_op op_add (pv 2) pe_int) (pg_sub (pv 0) pe_int set_list))
      (pss_cons (ps_set (i := 3) sc_l_lot.nd rfl (.inl rfl) pe_int)
      (pss_mid (ps_if (pt_cmpR op_lt (pv 2) (pe_callB (cLenSq K) (by rfl) T.m_len (by decide +kernel) (pa_cons (pe_ix (ixL K) (pv 0) pe_int (fun _ _ => rfl)) pa_nil)) (nomark _)) (pss_one (ps_set (i := 3) sc_l_lot.nd rfl (.inl rfl) (pe_ix (ixL K) (pe_ix (ixL K) (pv 0) pe_int (fun _ _ => rfl)) (pv 2) (fun _ _ => rfl)))) (pss_one (ps_if (pt_cmpR op_gt (pe_callB (cLenSq K) (by rfl) T.m_len (by decide +kernel) (pa_cons (pe_ix (ixL K) (pv 0) pe_int (fun _ _ => rfl)) pa_nil)) pe_int (nomark _)) (pss_one (ps_set (i := 3) sc_l_lot.nd rfl (.inl rfl) (pe_op op_add (pe_op op_mod (pe_ix (ixL K) (pe_ix (ixL K) (pv 0) pe_int (fun _ _ => rfl)) (pe_op op_mod (pe_op op_mul (pv 2) pe_int) (pe_callB (cLenSq K) (by rfl) T.m_len (by decide +kernel) (pa_cons (pe_ix (ixL K) (pv 0) pe_int (fun _ _ => rfl)) pa_nil))) (fun _ _ => rfl)) pe_int) (pe_op op_mul pe_int (pv 2))))) pss_nil)))
      (pss_cons (ps_set (i := 4) sc_l_lot.nd rfl (.inl rfl) (pe_op op_mod (pe_op op_mul (pe_op op_add (pe_op op_add (pe_op op_mod (pv 3) pe_int) (pe_op op_mul pe_int (pv 2))) pe_int) pe_int) pe_int))
      (pss_cons (ps_set (i := 5) sc_l_lot.nd rfl (.inl rfl) (pe_op op_mod (pe_op op_add (pe_op op_add (pe_op op_mul (pv 4) (pv 4)) (pe_op op_mul pe_int (pv 2))) pe_int) pe_int))
      (pss_cons (ps_set (i := 6) sc_l_lot.nd rfl (.inl rfl) (pe_op op_mod (pe_op op_add (pe_op op_add (pe_op op_mul (pv 5) (pv 5)) (pe_op op_mul pe_int (pv 4))) pe_int) pe_int))
      (pss_cons (ps_asg (pe_op op_add (pe_op op_fdivW (pe_op op_add (pe_op op_mul (pv 5) pe_int) (pv 6)) pe_int) pe_int) (pg_sub (pv 0) pe_int set_list))
      (pss_one (ps_if (pt_cmpR op_ge (pv 3) (pe_op op_pow pe_int pe_int) (nomark _)) (pss_one (ps_asg (pe_op op_fdivW (pv 3) (pe_op op_pow pe_int pe_int)) (pg_sub (pv 0) pe_int set_list))) pss_nil)))))))))) pss_nil)
      (pss_cons (ps_set (i := 7) sc_l_lot.nd rfl (.inl rfl) (pe_op op_mod (pe_ix (ixL K) (pv 0) pe_int (fun _ _ => rfl)) (pv 1)))
      (pss_cons (ps_asg (pe_op op_fdivW (pe_ix (ixL K) (pv 0) pe_int (fun _ _ => rfl)) (pv 1)) (pg_sub (pv 0) pe_int set_list))
      (pss_one (ps_ret (pv 7)))))), ?_⟩
    refine ⟨fun σ H' => ∃ (y2 y3 y4 y5 y6 : Option V) (k2 : Nat) (n2 : Int), σ = [some (.ref b), some (.int m), y2, y3, y4, y5, y6, none] ∧ Kp b H H' ∧ H' b = some (.lst [.ref bl, .int k2, .int n2]) ∧ H' bl = some (.lst (ns.map V.int)), ?_, fun σ H1 hM => ?_⟩
    · refine ⟨.ref b, rfl, b, _, 2, .int n, rfl, rfl, .inl (.inl hb), rfl, rfl, _, rfl, ite2 (fun e => ?_) (fun e => ?_)⟩
      · refine ⟨.ref b, rfl, b, _, 1, .int k, rfl, rfl, .inl (.inl hb), rfl, ?_⟩
        refine ⟨.int k, rfl, _, 1, rfl, rfl, .ref b, rfl, b, _, 1, 1, rfl, rfl, hb, rfl, ?_⟩
        have hb2 : (upd H b (.lst ([V.ref bl, .int k, .int n].set 1 (.int ((k : Int) + 1))))) b = some (.lst [.ref bl, .int ((k + 1 : Nat) : Int), .int n]) := by
          rw [upd_same]
          rfl
        have hbl2 : (upd H b (.lst ([V.ref bl, .int k, .int n].set 1 (.int ((k : Int) + 1))))) bl = some (.lst (ns.map V.int)) := keep_ne hbl (fun z => hne z.symm)
        have kp2 : Kp b H (upd H b (.lst ([V.ref bl, .int k, .int n].set 1 (.int ((k : Int) + 1))))) := fun c o hc hh => keep_ne hh hc
        refine ⟨fun σ H' => ∃ c : Int, σ = [some (.ref b), some (.int m), some (.int k), some (.int c), none, none, none, none] ∧ Kp b H H' ∧ H' b = some (.lst [.ref bl, .int ((k + 1 : Nat) : Int), .int n]) ∧ H' bl = some (.lst (ns.map V.int)), ?_, fun σ H2 hM => ?_⟩
        · refine ⟨.int k, rfl, .ref b, rfl, b, _, 0, .ref bl, rfl, rfl, .inl (.inl hb2), rfl, bl, _, rfl, .inl (.inl (.inl hbl2)), _, _, rfl, rfl, _, rfl, ite2 (fun e2 => ?_) (fun e2 => ?_)⟩
          · have e3 : (k : Int) < ((ns.map V.int).length : Nat) := of_decide_eq_true e2
            have e4 : k < ns.length := by
              rw [List.length_map] at e3
              omega
            refine ⟨.ref b, rfl, b, _, 0, .ref bl, rfl, rfl, .inl (.inl hb2), rfl, .int k, rfl, bl, _, _, .int ns[k], rfl, rfl, .inl (.inl hbl2), atI_nat (by rw [List.getElem?_map, List.getElem?_eq_getElem e4]; rfl), ?_⟩
            exact ⟨_, rfl, kp2, hb2, hbl2⟩
          · refine ⟨.ref b, rfl, b, _, 0, .ref bl, rfl, rfl, .inl (.inl hb2), rfl, bl, _, rfl, .inl (.inl (.inl hbl2)), _, _, rfl, rfl, _, rfl, ite2 (fun e3 => ?_) (fun e3 => ?_)⟩
            · have e4 : (0 : Int) < ((ns.map V.int).length : Nat) := of_decide_eq_true e3
              have hl0 : 0 < ns.length := by
                rw [List.length_map] at e4
                omega
              refine ⟨.ref b, rfl, b, _, 0, .ref bl, rfl, rfl, .inl (.inl hb2), rfl, .int k, rfl, _, 5, rfl, rfl, .inr ⟨by decide, by decide⟩, .ref b, rfl, b, _, 0, .ref bl, rfl, rfl, .inl (.inl hb2), rfl, bl, _, rfl, .inl (.inl (.inl hbl2)), _, _, rfl, rfl, e4, ?_⟩
              rw [List.length_map]
              have g0 : 0 ≤ ((k : Int) * 5) % (ns.length : Int) := Int.emod_nonneg _ (by omega)
              have g1 : ((k : Int) * 5) % (ns.length : Int) < (ns.length : Int) := Int.emod_lt_of_pos _ (by omega)
              have hj : (((k : Int) * 5) % (ns.length : Int)).toNat < ns.length := by omega
              refine ⟨bl, _, _, .int ns[(((k : Int) * 5) % (ns.length : Int)).toNat], rfl, rfl, .inl (.inl hbl2), L2.at_of (j := (((k : Int) * 5) % (ns.length : Int)).toNat) (by omega) (by rw [List.getElem?_map, List.getElem?_eq_getElem hj]; rfl), _, 1000003, rfl, rfl, (by show (0 : Int) < 1000003; decide), .int k, rfl, 97, _, rfl, rfl, .inl ⟨by decide, by decide⟩, _, _, rfl, rfl, ?_⟩
              exact ⟨_, rfl, kp2, hb2, hbl2⟩
            · exact ⟨_, rfl, kp2, hb2, hbl2⟩
        · obtain ⟨c, rfl, kp3, hb3, hbl3⟩ := hM
          have em : ∀ (x : Int) (d : Int), 0 < d → 0 ≤ x % d ∧ x % d < d := fun x d hd => ⟨Int.emod_nonneg _ (by omega), Int.emod_lt_of_pos _ hd⟩
          have b64 : ∀ x : Int, 0 ≤ x → x < 2147483647 → -(2 ^ 64) < x ∧ x < 2 ^ 64 := fun x h0 h1 => ⟨by omega, by omega⟩
          refine ⟨.int c, rfl, c, 2147483629, rfl, rfl, (by show (0 : Int) < 2147483629; decide), .int k, rfl, 83, _, rfl, rfl, .inl ⟨by decide, by decide⟩, _, _, rfl, rfl, _, 5, rfl, rfl, _, 48271, rfl, rfl, .inr ⟨by decide, by decide⟩, _, 998244353, rfl, rfl, (by show (0 : Int) < 998244353; decide), ?_⟩
          refine ⟨_, rfl, _, rfl, _, _, rfl, rfl, .inl (b64 _ (em _ 998244353 (by decide)).1 (Int.lt_trans (em _ 998244353 (by decide)).2 (by decide))), .int k, rfl, 69621, _, rfl, rfl, .inl ⟨by decide, by decide⟩, _, _, rfl, rfl, _, 17, rfl, rfl, _, 2147483647, rfl, rfl, (by show (0 : Int) < 2147483647; decide), ?_⟩
          refine ⟨_, rfl, _, rfl, _, _, rfl, rfl, .inl (b64 _ (em _ 2147483647 (by decide)).1 (em _ 2147483647 (by decide)).2), _, rfl, 3, _, rfl, rfl, .inl ⟨by decide, by decide⟩, _, _, rfl, rfl, _, 1, rfl, rfl, _, 1000000007, rfl, rfl, (by show (0 : Int) < 1000000007; decide), ?_⟩
          refine ⟨_, rfl, _, 1000000007, rfl, rfl, .inr ⟨by decide, by decide⟩, _, rfl, _, _, rfl, rfl, _, 4, rfl, rfl, wide_div (b := 4) (by decide) (by decide) (by decide) (by decide), _, 1, rfl, rfl, .ref b, rfl, b, _, 2, 2, rfl, rfl, hb3, rfl, ?_⟩
          refine ⟨.int c, rfl, 10, 18, rfl, rfl, ⟨by decide, by decide, by decide⟩, _, _, rfl, rfl, _, rfl, ite2 (fun e6 => ?_) (fun e6 => ?_)⟩
          · refine ⟨.int c, rfl, 10, 18, rfl, rfl, ⟨by decide, by decide, by decide⟩, _, _, rfl, rfl, wide_div (b := 60) (by decide) (by decide) (by decide) (by decide), .ref b, rfl, b, _, 2, 2, rfl, rfl, upd_same, rfl, ?_⟩
            exact ⟨_, _, _, _, _, k + 1, _, rfl, fun c o hc hh => keep_ne (keep_ne (kp3 c o hc hh) hc) hc, upd_same, keep_ne (keep_ne hbl3 (fun z => hne z.symm)) (fun z => hne z.symm)⟩
          · exact ⟨_, _, _, _, _, k + 1, _, rfl, fun c o hc hh => keep_ne (kp3 c o hc hh) hc, upd_same, keep_ne hbl3 (fun z => hne z.symm)⟩
      · exact ⟨_, _, _, _, _, k, n, rfl, Kp.rfl', hb, hbl⟩
    · obtain ⟨y2, y3, y4, y5, y6, k2, n2, rfl, kp1, hb1, hbl1⟩ := hM
      refine ⟨.ref b, rfl, b, _, 2, .int n2, rfl, rfl, .inl (.inl hb1), rfl, .int m, rfl, n2, m, rfl, rfl, h0, ?_⟩
      refine ⟨.ref b, rfl, b, _, 2, .int n2, rfl, rfl, .inl (.inl hb1), rfl, .int m, rfl, n2, m, rfl, rfl, wide_div (b := 30) h0 (by omega) (by decide) (by decide), ?_⟩
      refine ⟨.ref b, rfl, b, _, 2, 2, rfl, rfl, hb1, rfl, _, rfl, ?_⟩
      refine q _ _ ?_ ⟨ns, k2, n2 / m, hne, upd_same, keep_ne hbl1 (fun z => hne z.symm)⟩ (Int.emod_nonneg _ (by omega)) (Int.emod_lt_of_pos _ h0)
      exact fun c o hc hh => keep_ne (kp1 c o hc hh) hc

/-! ### _law_columns -/
def alpha : List Nat := [97, 98, 99, 100, 101, 102, 103, 104, 105, 106, 107, 108, 109, 110, 111, 112, 113, 114, 115, 116, 117, 118, 119, 120, 121, 122]
def spColumns (K : PySem.W.Frag) : Sp := fun vs H Q _ => ∃ (b bl : Addr) (m : Nat), vs = [.ref b, .int m] ∧ Bag b bl H ∧ 1 ≤ m ∧ m ≤ 26 ∧ ∀ (l : List Nat) (H' : Hp), Kp b H H' → Bag b bl H' → Cols l → 1 ≤ l.length → l.length ≤ m → Q (tx l) H'
theorem ok_columns (T : Tx K mg Z) : FnOk P w K mg base CX0 2 Z.f_l_columns Z.d_l_columns ["bag", "most"] (spColumns K) := by
  have G_l_lot : FnOk P w K mg base CX0 1 Z.f_l_lot Z.d_l_lot ["bag", "many"] (spLot K) := ok_lot T
  refine T.F_l_columns.ok sc_l_columns (fun vs H Q E h => ?_) (fun cdv A outer s H vs Q E hr h => ?_)
  · obtain ⟨b, bl, m, rfl, _⟩ := h
    rfl
  · obtain ⟨b, bl, m, rfl, hB, hm1, hm, q⟩ := h
    refine ⟨_, (pss_cons (ps_set (i := 2) sc_l_columns.nd rfl (.inl rfl) (pe_callTy call_list_txt (by rfl) T.m_list (by decide +kernel) (pa_cons pe_str pa_nil)))
      (pss_cons (ps_set (i := 3) sc_l_columns.nd rfl (.inl rfl) (pe_lst pa_nil))
      (pss_cons (ps_for PassesOwn.never rfl (pi_range1 (by rfl) T.m_range (pa_cons (pe_op op_add pe_int (pe_call G_l_lot (hr.mono (by omega)) (by rfl) T.g_l_lot T.F_l_lot.kp T.b_l_lot .nil pass0 (pa_cons (pv 0) (pa_cons (pv 1) pa_nil)))) pa_nil)) (pg_name (i := 4) sc_l_columns.nd rfl (.inl rfl)) (pss_one (ps_expr (bmK K PySem.F.plainAttrs_list PySem.F.slot_list_append PySem.F.type_list_append mt_append (pv 3) (pa_cons (bmK K PySem.F.plainAttrs_list PySem.F.slot_list_pop PySem.F.type_list_pop mt_popAt (pv 2) (pa_cons (pe_call G_l_lot (hr.mono (by omega)) (by rfl) T.g_l_lot T.F_l_lot.kp T.b_l_lot .nil pass0 (pa_cons (pv 0) (pa_cons (pe_callB (cLenSq K) (by rfl) T.m_len (by decide +kernel) (pa_cons (pv 2) pa_nil)) pa_nil))) pa_nil)) pa_nil)))))
      (pss_one (ps_ret (pe_join pe_str (pe_callB cr_sortedS (by rfl) T.m_sorted (by decide +kernel) (pa_cons (pv 3) pa_nil)))))))), ?_⟩
    have ea : (Str.ofString "abcdefghijklmnopqrstuvwxyz").cps.toList = alpha := by decide +kernel
    refine ⟨_, rfl, (by decide +kernel), fun L nL => ?_⟩
    rw [ea]
    refine ⟨Nat.zero_le _, fun F nF => ?_⟩
    have nFL : F ≠ L := fun e => by
      rw [e, upd_same] at nF
      cases nF
    have nF0 : H F = none := by
      rw [upd_ne nFL] at nF
      exact nF
    have nLb := hB.ne nL
    have nFb := hB.ne nF0
    have hB2 := (hB.new nL (o := .lst (alpha.map sg))).new nF (o := .lst [])
    have hL2 : (upd (upd H L (.lst (alpha.map sg))) F (.lst [])) L = some (.lst (alpha.map sg)) := keep_new upd_same nF
    have hF2 : (upd (upd H L (.lst (alpha.map sg))) F (.lst [])) F = some (.lst []) := upd_same
    have kp2 : Kp b H (upd (upd H L (.lst (alpha.map sg))) F (.lst [])) := (Kp.new Kp.rfl' nL).new nF
    generalize upd (upd H L (.lst (alpha.map sg))) F (.lst []) = H2 at hB2 hL2 hF2 kp2 ⊢
    refine ⟨.ref b, rfl, .int m, rfl, b, bl, m, rfl, hB2, by omega, by omega, fun g H3 kp3 hB3 g0 g1 => ?_⟩
    have hL3 := kp3 _ _ nLb.1 hL2
    have hF3 := kp3 _ _ nFb.1 hF2
    refine ⟨1, _, rfl, rfl, _, rfl, by omega, by omega, for_range (fun i σ H' => ∃ (ll ff : List Nat) (y : Option V), σ = [some (.ref b), some (.int m), some (.ref L), some (.ref F), y] ∧ Kp b H H' ∧ Bag b bl H' ∧ H' L = some (.lst (ll.map sg)) ∧ H' F = some (.lst (ff.map sg)) ∧ (ll ++ ff).Perm alpha ∧ ff.length = i)
      ⟨alpha, [], none, rfl, kp2.trans kp3, hB3, hL3, hF3, by rw [List.append_nil], rfl⟩ (fun i σ H' hi hP => ?_) (fun σ H' hP => ?_)⟩
    · obtain ⟨ll, ff, y, rfl, kp, hB1, hL, hF, hp, hl⟩ := hP
      have hlen : ll.length + ff.length = 26 := by
        have := hp.length_eq
        rw [List.length_append] at this
        exact this
      have hll : 0 < ll.length := by omega
      refine ⟨.ref F, rfl, .inl ⟨rfl, _, .inl (.inl hF)⟩, .ref L, rfl, .inl ⟨rfl, _, .inl (.inl hL)⟩, .ref b, rfl, .ref L, rfl, L, _, rfl, .inl (.inl (.inl hL)), b, bl, _, rfl, hB1, ?_, ?_, fun d H4 kp4 hB4 d0 d1 => ?_⟩
      · rw [List.length_map]
        omega
      · rw [List.length_map]
        omega
      · rw [List.length_map] at d1
        have hd : d.toNat < ll.length := by omega
        have hL4 : H4 L = some (.lst (ll.map sg)) := kp4 _ _ nLb.1 hL
        have hF4 : (upd H4 L (.lst ((ll.map sg).eraseIdx d.toNat))) F = some (.lst (ff.map sg)) := keep_ne (kp4 _ _ nFb.1 hF) nFL
        have hy : ll[d.toNat]? = some ll[d.toNat] := List.getElem?_eq_getElem hd
        refine ⟨L, _, d, d.toNat, sg ll[d.toNat], rfl, rfl, hL4, by omega, by omega, PySem.seqIndex_of d0 (by rw [List.length_map]; exact d1), ?_, F, _, _, rfl, rfl, hF4, ?_, ?_⟩
        · rw [List.getElem?_map, hy]
          rfl
        · rw [List.length_map]
          exact small1000 (by omega)
        · refine ⟨ll.eraseIdx d.toNat, ff ++ [ll[d.toNat]], _, rfl, ?_, ?_, ?_, ?_, (popped hy ff).trans hp, by rw [List.length_append, hl]; rfl⟩
          · exact ((kp.trans kp4).mut nL).mut nF0
          · exact (hB4.upd nLb.1 nLb.2).upd nFb.1 nFb.2
          · rw [upd_ne nFL.symm, upd_same, erase_map]
          · rw [upd_same, List.map_append]
            rfl
    · obtain ⟨ll, ff, y, rfl, kp, hB1, hL, hF, hp, hl⟩ := hP
      have hm2 : 1 ≤ ff.length ∧ ff.length ≤ m := by
        rw [hl]
        omega
      refine ⟨⟨_, rfl⟩, .ref F, rfl, F, ff.map sS, rfl, .inl (.inl (by rw [← map_sg]; exact hF)), by rw [List.length_map]; omega, fun ys p hys hso np => ?_⟩
      obtain ⟨l, rfl, pl⟩ := perm_signs hys
      have ndA : (ll ++ ff).Nodup := hp.nodup_iff.mpr (by decide)
      have ndf : ff.Nodup := (List.nodup_append.mp ndA).2.1
      have ndl : l.Nodup := pl.nodup_iff.mpr ndf
      refine ⟨_, p, _, rfl, rfl, .inl (.inl (.inl upd_same)), ?_, ?_⟩
      · rw [show (Str.ofString "").length = 0 by decide +kernel, Nat.mul_zero, Nat.add_zero, signs_len, pl.length_eq]
        exact Nat.le_of_lt (small1000 (by omega))
      · rw [join_signs]
        refine q l _ (kp.new np) (hB1.new np) ⟨strict_of (sorted_signs l hso) ndl, fun c hc => ?_⟩ (by rw [pl.length_eq]; exact hm2.1) (by rw [pl.length_eq]; exact hm2.2)
        have hc2 : c ∈ alpha := hp.mem_iff.mp (List.mem_append_right _ (pl.mem_iff.mp hc))
        have : ∀ c ∈ alpha, 97 ≤ c ∧ c ≤ 122 := by decide
        exact this c hc2

/-! ### _law_table -/
def spTable (K : PySem.W.Frag) : Sp := fun vs H Q _ => ∃ (b bl : Addr) (most rn : Nat), vs = [.ref b, .int most, .int rn] ∧ Bag b bl H ∧ 1 ≤ most ∧ most ≤ 26 ∧ rn ≤ 900 ∧
  ∀ (cols : List Nat) (rows : List (List Int)) (v : V) (H' : Hp), Kp b H H' → Bag b bl H' → Fz H' v (tabD cols rows) → Cols cols → 1 ≤ cols.length → cols.length ≤ most → RowsOk cols.length rows → rows.length ≤ rn → Q v H'
theorem ok_table (T : Tx K mg Z) : FnOk P w K mg base CX0 3 Z.f_l_table Z.d_l_table ["bag", "most", "rows"] (spTable K) := by
  have G_l_lot : FnOk P w K mg base CX0 1 Z.f_l_lot Z.d_l_lot ["bag", "many"] (spLot K) := ok_lot T
  have G_l_columns : FnOk P w K mg base CX0 2 Z.f_l_columns Z.d_l_columns ["bag", "most"] (spColumns K) := ok_columns T
  refine T.F_l_table.ok sc_l_table (fun vs H Q E h => ?_) (fun cdv A outer s H vs Q E hr h => ?_)
  · obtain ⟨b, bl, most, rn, rfl, _⟩ := h
    rfl
  · obtain ⟨b, bl, most, rn, rfl, hB, hm1, hm2, hrn, q⟩ := h
    refine ⟨_, (pss_cons (ps_set (i := 3) sc_l_table.nd rfl (.inl rfl) (pe_call G_l_columns (hr.mono (by omega)) (by rfl) T.g_l_columns T.F_l_columns.kp T.b_l_columns .nil pass0 (pa_cons (pv 0) (pa_cons (pv 1) pa_nil))))
      (pss_cons (ps_set (i := 4) sc_l_table.nd rfl (.inr rfl) (pe_ix (ixL K) (pe_lst (pa_cons pe_int (pa_cons pe_int (pa_cons pe_int (pa_cons pe_int pa_nil))))) (pe_call G_l_lot (hr.mono (by omega)) (by rfl) T.g_l_lot T.F_l_lot.kp T.b_l_lot .nil pass0 (pa_cons (pv 0) (pa_cons pe_int pa_nil))) (fun _ _ => rfl)))
      (pss_cons (ps_set (i := 5) sc_l_table.nd rfl (.inl rfl) (pe_lst pa_nil))
      (pss_cons (ps_for PassesOwn.never rfl (pi_range1 (by rfl) T.m_range (pa_cons (pe_call G_l_lot (hr.mono (by omega)) (by rfl) T.g_l_lot T.F_l_lot.kp T.b_l_lot .nil pass0 (pa_cons (pv 0) (pa_cons (pe_op op_add (pv 2) pe_int) pa_nil))) pa_nil)) (pg_name (i := 6) sc_l_table.nd rfl (.inl rfl)) (pss_one (ps_expr (bmK K PySem.F.plainAttrs_list PySem.F.slot_list_append PySem.F.type_list_append mt_append (pv 5) (pa_cons (pe_callTy (cTupSq K) (by rfl) T.m_tuple (by decide +kernel) (pa_cons (pe_lc (own := [("letter", 7)]) (tt := tYes) (by rfl) sc_l_table.nd (pi_str (pv 3)) (blkOk_by (own := [("letter", 7)]) (by kernel_rfl)) (fun _ _ _ _ _ => (pg_name (i := 7) sc_l_table.nd rfl (.inl rfl))) (fun _ _ _ _ _ => pts_nil) (fun _ _ _ _ _ => (pe_call G_l_lot (hr.mono (by omega)) (by rfl) T.g_l_lot T.F_l_lot.kp T.b_l_lot .nil pass0 (pa_cons (pv 0) (pa_cons (pv 4) pa_nil))))) pa_nil)) pa_nil)))))
      (pss_one (ps_ret (pe_tup (pa_cons (pv 3) (pa_cons (pe_callTy (cTupSq K) (by rfl) T.m_tuple (by decide +kernel) (pa_cons (pv 5) pa_nil)) pa_nil))))))))), ?_⟩
    refine ⟨.ref b, rfl, .int most, rfl, b, bl, most, rfl, hB, hm1, hm2, fun cols H1 kp1 hB1 hc hc1 hc2 => ?_⟩
    -- spread
    refine ⟨(by show 4 ≤ sizeLine; decide), fun L nL => ?_⟩
    have nLb := hB1.ne nL
    have hB2 := hB1.new nL (o := .lst [.int 2, .int 3, .int 6, .int 1000])
    have hL2 : (upd H1 L (.lst [.int 2, .int 3, .int 6, .int 1000])) L = some (.lst [.int 2, .int 3, .int 6, .int 1000]) := upd_same
    have kp2 : Kp b H (upd H1 L (.lst [.int 2, .int 3, .int 6, .int 1000])) := kp1.new nL
    generalize upd H1 L (.lst [.int 2, .int 3, .int 6, .int 1000]) = H2 at hB2 hL2 kp2 ⊢
    refine ⟨.ref b, rfl, b, bl, 4, rfl, hB2, by decide, by decide, fun e H3 kp3 hB3 e0 e1 => ?_⟩
    obtain ⟨t, ht, hat⟩ := at_ints (ns := [2, 3, 6, 1000]) e0 e1
    have htb : 0 < t ∧ t ≤ 1000 := by
      have : ∀ z ∈ ([2, 3, 6, 1000] : List Int), 0 < z ∧ z ≤ 1000 := by decide
      exact this t ht
    refine ⟨L, [2, 3, 6, 1000].map V.int, e, .int t, rfl, rfl, .inl (.inl (kp3 _ _ nLb.1 hL2)), hat, ?_⟩
    have kpA : Kp b H H3 := kp2.trans kp3
    -- found
    refine ⟨Nat.zero_le _, fun D nD => ?_⟩
    have nDb := hB3.ne nD
    have nDH : H D = none := Kp.none kpA nDb.1 nD
    have hB4 := hB3.new nD (o := .lst [])
    have hD4 : (upd H3 D (.lst [])) D = some (.lst []) := upd_same
    have kp4 : Kp b H (upd H3 D (.lst [])) := kpA.new nD
    generalize upd H3 D (.lst []) = H4 at hB4 hD4 kp4 ⊢
    refine ⟨.ref b, rfl, .int rn, rfl, rn, 1, rfl, rfl, b, bl, _, rfl, hB4, by omega, by omega, fun m H5 kp5 hB5 m0 m1 => ?_⟩
    have hD5 := kp5 _ _ nDb.1 hD4
    refine ⟨m, rfl, by omega, by omega, for_range (fun i σ H' => ∃ (rows : List (List Int)) (vs : List V) (y : Option V), σ = [some (.ref b), some (.int most), some (.int rn), some (tx cols), some (.int t), some (.ref D), y, none] ∧ Kp b H H' ∧ Bag b bl H' ∧ H' D = some (.lst vs) ∧ FzA H' vs (rows.map rowD) ∧ RowsOk cols.length rows ∧ rows.length = i)
      ⟨[], [], none, rfl, kp4.trans kp5, hB5, hD5, .nil, (fun _ h => nomatch h), rfl⟩ (fun i σ H6 hi hP => ?_) (fun σ H6 hP => ?_)⟩
    · obtain ⟨rows, vs, y, rfl, kp6, hB6, hD6, fvs, hok, hln⟩ := hP
      refine ⟨.ref D, rfl, .inl ⟨rfl, _, .inl (.inl hD6)⟩, tx cols, rfl, _, rfl, fun D3 nD3 => lc_it walk_str (fun j H' => ∃ row : List Int, Kp b H6 H' ∧ Bag b bl H' ∧ H' D3 = some (.lst (row.map V.int)) ∧ row.length = j ∧ ∀ x ∈ row, 0 ≤ x ∧ x < 1000)
        ⟨[], Kp.rfl'.new nD3, hB6.new nD3, upd_same, rfl, fun _ h => nomatch h⟩ (fun _ _ _ _ => trivial) (fun j x H7 H8 hj hP hY => ?_) (fun H7 hP => ?_)⟩
      · obtain ⟨row, kp7, hB7, hD7, hl7, hx7⟩ := hP
        obtain ⟨rfl, c, hcc, rfl⟩ := hY
        have n3b := hB6.ne nD3
        have hj2 : j < cols.length := by simpa using hj
        refine ⟨rfl, .ref b, rfl, .int t, rfl, b, bl, t, rfl, hB7, htb.1, by omega, fun g H9 kp9 hB9 g0 g1 => ?_⟩
        refine ⟨row.map V.int, kp9 _ _ n3b.1 hD7, by rw [List.length_map]; exact small1000 (by omega), row ++ [g], (kp7.trans kp9).mut nD3, hB9.upd n3b.1 n3b.2, by rw [upd_same, List.map_append]; rfl, by rw [List.length_append, hl7]; rfl, fun u hu => ?_⟩
        rcases List.mem_append.mp hu with z | z
        · exact hx7 u z
        · rw [List.mem_singleton.mp z]
          exact ⟨g0, by omega⟩
      · obtain ⟨row, kp7, hB7, hD7, hl7, hx7⟩ := hP
        have hl8 : row.length = cols.length := by simpa using hl7
        refine ⟨D3, row.map V.int, rfl, .inl ⟨.inl (.inl hD7), fun r nr => ?_⟩⟩
        have hD8 : H7 D = some (.lst vs) := kp7 _ _ nDb.1 hD6
        have hD9 : (upd H7 r (.tup (row.map V.int))) D = some (.lst vs) := keep_new hD8 nr
        have kt : Kt H6 H7 := (kp7.kTb hB6).1
        refine ⟨D, vs, .ref r, rfl, rfl, hD9, by rw [fvs.len, List.length_map]; exact small1000 (by omega), rows ++ [row], vs ++ [.ref r], _, rfl, ((kp6.trans kp7).new nr).mut nDH, (hB7.new nr).upd nDb.1 nDb.2, upd_same, ?_, fun x hx => ?_, by rw [List.length_append, hln]; rfl⟩
        · rw [List.map_append]
          exact (FzA.snoc ((fvs.kt kt).kt (.new nr)) (row_made nr)).kt (.lst hD9)
        · rcases List.mem_append.mp hx with z | z
          · exact hok x z
          · rw [List.mem_singleton.mp z]
            exact ⟨hl8, hx7⟩
    · obtain ⟨rows, vs, y, rfl, kp6, hB6, hD6, fvs, hok, hln⟩ := hP
      refine ⟨tx cols, rfl, .ref D, rfl, D, vs, rfl, .inl ⟨.inl (.inl hD6), fun R nR => ⟨(by show 2 ≤ sizeLine; decide), fun t2 nt2 => ?_⟩⟩⟩
      have f1 : Fz (upd H6 R (.tup vs)) (.ref R) (rowsD rows) := Fz.made nR fvs
      exact q cols rows (.ref t2) _ ((kp6.new nR).new nt2) ((hB6.new nR).new nt2) (Fz.made nt2 (.cons (.str _) (.cons f1 .nil))) hc hc1 hc2 hok (by omega)

/-! ### _law_near -/
def spNear (K : PySem.W.Frag) : Sp := fun vs H Q _ => ∃ (b bl : Addr) (tb : V) (cols : List Nat) (rows : List (List Int)) (at_ : Nat), vs = [.ref b, tb, .int at_] ∧ Bag b bl H ∧ Fz H tb (tabD cols rows) ∧ RowsOk cols.length rows ∧ at_ < cols.length ∧ rows.length ≤ 1000 ∧
  ∀ (x : Int) (H' : Hp), Kp b H H' → Bag b bl H' → 0 ≤ x → x < 1000 → Q (.int x) H'
theorem ok_near (T : Tx K mg Z) : FnOk P w K mg base CX0 2 Z.f_l_near Z.d_l_near ["bag", "table", "at"] (spNear K) := by
  have G_l_lot : FnOk P w K mg base CX0 1 Z.f_l_lot Z.d_l_lot ["bag", "many"] (spLot K) := ok_lot T
  refine T.F_l_near.ok sc_l_near (fun vs H Q E h => ?_) (fun cdv A outer s H vs Q E hr h => ?_)
  · obtain ⟨b, bl, tb, cols, rows, at_, rfl, _⟩ := h
    rfl
  · obtain ⟨b, bl, tb, cols, rows, at_, rfl, hB, fT, hrs, hat, hrl, q⟩ := h
    obtain ⟨t, R, vs, rfl, ht, hRR, fvs⟩ := tab_open fT
    refine ⟨_, (pss_cons (ps_set (i := 3) sc_l_near.nd rfl (.inl rfl) (pe_call G_l_lot (hr.mono (by omega)) (by rfl) T.g_l_lot T.F_l_lot.kp T.b_l_lot .nil pass0 (pa_cons (pv 0) (pa_cons pe_int pa_nil))))
      (pss_cons (ps_if (PW.pt (pw_or (pt_cmpR (eqDK K hr.units) (pe_ix (ixT K) (pv 1) pe_int (fun _ _ => rfl)) (pe_tup pa_nil) (nomark _)) (pw_or1 (pt_cmpR op_eq (pv 3) pe_int (nomark _))))) (pss_one (ps_ret (pe_call G_l_lot (hr.mono (by omega)) (by rfl) T.g_l_lot T.F_l_lot.kp T.b_l_lot .nil pass0 (pa_cons (pv 0) (pa_cons (pe_ix (ixL K) (pe_lst (pa_cons pe_int (pa_cons pe_int pa_nil))) (pe_call G_l_lot (hr.mono (by omega)) (by rfl) T.g_l_lot T.F_l_lot.kp T.b_l_lot .nil pass0 (pa_cons (pv 0) (pa_cons pe_int pa_nil))) (fun _ _ => rfl)) pa_nil))))) pss_nil)
      (pss_cons (ps_set (i := 4) sc_l_near.nd rfl (.inl rfl) (pe_ix (ixT K) (pe_ix (ixT K) (pe_ix (ixT K) (pv 1) pe_int (fun _ _ => rfl)) (pe_call G_l_lot (hr.mono (by omega)) (by rfl) T.g_l_lot T.F_l_lot.kp T.b_l_lot .nil pass0 (pa_cons (pv 0) (pa_cons (pe_callB (cLenSq K) (by rfl) T.m_len (by decide +kernel) (pa_cons (pe_ix (ixT K) (pv 1) pe_int (fun _ _ => rfl)) pa_nil)) pa_nil))) (fun _ _ => rfl)) (pv 2) (fun _ _ => rfl)))
      (pss_one (ps_ret (pe_callB (call_min2 rfl) (by rfl) T.m_min (by decide +kernel) (pa_cons pe_int (pa_cons (pe_callB (call_max2 rfl) (by rfl) T.m_max (by decide +kernel) (pa_cons pe_int (pa_cons (pe_op op_add (pv 4) (pe_ix (ixL K) (pe_lst (pa_cons pe_int (pa_cons pe_int (pa_cons pe_int (pa_cons pe_int (pa_cons (pe_un un_neg pe_int) pa_nil)))))) (pv 3) (fun _ _ => rfl))) pa_nil))) pa_nil)))))))), ?_⟩
    refine ⟨.ref b, rfl, b, bl, 6, rfl, hB, by decide, by decide, fun way H1 kp1 hB1 w0 w1 => ?_⟩
    have kt1 : Kt H H1 := (kp1.kTb hB).1
    -- one more is drawn
    have pick2 : ∀ (H2 : Hp), Kp b H H2 → Bag b bl H2 → tRet (tCall (spLot K) [] E0 (tCons (tVar 0) (tCons (tOp (rIxL K) (tLst (tCons (tC (V.int 4)) (tCons (tC (V.int 1000)) tNil))) (tCall (spLot K) [] E0 (tCons (tVar 0) (tCons (tC (V.int 2)) tNil)))) tNil))) { nx := fun x H' => Q V.non H', rt := Q } [some (.ref b), some (.ref t), some (.int at_), some (.int way), none] H2 := by
      intro H2 kp2 hB2
      refine ⟨.ref b, rfl, (by show 2 ≤ sizeLine; decide), fun L nL => ?_⟩
      have nLb := hB2.ne nL
      refine ⟨.ref b, rfl, b, bl, 2, rfl, hB2.new nL, by decide, by decide, fun d H3 kp3 hB3 d0 d1 => ?_⟩
      obtain ⟨z, hz, hza⟩ := at_ints (ns := [4, 1000]) d0 d1
      have hz2 : ∀ z ∈ ([4, 1000] : List Int), 0 < z ∧ z ≤ 1000 := by decide
      have hz3 := hz2 z hz
      refine ⟨L, [4, 1000].map V.int, d, .int z, rfl, rfl, .inl (.inl (kp3 _ _ nLb.1 upd_same)), hza, b, bl, z, rfl, hB3, hz3.1, by omega, fun x H4 kp4 hB4 x0 x1 => ?_⟩
      exact q x _ (((kp2.new nL).trans kp3).trans kp4) hB4 x0 (by omega)
    refine ⟨.ref t, rfl, t, _, 1, .ref R, rfl, rfl, .inl (.inl (kt1 _ _ ht)), rfl, (by show 0 ≤ sizeLine; decide), fun p np => ?_⟩
    have hp : Fz (upd H1 p (.tup [])) (.ref p) (.tuple []) := Fz.made np .nil
    have hRp : Fz (upd H1 p (.tup [])) (.ref R) (rowsD rows) := ((Fz.tup hRR fvs).kt kt1).kt (.new np)
    have kp2 : Kp b H (upd H1 p (.tup [])) := kp1.new np
    have hB2 := hB1.new np (o := .tup [])
    have kt2 : Kt H (upd H1 p (.tup [])) := kt1.trans (.new np)
    generalize upd H1 p (.tup []) = H2 at hp hRp kp2 hB2 kt2 ⊢
    refine ⟨_, _, hRp.to, hp.to, shaped_rows rows, shaped_rows [], _, rfl, ite2 (fun ee => ?_) (fun ee => ?_)⟩
    · exact pick2 H2 kp2 hB2
    · have ne : rows ≠ [] := fun z => by
        rw [z] at ee
        exact ee rfl
      have hpos : 0 < rows.length := List.length_pos_iff.mpr ne
      refine ⟨.int way, rfl, rfl, _, rfl, ite2 (fun e5 => ?_) (fun e5 => ?_)⟩
      · exact pick2 H2 kp2 hB2
      · have e52 : way ≠ 5 := fun z => e5 (decide_eq_true (by rw [z]))
        have ht2 := kt2 _ _ ht
        have hRR2 := kt2 _ _ hRR
        have fvs2 := fvs.kt kt2
        have hvl : vs.length = rows.length := by rw [fvs2.len, List.length_map]
        refine ⟨.ref t, rfl, t, _, 1, .ref R, rfl, rfl, .inl (.inl ht2), rfl, .ref b, rfl, .ref t, rfl, t, _, 1, .ref R, rfl, rfl, .inl (.inl ht2), rfl, R, vs, rfl, .inr (.inl (.inl hRR2)), b, bl, _, rfl, hB2, by omega, by omega, fun d H3 kp3 hB3 d0 d1 => ?_⟩
        have hd : d.toNat < rows.length := by omega
        have kt3 : Kt H2 H3 := (kp3.kTb hB2).1
        obtain ⟨v, hv, fv⟩ := (fvs2.kt kt3).get (i := d.toNat) (d := rowD rows[d.toNat]) (by rw [List.getElem?_map, List.getElem?_eq_getElem hd]; rfl)
        have rok := hrs rows[d.toNat] (List.getElem_mem hd)
        obtain ⟨rb, rfl, hrb⟩ := row_open fv
        have hal2 : at_ < rows[d.toNat].length := by
          rw [rok.1]
          exact hat
        refine ⟨R, vs, d, .ref rb, rfl, rfl, .inl (.inl (kt3 _ _ hRR2)), L2.at_of (j := d.toNat) (by omega) hv, .int at_, rfl, rb, _, _, .int rows[d.toNat][at_], rfl, rfl, .inl (.inl hrb), atI_nat (by rw [List.getElem?_map, List.getElem?_eq_getElem hal2]; rfl), ?_⟩
        refine ⟨_, rfl, 1, rfl, (by show 5 ≤ sizeLine; decide), fun L nL => ?_⟩
        obtain ⟨z, hz, hza⟩ := at_ints (ns := [0, 0, 0, 1, -1]) w0 (by show way < 5; omega)
        refine ⟨.int way, rfl, L, [0, 0, 0, 1, -1].map V.int, way, .int z, rfl, rfl, .inl (.inl upd_same), hza, _, z, rfl, rfl, 0, _, rfl, 999, _, rfl, ?_⟩
        refine q _ _ ((kp2.trans kp3).new nL) (hB3.new nL) ?_ ?_
        · have m0 : (0 : Int) ≤ (if rows[d.toNat][at_] + z > 0 then rows[d.toNat][at_] + z else 0) := by
            split <;> omega
          split <;> omega
        · split <;> omega

/-! ### _law_question -/
theorem ints_of (os : List Nat) : os.map (fun j : Nat => V.int (j : Int)) = (os.map fun j : Nat => (j : Int)).map V.int := by
  rw [List.map_map]
  rfl
def spQuestion (K : PySem.W.Frag) : Sp := fun vs H Q _ => ∃ (b bl : Addr) (tb : V) (cols : List Nat) (rows : List (List Int)), vs = [.ref b, tb] ∧ Bag b bl H ∧ Fz H tb (tabD cols rows) ∧ Cols cols ∧ cols.length ≤ 26 ∧ RowsOk cols.length rows ∧ rows.length ≤ 1000 ∧
  ∀ (es : List (Nat × Int)) (rc : Option (Nat × Int × Int)) (v : V) (H' : Hp), Kp b H H' → Bag b bl H' → QZ H' v es rc → QOk cols es rc → Q v H'
theorem ok_question (T : Tx K mg Z) : FnOk P w K mg base CX0 3 Z.f_l_question Z.d_l_question ["bag", "table"] (spQuestion K) := by
  have G_l_lot : FnOk P w K mg base CX0 1 Z.f_l_lot Z.d_l_lot ["bag", "many"] (spLot K) := ok_lot T
  have G_l_near : FnOk P w K mg base CX0 2 Z.f_l_near Z.d_l_near ["bag", "table", "at"] (spNear K) := ok_near T
  refine T.F_l_question.ok sc_l_question (fun vs H Q E h => ?_) (fun cdv A outer s H vs Q E hr h => ?_)
  · obtain ⟨b, bl, tb, cols, rows, rfl, _⟩ := h
    rfl
  · obtain ⟨b, bl, tb, cols, rows, rfl, hB, fT, hc, hc2, hrs, hrn, q⟩ := h
    have fT0 := fT
    obtain ⟨t, R, vs, rfl, ht, hRR, fvs⟩ := tab_open fT0
    refine ⟨_, (pss_cons (ps_set (i := 2) sc_l_question.nd rfl (.inl rfl) (pe_ix (ixT K) (pv 1) pe_int (fun _ _ => rfl)))
      (pss_cons (ps_set (i := 3) sc_l_question.nd rfl (.inl rfl) (pe_lst pa_nil))
      (pss_cons (ps_set (i := 4) sc_l_question.nd rfl (.inl rfl) (pe_lst pa_nil))
      (pss_cons (ps_for PassesOwn.never rfl (pi_enumS (by rfl) T.m_enumerate (pa_cons (pv 2) pa_nil)) (pgT K (n := 2) (pgs_cons (pg_name (i := 5) sc_l_question.nd rfl (.inl rfl)) (pgs_cons (pg_name (i := 6) sc_l_question.nd rfl (.inl rfl)) pgs_nil))) (pss_one (ps_if (pt_cmpR op_eq (pe_call G_l_lot (hr.mono (by omega)) (by rfl) T.g_l_lot T.F_l_lot.kp T.b_l_lot .nil pass0 (pa_cons (pv 0) (pa_cons pe_int pa_nil))) pe_int (nomark _)) (pss_one (ps_expr (bmK K PySem.F.plainAttrs_list PySem.F.slot_list_append PySem.F.type_list_append mt_append (pv 3) (pa_cons (pe_tup (pa_cons (pv 6) (pa_cons (pe_call G_l_near (hr.mono (by omega)) (by rfl) T.g_l_near T.F_l_near.kp T.b_l_near .nil pass0 (pa_cons (pv 0) (pa_cons (pv 1) (pa_cons (pv 5) pa_nil)))) pa_nil))) pa_nil)))) (pss_one (ps_expr (bmK K PySem.F.plainAttrs_list PySem.F.slot_list_append PySem.F.type_list_append mt_append (pv 4) (pa_cons (pv 5) pa_nil)))))))
      (pss_cons (ps_if (PW.pt (pw_or (pt_cmpR (eqDK K hr.units) (pv 4) (pe_lst pa_nil) (nomark _)) (pw_or1 (pt_cmpR op_eq (pe_call G_l_lot (hr.mono (by omega)) (by rfl) T.g_l_lot T.F_l_lot.kp T.b_l_lot .nil pass0 (pa_cons (pv 0) (pa_cons pe_int pa_nil))) pe_int (nomark _))))) (pss_one (ps_ret (pe_tup (pa_cons (pe_callTy (cTupF K) (by rfl) T.m_tuple (by decide +kernel) (pa_cons (pv 3) pa_nil)) (pa_cons pe_non pa_nil))))) pss_nil)
      (pss_cons (ps_set (i := 5) sc_l_question.nd rfl (.inl rfl) (pe_ix (ixL K) (pv 4) (pe_call G_l_lot (hr.mono (by omega)) (by rfl) T.g_l_lot T.F_l_lot.kp T.b_l_lot .nil pass0 (pa_cons (pv 0) (pa_cons (pe_callB (cLenSq K) (by rfl) T.m_len (by decide +kernel) (pa_cons (pv 4) pa_nil)) pa_nil))) (fun _ _ => rfl)))
      (pss_cons (ps_set (i := 7) sc_l_question.nd rfl (.inl rfl) (pe_callB cr_sortedI (by rfl) T.m_sorted (by decide +kernel) (pa_cons (pe_lst (pa_cons (pe_call G_l_near (hr.mono (by omega)) (by rfl) T.g_l_near T.F_l_near.kp T.b_l_near .nil pass0 (pa_cons (pv 0) (pa_cons (pv 1) (pa_cons (pv 5) pa_nil)))) (pa_cons (pe_call G_l_near (hr.mono (by omega)) (by rfl) T.g_l_near T.F_l_near.kp T.b_l_near .nil pass0 (pa_cons (pv 0) (pa_cons (pv 1) (pa_cons (pv 5) pa_nil)))) pa_nil))) pa_nil)))
      (pss_one (ps_ret (pe_tup (pa_cons (pe_callTy (cTupF K) (by rfl) T.m_tuple (by decide +kernel) (pa_cons (pv 3) pa_nil)) (pa_cons (pe_tup (pa_cons (pe_ix ix_str (pv 2) (pv 5) (fun _ _ => rfl)) (pa_cons (pe_ix (ixL K) (pv 7) pe_int (fun _ _ => rfl)) (pa_cons (pe_ix (ixL K) (pv 7) pe_int (fun _ _ => rfl)) pa_nil)))) pa_nil)))))))))))), ?_⟩
    refine ⟨.ref t, rfl, t, _, 0, tx cols, rfl, rfl, .inl (.inl ht), rfl, ?_⟩
    refine ⟨Nat.zero_le _, fun E nE => ?_⟩
    have nEb := hB.ne nE
    have kpE : Kp b H (upd H E (.lst [])) := Kp.rfl'.new nE
    have hBE := hB.new nE (o := .lst [])
    have hEE : (upd H E (.lst [])) E = some (.lst []) := upd_same
    generalize upd H E (.lst []) = HE at kpE hBE hEE ⊢
    refine ⟨Nat.zero_le _, fun O nO => ?_⟩
    have nOb := hBE.ne nO
    have nOH : H O = none := Kp.none kpE nOb.1 nO
    have nOE : O ≠ E := (ne_of_none hEE nO).symm
    have kp1 : Kp b H (upd HE O (.lst [])) := kpE.new nO
    have hB1 := hBE.new nO (o := .lst [])
    have hE1 : (upd HE O (.lst [])) E = some (.lst []) := keep_new hEE nO
    have hO1 : (upd HE O (.lst [])) O = some (.lst []) := upd_same
    generalize upd HE O (.lst []) = H1 at kp1 hB1 hE1 hO1 ⊢
    refine ⟨tx cols, rfl, _, rfl, for_it walk_es (fun i σ H' => ∃ (es : List (Nat × Int)) (ps : List V) (os : List Nat) (y5 y6 : Option V), σ = [some (.ref b), some (.ref t), some (tx cols), some (.ref E), some (.ref O), y5, y6, none] ∧ Kp b H H' ∧ Bag b bl H' ∧ H' E = some (.lst ps) ∧ FzA H' ps (es.map eqD) ∧ H' O = some (.lst (os.map fun j : Nat => V.int (j : Int))) ∧ (es.map (·.1)).Sublist (cols.take i) ∧ (∀ p ∈ es, 0 ≤ p.2 ∧ p.2 < 1000) ∧ os.length ≤ i ∧ ∀ j ∈ os, j < i ∧ ∀ h : j < cols.length, cols[j] ∉ es.map (·.1))
      ⟨[], [], [], none, none, rfl, kp1, hB1, hE1, .nil, hO1, List.nil_sublist _, (fun _ h => nomatch h), Nat.le_refl _, fun _ h => nomatch h⟩ (fun _ _ _ _ _ => trivial) (fun i x σ H3 H4 hi hP hY => ?_) (fun σ H3 hP => ?_)⟩
    · obtain ⟨es, ps, os, y5, y6, rfl, kp3, hB3, hE3, fps, hO3, hsub, hes, hol, hos⟩ := hP
      obtain ⟨T0, x1, x2, rfl, nT, rfl, ex1, ex2⟩ := hY
      have hi2 : i < cols.length := hi
      have e1 : x1 = .int (i : Nat) := (Option.some.inj ex1).symm
      have e2 : x2 = sg cols[i] := by
        have : (some (sg cols[i]) : Option V) = some x2 := by
          rw [← ex2]
          simp [hi2]
        exact (Option.some.inj this).symm
      subst e1 e2
      have kp4 : Kp b H (upd H3 T0 (.tup [.int (i : Nat), sg cols[i]])) := kp3.new nT
      have hB4 := hB3.new nT (o := .tup [.int (i : Nat), sg cols[i]])
      have hE4 : (upd H3 T0 (.tup [.int (i : Nat), sg cols[i]])) E = some (.lst ps) := keep_new hE3 nT
      have hO4 : (upd H3 T0 (.tup [.int (i : Nat), sg cols[i]])) O = some (.lst (os.map fun j : Nat => V.int (j : Int))) := keep_new hO3 nT
      have fps4 := fps.kt (Kt.new nT (o := .tup [.int (i : Nat), sg cols[i]]))
      refine ⟨T0, [.int (i : Nat), sg cols[i]], rfl, .inl (.inl upd_same), rfl, .int (i : Nat), [sg cols[i]], rfl, sg cols[i], [], rfl, rfl, ?_⟩
      generalize upd H3 T0 (.tup [.int (i : Nat), sg cols[i]]) = H4 at kp4 hB4 hE4 hO4 fps4 ⊢
      have hsub1 : (es.map (·.1)).Sublist (cols.take (i + 1)) := hsub.trans (List.take_sublist_take_left (Nat.le_succ i))
      have hpl : ps.length ≤ 26 := by
        rw [fps.len, List.length_map]
        have := hsub.length_le
        rw [List.length_map, List.length_take] at this
        omega
      refine ⟨.ref b, rfl, b, bl, 3, rfl, hB4, by decide, by decide, fun d H5 kp5 hB5 d0 d1 => ⟨rfl, _, rfl, ite2 (fun e => ?_) (fun e => ?_)⟩⟩
      · have hE5 := kp5 _ _ nEb.1 hE4
        have hO5 := kp5 _ _ nOb.1 hO4
        have kpB : Kp b H H5 := kp4.trans kp5
        refine ⟨.ref E, rfl, .inl ⟨rfl, _, .inl (.inl hE5)⟩, sg cols[i], rfl, .ref b, rfl, .ref t, rfl, .int (i : Nat), rfl, b, bl, .ref t, cols, rows, i, rfl, hB5, fT.kt (kpB.kTb hB).1, hrs, hi2, hrn, fun x H6 kp6 hB6 x0 x1 => ?_⟩
        refine ⟨(by show 2 ≤ sizeLine; decide), fun p np => ?_⟩
        have hE7 : (upd H6 p (.tup [sg cols[i], .int x])) E = some (.lst ps) := keep_new (kp6 _ _ nEb.1 hE5) np
        have hO7 : (upd H6 p (.tup [sg cols[i], .int x])) O = some (.lst (os.map fun j : Nat => V.int (j : Int))) := keep_new (kp6 _ _ nOb.1 hO5) np
        have fp : Fz (upd H6 p (.tup [sg cols[i], .int x])) (.ref p) (eqD (cols[i], x)) := Fz.made np (.cons (.str _) (.cons (.int _) .nil))
        have fps7 := ((fps4.kt (kp5.kTb hB4).1).kt (kp6.kTb hB5).1).kt (Kt.new np (o := .tup [sg cols[i], .int x]))
        refine ⟨E, ps, .ref p, rfl, rfl, hE7, small1000 (by omega), es ++ [(cols[i], x)], ps ++ [.ref p], os, _, _, rfl, ((kpB.trans kp6).new np).mut nE, (hB6.new np).upd nEb.1 nEb.2, upd_same, ?_, keep_ne hO7 nOE, ?_, fun u hu => ?_, by omega, fun j hj => ?_⟩
        · rw [List.map_append]
          exact (FzA.snoc fps7 fp).kt (.lst hE7)
        · rw [List.map_append, List.take_succ_eq_append_getElem hi2]
          exact hsub.append (List.Sublist.refl _)
        · rcases List.mem_append.mp hu with z | z
          · exact hes u z
          · rw [List.mem_singleton.mp z]
            exact ⟨x0, x1⟩
        · obtain ⟨j1, j2⟩ := hos j hj
          refine ⟨by omega, fun h => ?_⟩
          rw [List.map_append]
          intro z
          rcases List.mem_append.mp z with z | z
          · exact j2 h z
          · have z2 : cols[j] = cols[i] := List.mem_singleton.mp z
            have := (List.getElem_inj hc.nd).mp z2
            omega
      · have hO5 := kp5 _ _ nOb.1 hO4
        refine ⟨.ref O, rfl, .inl ⟨rfl, _, .inl (.inl hO5)⟩, .int (i : Nat), rfl, O, _, .int (i : Nat), rfl, rfl, hO5, by rw [List.length_map]; exact small1000 (by omega), es, ps, os ++ [i], _, _, rfl, (kp4.trans kp5).mut nOH, hB5.upd nOb.1 nOb.2, keep_ne (kp5 _ _ nEb.1 hE4) nOE.symm, (fps4.kt (kp5.kTb hB4).1).kt (.lst hO5), by rw [upd_same, List.map_append]; rfl, hsub1, hes, by rw [List.length_append]; show os.length + 1 ≤ i + 1; omega, fun j hj => ?_⟩
        rcases List.mem_append.mp hj with z | z
        · obtain ⟨j1, j2⟩ := hos j z
          exact ⟨by omega, j2⟩
        · rw [List.mem_singleton.mp z]
          refine ⟨Nat.lt_succ_self _, fun h z2 => ?_⟩
          have z3 := hsub.subset z2
          obtain ⟨k, hk, ek⟩ := List.getElem_of_mem z3
          rw [List.getElem_take] at ek
          have := (List.getElem_inj hc.nd).mp ek
          rw [List.length_take] at hk
          omega
    · obtain ⟨es, ps, os, y5, y6, rfl, kp3, hB3, hE3, fps, hO3, hsub, hes, hol, hos⟩ := hP
      have hn : (⟨cols.toArray⟩ : Str).cps.size = cols.length := by simp
      rw [hn] at hsub hol hos
      rw [List.take_of_length_le (Nat.le_refl _)] at hsub
      have hup : (es.map (·.1)).Pairwise (· < ·) := hc.up.sublist hsub
      have hok : ∀ p ∈ es, p.1 ∈ cols ∧ 0 ≤ p.2 ∧ p.2 < 1000 := fun p hp => ⟨hsub.subset (List.mem_map_of_mem hp), hes p hp⟩
      have hesl : es.length ≤ cols.length := by
        have := hsub.length_le
        rw [List.length_map] at this
        exact this
      have retN : ∀ (H' : Hp), Kp b H H' → Bag b bl H' → H' E = some (.lst ps) → FzA H' ps (es.map eqD) → tRet (tTup (tCons (tCB (rTupF K) (tCons (tVar 3) tNil)) (tCons (tC V.non) tNil))) { nx := fun x H' => Q V.non H', rt := Q } [some (.ref b), some (.ref t), some (tx cols), some (.ref E), some (.ref O), y5, y6, none] H' := by
        intro H' kp' hB' hE' f'
        refine ⟨.ref E, rfl, E, ps, rfl, .inl (.inl hE'), fun te ob nte hob => ⟨(by show 2 ≤ sizeLine; decide), fun v nv => ?_⟩⟩
        have f1 : EZ (upd H' te (.frz ob (.tup ps))) (.ref te) es := EZ.made nte hob f'
        exact q es none (.ref v) _ ((kp'.new nte).new nv) ((hB'.new nte).new nv) (QZ.made (rc := none) nv f1 .non) ⟨hup, hok, hesl, fun c lo hi z => nomatch z⟩
      refine ⟨.ref O, rfl, (by show 0 ≤ sizeLine; decide), fun p np => ?_⟩
      rw [ints_of] at hO3
      have hOp : (upd H3 p (.lst [])) O = some (.lst ((os.map fun j : Nat => (j : Int)).map V.int)) := keep_new hO3 np
      have kp4 : Kp b H (upd H3 p (.lst [])) := kp3.new np
      have hB4 := hB3.new np (o := .lst [])
      have hE4 : (upd H3 p (.lst [])) E = some (.lst ps) := keep_new hE3 np
      have fps4 := fps.kt (Kt.new np (o := .lst []))
      have hp4 : (upd H3 p (.lst [])) p = some (.lst []) := upd_same
      generalize upd H3 p (.lst []) = H4 at hOp kp4 hB4 hE4 fps4 hp4 ⊢
      refine ⟨_, _, .lst (.inl (.inl hOp)) (dp_ints _), .lst (.inl (.inl hp4)) .nil, shaped_ints _, shaped_ints [], _, rfl, ite2 (fun e => ?_) (fun e => ?_)⟩
      · exact retN H4 kp4 hB4 hE4 fps4
      · have one : os ≠ [] := fun z => by
          rw [z] at e
          exact e rfl
        have opos : 0 < os.length := List.length_pos_iff.mpr one
        refine ⟨.ref b, rfl, b, bl, 2, rfl, hB4, by decide, by decide, fun d H5 kp5 hB5 d0 d1 => ⟨rfl, _, rfl, ite2 (fun e6 => ?_) (fun e6 => ?_)⟩⟩
        · exact retN H5 (kp4.trans kp5) hB5 (kp5 _ _ nEb.1 hE4) (fps4.kt (kp5.kTb hB4).1)
        · have hO5 := kp5 _ _ nOb.1 hOp
          have hE5 := kp5 _ _ nEb.1 hE4
          have fps5 := fps4.kt (kp5.kTb hB4).1
          have kpB : Kp b H H5 := kp4.trans kp5
          refine ⟨.ref O, rfl, .ref b, rfl, .ref O, rfl, O, _, rfl, .inl (.inl (.inl hO5)), b, bl, _, rfl, hB5, by rw [List.length_map, List.length_map]; omega, by rw [List.length_map, List.length_map]; omega, fun f H6 kp6 hB6 f0 f1 => ?_⟩
          rw [List.length_map, List.length_map] at f1
          have hf : f.toNat < os.length := by omega
          obtain ⟨j1, j2⟩ := hos os[f.toNat] (List.getElem_mem hf)
          have hO6 := kp6 _ _ nOb.1 hO5
          have hE6 := kp6 _ _ nEb.1 hE5
          have fps6 := fps5.kt (kp6.kTb hB5).1
          have kpC : Kp b H H6 := kpB.trans kp6
          have hat : (List.map V.int (os.map fun j : Nat => (j : Int)))[f.toNat]? = some (.int (os[f.toNat] : Int)) := by
            rw [List.getElem?_map, List.getElem?_map, List.getElem?_eq_getElem hf]
            rfl
          generalize os[f.toNat] = aj at j1 j2 hat
          have j3 := j2 j1
          refine ⟨O, _, f, .int (aj : Int), rfl, rfl, .inl (.inl hO6), L2.at_of (j := f.toNat) (by omega) hat, ?_⟩
          -- some
          refine ⟨.ref b, rfl, .ref t, rfl, .int (aj : Int), rfl, b, bl, .ref t, cols, rows, aj, rfl, hB6, fT.kt (kpC.kTb hB).1, hrs, j1, hrn, fun x1 H7 kp7 hB7 x10 x11 => ?_⟩
          have kpD : Kp b H H7 := kpC.trans kp7
          refine ⟨.ref b, rfl, .ref t, rfl, .int (aj : Int), rfl, b, bl, .ref t, cols, rows, aj, rfl, hB7, fT.kt (kpD.kTb hB).1, hrs, j1, hrn, fun x2 H8 kp8 hB8 x20 x21 => ?_⟩
          have kpF : Kp b H H8 := kpD.trans kp8
          have hE8 := kp8 _ _ nEb.1 (kp7 _ _ nEb.1 hE6)
          have fps8 := (fps6.kt (kp7.kTb hB6).1).kt (kp8.kTb hB7).1
          refine ⟨(by show 2 ≤ sizeLine; decide), fun L nL => ?_⟩
          refine ⟨L, [x1, x2], rfl, .inl (.inl upd_same), fun ns p2 hper hpw np2 => ?_⟩
          have hnl : ns.length = 2 := hper.length_eq
          obtain ⟨lo, hi, rfl⟩ : ∃ lo hi, ns = [lo, hi] := by
            match ns, hnl with
            | [a, b], _ => exact ⟨a, b, rfl⟩
          have hlohi : lo ≤ hi := (List.pairwise_cons.mp hpw).1 hi (by simp)
          have hbd : ∀ z ∈ [lo, hi], 0 ≤ z ∧ z < 1000 := fun z hz => by
            have := hper.mem_iff.mp hz
            rcases List.mem_cons.mp this with h | h
            · rw [h]
              exact ⟨x10, x11⟩
            · rw [List.mem_singleton.mp h]
              exact ⟨x20, x21⟩
          have blo := hbd lo (by simp)
          have bhi := hbd hi (by simp)
          have kpG : Kp b H (upd (upd H8 L (.lst [.int x1, .int x2])) p2 (.lst (List.map V.int [lo, hi]))) := (kpF.new nL).new np2
          have hBG := (hB8.new nL (o := .lst [.int x1, .int x2])).new np2 (o := .lst (List.map V.int [lo, hi]))
          have hEG : (upd (upd H8 L (.lst [.int x1, .int x2])) p2 (.lst (List.map V.int [lo, hi]))) E = some (.lst ps) := keep_new (keep_new hE8 nL) np2
          have fpsG := (fps8.kt (Kt.new nL (o := .lst [.int x1, .int x2]))).kt (Kt.new np2 (o := .lst (List.map V.int [lo, hi])))
          have hpG : (upd (upd H8 L (.lst [.int x1, .int x2])) p2 (.lst (List.map V.int [lo, hi]))) p2 = some (.lst [.int lo, .int hi]) := upd_same
          generalize upd (upd H8 L (.lst [.int x1, .int x2])) p2 (.lst (List.map V.int [lo, hi])) = HG at kpG hBG hEG fpsG hpG ⊢
          refine ⟨.ref E, rfl, E, ps, rfl, .inl (.inl hEG), fun te ob nte hob => ?_⟩
          have f1z : EZ (upd HG te (.frz ob (.tup ps))) (.ref te) es := EZ.made nte hob fpsG
          have hp3 : (upd HG te (.frz ob (.tup ps))) p2 = some (.lst [.int lo, .int hi]) := keep_new hpG nte
          have hatc : atI (⟨cols.toArray⟩ : Str).cps.toList (aj : Int) = some cols[aj] := atI_nat (by simp [j1])
          refine ⟨tx cols, rfl, .int (aj : Int), rfl, _, _, _, rfl, rfl, Nat.le_of_lt (small1000 (show cols.length ≤ 1000 by omega)), hatc, ?_⟩
          refine ⟨.ref p2, rfl, p2, _, 0, .int lo, rfl, rfl, .inl (.inl hp3), rfl, .ref p2, rfl, p2, _, 1, .int hi, rfl, rfl, .inl (.inl hp3), rfl, (by show 3 ≤ sizeLine; decide), fun tr ntr => ⟨(by show 2 ≤ sizeLine; decide), fun v nv => ?_⟩⟩
          have fr := Fz.made ntr (.cons (.str (sS cols[aj])) (.cons (.int lo) (.cons (.int hi) .nil)))
          refine q es (some (cols[aj], lo, hi)) (.ref v) _ (((kpG.new nte).new ntr).new nv) (((hBG.new nte).new ntr).new nv) (QZ.made (rc := some _) nv (f1z.kT (.new ntr)) fr) ⟨hup, hok, hesl, fun c l2 h2 z => ?_⟩
          have z2 := Option.some.inj z
          have e1 : cols[aj] = c := congrArg (·.1) z2
          have e2 : lo = l2 := congrArg (·.2.1) z2
          have e3 : hi = h2 := congrArg (·.2.2) z2
          rw [← e1, ← e2, ← e3]
          exact ⟨List.getElem_mem _, j3, blo.1, hlohi, bhi.2⟩

/-! ### _law_same -/
theorem flat_bls (bs : List Bool) : (bs.map V.bl).all flatV = true := by
  rw [List.all_eq_true]
  intro v hv
  obtain ⟨c, _, rfl⟩ := List.mem_map.mp hv
  rfl
def spSame (n : Nat) (K : PySem.W.Frag) : Sp := fun vs H Q _ => ∃ (v u : V) (d : PyData), vs = [v, u] ∧ Ft H v d ∧ Ft H u d ∧ d.depth < n ∧ wd d ≤ 1000 ∧ ∀ (H' : Hp), Same H H' → Q (.bl true) H'
theorem ok_same (T : Tx K mg Z) : ∀ n, FnOk P w K mg base CX0 n Z.f_l_same Z.d_l_same ["found", "due"] (spSame n K) := by
  intro n
  induction n with
  | zero => exact ⟨fun vs H Q E h => by
      obtain ⟨v, u, d, rfl, _⟩ := h
      rfl, fun A outer s H args us vs Q E _ _ _ _ h => by
      obtain ⟨v, u, d, _, _, _, hd, _⟩ := h
      exact absurd hd (Nat.not_lt_zero _)⟩
  | succ n G_l_same =>
    refine T.F_l_same.ok sc_l_same (fun vs H Q E h => ?_) (fun cdv A outer s H vs Q E hr h => ?_)
    · obtain ⟨v, u, d, rfl, _⟩ := h
      rfl
    · obtain ⟨v, u, d, rfl, fv, fu, hd, hw, q⟩ := h
      refine ⟨_, (pss_cons (ps_if (pt_cmpR op_isN (pv 1) pe_non (nomark _)) (pss_one (ps_ret (pe_cmpR op_isN (pv 0) pe_non (nomark _)))) pss_nil)
      (pss_cons (ps_if (pt_val (pe_callB (isiK K) (by rfl) T.m_isinstance (by decide +kernel) (pa_cons (pv 1) (pa_cons (pe_bltn (v := .ty "str") (by rfl) T.m_str (by decide +kernel) rfl) pa_nil)))) (pss_one (ps_ret (pe_and (pe_callB (isiK K) (by rfl) T.m_isinstance (by decide +kernel) (pa_cons (pv 0) (pa_cons (pe_bltn (v := .ty "str") (by rfl) T.m_str (by decide +kernel) rfl) pa_nil))) (pe_one (pe_cmpR op_eq (pv 0) (pv 1) (nomark _)))))) pss_nil)
      (pss_cons (ps_if (pt_val (pe_callB (isiK K) (by rfl) T.m_isinstance (by decide +kernel) (pa_cons (pv 1) (pa_cons (pe_bltn (v := .ty "int") (by rfl) T.m_int (by decide +kernel) rfl) pa_nil)))) (pss_one (ps_ret (pe_and (pe_callB (isiK K) (by rfl) T.m_isinstance (by decide +kernel) (pa_cons (pv 0) (pa_cons (pe_bltn (v := .ty "int") (by rfl) T.m_int (by decide +kernel) rfl) pa_nil))) (pe_and (pe_cmpR op_eq (pe_callB (isiK K) (by rfl) T.m_isinstance (by decide +kernel) (pa_cons (pv 0) (pa_cons (pe_bltn (v := .ty "bool") (by rfl) T.m_bool (by decide +kernel) rfl) pa_nil))) (pe_callB (isiK K) (by rfl) T.m_isinstance (by decide +kernel) (pa_cons (pv 1) (pa_cons (pe_bltn (v := .ty "bool") (by rfl) T.m_bool (by decide +kernel) rfl) pa_nil))) (nomark _)) (pe_one (pe_cmpR op_eq (pv 0) (pv 1) (nomark _))))))) pss_nil)
      (pss_cons (ps_if (pt_cmpR op_ne (pe_callB (isiK K) (by rfl) T.m_isinstance (by decide +kernel) (pa_cons (pv 1) (pa_cons (pe_bltn (v := .ty "tuple") (by rfl) T.m_tuple (by decide +kernel) rfl) pa_nil))) (pe_callB (isiK K) (by rfl) T.m_isinstance (by decide +kernel) (pa_cons (pv 0) (pa_cons (pe_bltn (v := .ty "tuple") (by rfl) T.m_tuple (by decide +kernel) rfl) pa_nil))) (nomark _)) (pss_one (ps_ret pe_bl)) pss_nil)
      (pss_cons (ps_if (pt_cmpR op_ne (pe_callB (isiK K) (by rfl) T.m_isinstance (by decide +kernel) (pa_cons (pv 1) (pa_cons (pe_bltn (v := .ty "list") (by rfl) T.m_list (by decide +kernel) rfl) pa_nil))) (pe_callB (isiK K) (by rfl) T.m_isinstance (by decide +kernel) (pa_cons (pv 0) (pa_cons (pe_bltn (v := .ty "list") (by rfl) T.m_list (by decide +kernel) rfl) pa_nil))) (nomark _)) (pss_one (ps_ret pe_bl)) pss_nil)
      (pss_cons (ps_if (pt_cmpR op_ne (pe_callB (cLenSq K) (by rfl) T.m_len (by decide +kernel) (pa_cons (pv 0) pa_nil)) (pe_callB (cLenSq K) (by rfl) T.m_len (by decide +kernel) (pa_cons (pv 1) pa_nil)) (nomark _)) (pss_one (ps_ret pe_bl)) pss_nil)
      (pss_one (ps_ret (pe_cmpR (notInSq K) pe_bl (pe_lc (own := [("one", 2), ("other", 3)]) (tt := tYes) (by rfl) sc_l_same.nd (zipAK K (by rfl) T.m_zip (pa_cons (pv 0) (pa_cons (pv 1) pa_nil))) (blkOk_by (own := [("one", 2), ("other", 3)]) (by kernel_rfl)) (fun _ _ _ _ _ => (pgT K (n := 2) (pgs_cons (pg_name (i := 2) sc_l_same.nd rfl (.inl rfl)) (pgs_cons (pg_name (i := 3) sc_l_same.nd rfl (.inl rfl)) pgs_nil)))) (fun _ _ _ _ _ => pts_nil) (fun _ _ _ _ _ => (pe_call G_l_same (hr.mono (by omega)) (by rfl) T.g_l_same T.F_l_same.kp T.b_l_same .nil pass0 (pa_cons (pv 2) (pa_cons (pv 3) pa_nil))))) (by rfl)))))))))), ?_⟩
      cases d with
      | none =>
        obtain rfl : v = .non := by
          cases fv
          rfl
        obtain rfl : u = .non := by
          cases fu
          rfl
        refine ⟨.non, rfl, rfl, _, rfl, ite2 (fun _ => ?_) (fun z => ?_)⟩
        · refine ⟨.non, rfl, rfl, ?_⟩
          rw [decide_eq_true rfl]
          exact q _ (Same.refl H)
        · exact absurd (decide_eq_true rfl) z
      | str x =>
        obtain rfl : v = .str x := by
          cases fv
          rfl
        obtain rfl : u = .str x := by
          cases fu
          rfl
        refine ⟨.str x, rfl, rfl, _, rfl, ite2 (fun z => absurd (of_decide_eq_true z) (fun y => nomatch y)) (fun _ => ?_)⟩
        refine ⟨.str x, rfl, .str x, .ty "str", _, _, isSt (.str x), rfl, .ty _, ty_ft fu, kit_st _, _, rfl, ite2 (fun _ => ?_) (fun z => absurd rfl z)⟩
        refine ⟨.str x, rfl, .str x, .ty "str", _, _, isSt (.str x), rfl, .ty _, ty_ft fv, kit_st _, _, rfl, ite2 (fun _ => ?_) (fun z => absurd rfl z)⟩
        refine ⟨.str x, rfl, .str x, rfl, rfl, ?_⟩
        rw [decide_eq_true rfl]
        exact q _ (Same.refl H)
      | int i =>
        obtain rfl : v = .int i := by
          cases fv
          rfl
        obtain rfl : u = .int i := by
          cases fu
          rfl
        refine ⟨.int i, rfl, rfl, _, rfl, ite2 (fun z => absurd (of_decide_eq_true z) (fun y => nomatch y)) (fun _ => ?_)⟩
        refine ⟨.int i, rfl, .int i, .ty "str", _, _, isSt (.int i), rfl, .ty _, ty_ft fu, kit_st _, _, rfl, ite2 (fun z => nomatch z) (fun _ => ?_)⟩
        refine ⟨.int i, rfl, .int i, .ty "int", _, _, isIn (.int i), rfl, .ty _, ty_ft fu, kit_in _, _, rfl, ite2 (fun _ => ?_) (fun z => absurd rfl z)⟩
        refine ⟨.int i, rfl, .int i, .ty "int", _, _, isIn (.int i), rfl, .ty _, ty_ft fv, kit_in _, _, rfl, ite2 (fun _ => ?_) (fun z => absurd rfl z)⟩
        refine ⟨.int i, rfl, .int i, .ty "bool", _, _, isBl (.int i), rfl, .ty _, ty_ft fv, kit_bl _, .int i, rfl, .int i, .ty "bool", _, _, isBl (.int i), rfl, .ty _, ty_ft fu, kit_bl _, rfl, _, rfl, ite2 (fun _ => ?_) (fun z => absurd (decide_eq_true rfl) z)⟩
        refine ⟨.int i, rfl, .int i, rfl, rfl, ?_⟩
        rw [decide_eq_true rfl]
        exact q _ (Same.refl H)
      | bool c =>
        obtain rfl : v = .bl c := by
          cases fv
          rfl
        obtain rfl : u = .bl c := by
          cases fu
          rfl
        refine ⟨.bl c, rfl, rfl, _, rfl, ite2 (fun z => absurd (of_decide_eq_true z) (fun y => nomatch y)) (fun _ => ?_)⟩
        refine ⟨.bl c, rfl, .bl c, .ty "str", _, _, isSt (.bool c), rfl, .ty _, ty_ft fu, kit_st _, _, rfl, ite2 (fun z => nomatch z) (fun _ => ?_)⟩
        refine ⟨.bl c, rfl, .bl c, .ty "int", _, _, isIn (.bool c), rfl, .ty _, ty_ft fu, kit_in _, _, rfl, ite2 (fun _ => ?_) (fun z => absurd rfl z)⟩
        refine ⟨.bl c, rfl, .bl c, .ty "int", _, _, isIn (.bool c), rfl, .ty _, ty_ft fv, kit_in _, _, rfl, ite2 (fun _ => ?_) (fun z => absurd rfl z)⟩
        refine ⟨.bl c, rfl, .bl c, .ty "bool", _, _, isBl (.bool c), rfl, .ty _, ty_ft fv, kit_bl _, .bl c, rfl, .bl c, .ty "bool", _, _, isBl (.bool c), rfl, .ty _, ty_ft fu, kit_bl _, rfl, _, rfl, ite2 (fun _ => ?_) (fun z => absurd (decide_eq_true rfl) z)⟩
        refine ⟨.bl c, rfl, .bl c, rfl, rfl, ?_⟩
        rw [decide_eq_true rfl]
        exact q _ (Same.refl H)
      | list ds =>
        obtain ⟨va, xs, rfl, hva, fxs⟩ : ∃ (va : Addr) (xs : List V), v = .ref va ∧ H va = some (.lst xs) ∧ FtA H xs ds := by
          cases fv with
          | lst h a => exact ⟨_, _, rfl, h, a⟩
        obtain ⟨ua, ys, rfl, hua, fys⟩ : ∃ (ua : Addr) (ys : List V), u = .ref ua ∧ H ua = some (.lst ys) ∧ FtA H ys ds := by
          cases fu with
          | lst h a => exact ⟨_, _, rfl, h, a⟩
        have lx := fxs.len
        have ly := fys.len
        have hdn : PyData.depthAll ds + 1 < n + 1 := hd
        have hwn : max ds.length (wdA ds) ≤ 1000 := hw
        have hlen : (V.int (xs.length : Nat)) = V.int (ys.length : Nat) := by rw [lx, ly]
        refine ⟨.ref ua, rfl, rfl, _, rfl, ite2 (fun z => absurd (of_decide_eq_true z) (fun y => nomatch y)) (fun _ => ?_)⟩
        refine ⟨.ref ua, rfl, .ref ua, .ty "str", _, _, isSt (.list ds), rfl, .ty _, ty_ft fu, kit_st _, _, rfl, ite2 (fun z => nomatch z) (fun _ => ?_)⟩
        refine ⟨.ref ua, rfl, .ref ua, .ty "int", _, _, isIn (.list ds), rfl, .ty _, ty_ft fu, kit_in _, _, rfl, ite2 (fun z => nomatch z) (fun _ => ?_)⟩
        refine ⟨.ref ua, rfl, .ref ua, .ty "tuple", _, _, isTp (.list ds), rfl, .ty _, ty_ft fu, kit_tp _, .ref va, rfl, .ref va, .ty "tuple", _, _, isTp (.list ds), rfl, .ty _, ty_ft fv, kit_tp _, rfl, _, rfl, iteNS rfl ?_⟩
        refine ⟨.ref ua, rfl, .ref ua, .ty "list", _, _, isLs (.list ds), rfl, .ty _, ty_ft fu, kit_ls _, .ref va, rfl, .ref va, .ty "list", _, _, isLs (.list ds), rfl, .ty _, ty_ft fv, kit_ls _, rfl, _, rfl, iteNS rfl ?_⟩
        refine ⟨.ref va, rfl, va, xs, rfl, .inl (.inl (.inl hva)), .ref ua, rfl, ua, ys, rfl, .inl (.inl (.inl hua)), rfl, _, rfl, iteNS hlen ?_⟩
        refine ⟨.ref va, rfl, .ref ua, rfl, va, ua, xs, ys, rfl, .inl ⟨.inl (.inl hva), .inl (.inl hua), fun D nD => lc_it (walk_zip (xs := xs) (ys := ys) (n := xs.length) (by omega)) (fun i H' => Same H H' ∧ H' D = some (.lst ((List.replicate i true).map V.bl)))
          ⟨Same.new (Same.refl H) nD, upd_same⟩ (fun i H' _ hP => ?_) (fun i x H3 H4 hi hP hY => ?_) (fun H3 hP => ?_)⟩⟩
        · exact ⟨.inl (.inl (hP.1 _ _ hva)), .inl (.inl (hP.1 _ _ hua))⟩
        · obtain ⟨sm3, hD3⟩ := hP
          obtain ⟨T0, x1, x2, rfl, nT, rfl, ex1, ex2⟩ := hY
          obtain ⟨d1, hd1, f1⟩ := fxs.getV ex1
          obtain ⟨d2, hd2, f2⟩ := fys.getV ex2
          rw [hd1] at hd2
          cases hd2
          have hm : d1 ∈ ds := List.mem_of_getElem? hd1
          have sm4 : Same H (upd H3 T0 (.tup [x1, x2])) := Same.new sm3 nT
          refine ⟨T0, [x1, x2], rfl, .inl (.inl upd_same), rfl, x1, [x2], rfl, x2, [], rfl, rfl, rfl, x1, rfl, x2, rfl, x1, x2, d1, rfl, Ft.mono sm4 _ _ f1, Ft.mono sm4 _ _ f2, ?_, ?_, fun H5 sm5 => ?_⟩
          · have := depA_mem hm
            omega
          · have := wdA_mem hm
            omega
          · refine ⟨_, sm5 _ _ (keep_new hD3 nT), ?_, Same.mut (Same.trans (Same.new sm3 nT) sm5) nD, ?_⟩
            · rw [List.length_map, List.length_replicate]
              exact small1000 (by omega)
            · rw [upd_same, List.replicate_succ', List.map_append]
              rfl
        · obtain ⟨sm3, hD3⟩ := hP
          refine ⟨D, _, rfl, .inl (.inl (.inl hD3)), rfl, flat_bls _, ?_⟩
          have ea : inV (.bl false) ((List.replicate xs.length true).map V.bl) = false := by
            rw [inV_no]
            simp
          show Q (.bl (!inV (.bl false) ((List.replicate xs.length true).map V.bl))) H3
          rw [ea]
          exact q _ sm3
      | tuple ds =>
        obtain ⟨va, xs, rfl, hva, fxs⟩ : ∃ (va : Addr) (xs : List V), v = .ref va ∧ H va = some (.tup xs) ∧ FtA H xs ds := by
          cases fv with
          | tup h a => exact ⟨_, _, rfl, h, a⟩
        obtain ⟨ua, ys, rfl, hua, fys⟩ : ∃ (ua : Addr) (ys : List V), u = .ref ua ∧ H ua = some (.tup ys) ∧ FtA H ys ds := by
          cases fu with
          | tup h a => exact ⟨_, _, rfl, h, a⟩
        have lx := fxs.len
        have ly := fys.len
        have hdn : PyData.depthAll ds + 1 < n + 1 := hd
        have hwn : max ds.length (wdA ds) ≤ 1000 := hw
        have hlen : (V.int (xs.length : Nat)) = V.int (ys.length : Nat) := by rw [lx, ly]
        refine ⟨.ref ua, rfl, rfl, _, rfl, ite2 (fun z => absurd (of_decide_eq_true z) (fun y => nomatch y)) (fun _ => ?_)⟩
        refine ⟨.ref ua, rfl, .ref ua, .ty "str", _, _, isSt (.tuple ds), rfl, .ty _, ty_ft fu, kit_st _, _, rfl, ite2 (fun z => nomatch z) (fun _ => ?_)⟩
        refine ⟨.ref ua, rfl, .ref ua, .ty "int", _, _, isIn (.tuple ds), rfl, .ty _, ty_ft fu, kit_in _, _, rfl, ite2 (fun z => nomatch z) (fun _ => ?_)⟩
        refine ⟨.ref ua, rfl, .ref ua, .ty "tuple", _, _, isTp (.tuple ds), rfl, .ty _, ty_ft fu, kit_tp _, .ref va, rfl, .ref va, .ty "tuple", _, _, isTp (.tuple ds), rfl, .ty _, ty_ft fv, kit_tp _, rfl, _, rfl, iteNS rfl ?_⟩
        refine ⟨.ref ua, rfl, .ref ua, .ty "list", _, _, isLs (.tuple ds), rfl, .ty _, ty_ft fu, kit_ls _, .ref va, rfl, .ref va, .ty "list", _, _, isLs (.tuple ds), rfl, .ty _, ty_ft fv, kit_ls _, rfl, _, rfl, iteNS rfl ?_⟩
        refine ⟨.ref va, rfl, va, xs, rfl, .inr (.inl (.inl hva)), .ref ua, rfl, ua, ys, rfl, .inr (.inl (.inl hua)), rfl, _, rfl, iteNS hlen ?_⟩
        refine ⟨.ref va, rfl, .ref ua, rfl, va, ua, xs, ys, rfl, .inr ⟨.inl (.inl hva), .inl (.inl hua), fun D nD => lc_it (walk_zipT (xs := xs) (ys := ys) (n := xs.length) rfl (by omega)) (fun i H' => Same H H' ∧ H' D = some (.lst ((List.replicate i true).map V.bl)))
          ⟨Same.new (Same.refl H) nD, upd_same⟩ (fun i H' _ hP => ?_) (fun i x H3 H4 hi hP hY => ?_) (fun H3 hP => ?_)⟩⟩
        · exact ⟨.inl (.inl (hP.1 _ _ hva)), .inl (.inl (hP.1 _ _ hua))⟩
        · obtain ⟨sm3, hD3⟩ := hP
          obtain ⟨T0, x1, x2, rfl, nT, rfl, ex1, ex2⟩ := hY
          obtain ⟨d1, hd1, f1⟩ := fxs.getV ex1
          obtain ⟨d2, hd2, f2⟩ := fys.getV ex2
          rw [hd1] at hd2
          cases hd2
          have hm : d1 ∈ ds := List.mem_of_getElem? hd1
          have sm4 : Same H (upd H3 T0 (.tup [x1, x2])) := Same.new sm3 nT
          refine ⟨T0, [x1, x2], rfl, .inl (.inl upd_same), rfl, x1, [x2], rfl, x2, [], rfl, rfl, rfl, x1, rfl, x2, rfl, x1, x2, d1, rfl, Ft.mono sm4 _ _ f1, Ft.mono sm4 _ _ f2, ?_, ?_, fun H5 sm5 => ?_⟩
          · have := depA_mem hm
            omega
          · have := wdA_mem hm
            omega
          · refine ⟨_, sm5 _ _ (keep_new hD3 nT), ?_, Same.mut (Same.trans (Same.new sm3 nT) sm5) nD, ?_⟩
            · rw [List.length_map, List.length_replicate]
              exact small1000 (by omega)
            · rw [upd_same, List.replicate_succ', List.map_append]
              rfl
        · obtain ⟨sm3, hD3⟩ := hP
          refine ⟨D, _, rfl, .inl (.inl (.inl hD3)), rfl, flat_bls _, ?_⟩
          have ea : inV (.bl false) ((List.replicate xs.length true).map V.bl) = false := by
            rw [inV_no]
            simp
          show Q (.bl (!inV (.bl false) ((List.replicate xs.length true).map V.bl))) H3
          rw [ea]
          exact q _ sm3
      | dict kv => cases fv

/-! ### letters_of -/
def spLetters (K : PySem.W.Frag) : Sp := fun vs H Q _ => ∃ (ev : V) (es : List (Nat × Int)), vs = [ev] ∧ EZ H ev es ∧ es.length ≤ 1000 ∧ ∀ (p : Addr) (H' : Hp), Same H H' → H p = none → H' p = some (.lst ((es.map (·.1)).map sg)) → Q (.ref p) H'
theorem ok_letters (T : Tx K mg Z) : FnOk P w K mg base CX0 1 Z.f_letters_of Z.d_letters_of ["equals"] (spLetters K) := by
  refine T.F_letters_of.ok sc_letters_of (fun vs H Q E h => ?_) (fun cdv A outer s H vs Q E hr h => ?_)
  · obtain ⟨ev, es, rfl, _⟩ := h
    rfl
  · obtain ⟨ev, es, rfl, fe, hel, q⟩ := h
    obtain ⟨ea, ob, ps, rfl, hob, hea, fps⟩ := fe
    have hpl : ps.length = es.length := by rw [fps.len, List.length_map]
    refine ⟨_, (pss_one (ps_ret (pe_lc (own := [("letter", 1), ("number", 2)]) (tt := tYes) (by rfl) sc_letters_of.nd (piT K (pv 0)) (blkOk_by (own := [("letter", 1), ("number", 2)]) (by kernel_rfl)) (fun _ _ _ _ _ => (pgT K (n := 2) (pgs_cons (pg_name (i := 1) sc_letters_of.nd rfl (.inl rfl)) (pgs_cons (pg_name (i := 2) sc_letters_of.nd rfl (.inl rfl)) pgs_nil)))) (fun _ _ _ _ _ => pts_nil) (fun _ _ _ _ _ => (pv 1))))), ?_⟩
    refine ⟨.ref ea, rfl, ea, rfl, ⟨_, .inl (.inr ⟨_, hea⟩)⟩, fun D nD => lc_it (walk_tup (xs := ps)) (fun i H' => Same H H' ∧ H' D = some (.lst (((es.take i).map (·.1)).map sg)))
      ⟨Same.new (Same.refl H) nD, upd_same⟩ (fun i H' _ hP => .inl (.inr ⟨_, hP.1 _ _ hea⟩)) (fun i x H3 H4 hi hP hY => ?_) (fun H3 hP => ?_)⟩
    · obtain ⟨sm, hD⟩ := hP
      obtain ⟨rfl, hx⟩ := hY
      obtain ⟨dd, hdd, fd⟩ := fps.getV hx
      rw [List.getElem?_map] at hdd
      obtain ⟨pr, hpr, rfl⟩ := Option.map_eq_some_iff.mp hdd
      have hi2 : i < es.length := (List.getElem?_eq_some_iff.mp hpr).1
      have epr : es[i] = pr := (List.getElem?_eq_some_iff.mp hpr).2
      obtain ⟨pa, ys, rfl, hpa, fy2⟩ := fd.open
      obtain ⟨c, v, rfl, fc, fv⟩ := fy2.two
      rw [fc.isStr, fv.isInt] at hpa
      refine ⟨pa, [sg pr.1, .int pr.2], rfl, .inl (.inl (sm _ _ hpa)), rfl, sg pr.1, [.int pr.2], rfl, .int pr.2, [], rfl, rfl, rfl, sg pr.1, rfl, _, hD, ?_, Same.mut sm nD, ?_⟩
      · rw [List.length_map, List.length_map, List.length_take]
        exact small1000 (by omega)
      · rw [upd_same, List.take_succ_eq_append_getElem hi2, epr, List.map_append, List.map_append]
        rfl
    · obtain ⟨sm, hD⟩ := hP
      rw [hpl, List.take_of_length_le (Nat.le_refl _)] at hD
      exact q D H3 sm nD hD

/-! ### used -/
def spUsed (K : PySem.W.Frag) : Sp := fun vs H Q _ => ∃ (one : List Nat) (qv : V) (es : List (Nat × Int)) (rc : Option (Nat × Int × Int)), vs = [tx one, qv] ∧ one.length ≤ 1000 ∧ QZ H qv es rc ∧ es.length ≤ 1000 ∧ ∀ (H' : Hp), Same H H' → Q (tx (usedM one es rc)) H'
theorem ok_used (T : Tx K mg Z) : FnOk P w K mg base CX0 2 Z.f_used Z.d_used ["one", "question"] (spUsed K) := by
  have G_letters_of : FnOk P w K mg base CX0 1 Z.f_letters_of Z.d_letters_of ["equals"] (spLetters K) := ok_letters T
  refine T.F_used.ok sc_used (fun vs H Q E h => ?_) (fun cdv A outer s H vs Q E hr h => ?_)
  · obtain ⟨one, qv, es, rc, rfl, _⟩ := h
    rfl
  · obtain ⟨one, qv, es, rc, rfl, hol, fq, hel, q⟩ := h
    obtain ⟨qa, x, y, rfl, hqa, fx, fy⟩ := fq
    have fx2 := fx
    obtain ⟨ea, ob, ps, rfl, hob, hea, fps⟩ := fx2
    refine ⟨_, (pss_cons (ps_asg (pv 1) (pgT K (n := 2) (pgs_cons (pg_name (i := 2) sc_used.nd rfl (.inl rfl)) (pgs_cons (pg_name (i := 3) sc_used.nd rfl (.inl rfl)) pgs_nil))))
      (pss_cons (ps_set (i := 4) sc_used.nd rfl (.inl rfl) (pe_call G_letters_of (hr.mono (by omega)) (by rfl) T.g_letters_of T.F_letters_of.kp T.b_letters_of .nil pass0 (pa_cons (pv 2) pa_nil)))
      (pss_cons (ps_set (i := 5) sc_used.nd rfl (.inl rfl) pe_int)
      (pss_cons (ps_while PassesOwn.never (PW.pt (pw_and (pt_cmpR op_lt (pv 5) (pe_callB call_len_str (by rfl) T.m_len (by decide +kernel) (pa_cons (pv 0) pa_nil)) (nomark _)) (pw_and1 (pt_cmpR (inSq K) (pe_ix ix_str (pv 0) (pv 5) (fun _ _ => rfl)) (pv 4) (by rfl))))) (pss_one (ps_aug (i := 5) sc_used.nd rfl (.inl rfl) pe_int ip_add)))
      (pss_mid (ps_if (PW.pt (pw_and (pt_cmpR op_notN (pv 3) pe_non (nomark _)) (pw_and1 (pt_cmpR op_eq (pe_slice sl_str (pv 0) (po_some (pv 5)) (po_some (pe_op op_add (pv 5) pe_int))) (pe_ix (ixT K) (pv 3) pe_int (fun _ _ => rfl)) (nomark _))))) (pss_one (ps_aug (i := 5) sc_used.nd rfl (.inl rfl) pe_int ip_add)) pss_nil)
      (pss_one (ps_ret (pe_slice sl_str (pv 0) po_none (po_some (pv 5)))))))))), ?_⟩
    refine ⟨.ref qa, rfl, qa, [.ref ea, y], rfl, .inl (.inl hqa), rfl, .ref ea, [y], rfl, y, [], rfl, rfl, ?_⟩
    refine ⟨.ref ea, rfl, .ref ea, es, rfl, fx, hel, fun L H1 sm nL hL => ?_⟩
    -- while
    refine ⟨fun m σ H' => ∃ k : Nat, m = one.length - k ∧ k ≤ one.length ∧ σ = [some (tx one), some (.ref qa), some (.ref ea), some y, some (.ref L), some (.int k)] ∧ H' = H1 ∧ ∀ (i : Nat) (h : i < one.length), i < k → one[i] ∈ es.map (·.1), ⟨_, 0, rfl, Nat.zero_le _, rfl, rfl, fun i _ h => absurd h (Nat.not_lt_zero _)⟩, fun m σ H' hW => ?_⟩
    obtain ⟨k, rfl, hk, rfl, rfl, hin⟩ := hW
    refine ⟨.int k, rfl, tx one, rfl, _, rfl, Nat.le_of_lt (small1000 (show one.length ≤ 1000 from hol)), _, _, rfl, rfl, _, rfl, ite2 (fun e => ?_) (fun e => ?_)⟩
    · have hkl : k < one.length := by
        have : (k : Int) < ((one.length : Nat) : Int) := of_decide_eq_true e
        omega
      have hat : atI (⟨one.toArray⟩ : Str).cps.toList (k : Int) = some one[k] := atI_nat (by simp [hkl])
      refine ⟨tx one, rfl, .int k, rfl, _, _, _, rfl, rfl, Nat.le_of_lt (small1000 (show one.length ≤ 1000 from hol)), hat, .ref L, rfl, L, _, rfl, .inl (.inl (.inl hL)), rfl, flat_signs _, _, rfl, ?_⟩
      show (if inV (sg one[k]) ((es.map (·.1)).map sg) = true then _ else _)
      rw [inV_signs]
      refine ite2 (fun e2 => ?_) (fun e2 => ?_)
      · have hm : one[k] ∈ es.map (·.1) := of_decide_eq_true e2
        refine ⟨fun σ2 H2 => σ2 = [some (tx one), some (.ref qa), some (.ref ea), some y, some (.ref L), some (.int ((k : Int) + 1))] ∧ H2 = H', fun σ2 H2 hN => ?_, ?_⟩
        · obtain ⟨rfl, rfl⟩ := hN
          refine ⟨one.length - (k + 1), by omega, k + 1, rfl, hkl, rfl, rfl, fun i h hi => ?_⟩
          by_cases e3 : i = k
          · subst e3
            exact hm
          · exact hin i h (by omega)
        · exact ⟨_, rfl, _, _, rfl, rfl, rfl, rfl⟩
      · have hno : ∀ h : k < one.length, ¬ one[k] ∈ es.map (·.1) := fun _ z => e2 (decide_eq_true z)
        have hkk : (eqPart one es).length = k := take_while_at _ _ _ hk (fun i h hi => decide_eq_true (hin i h hi)) (fun h => decide_eq_false (hno h))
        have htk : one.take k = eqPart one es := by rw [← hkk]; exact (eqPart_take one es).symm
        refine ⟨fun σ H2 => ∃ k2 : Nat, σ = [some (tx one), some (.ref qa), some (.ref ea), some y, some (.ref L), some (.int k2)] ∧ H2 = H' ∧ one.take k2 = usedM one es rc, ?_, ?_⟩
        · cases rc with
          | none =>
            obtain rfl : y = .non := fy.isNon
            refine ⟨.non, rfl, rfl, _, rfl, ite2 (fun z => ?_) (fun _ => ?_)⟩
            · exact absurd z (by simp)
            · exact ⟨k, rfl, rfl, htk⟩
          | some t3 =>
            obtain ⟨c, lo, hi⟩ := t3
            obtain ⟨ra, zs, rfl, hra, fz⟩ := Fz.open (ds := [.str ⟨#[c]⟩, .int lo, .int hi]) fy
            obtain ⟨z1, z2, z3, rfl, g1, g2, g3⟩ := fz.three
            rw [g1.isStr, g2.isInt, g3.isInt] at hra
            refine ⟨.ref ra, rfl, rfl, _, rfl, ite2 (fun _ => ?_) (fun z => ?_)⟩
            · refine ⟨tx one, rfl, .int k, rfl, _, rfl, .int k, rfl, _, 1, rfl, rfl, _, rfl, _, rfl, Nat.le_of_lt (small1000 (show one.length ≤ 1000 from hol)), .ref ra, rfl, ra, _, 0, sg c, rfl, rfl, .inl (.inl (sm _ _ hra)), rfl, rfl, _, rfl, ?_⟩
              rw [cut_one one k hk]
              refine ite2 (fun z => ?_) (fun z => ?_)
              · have z2 : (one.drop k).take 1 = [c] := tx_inj (of_decide_eq_true z)
                refine ⟨_, rfl, _, _, rfl, rfl, k + 1, rfl, rfl, ?_⟩
                show one.take (k + 1) = (if (one.drop (eqPart one es).length).take 1 = [c] then one.take ((eqPart one es).length + 1) else eqPart one es)
                rw [hkk, if_pos z2]
              · have z2 : ¬ (one.drop k).take 1 = [c] := fun z3 => z (decide_eq_true (by rw [z3]))
                refine ⟨k, rfl, rfl, ?_⟩
                show one.take k = (if (one.drop (eqPart one es).length).take 1 = [c] then one.take ((eqPart one es).length + 1) else eqPart one es)
                rw [hkk, if_neg z2]
                exact htk
            · exact absurd (by simp) z
        · intro σ2 H2 hM
          obtain ⟨k2, rfl, rfl, hk2⟩ := hM
          refine ⟨tx one, rfl, .int k2, rfl, _, rfl, _, rfl, Nat.le_of_lt (small1000 (show one.length ≤ 1000 from hol)), ?_⟩
          rw [cut_take, hk2]
          exact q _ sm
    · have hge : ¬ k < one.length := fun z => e (decide_eq_true (show (k : Int) < ((one.length : Nat) : Int) by omega))
      have hkk : (eqPart one es).length = k := take_while_at _ _ _ hk (fun i h hi => decide_eq_true (hin i h hi)) (fun h => decide_eq_false ((absurd h hge : ¬ one[k] ∈ es.map (·.1))))
      have htk : one.take k = eqPart one es := by rw [← hkk]; exact (eqPart_take one es).symm
      refine ⟨fun σ H2 => ∃ k2 : Nat, σ = [some (tx one), some (.ref qa), some (.ref ea), some y, some (.ref L), some (.int k2)] ∧ H2 = H' ∧ one.take k2 = usedM one es rc, ?_, ?_⟩
      · cases rc with
        | none =>
          obtain rfl : y = .non := fy.isNon
          refine ⟨.non, rfl, rfl, _, rfl, ite2 (fun z => ?_) (fun _ => ?_)⟩
          · exact absurd z (by simp)
          · exact ⟨k, rfl, rfl, htk⟩
        | some t3 =>
          obtain ⟨c, lo, hi⟩ := t3
          obtain ⟨ra, zs, rfl, hra, fz⟩ := Fz.open (ds := [.str ⟨#[c]⟩, .int lo, .int hi]) fy
          obtain ⟨z1, z2, z3, rfl, g1, g2, g3⟩ := fz.three
          rw [g1.isStr, g2.isInt, g3.isInt] at hra
          refine ⟨.ref ra, rfl, rfl, _, rfl, ite2 (fun _ => ?_) (fun z => ?_)⟩
          · refine ⟨tx one, rfl, .int k, rfl, _, rfl, .int k, rfl, _, 1, rfl, rfl, _, rfl, _, rfl, Nat.le_of_lt (small1000 (show one.length ≤ 1000 from hol)), .ref ra, rfl, ra, _, 0, sg c, rfl, rfl, .inl (.inl (sm _ _ hra)), rfl, rfl, _, rfl, ?_⟩
            rw [cut_one one k hk]
            refine ite2 (fun z => ?_) (fun z => ?_)
            · have z2 : (one.drop k).take 1 = [c] := tx_inj (of_decide_eq_true z)
              refine ⟨_, rfl, _, _, rfl, rfl, k + 1, rfl, rfl, ?_⟩
              show one.take (k + 1) = (if (one.drop (eqPart one es).length).take 1 = [c] then one.take ((eqPart one es).length + 1) else eqPart one es)
              rw [hkk, if_pos z2]
            · have z2 : ¬ (one.drop k).take 1 = [c] := fun z3 => z (decide_eq_true (by rw [z3]))
              refine ⟨k, rfl, rfl, ?_⟩
              show one.take k = (if (one.drop (eqPart one es).length).take 1 = [c] then one.take ((eqPart one es).length + 1) else eqPart one es)
              rw [hkk, if_neg z2]
              exact htk
          · exact absurd (by simp) z
      · intro σ2 H2 hM
        obtain ⟨k2, rfl, rfl, hk2⟩ := hM
        refine ⟨tx one, rfl, .int k2, rfl, _, rfl, _, rfl, Nat.le_of_lt (small1000 (show one.length ≤ 1000 from hol)), ?_⟩
        rw [cut_take, hk2]
        exact q _ sm

/-! ### _law_used -/
theorem ok_lused (T : Tx K mg Z) : FnOk P w K mg base CX0 1 Z.f_l_used Z.d_l_used ["one", "question"] (spUsed K) := by
  refine T.F_l_used.ok sc_l_used (fun vs H Q E h => ?_) (fun cdv A outer s H vs Q E hr h => ?_)
  · obtain ⟨one, qv, es, rc, rfl, _⟩ := h
    rfl
  · obtain ⟨one, qv, es, rc, rfl, hol, fq, hel, q⟩ := h
    obtain ⟨qa, x, y, rfl, hqa, fx, fy⟩ := fq
    have fx2 := fx
    obtain ⟨ea, ob, ps, rfl, hob, hea, fps⟩ := fx2
    refine ⟨_, (pss_cons (ps_setLc (i := 2) (own := [("letter", 4), ("number", 5)]) (tt := tYes) (by rfl) sc_l_used.nd rfl rfl (sw_true rfl rfl rfl (by decide +kernel)) (piT K (pe_ix (ixT K) (pv 1) pe_int (fun _ _ => rfl))) (blkOk_by (own := [("letter", 4), ("number", 5)]) (by kernel_rfl)) (fun _ _ _ _ _ => (pgT K (n := 2) (pgs_cons (pg_name (i := 4) sc_l_used.nd rfl (.inl rfl)) (pgs_cons (pg_name (i := 5) sc_l_used.nd rfl (.inl rfl)) pgs_nil)))) (fun _ _ _ _ _ => pts_nil) (fun _ _ _ _ _ => (pv 4)))
      (pss_cons (ps_set (i := 3) sc_l_used.nd rfl (.inl rfl) pe_int)
      (pss_cons (ps_while PassesOwn.never (PW.pt (pw_and (pt_cmpR op_lt (pv 3) (pe_callB call_len_str (by rfl) T.m_len (by decide +kernel) (pa_cons (pv 0) pa_nil)) (nomark _)) (pw_and1 (pt_cmpR (inSq K) (pe_ix ix_str (pv 0) (pv 3) (fun _ _ => rfl)) (pv 2) (by rfl))))) (pss_one (ps_set (i := 3) sc_l_used.nd rfl (.inl rfl) (pe_op op_add (pv 3) pe_int))))
      (pss_mid (ps_if (PW.pt (pw_and (pt_cmpR op_notN (pe_ix (ixT K) (pv 1) pe_int (fun _ _ => rfl)) pe_non (nomark _)) (pw_and1 (pt_cmpR op_eq (pe_slice sl_str (pv 0) (po_some (pv 3)) (po_some (pe_op op_add (pv 3) pe_int))) (pe_ix (ixT K) (pe_ix (ixT K) (pv 1) pe_int (fun _ _ => rfl)) pe_int (fun _ _ => rfl)) (nomark _))))) (pss_one (ps_set (i := 3) sc_l_used.nd rfl (.inl rfl) (pe_op op_add (pv 3) pe_int))) pss_nil)
      (pss_one (ps_ret (pe_slice sl_str (pv 0) po_none (po_some (pv 3))))))))), ?_⟩
    refine ⟨.ref qa, rfl, qa, [.ref ea, y], 0, .ref ea, rfl, rfl, .inl (.inl hqa), rfl, ea, rfl, ⟨_, .inl (.inr ⟨_, hea⟩)⟩, fun D nD => lc_it (walk_tup (xs := ps)) (fun i H' => Same H H' ∧ H' D = some (.lst (((es.take i).map (·.1)).map sg)))
      ⟨Same.new (Same.refl H) nD, upd_same⟩ (fun i H' _ hP => .inl (.inr ⟨_, hP.1 _ _ hea⟩)) (fun i x H3 H4 hi hP hY => ?_) (fun H1 hP => ?_)⟩
    · obtain ⟨sm, hD⟩ := hP
      obtain ⟨rfl, hx⟩ := hY
      obtain ⟨dd, hdd, fd⟩ := fps.getV hx
      rw [List.getElem?_map] at hdd
      obtain ⟨pr, hpr, rfl⟩ := Option.map_eq_some_iff.mp hdd
      have hi2 : i < es.length := (List.getElem?_eq_some_iff.mp hpr).1
      have epr : es[i] = pr := (List.getElem?_eq_some_iff.mp hpr).2
      obtain ⟨pa, ys, rfl, hpa, fy2⟩ := fd.open
      obtain ⟨c, v, rfl, fc, fv⟩ := fy2.two
      rw [fc.isStr, fv.isInt] at hpa
      refine ⟨pa, [sg pr.1, .int pr.2], rfl, .inl (.inl (sm _ _ hpa)), rfl, sg pr.1, [.int pr.2], rfl, .int pr.2, [], rfl, rfl, rfl, sg pr.1, rfl, _, hD, ?_, Same.mut sm nD, ?_⟩
      · rw [List.length_map, List.length_map, List.length_take]
        exact small1000 (by omega)
      · rw [upd_same, List.take_succ_eq_append_getElem hi2, epr, List.map_append, List.map_append]
        rfl
    · obtain ⟨sm, hL⟩ := hP
      have hpl : ps.length = es.length := by rw [fps.len, List.length_map]
      rw [hpl, List.take_of_length_le (Nat.le_refl _)] at hL
      have hol2 : one.length ≤ sizeLine := Nat.le_of_lt (small1000 hol)
      refine ⟨fun m σ H' => ∃ k : Nat, m = one.length - k ∧ k ≤ one.length ∧ σ = [some (tx one), some (.ref qa), some (.ref D), some (.int k), none, none] ∧ H' = H1 ∧ ∀ (i : Nat) (h : i < one.length), i < k → one[i] ∈ es.map (·.1), ⟨_, 0, rfl, Nat.zero_le _, rfl, rfl, fun i _ h => absurd h (Nat.not_lt_zero _)⟩, fun m σ H' hW => ?_⟩
      obtain ⟨k, rfl, hk, rfl, rfl, hin⟩ := hW
      refine ⟨.int k, rfl, tx one, rfl, _, rfl, hol2, _, _, rfl, rfl, _, rfl, ite2 (fun e => ?_) (fun e => ?_)⟩
      · have hkl : k < one.length := by
          have : (k : Int) < ((one.length : Nat) : Int) := of_decide_eq_true e
          omega
        have hat : atI (⟨one.toArray⟩ : Str).cps.toList (k : Int) = some one[k] := atI_nat (by simp [hkl])
        refine ⟨tx one, rfl, .int k, rfl, _, _, _, rfl, rfl, hol2, hat, .ref D, rfl, D, _, rfl, .inl (.inl (.inl hL)), rfl, flat_signs _, _, rfl, ?_⟩
        show (if inV (sg one[k]) ((es.map (·.1)).map sg) = true then _ else _)
        rw [inV_signs]
        refine ite2 (fun e2 => ?_) (fun e2 => ?_)
        · have hm : one[k] ∈ es.map (·.1) := of_decide_eq_true e2
          refine ⟨fun σ2 H2 => σ2 = [some (tx one), some (.ref qa), some (.ref D), some (.int ((k : Int) + 1)), none, none] ∧ H2 = H', fun σ2 H2 hN => ?_, ?_⟩
          · obtain ⟨rfl, rfl⟩ := hN
            refine ⟨one.length - (k + 1), by omega, k + 1, rfl, hkl, rfl, rfl, fun i h hi => ?_⟩
            by_cases e3 : i = k
            · subst e3
              exact hm
            · exact hin i h (by omega)
          · exact ⟨_, rfl, _, _, rfl, rfl, rfl, rfl⟩
        · have hno : ∀ h : k < one.length, ¬ one[k] ∈ es.map (·.1) := fun _ z => e2 (decide_eq_true z)
          have hkk : (eqPart one es).length = k := take_while_at _ _ _ hk (fun i h hi => decide_eq_true (hin i h hi)) (fun h => decide_eq_false (hno h))
          have htk : one.take k = eqPart one es := by rw [← hkk]; exact (eqPart_take one es).symm
          refine ⟨fun σ H2 => ∃ k2 : Nat, σ = [some (tx one), some (.ref qa), some (.ref D), some (.int k2), none, none] ∧ H2 = H' ∧ one.take k2 = usedM one es rc, ?_, ?_⟩
          · cases rc with
            | none =>
              obtain rfl : y = .non := fy.isNon
              refine ⟨.ref qa, rfl, qa, [.ref ea, .non], 1, .non, rfl, rfl, .inl (.inl (sm _ _ hqa)), rfl, rfl, _, rfl, ite2 (fun z => ?_) (fun _ => ?_)⟩
              · exact absurd z (by simp)
              · exact ⟨k, rfl, rfl, htk⟩
            | some t3 =>
              obtain ⟨c, lo, hi⟩ := t3
              obtain ⟨ra, zs, rfl, hra, fz⟩ := Fz.open (ds := [.str ⟨#[c]⟩, .int lo, .int hi]) fy
              obtain ⟨z1, z2, z3, rfl, g1, g2, g3⟩ := fz.three
              rw [g1.isStr, g2.isInt, g3.isInt] at hra
              refine ⟨.ref qa, rfl, qa, [.ref ea, .ref ra], 1, .ref ra, rfl, rfl, .inl (.inl (sm _ _ hqa)), rfl, rfl, _, rfl, ite2 (fun _ => ?_) (fun z => ?_)⟩
              · refine ⟨tx one, rfl, .int k, rfl, _, rfl, .int k, rfl, _, 1, rfl, rfl, _, rfl, _, rfl, hol2, .ref qa, rfl, qa, [.ref ea, .ref ra], 1, .ref ra, rfl, rfl, .inl (.inl (sm _ _ hqa)), rfl, ra, _, 0, sg c, rfl, rfl, .inl (.inl (sm _ _ hra)), rfl, rfl, _, rfl, ?_⟩
                rw [cut_one one k hk]
                refine ite2 (fun z => ?_) (fun z => ?_)
                · have z2 : (one.drop k).take 1 = [c] := tx_inj (of_decide_eq_true z)
                  refine ⟨.int k, rfl, _, 1, rfl, rfl, k + 1, rfl, rfl, ?_⟩
                  show one.take (k + 1) = (if (one.drop (eqPart one es).length).take 1 = [c] then one.take ((eqPart one es).length + 1) else eqPart one es)
                  rw [hkk, if_pos z2]
                · have z2 : ¬ (one.drop k).take 1 = [c] := fun z3 => z (decide_eq_true (by rw [z3]))
                  refine ⟨k, rfl, rfl, ?_⟩
                  show one.take k = (if (one.drop (eqPart one es).length).take 1 = [c] then one.take ((eqPart one es).length + 1) else eqPart one es)
                  rw [hkk, if_neg z2]
                  exact htk
              · exact absurd (by simp) z
          · intro σ2 H2 hM
            obtain ⟨k2, rfl, rfl, hk2⟩ := hM
            refine ⟨tx one, rfl, .int k2, rfl, _, rfl, _, rfl, hol2, ?_⟩
            rw [cut_take, hk2]
            exact q _ sm
      · have hge : ¬ k < one.length := fun z => e (decide_eq_true (show (k : Int) < ((one.length : Nat) : Int) by omega))
        have hkk : (eqPart one es).length = k := take_while_at _ _ _ hk (fun i h hi => decide_eq_true (hin i h hi)) (fun h => decide_eq_false ((absurd h hge : ¬ one[k] ∈ es.map (·.1))))
        have htk : one.take k = eqPart one es := by rw [← hkk]; exact (eqPart_take one es).symm
        refine ⟨fun σ H2 => ∃ k2 : Nat, σ = [some (tx one), some (.ref qa), some (.ref D), some (.int k2), none, none] ∧ H2 = H' ∧ one.take k2 = usedM one es rc, ?_, ?_⟩
        · cases rc with
          | none =>
            obtain rfl : y = .non := fy.isNon
            refine ⟨.ref qa, rfl, qa, [.ref ea, .non], 1, .non, rfl, rfl, .inl (.inl (sm _ _ hqa)), rfl, rfl, _, rfl, ite2 (fun z => ?_) (fun _ => ?_)⟩
            · exact absurd z (by simp)
            · exact ⟨k, rfl, rfl, htk⟩
          | some t3 =>
            obtain ⟨c, lo, hi⟩ := t3
            obtain ⟨ra, zs, rfl, hra, fz⟩ := Fz.open (ds := [.str ⟨#[c]⟩, .int lo, .int hi]) fy
            obtain ⟨z1, z2, z3, rfl, g1, g2, g3⟩ := fz.three
            rw [g1.isStr, g2.isInt, g3.isInt] at hra
            refine ⟨.ref qa, rfl, qa, [.ref ea, .ref ra], 1, .ref ra, rfl, rfl, .inl (.inl (sm _ _ hqa)), rfl, rfl, _, rfl, ite2 (fun _ => ?_) (fun z => ?_)⟩
            · refine ⟨tx one, rfl, .int k, rfl, _, rfl, .int k, rfl, _, 1, rfl, rfl, _, rfl, _, rfl, hol2, .ref qa, rfl, qa, [.ref ea, .ref ra], 1, .ref ra, rfl, rfl, .inl (.inl (sm _ _ hqa)), rfl, ra, _, 0, sg c, rfl, rfl, .inl (.inl (sm _ _ hra)), rfl, rfl, _, rfl, ?_⟩
              rw [cut_one one k hk]
              refine ite2 (fun z => ?_) (fun z => ?_)
              · have z2 : (one.drop k).take 1 = [c] := tx_inj (of_decide_eq_true z)
                refine ⟨.int k, rfl, _, 1, rfl, rfl, k + 1, rfl, rfl, ?_⟩
                show one.take (k + 1) = (if (one.drop (eqPart one es).length).take 1 = [c] then one.take ((eqPart one es).length + 1) else eqPart one es)
                rw [hkk, if_pos z2]
              · have z2 : ¬ (one.drop k).take 1 = [c] := fun z3 => z (decide_eq_true (by rw [z3]))
                refine ⟨k, rfl, rfl, ?_⟩
                show one.take k = (if (one.drop (eqPart one es).length).take 1 = [c] then one.take ((eqPart one es).length + 1) else eqPart one es)
                rw [hkk, if_neg z2]
                exact htk
            · exact absurd (by simp) z
        · intro σ2 H2 hM
          obtain ⟨k2, rfl, rfl, hk2⟩ := hM
          refine ⟨tx one, rfl, .int k2, rfl, _, rfl, _, rfl, hol2, ?_⟩
          rw [cut_take, hk2]
          exact q _ sm

/-! ### spans -/
def spSpans (K : PySem.W.Frag) : Sp := fun vs H Q _ => ∃ (qv : V) (cols : List Nat) (es : List (Nat × Int)) (rc : Option (Nat × Int × Int)), vs = [qv] ∧ QZ H qv es rc ∧ QOk cols es rc ∧ es.length ≤ 1000 ∧
  ∀ (d : Addr) (kvs : List (Key × V)) (H' : Hp), Same H H' → H d = none → H' d = some (.dK kvs) → SpA H' kvs (spanL es rc) → Q (.ref d) H'
theorem ok_spans (T : Tx K mg Z) : FnOk P w K mg base CX0 1 Z.f_spans Z.d_spans ["question"] (spSpans K) := by
  refine T.F_spans.ok sc_spans (fun vs H Q E h => ?_) (fun cdv A outer s H vs Q E hr h => ?_)
  · obtain ⟨qv, cols, es, rc, rfl, _⟩ := h
    rfl
  · obtain ⟨qv, cols, es, rc, rfl, fq, hok, hel, q⟩ := h
    obtain ⟨qa, x, y, rfl, hqa, fx, fy⟩ := fq
    obtain ⟨ea, ob, ps, rfl, hob, hea, fps⟩ := fx
    have hndE : (es.map (·.1)).Nodup := hok.up.imp fun {a b} q => by
      have : a < b := q
      omega
    refine ⟨_, (pss_cons (ps_asg (pv 0) (pgT K (n := 2) (pgs_cons (pg_name (i := 1) sc_spans.nd rfl (.inl rfl)) (pgs_cons (pg_name (i := 2) sc_spans.nd rfl (.inl rfl)) pgs_nil))))
      (pss_cons (ps_setDc (i := 4) (own := [("letter", 3), ("number", 7)]) (tt := tYes) (by rfl) sc_spans.nd rfl rfl (sw_dict rfl rfl rfl (by decide +kernel)) (piT K (pv 1)) (blkOk_by (own := [("letter", 3), ("number", 7)]) (by kernel_rfl)) (fun _ _ _ _ _ => (pgT K (n := 2) (pgs_cons (pg_name (i := 3) sc_spans.nd rfl (.inl rfl)) (pgs_cons (pg_name (i := 7) sc_spans.nd rfl (.inl rfl)) pgs_nil)))) (fun _ _ _ _ _ => pts_nil) (fun _ _ _ _ _ => (pv 3)) (fun _ _ _ _ _ => (pe_tup (pa_cons (pv 7) (pa_cons (pv 7) pa_nil)))))
      (pss_mid (ps_if (pt_cmpR op_notN (pv 2) pe_non (nomark _)) (pss_cons (ps_asg (pv 2) (pgT K (n := 3) (pgs_cons (pg_name (i := 3) sc_spans.nd rfl (.inl rfl)) (pgs_cons (pg_name (i := 5) sc_spans.nd rfl (.inl rfl)) (pgs_cons (pg_name (i := 6) sc_spans.nd rfl (.inl rfl)) pgs_nil)))))
      (pss_one (ps_dput (hu_of hr) (pv 4) (pv 3) (pe_tup (pa_cons (pv 5) (pa_cons (pv 6) pa_nil))) rfl))) pss_nil)
      (pss_one (ps_ret (pv 4)))))), ?_⟩
    refine ⟨.ref qa, rfl, qa, [.ref ea, y], rfl, .inl (.inl hqa), rfl, .ref ea, [y], rfl, y, [], rfl, rfl, ?_⟩
    refine ⟨.ref ea, rfl, ea, rfl, ⟨_, .inl (.inr ⟨_, hea⟩)⟩, fun D nD => dc_tup (xs := ps) (fun i H' => ∃ kvs, Same H H' ∧ H' D = some (.dK kvs) ∧ SpA H' kvs ((es.take i).map fun p => (p.1, p.2, p.2)))
      ⟨[], Same.new (Same.refl H) nD, upd_same, .nil⟩ (fun i H' _ hP => ?_) (fun i x H3 hx hP => ?_) (fun H3 hP => ?_)⟩
    · obtain ⟨kvs, sm, _⟩ := hP
      exact .inl (.inr ⟨_, sm _ _ hea⟩)
    · obtain ⟨kvs, sm, hD3, fk⟩ := hP
      obtain ⟨dd, hdd, fd⟩ := fps.getV hx
      rw [List.getElem?_map] at hdd
      obtain ⟨pr, hpr, rfl⟩ := Option.map_eq_some_iff.mp hdd
      obtain ⟨pa, ys, rfl, hpa, fy2⟩ := fd.open
      obtain ⟨c, v, rfl, fc, fv⟩ := fy2.two
      rw [fc.isStr, fv.isInt] at hpa
      have hi : i < es.length := (List.getElem?_eq_some_iff.mp hpr).1
      have epr : es[i] = pr := (List.getElem?_eq_some_iff.mp hpr).2
      refine ⟨pa, [sg pr.1, .int pr.2], rfl, .inl (.inl (sm _ _ hpa)), rfl, sg pr.1, [.int pr.2], rfl, .int pr.2, [], rfl, rfl, rfl, sg pr.1, rfl, .int pr.2, rfl, .int pr.2, rfl, (by show 2 ≤ sizeLine; decide), fun tp ntp => ?_⟩
      have hD4 : (upd H3 tp (.tup [.int pr.2, .int pr.2])) D = some (.dK kvs) := keep_new hD3 ntp
      have fk4 := fk.kt (Kt.new ntp (o := .tup [.int pr.2, .int pr.2]))
      have tk : (es.take (i + 1)).map (fun p => (p.1, p.2, p.2)) = (es.take i).map (fun p => (p.1, p.2, p.2)) ++ [(pr.1, pr.2, pr.2)] := by
        rw [List.take_succ_eq_append_getElem hi, epr, List.map_append]
        rfl
      have nk : valV kvs (Sum.inr (sS pr.1)) = none := by
        refine fk.none fun hm => ?_
        rw [spanL_keys] at hm
        have hnd2 : ((es.take (i + 1)).map (·.1)).Nodup := hndE.sublist ((List.take_sublist _ _).map _)
        rw [List.take_succ_eq_append_getElem hi, epr, List.map_append] at hnd2
        exact (List.nodup_append.mp hnd2).2.2 _ hm _ (by simp) rfl
      refine ⟨kvs, Sum.inr (sS pr.1), rfl, hD4, ?_, putK kvs (Sum.inr (sS pr.1)) (.ref tp), ?_, upd_same, ?_⟩
      · rw [fk.len, List.length_map, List.length_take]
        exact small1000 (by omega)
      · exact Same.mut (Same.new sm ntp) nD
      · rw [putK_new _ nk, tk]
        exact (SpA.snoc fk4 upd_same).kt (.dct hD4)
    · obtain ⟨kvs, sm, hD3, fk⟩ := hP
      have hpl : ps.length = es.length := by
        rw [fps.len, List.length_map]
      rw [hpl, List.take_of_length_le (Nat.le_refl _)] at fk
      refine ⟨fun σ H' => ∃ (kvs' : List (Key × V)) (y3 y5 y6 : Option V), σ = [some (.ref qa), some (.ref ea), some y, y3, some (.ref D), y5, y6, none] ∧ Same H H' ∧ H' D = some (.dK kvs') ∧ SpA H' kvs' (spanL es rc), ?_, ?_⟩
      · cases rc with
        | none =>
          have ey : y = .non := fy.isNon
          subst ey
          refine ⟨.non, rfl, rfl, _, rfl, iteNS rfl ?_⟩
          refine ⟨kvs, _, _, _, rfl, sm, hD3, ?_⟩
          unfold spanL
          rw [Option.toList_none, List.append_nil]
          exact fk
        | some t3 =>
          obtain ⟨c, lo, hi⟩ := t3
          obtain ⟨ra, zs, rfl, hra, fz⟩ := Fz.open (ds := [.str ⟨#[c]⟩, .int lo, .int hi]) fy
          obtain ⟨z1, z2, z3, rfl, g1, g2, g3⟩ := fz.three
          rw [g1.isStr, g2.isInt, g3.isInt] at hra
          refine ⟨.ref ra, rfl, rfl, _, rfl, ite2 (fun _ => ?_) (fun e => ?_)⟩
          · refine ⟨.ref ra, rfl, ra, [sg c, .int lo, .int hi], rfl, .inl (.inl (sm _ _ hra)), rfl, sg c, [.int lo, .int hi], rfl, .int lo, [.int hi], rfl, .int hi, [], rfl, rfl, ?_⟩
            refine ⟨.int lo, rfl, .int hi, rfl, (by show 2 ≤ sizeLine; decide), fun tp ntp => ?_⟩
            have hD4 : (upd H3 tp (.tup [.int lo, .int hi])) D = some (.dK kvs) := keep_new hD3 ntp
            have nk : valV kvs (Sum.inr (sS c)) = none := fk.none (by
              rw [spanL_keys]
              exact (hok.rc c lo hi rfl).2.1)
            refine ⟨.ref D, rfl, sg c, rfl, D, _, rfl, DPut.k (k := Sum.inr (sS c)) hD4 (by rw [fk.len, List.length_map]; exact small1000 hel), ?_⟩
            refine ⟨_, _, _, _, rfl, Same.mut (Same.new sm ntp) nD, upd_same, ?_⟩
            rw [putK_new _ nk]
            exact (SpA.snoc (fk.kt (Kt.new ntp)) upd_same).kt (.dct hD4)
          · exact absurd (by simp) e
      · intro σ1 H1 hM
        obtain ⟨kvs', y3, y5, y6, rfl, sm1, hD1, fk1⟩ := hM
        exact ⟨.ref D, rfl, q D kvs' H1 sm1 nD hD1 fk1⟩

/-! ### picked -/
def spPicked (K : PySem.W.Frag) (Z : Ad) : Sp := fun vs H Q _ => ∃ (cols : List Nat) (rv : V) (row : List Int) (ls : List Nat), vs = [tx cols, rv, tx ls] ∧ TG Z.Ps H ∧ Fz H rv (rowD row) ∧ row.length = cols.length ∧ (∀ c ∈ ls, c ∈ cols) ∧ ls.length ≤ 1000 ∧
  ∀ (p : Addr) (H' : Hp), Sx Z.Ps H H' → TG Z.Ps H' → H p = none → H' p = some (.tup ((keyM cols row ls).map V.int)) → Q (.ref p) H'
theorem ok_picked (T : Tx K mg Z) (TB : Tb base mg Z) : FnOk P w K mg base CX0 1 Z.f_picked Z.d_picked ["columns", "row", "letters"] (spPicked K Z) := by
  refine T.C_picked.ok sc_picked (fun vs H Q E h => ?_) (fun A outer s H vs Q E hr h => ?_)
  · obtain ⟨cols, rv, row, ls, rfl, _⟩ := h
    rfl
  · obtain ⟨cols, rv, row, ls, rfl, tg, fr, hrl, hls, hll, q⟩ := h
    obtain ⟨ra, rfl, hra⟩ := row_open fr
    refine ⟨_, (pss_one (ps_ret (pe_tupG (D := (DRow Z.P_picked 0 1)) hr (by rfl) T.m_tuple (TB.t_picked) rfl (genS_by (sc := defScope s_picked) (by kernel_rfl) rfl) (pv 2) (hd_row rfl rfl rfl rfl rfl rfl rfl rfl (by decide +kernel) (by decide +kernel) rfl)))), ?_⟩
    have hP : Z.P_picked ∈ Z.Ps := by simp
    have lsl : (⟨ls.toArray⟩ : Str).cps.toList = ls := by simp
    refine ⟨tx ls, rfl, (keyM cols row ls).map V.int, ⟨tg _ hP, _, cols, ra, row, rfl, Nat.le_of_lt (small1000 (show ls.length ≤ 1000 from hll)), rfl, rfl, hra, hrl, by rw [lsl]; exact hls, ?_⟩, tg _ hP, fun G2 hT p np => ?_⟩
    · rw [lsl]
      unfold keyM
      rw [List.map_map]
      rfl
    · refine q p _ ((Tabbed.sx hP hT).new np) ((Tabbed.tg tg hT).new np) ?_ upd_same
      exact Sx.free (Tabbed.tg tg hT) (Tabbed.sx hP hT) np

/-! ### stretch -/
def spStretch (K : PySem.W.Frag) (Z : Ad) : Sp := fun vs H Q _ => ∃ (tv : V) (cols : List Nat) (rows : List (List Int)) (one : List Nat) (qv : V) (es : List (Nat × Int)) (rc : Option (Nat × Int × Int)), vs = [tv, tx one, qv] ∧ TG Z.Ps H ∧ Fz H tv (tabD cols rows) ∧ RowsOk cols.length rows ∧ rows.length ≤ 1000 ∧ one.length ≤ 1000 ∧ (∀ c ∈ one, c ∈ cols) ∧ QZ H qv es rc ∧ QOk cols es rc ∧ es.length ≤ 1000 ∧
  ∀ (p : Addr) (H' : Hp), Sx Z.Ps H H' → TG Z.Ps H' → H p = none → H' p = some (.tup [.int (aheadM cols rows one es rc : Nat), .int (behindM cols rows one es rc : Nat)]) → Q (.ref p) H'
theorem ok_stretch (T : Tx K mg Z) (TB : Tb base mg Z) : FnOk P w K mg base CX0 3 Z.f_stretch Z.d_stretch ["table", "one", "question"] (spStretch K Z) := by
  have G_used : FnOk P w K mg base CX0 2 Z.f_used Z.d_used ["one", "question"] (spUsed K) := ok_used T
  have G_spans : FnOk P w K mg base CX0 1 Z.f_spans Z.d_spans ["question"] (spSpans K) := ok_spans T
  have G_picked : FnOk P w K mg base CX0 1 Z.f_picked Z.d_picked ["columns", "row", "letters"] (spPicked K Z) := ok_picked T TB
  refine T.C_stretch.ok sc_stretch (fun vs H Q E h => ?_) (fun A outer s H vs Q E hr h => ?_)
  · obtain ⟨tv, cols, rows, one, qv, es, rc, rfl, _⟩ := h
    rfl
  · obtain ⟨tv, cols, rows, one, qv, es, rc, rfl, tg, fT, hrs, hrn, hol, hoc, fq, hok, hel, q⟩ := h
    obtain ⟨t, R, vs, rfl, ht, hRR, fvs⟩ := tab_open fT
    have hvl : vs.length = rows.length := by rw [fvs.len, List.length_map]
    refine ⟨_, (pss_cons (ps_asg (pv 0) (pgT K (n := 2) (pgs_cons (pg_name (i := 3) sc_stretch.nd rfl (.inr rfl)) (pgs_cons (pg_name (i := 4) sc_stretch.nd rfl (.inl rfl)) pgs_nil))))
      (pss_cons (ps_set (i := 5) sc_stretch.nd rfl (.inr rfl) (pe_call G_used (hr.mono (by omega)) (by rfl) T.g_used T.F_used.kp T.b_used .nil pass0 (pa_cons (pv 1) (pa_cons (pv 2) pa_nil))))
      (pss_cons (ps_set (i := 11) sc_stretch.nd rfl (.inr rfl) (pe_call G_spans (hr.mono (by omega)) (by rfl) T.g_spans T.F_spans.kp T.b_spans .nil pass0 (pa_cons (pv 2) pa_nil)))
      (pss_cons (ps_set (i := 6) sc_stretch.nd rfl (.inr rfl) (pe_tupG (D := (DWant Z.P_stretch 11 0)) hr (by rfl) T.m_tuple (TB.t_stretch) rfl (genS_by (sc := defScope s_stretch) (by kernel_rfl) rfl) (pv 5) (hd_want (.inl rfl) rfl rfl rfl rfl rfl (by decide +kernel))))
      (pss_cons (ps_set (i := 7) sc_stretch.nd rfl (.inr rfl) (pe_tupG (D := (DWant Z.P_stretch 11 1)) hr (by rfl) T.m_tuple (TB.t_stretch) rfl (genS_by (sc := defScope s_stretch) (by kernel_rfl) rfl) (pv 5) (hd_want (.inr rfl) rfl rfl rfl rfl rfl (by decide +kernel))))
      (pss_cons (ps_setLc (i := 8) (own := [("row", 12)]) (tt := tYes) (by rfl) sc_stretch.nd rfl rfl (sw_true rfl rfl rfl (by decide +kernel)) (piT K (pv 4)) (blkOk_by (own := [("row", 12)]) (by kernel_rfl)) (fun _ _ _ _ _ => (pg_name (i := 12) sc_stretch.nd rfl (.inl rfl))) (fun _ _ _ _ _ => pts_nil) (fun _ _ _ _ _ => (pe_call G_picked (hr.mono (by omega)) (by rfl) T.g_picked T.F_picked.kp T.b_picked .nil pass0 (pa_cons (pv 3) (pa_cons (pv 12) (pa_cons (pv 5) pa_nil))))))
      (pss_cons (ps_set (i := 9) sc_stretch.nd rfl (.inl rfl) (pe_callB (cLenSq K) (by rfl) T.m_len (by decide +kernel) (pa_cons (pe_lc (own := [("key", 13)]) (tt := _) (by rfl) sc_stretch.nd (piL K (pv 8)) (blkOk_by (own := [("key", 13)]) (by kernel_rfl)) (fun _ _ _ _ _ => (pg_name (i := 13) sc_stretch.nd rfl (.inl rfl))) (fun _ _ _ _ _ => (pts_one (pt_cmpR (ltTK K hr.units0) (pv 13) (pv 6) (nomark _)))) (fun _ _ _ _ _ => (pv 13))) pa_nil)))
      (pss_cons (ps_set (i := 10) sc_stretch.nd rfl (.inl rfl) (pe_callB (cLenSq K) (by rfl) T.m_len (by decide +kernel) (pa_cons (pe_lc (own := [("key", 13)]) (tt := _) (by rfl) sc_stretch.nd (piL K (pv 8)) (blkOk_by (own := [("key", 13)]) (by kernel_rfl)) (fun _ _ _ _ _ => (pg_name (i := 13) sc_stretch.nd rfl (.inl rfl))) (fun _ _ _ _ _ => (pts_one (pt_cmpR (leTK K hr.units0) (pv 13) (pv 7) (nomark _)))) (fun _ _ _ _ _ => (pv 13))) pa_nil)))
      (pss_one (ps_ret (pe_tup (pa_cons (pv 9) (pa_cons (pv 10) pa_nil))))))))))))), ?_⟩
    refine ⟨.ref t, rfl, t, [tx cols, .ref R], rfl, .inl (.inl ht), rfl, tx cols, [.ref R], rfl, .ref R, [], rfl, rfl, ?_⟩
    refine ⟨tx one, rfl, qv, rfl, one, qv, es, rc, rfl, hol, fq, hel, fun H1 sm1 => ?_⟩
    refine ⟨qv, rfl, qv, cols, es, rc, rfl, fq.kT (Same.kT sm1), hok, hel, fun d kvs H2 sm2 nd hd fk => ?_⟩
    have sm02 : Same H H2 := Same.trans sm1 sm2
    have tg2 : TG Z.Ps H2 := tg.same sm02
    have hP : Z.P_stretch ∈ Z.Ps := by simp
    have lsl : (⟨(usedM one es rc).toArray⟩ : Str).cps.toList = usedM one es rc := by simp
    have hul : (usedM one es rc).length ≤ 1000 := Nat.le_trans (used_len _ _ _) hol
    have hus : (⟨(usedM one es rc).toArray⟩ : Str).length ≤ sizeLine := Nat.le_of_lt (small1000 (show (usedM one es rc).length ≤ 1000 from hul))
    have want : ∀ (n : Int) (G : Hp) (σ : L2.St), TG Z.Ps G → G d = some (.dK kvs) → SpA G kvs (spanL es rc) → σ[11]? = some (some (.ref d)) → DWant Z.P_stretch 11 n (tx (usedM one es rc)) σ G (((usedM one es rc).map fun c => if n = 0 then (spanOf es rc c).1 else (spanOf es rc c).2).map V.int) := fun n G σ tG hG fG hσ => by
      refine ⟨tG _ hP, _, d, kvs, fun c => if n = 0 then (spanOf es rc c).1 else (spanOf es rc c).2, rfl, hus, hσ, hG, fun c hc => ?_, ?_⟩
      · rw [lsl] at hc
        obtain ⟨lo, hi, hm⟩ := used_span hc
        obtain ⟨p, h1, h2⟩ := fG.look (spanL_nd hok) hm
        refine ⟨p, lo, hi, h1, h2, ?_⟩
        show (if n = 0 then (spanOf es rc c).1 else (spanOf es rc c).2) = _
        rw [spanOf_mem (spanL_nd hok) hm]
      · rw [lsl, List.map_map]
        rfl
    -- first
    refine ⟨tx (usedM one es rc), rfl, (loM es rc (usedM one es rc)).map V.int, want 0 H2 _ tg2 hd fk rfl, tg2 _ hP, fun G3 t3 p3 n3 => ?_⟩
    have sx3 : Sx Z.Ps H2 (upd G3 p3 (.tup ((loM es rc (usedM one es rc)).map V.int))) := (Tabbed.sx hP t3).new n3
    have tg3 : TG Z.Ps (upd G3 p3 (.tup ((loM es rc (usedM one es rc)).map V.int))) := (Tabbed.tg tg2 t3).new n3
    have h33 : (upd G3 p3 (.tup ((loM es rc (usedM one es rc)).map V.int))) p3 = some (.tup ((loM es rc (usedM one es rc)).map V.int)) := upd_same
    generalize upd G3 p3 (.tup ((loM es rc (usedM one es rc)).map V.int)) = H3 at sx3 tg3 h33
    -- last
    refine ⟨tx (usedM one es rc), rfl, (hiM es rc (usedM one es rc)).map V.int, want 1 H3 _ tg3 (sx3.dct tg2 hd) (fk.kt (sx3.kt tg2)) rfl, tg3 _ hP, fun G4 t4 p4 n4 => ?_⟩
    have sx4 : Sx Z.Ps H3 (upd G4 p4 (.tup ((hiM es rc (usedM one es rc)).map V.int))) := (Tabbed.sx hP t4).new n4
    have tg4 : TG Z.Ps (upd G4 p4 (.tup ((hiM es rc (usedM one es rc)).map V.int))) := (Tabbed.tg tg3 t4).new n4
    have h44 : (upd G4 p4 (.tup ((hiM es rc (usedM one es rc)).map V.int))) p4 = some (.tup ((hiM es rc (usedM one es rc)).map V.int)) := upd_same
    generalize upd G4 p4 (.tup ((hiM es rc (usedM one es rc)).map V.int)) = H4 at sx4 tg4 h44
    have sx04 : Sx Z.Ps H H4 := ((Same.sx sm02).trans sx3).trans sx4
    have h43 : H4 p3 = some (.tup ((loM es rc (usedM one es rc)).map V.int)) := sx4.kt tg3 _ _ h33
    have kt04 : Kt H H4 := sx04.kt tg
    have hR4 := kt04 _ _ hRR
    -- keys
    refine ⟨.ref R, rfl, R, rfl, ⟨_, .inl (.inl hR4)⟩, fun D nD => lc_it (walk_tup (xs := vs)) (fun i H' => ∃ ks : List V, Sx Z.Ps H4 H' ∧ TG Z.Ps H' ∧ H' D = some (.lst ks) ∧ FzA H' ks (((rows.take i).map fun row => keyM cols row (usedM one es rc)).map rowD))
      ⟨[], Sx.rfl'.new nD, tg4.new nD, upd_same, .nil⟩ (fun i H' _ hI => ?_) (fun i x H5 H6 hi hI hY => ?_) (fun H5 hI => ?_)⟩
    · obtain ⟨ks, sx, _, _⟩ := hI
      exact .inl (.inl (sx.kt tg4 _ _ hR4))
    · obtain ⟨ks, sx5, tg5, hD5, fks⟩ := hI
      obtain ⟨rfl, ex⟩ := hY
      obtain ⟨dd, hdd, fd⟩ := fvs.getV ex
      rw [List.getElem?_map] at hdd
      obtain ⟨row, hrow, rfl⟩ := Option.map_eq_some_iff.mp hdd
      have hi2 : i < rows.length := (List.getElem?_eq_some_iff.mp hrow).1
      have erow : rows[i] = row := (List.getElem?_eq_some_iff.mp hrow).2
      have rok := hrs row (List.mem_of_getElem? hrow)
      have kt05 := kt04.trans (sx5.kt tg4)
      refine ⟨rfl, tx cols, rfl, x, rfl, tx (usedM one es rc), rfl, cols, x, row, usedM one es rc, rfl, tg5, fd.kt kt05, rok.1, fun c hc => hoc c (used_in hc), hul, fun p H7 sx7 tg7 np hp => ?_⟩
      have hD7 := sx7.lst tg5 hD5
      have fks7 := fks.kt (sx7.kt tg5)
      refine ⟨ks, hD7, ?_, ks ++ [.ref p], (sx5.trans sx7).mut nD, tg7.mut hD7, upd_same, ?_⟩
      · rw [fks.len, List.length_map, List.length_map, List.length_take]
        exact small1000 (by omega)
      · rw [List.take_succ_eq_append_getElem hi2, erow, List.map_append, List.map_append]
        exact (FzA.snoc fks7 (row_at_fz hp)).kt (Kt.lst hD7)
    · obtain ⟨ks, sx5, tg5, hD5, fks⟩ := hI
      rw [hvl, List.take_of_length_le (Nat.le_refl _)] at fks
      have hkl : ks.length = rows.length := by rw [fks.len, List.length_map, List.length_map]
      have h53 := (sx5.kt tg4) _ _ h43
      have h54 := (sx5.kt tg4) _ _ h44
      -- ahead
      refine ⟨.ref D, rfl, D, rfl, ⟨_, .inl (.inl hD5)⟩, fun D6 nD6 => lc_it (walk_list (xs := ks)) (fun i H' => ∃ cs : List V, Same H5 H' ∧ H' D6 = some (.lst cs) ∧ cs.length = ((rows.take i).filter fun row => HT.lexLt (keyM cols row (usedM one es rc)) (loM es rc (usedM one es rc))).length)
        ⟨[], Same.new (Same.refl H5) nD6, upd_same, rfl⟩ (fun i H' _ hI => ?_) (fun i x H6 H7 hi hI hY => ?_) (fun H6 hI => ?_)⟩
      · obtain ⟨cs, sm, _⟩ := hI
        exact .inl (.inl (sm _ _ hD5))
      · obtain ⟨cs, sm6, hD6, hcl⟩ := hI
        obtain ⟨rfl, ex⟩ := hY
        obtain ⟨dd, hdd, fd⟩ := fks.getV ex
        rw [List.getElem?_map] at hdd
        obtain ⟨key, hkey, rfl⟩ := Option.map_eq_some_iff.mp hdd
        rw [List.getElem?_map] at hkey
        obtain ⟨row, hrow, rfl⟩ := Option.map_eq_some_iff.mp hkey
        have hi2 : i < rows.length := (List.getElem?_eq_some_iff.mp hrow).1
        have erow : rows[i] = row := (List.getElem?_eq_some_iff.mp hrow).2
        obtain ⟨ka, rfl, hka⟩ := row_open fd
        refine ⟨rfl, .ref ka, rfl, .ref p3, rfl, ka, p3, _, _, rfl, rfl, .inl (.inl (sm6 _ _ hka)), .inl (.inl (sm6 _ _ h53)), _, rfl, ite2 (fun e => ?_) (fun e => ?_)⟩
        · refine ⟨.ref ka, rfl, cs, hD6, ?_, cs ++ [.ref ka], Same.mut sm6 nD6, upd_same, ?_⟩
          · rw [hcl]
            have := List.length_filter_le (fun row => HT.lexLt (keyM cols row (usedM one es rc)) (loM es rc (usedM one es rc))) (rows.take i)
            rw [List.length_take] at this
            exact small1000 (by omega)
          · rw [List.take_succ_eq_append_getElem hi2, erow, List.filter_append, List.filter_cons, if_pos e, List.length_append, List.length_append, hcl]
            rfl
        · refine ⟨cs, sm6, hD6, ?_⟩
          rw [List.take_succ_eq_append_getElem hi2, erow, List.filter_append, List.filter_cons, if_neg e, List.filter_nil, List.append_nil, hcl]
      · obtain ⟨cs, sm6, hD6, hcl⟩ := hI
        rw [hkl, List.take_of_length_le (Nat.le_refl _)] at hcl
        refine ⟨D6, cs, rfl, .inl (.inl (.inl hD6)), ?_⟩
        rw [hcl]
        -- behind
        refine ⟨.ref D, rfl, D, rfl, ⟨_, .inl (.inl (sm6 _ _ hD5))⟩, fun D8 nD8 => lc_it (walk_list (xs := ks)) (fun i H' => ∃ cs : List V, Same H6 H' ∧ H' D8 = some (.lst cs) ∧ cs.length = ((rows.take i).filter fun row => leK (keyM cols row (usedM one es rc)) (hiM es rc (usedM one es rc))).length)
          ⟨[], Same.new (Same.refl H6) nD8, upd_same, rfl⟩ (fun i H' _ hI => ?_) (fun i x H8 H9 hi hI hY => ?_) (fun H8 hI => ?_)⟩
        · obtain ⟨cs, sm, _⟩ := hI
          exact .inl (.inl (sm _ _ (sm6 _ _ hD5)))
        · obtain ⟨cs2, sm8, hD8, hcl2⟩ := hI
          obtain ⟨rfl, ex⟩ := hY
          obtain ⟨dd, hdd, fd⟩ := fks.getV ex
          rw [List.getElem?_map] at hdd
          obtain ⟨key, hkey, rfl⟩ := Option.map_eq_some_iff.mp hdd
          rw [List.getElem?_map] at hkey
          obtain ⟨row, hrow, rfl⟩ := Option.map_eq_some_iff.mp hkey
          have hi2 : i < rows.length := (List.getElem?_eq_some_iff.mp hrow).1
          have erow : rows[i] = row := (List.getElem?_eq_some_iff.mp hrow).2
          obtain ⟨ka, rfl, hka⟩ := row_open fd
          refine ⟨rfl, .ref ka, rfl, .ref p4, rfl, ka, p4, _, _, rfl, rfl, .inl (.inl (sm8 _ _ (sm6 _ _ hka))), .inl (.inl (sm8 _ _ (sm6 _ _ h54))), _, rfl, ite2 (fun e => ?_) (fun e => ?_)⟩
          · have e' : leK (keyM cols row (usedM one es rc)) (hiM es rc (usedM one es rc)) = true := e
            refine ⟨.ref ka, rfl, cs2, hD8, ?_, cs2 ++ [.ref ka], Same.mut sm8 nD8, upd_same, ?_⟩
            · rw [hcl2]
              have := List.length_filter_le (fun row => leK (keyM cols row (usedM one es rc)) (hiM es rc (usedM one es rc))) (rows.take i)
              rw [List.length_take] at this
              exact small1000 (by omega)
            · rw [List.take_succ_eq_append_getElem hi2, erow, List.filter_append, List.filter_cons, if_pos e', List.length_append, List.length_append, hcl2]
              rfl
          · have e' : ¬ leK (keyM cols row (usedM one es rc)) (hiM es rc (usedM one es rc)) = true := e
            refine ⟨cs2, sm8, hD8, ?_⟩
            rw [List.take_succ_eq_append_getElem hi2, erow, List.filter_append, List.filter_cons, if_neg e', List.filter_nil, List.append_nil, hcl2]
        · obtain ⟨cs2, sm8, hD8, hcl2⟩ := hI
          rw [hkl, List.take_of_length_le (Nat.le_refl _)] at hcl2
          refine ⟨D8, cs2, rfl, .inl (.inl (.inl hD8)), ?_⟩
          rw [hcl2]
          refine ⟨_, rfl, _, rfl, (by show 2 ≤ sizeLine; decide), fun pr npr => ?_⟩
          have sm58 : Same H5 H8 := Same.trans sm6 sm8
          refine q pr _ (((sx04.trans sx5).trans (Same.sx sm58)).new npr) ((tg5.same sm58).new npr) ?_ upd_same
          exact Sx.free (tg5.same sm58) ((sx04.trans sx5).trans (Same.sx sm58)) npr

/-! ### price_by -/
def spPriceBy (K : PySem.W.Frag) (Z : Ad) : Sp := fun vs H Q _ => ∃ (tv : V) (cols : List Nat) (rows : List (List Int)) (ov : Option (List Nat)) (qv : V) (es : List (Nat × Int)) (rc : Option (Nat × Int × Int)), vs = [tv, oV ov, qv] ∧ TG Z.Ps H ∧ Fz H tv (tabD cols rows) ∧ RowsOk cols.length rows ∧ rows.length ≤ 1000 ∧ (∀ o, ov = some o → o.length ≤ 1000 ∧ ∀ c ∈ o, c ∈ cols) ∧ QZ H qv es rc ∧ QOk cols es rc ∧ es.length ≤ 1000 ∧
  ∀ (H' : Hp), Sx Z.Ps H H' → TG Z.Ps H' → Q (.int (priceByM cols rows ov es rc)) H'
theorem ok_priceby (T : Tx K mg Z) (TB : Tb base mg Z) : FnOk P w K mg base CX0 4 Z.f_price_by Z.d_price_by ["table", "one", "question"] (spPriceBy K Z) := by
  have G_stretch : FnOk P w K mg base CX0 3 Z.f_stretch Z.d_stretch ["table", "one", "question"] (spStretch K Z) := ok_stretch T TB
  refine T.F_price_by.ok sc_price_by (fun vs H Q E h => ?_) (fun cdv A outer s H vs Q E hr h => ?_)
  · obtain ⟨tv, cols, rows, ov, qv, es, rc, rfl, _⟩ := h
    rfl
  · obtain ⟨tv, cols, rows, ov, qv, es, rc, rfl, tg, fT, hrs, hrn, hov, fq, hok, hel, q⟩ := h
    obtain ⟨t, R, vs, rfl, ht, hRR, fvs⟩ := tab_open fT
    have hvl : vs.length = rows.length := by rw [fvs.len, List.length_map]
    refine ⟨_, (pss_cons (ps_if (pt_cmpR op_isN (pv 1) pe_non (nomark _)) (pss_cons (ps_asg (pv 0) (pgT K (n := 2) (pgs_cons (pg_name (i := 3) sc_price_by.nd rfl (.inl rfl)) (pgs_cons (pg_name (i := 4) sc_price_by.nd rfl (.inl rfl)) pgs_nil))))
      (pss_one (ps_ret (pe_callB (cLenSq K) (by rfl) T.m_len (by decide +kernel) (pa_cons (pv 4) pa_nil))))) pss_nil)
      (pss_cons (ps_asg (pe_call G_stretch (hr.mono (by omega)) (by rfl) T.g_stretch T.F_stretch.kp T.b_stretch .nil pass0 (pa_cons (pv 0) (pa_cons (pv 1) (pa_cons (pv 2) pa_nil)))) (pgT K (n := 2) (pgs_cons (pg_name (i := 5) sc_price_by.nd rfl (.inl rfl)) (pgs_cons (pg_name (i := 6) sc_price_by.nd rfl (.inl rfl)) pgs_nil))))
      (pss_one (ps_ret (pe_op op_add (pe_op op_sub (pv 6) (pv 5)) pe_int))))), ?_⟩
    cases ov with
    | none =>
      refine ⟨.non, rfl, rfl, _, rfl, ite2 (fun _ => ?_) (fun z => ?_)⟩
      · refine ⟨.ref t, rfl, t, [tx cols, .ref R], rfl, .inl (.inl ht), rfl, tx cols, [.ref R], rfl, .ref R, [], rfl, rfl, ?_⟩
        refine ⟨.ref R, rfl, R, vs, rfl, .inr (.inl (.inl hRR)), ?_⟩
        rw [hvl]
        exact q H Sx.rfl' tg
      · exact absurd rfl z
    | some o =>
      refine ⟨tx o, rfl, rfl, _, rfl, ite2 (fun z => ?_) (fun _ => ?_)⟩
      · exact absurd z (by simp)
      · obtain ⟨hol, hoc⟩ := hov o rfl
        refine ⟨.ref t, rfl, tx o, rfl, qv, rfl, .ref t, cols, rows, o, qv, es, rc, rfl, tg, fT, hrs, hrn, hol, hoc, fq, hok, hel, fun sp H1 sx1 tg1 nsp hsp => ?_⟩
        refine ⟨sp, [.int (aheadM cols rows o es rc : Nat), .int (behindM cols rows o es rc : Nat)], rfl, .inl (.inl hsp), rfl, .int (aheadM cols rows o es rc : Nat), [.int (behindM cols rows o es rc : Nat)], rfl, .int (behindM cols rows o es rc : Nat), [], rfl, rfl, ?_⟩
        refine ⟨_, rfl, _, rfl, _, _, rfl, rfl, _, _, rfl, rfl, ?_⟩
        exact q H1 sx1 tg1

/-! ### price_of -/
def spPriceOf (K : PySem.W.Frag) (Z : Ad) : Sp := fun vs H Q _ => ∃ (tv : V) (cols : List Nat) (rows : List (List Int)) (ca : Addr) (ch : List (List Nat)) (qv : V) (es : List (Nat × Int)) (rc : Option (Nat × Int × Int)), vs = [tv, .ref ca, qv] ∧ TG Z.Ps H ∧ Fz H tv (tabD cols rows) ∧ RowsOk cols.length rows ∧ rows.length ≤ 1000 ∧ H ca = some (.tup (ch.map tx)) ∧ (∀ o ∈ ch, o.length ≤ 1000 ∧ ∀ c ∈ o, c ∈ cols) ∧ ch.length ≤ 100 ∧ QZ H qv es rc ∧ QOk cols es rc ∧ es.length ≤ 1000 ∧
  ∀ (H' : Hp), Sx Z.Ps H H' → TG Z.Ps H' → Q (.int (priceOfM cols rows ch es rc)) H'
theorem ok_priceof (T : Tx K mg Z) (TB : Tb base mg Z) : FnOk P w K mg base CX0 5 Z.f_price_of Z.d_price_of ["table", "choice", "question"] (spPriceOf K Z) := by
  have G_price_by : FnOk P w K mg base CX0 4 Z.f_price_by Z.d_price_by ["table", "one", "question"] (spPriceBy K Z) := ok_priceby T TB
  refine T.F_price_of.ok sc_price_of (fun vs H Q E h => ?_) (fun cdv A outer s H vs Q E hr h => ?_)
  · obtain ⟨tv, cols, rows, ca, ch, qv, es, rc, rfl, _⟩ := h
    rfl
  · obtain ⟨tv, cols, rows, ca, ch, qv, es, rc, rfl, tg, fT, hrs, hrn, hca, hch, hcl, fq, hok, hel, q⟩ := h
    refine ⟨_, (pss_one (ps_ret (pe_callB (minK K) (by rfl) T.m_min (by decide +kernel) (pa_cons (pe_lc (own := [("one", 3)]) (tt := tYes) (by rfl) sc_price_of.nd (piT K (pe_tup (pa_cons pe_non (paStarK K (pv 1) pa_nil)))) (blkOk_by (own := [("one", 3)]) (by kernel_rfl)) (fun _ _ _ _ _ => (pg_name (i := 3) sc_price_of.nd rfl (.inl rfl))) (fun _ _ _ _ _ => pts_nil) (fun _ _ _ _ _ => (pe_call G_price_by (hr.mono (by omega)) (by rfl) T.g_price_by T.F_price_by.kp T.b_price_by .nil pass0 (pa_cons (pv 0) (pa_cons (pv 3) (pa_cons (pv 2) pa_nil)))))) pa_nil)))), ?_⟩
    refine ⟨.ref ca, rfl, ca, ch.map tx, rfl, .inl (.inl (.inl hca)), ?_, fun tp ntp => ?_⟩
    · rw [List.append_nil, List.length_cons, List.length_map]
      exact Nat.le_of_lt (small1000 (by omega))
    rw [List.append_nil]
    have e0 : (V.non :: ch.map tx) = (none :: ch.map some).map oV := by
      rw [List.map_cons, List.map_map]
      rfl
    rw [e0]
    have sm1 : Same H (upd H tp (.tup ((none :: ch.map some).map oV))) := Same.new (Same.refl H) ntp
    have htp : (upd H tp (.tup ((none :: ch.map some).map oV))) tp = some (.tup ((none :: ch.map some).map oV)) := upd_same
    generalize upd H tp (.tup ((none :: ch.map some).map oV)) = H1 at sm1 htp ⊢
    have tg1 : TG Z.Ps H1 := tg.same sm1
    have kt1 : KT H H1 := Same.kT sm1
    refine ⟨tp, rfl, ⟨_, .inl (.inl htp)⟩, fun D nD => lc_it (walk_tup (xs := (none :: ch.map some).map oV)) (fun i H' => Sx Z.Ps H1 H' ∧ TG Z.Ps H' ∧ H' D = some (.lst ((((none :: ch.map some).take i).map fun ov => priceByM cols rows ov es rc).map V.int)))
      ⟨Sx.rfl'.new nD, tg1.new nD, upd_same⟩ (fun i H' _ hP => .inl (.inl ((hP.1.kt tg1) _ _ htp))) (fun i x H2 H3 hi hP hY => ?_) (fun H2 hP => ?_)⟩
    · obtain ⟨sx2, tg2, hD2⟩ := hP
      obtain ⟨rfl, hx⟩ := hY
      rw [List.getElem?_map] at hx
      obtain ⟨ov, hov, rfl⟩ := Option.map_eq_some_iff.mp hx
      have hi2 : i < (none :: ch.map some).length := (List.getElem?_eq_some_iff.mp hov).1
      have eov : (none :: ch.map some)[i] = ov := (List.getElem?_eq_some_iff.mp hov).2
      have kt2 : KT H H3 := kt1.trans (sx2.kT tg1)
      refine ⟨rfl, tv, rfl, oV ov, rfl, qv, rfl, tv, cols, rows, ov, qv, es, rc, rfl, tg2, fT.kt kt2.1, hrs, hrn, fun o e => ?_, fq.kT kt2, hok, hel, fun H4 sx4 tg4 => ?_⟩
      · have hm := List.mem_of_getElem? hov
        rw [e] at hm
        rcases List.mem_cons.mp hm with z | z
        · cases z
        · obtain ⟨o2, ho2, z2⟩ := List.mem_map.mp z
          cases z2
          exact hch o ho2
      · have hD4 := sx4.lst tg2 hD2
        refine ⟨_, hD4, ?_, (sx2.trans sx4).mut nD, tg4.mut hD4, ?_⟩
        · rw [List.length_map, List.length_map, List.length_take, List.length_cons, List.length_map]
          exact small1000 (by omega)
        · rw [upd_same, List.take_succ_eq_append_getElem hi2, eov, List.map_append, List.map_append]
          rfl
    · obtain ⟨sx2, tg2, hD2⟩ := hP
      rw [List.length_map, List.take_of_length_le (Nat.le_refl _), List.map_cons, List.map_map] at hD2
      refine ⟨D, (rows.length : Int), ch.map fun o => priceM cols rows o es rc, rfl, .inl (.inl hD2), ?_⟩
      exact q H2 ((Same.sx sm1).trans sx2) tg2

/-! ### upkeep, room, price -/
def spUpkeep (K : PySem.W.Frag) (Z : Ad) : Sp := fun vs H Q _ => ∃ (chg : Int) (ca : Addr) (ch : List (List Nat)), vs = [.int chg, .ref ca] ∧ 0 ≤ chg ∧ chg ≤ 1000000 ∧ TG Z.Ps H ∧ H ca = some (.tup (ch.map tx)) ∧ ch.length ≤ 100 ∧ (∀ o ∈ ch, o.length ≤ 1000) ∧
  ∀ (H' : Hp), Sx Z.Ps H H' → TG Z.Ps H' → Q (.int (keepM chg ch)) H'
theorem ok_upkeep (T : Tx K mg Z) (TB : Tb base mg Z) : FnOk P w K mg base CX0 4 Z.f_upkeep Z.d_upkeep ["changes", "choice"] (spUpkeep K Z) := by
  refine T.C_upkeep.ok sc_upkeep (fun vs H Q E h => ?_) (fun A outer s H vs Q E hr h => ?_)
  · obtain ⟨chg, ca, ch, rfl, _⟩ := h
    rfl
  · obtain ⟨chg, ca, ch, rfl, hg0, hg1, tg, hca, hcl, hol, q⟩ := h
    refine ⟨_, (pss_one (ps_ret (pe_op op_mul (pv 0) (pe_sumC (own := [("one", 2)]) (k := 0) hr (by rfl) T.m_sum (TB.t_upkeep) rfl (gxS_by (blkOk_by (own := [("one", 2)]) (by kernel_rfl)) (by kernel_rfl)) sc_upkeep.nd (by rfl) (piT K (pv 1)) (fun _ _ _ _ _ _ _ _ => (pg_name (i := 2) sc_upkeep.nd rfl (.inl rfl))) (fun _ _ _ _ _ _ _ _ hr => (pe_op op_add (pe_callB call_len_str (by rfl) T.m_len (by decide +kernel) (pa_cons (pv 2) pa_nil)) pe_int)))))), ?_⟩
    have hP : Z.P_upkeep ∈ Z.Ps := by simp
    have hl : (ch.map fun o => (o.length : Int) + 1).length = (ch.map tx).length := by rw [List.length_map, List.length_map]
    refine ⟨.int chg, rfl, .ref ca, rfl, ca, rfl, ⟨_, .inl (.inl hca)⟩, tg _ hP, fun H2 hT => ?_⟩
    have tg2 := Tabbed.tg tg hT
    have sx2 := Tabbed.sx hP hT
    have hca2 := (sx2.kt tg) _ _ hca
    have hfit : ∀ j, j < (ch.map fun o => (o.length : Int) + 1).length → InLong (atL (ch.map fun o => (o.length : Int) + 1) j) ∧ InLong (preSum (atL (ch.map fun o => (o.length : Int) + 1)) (j + 1)) := fit_of (by rw [List.length_map]; omega) fun x hx => by
      obtain ⟨o, ho, rfl⟩ := List.mem_map.mp hx
      have := hol o ho
      omega
    rw [hl] at hfit
    refine ⟨(ch.map tx).length, atL (ch.map fun o => (o.length : Int) + 1), fun i H' => i ≤ (ch.map tx).length ∧ (H' = H2), hfit, ⟨Nat.zero_le _, rfl⟩, sum_step (walk_tup (xs := ch.map tx)) (fun i H' _ e => ?_) (fun i x H3 H4 hi e hY => ?_), fun H3 e0 => ?_⟩
    · rw [e]
      exact .inl (.inl hca2)
    · obtain ⟨rfl, hx⟩ := hY
      rw [List.getElem?_map] at hx
      obtain ⟨o, ho, rfl⟩ := Option.map_eq_some_iff.mp hx
      refine ⟨rfl, tx o, rfl, _, rfl, Nat.le_of_lt (small1000 (show o.length ≤ 1000 from hol o (List.mem_of_getElem? ho))), _, 1, rfl, rfl, ?_, hi, e⟩
      rw [at_map ho]
      rfl
    · obtain ⟨_, e⟩ := e0
      refine ⟨chg, _, rfl, rfl, .inl ⟨by omega, by omega⟩, ?_⟩
      rw [← hl, pre_take _ _ (Nat.le_refl _), List.take_length, e]
      exact q H2 sx2 tg2
def spRoom (K : PySem.W.Frag) (Z : Ad) : Sp := fun vs H Q _ => ∃ (ca : Addr) (ch : List (List Nat)), vs = [.ref ca] ∧ TG Z.Ps H ∧ H ca = some (.tup (ch.map tx)) ∧ ch.length ≤ 100 ∧ (∀ o ∈ ch, o.length ≤ 1000) ∧
  ∀ (H' : Hp), Sx Z.Ps H H' → TG Z.Ps H' → Q (.int (roomM ch)) H'
theorem ok_room (T : Tx K mg Z) (TB : Tb base mg Z) : FnOk P w K mg base CX0 4 Z.f_room Z.d_room ["choice"] (spRoom K Z) := by
  refine T.C_room.ok sc_room (fun vs H Q E h => ?_) (fun A outer s H vs Q E hr h => ?_)
  · obtain ⟨ca, ch, rfl, _⟩ := h
    rfl
  · obtain ⟨ca, ch, rfl, tg, hca, hcl, hol, q⟩ := h
    refine ⟨_, (pss_one (ps_ret (pe_sumC (own := [("one", 1)]) (k := 0) hr (by rfl) T.m_sum (TB.t_room) rfl (gxS_by (blkOk_by (own := [("one", 1)]) (by kernel_rfl)) (by kernel_rfl)) sc_room.nd (by rfl) (piT K (pv 0)) (fun _ _ _ _ _ _ _ _ => (pg_name (i := 1) sc_room.nd rfl (.inl rfl))) (fun _ _ _ _ _ _ _ _ hr => (pe_callB call_len_str (by rfl) T.m_len (by decide +kernel) (pa_cons (pv 1) pa_nil)))))), ?_⟩
    have hP : Z.P_room ∈ Z.Ps := by simp
    have hl : (ch.map fun o => (o.length : Int)).length = (ch.map tx).length := by rw [List.length_map, List.length_map]
    refine ⟨.ref ca, rfl, ca, rfl, ⟨_, .inl (.inl hca)⟩, tg _ hP, fun H2 hT => ?_⟩
    have tg2 := Tabbed.tg tg hT
    have sx2 := Tabbed.sx hP hT
    have hca2 := (sx2.kt tg) _ _ hca
    have hfit : ∀ j, j < (ch.map fun o => (o.length : Int)).length → InLong (atL (ch.map fun o => (o.length : Int)) j) ∧ InLong (preSum (atL (ch.map fun o => (o.length : Int))) (j + 1)) := fit_of (by rw [List.length_map]; omega) fun x hx => by
      obtain ⟨o, ho, rfl⟩ := List.mem_map.mp hx
      have := hol o ho
      omega
    rw [hl] at hfit
    refine ⟨(ch.map tx).length, atL (ch.map fun o => (o.length : Int)), fun i H' => i ≤ (ch.map tx).length ∧ (H' = H2), hfit, ⟨Nat.zero_le _, rfl⟩, sum_step (walk_tup (xs := ch.map tx)) (fun i H' _ e => ?_) (fun i x H3 H4 hi e hY => ?_), fun H3 e0 => ?_⟩
    · rw [e]
      exact .inl (.inl hca2)
    · obtain ⟨rfl, hx⟩ := hY
      rw [List.getElem?_map] at hx
      obtain ⟨o, ho, rfl⟩ := Option.map_eq_some_iff.mp hx
      refine ⟨rfl, tx o, rfl, _, rfl, Nat.le_of_lt (small1000 (show o.length ≤ 1000 from hol o (List.mem_of_getElem? ho))), ?_, hi, e⟩
      rw [at_map ho]
      rfl
    · obtain ⟨_, e⟩ := e0
      rw [← hl, pre_take _ _ (Nat.le_refl _), List.take_length, e]
      exact q H2 sx2 tg2
def spPrice (K : PySem.W.Frag) (Z : Ad) : Sp := fun vs H Q _ => ∃ (wv : V) (cols : List Nat) (rows : List (List Int)) (as : List Ask) (chg : Int) (ca : Addr) (ch : List (List Nat)), vs = [wv, .ref ca] ∧ TG Z.Ps H ∧ WorkZ H wv cols rows as chg ∧ RowsOk cols.length rows ∧ rows.length ≤ 100 ∧ cols.length ≤ 1000 ∧ AsksOk cols as ∧ 0 ≤ chg ∧ chg ≤ 1000000 ∧ H ca = some (.tup (ch.map tx)) ∧ (∀ o ∈ ch, o.length ≤ 1000 ∧ ∀ c ∈ o, c ∈ cols) ∧ ch.length ≤ 100 ∧
  ∀ (H' : Hp), Sx Z.Ps H H' → TG Z.Ps H' → Q (.int (workM cols rows ch as chg)) H'
theorem ok_price (T : Tx K mg Z) (TB : Tb base mg Z) : FnOk P w K mg base CX0 9 Z.f_price Z.d_price ["work", "choice"] (spPrice K Z) := by
  have G_price_of : FnOk P w K mg base CX0 5 Z.f_price_of Z.d_price_of ["table", "choice", "question"] (spPriceOf K Z) := ok_priceof T TB
  have G_upkeep : FnOk P w K mg base CX0 4 Z.f_upkeep Z.d_upkeep ["changes", "choice"] (spUpkeep K Z) := ok_upkeep T TB
  refine T.C_price.ok sc_price (fun vs H Q E h => ?_) (fun A outer s H vs Q E hr h => ?_)
  · obtain ⟨wv, cols, rows, as, chg, ca, ch, rfl, _⟩ := h
    rfl
  · obtain ⟨wv, cols, rows, as, chg, ca, ch, rfl, tg, fw, hrs, hrn, hcn, has, hg0, hg1, hca, hch, hcl, q⟩ := h
    obtain ⟨wa, tv, aa, us, rfl, hwa, fT, haa, fas⟩ := fw
    refine ⟨_, (pss_cons (ps_asg (pv 0) (pgT K (n := 3) (pgs_cons (pg_name (i := 5) sc_price.nd rfl (.inr rfl)) (pgs_cons (pg_name (i := 2) sc_price.nd rfl (.inl rfl)) (pgs_cons (pg_name (i := 3) sc_price.nd rfl (.inl rfl)) pgs_nil)))))
      (pss_cons (ps_set (i := 4) sc_price.nd rfl (.inl rfl) (pe_sumC (own := [("question", 6), ("often", 7)]) (k := 5) hr (by rfl) T.m_sum (TB.t_price) rfl (gxS_by (blkOk_by (own := [("question", 6), ("often", 7)]) (by kernel_rfl)) (by kernel_rfl)) sc_price.nd (by rfl) (piT K (pv 2)) (fun _ _ _ _ _ _ _ _ => (pgT K (n := 2) (pgs_cons (pg_name (i := 6) sc_price.nd rfl (.inl rfl)) (pgs_cons (pg_name (i := 7) sc_price.nd rfl (.inl rfl)) pgs_nil)))) (fun _ _ _ _ _ _ _ _ hr => (pe_op op_mul (pv 7) (pe_call G_price_of (hr.mono (by omega)) (by rfl) T.g_price_of T.F_price_of.kp T.b_price_of .nil pass0 (pa_cons (pv 5) (pa_cons (pv 1) (pa_cons (pv 6) pa_nil))))))))
      (pss_one (ps_ret (pe_op op_add (pv 4) (pe_call G_upkeep (hr.mono (by omega)) (by rfl) T.g_upkeep T.F_upkeep.kp T.b_upkeep .nil pass0 (pa_cons (pv 3) (pa_cons (pv 1) pa_nil)))))))), ?_⟩
    have hP : Z.P_price ∈ Z.Ps := by simp
    have hul := fas.len
    have hl : (as.map fun a => a.often * priceOfM cols rows ch a.es a.rc).length = us.length := by rw [List.length_map, hul]
    refine ⟨.ref wa, rfl, wa, [tv, .ref aa, .int chg], rfl, .inl (.inl hwa), rfl, tv, [.ref aa, .int chg], rfl, .ref aa, [.int chg], rfl, .int chg, [], rfl, rfl, ?_⟩
    refine ⟨.ref aa, rfl, aa, rfl, ⟨_, .inl (.inl haa)⟩, tg _ hP, fun H2 hT => ?_⟩
    have tg2 := Tabbed.tg tg hT
    have sx2 := Tabbed.sx hP hT
    have hfit : ∀ j, j < (as.map fun a => a.often * priceOfM cols rows ch a.es a.rc).length → InLong (atL (as.map fun a => a.often * priceOfM cols rows ch a.es a.rc) j) ∧ InLong (preSum (atL (as.map fun a => a.often * priceOfM cols rows ch a.es a.rc)) (j + 1)) := fit_of (by rw [List.length_map]; have := has.len; omega) fun x hx => by
      obtain ⟨a, ha, rfl⟩ := List.mem_map.mp hx
      obtain ⟨_, o1, o2⟩ := has.ok a ha
      obtain ⟨p1, p2⟩ := price_bound (cols := cols) (ch := ch) (es := a.es) (rc := a.rc) hrn
      have m1 : a.often * priceOfM cols rows ch a.es a.rc ≤ a.often * 100 := Int.mul_le_mul_of_nonneg_left p2 (by omega)
      have m2 : a.often * (-100) ≤ a.often * priceOfM cols rows ch a.es a.rc := Int.mul_le_mul_of_nonneg_left p1 (by omega)
      omega
    rw [hl] at hfit
    refine ⟨(us).length, atL (as.map fun a => a.often * priceOfM cols rows ch a.es a.rc), fun i H' => i ≤ (us).length ∧ (Sx Z.Ps H H' ∧ TG Z.Ps H'), hfit, ⟨Nat.zero_le _, ⟨sx2, tg2⟩⟩, sum_step (walk_tup (xs := us)) (fun i H' _ e => .inl (.inl ((e.1.kt tg) _ _ haa))) (fun i x H3 H4 hi e hY => ?_), fun H3 e0 => ?_⟩
    · obtain ⟨sx3, tg3⟩ := e
      obtain ⟨rfl, hx⟩ := hY
      have kt3 : KT H H4 := sx3.kT tg
      obtain ⟨a, ha, fa⟩ := (fas.kT kt3).get hx
      obtain ⟨p, qv, rfl, hp, fq⟩ := fa
      have haok := has.ok a (List.mem_of_getElem? ha)
      have ho1 := haok.2.1
      have ho2 := haok.2.2
      have hel : a.es.length ≤ 1000 := by
        have := haok.1.len
        omega
      refine ⟨p, [qv, .int a.often], rfl, .inl (.inl hp), rfl, qv, [.int a.often], rfl, .int a.often, [], rfl, rfl, rfl, ?_⟩
      refine ⟨.int a.often, rfl, tv, rfl, .ref ca, rfl, qv, rfl, tv, cols, rows, ca, ch, qv, a.es, a.rc, rfl, tg3, fT.kt kt3.1, hrs, by omega, kt3.1 _ _ hca, hch, hcl, fq, haok.1, hel, fun H5 sx5 tg5 => ?_⟩
      refine ⟨a.often, _, rfl, rfl, .inl ⟨by omega, by omega⟩, ?_, hi, sx3.trans sx5, tg5⟩
      rw [at_map ha]
    · obtain ⟨_, sx3, tg3⟩ := e0
      refine ⟨_, rfl, .int chg, rfl, .ref ca, rfl, chg, ca, ch, rfl, hg0, hg1, tg3, (sx3.kt tg) _ _ hca, hcl, fun o ho => (hch o ho).1, fun H5 sx5 tg5 => ?_⟩
      refine ⟨_, _, rfl, rfl, ?_⟩
      rw [← hl, pre_take _ _ (Nat.le_refl _), List.take_length]
      exact q H5 (sx3.trans sx5) tg5

/-! ### _law_choice -/
def spChoice (K : PySem.W.Frag) : Sp := fun vs H Q _ => ∃ (b bl : Addr) (cols : List Nat), vs = [.ref b, tx cols] ∧ Bag b bl H ∧ 0 < cols.length ∧ cols.length ≤ 26 ∧ cols.Nodup ∧ ∀ (ch : List (List Nat)) (p : Addr) (H' : Hp), Kp b H H' → Bag b bl H' → H' p = some (.tup (ch.map tx)) → ChOk cols ch → ch.length ≤ 20 → Q (.ref p) H'
theorem ok_choice (T : Tx K mg Z) : FnOk P w K mg base CX0 2 Z.f_l_choice Z.d_l_choice ["bag", "columns"] (spChoice K) := by
  have G_l_lot : FnOk P w K mg base CX0 1 Z.f_l_lot Z.d_l_lot ["bag", "many"] (spLot K) := ok_lot T
  refine T.F_l_choice.ok sc_l_choice (fun vs H Q E h => ?_) (fun cdv A outer s H vs Q E hr h => ?_)
  · obtain ⟨b, bl, cols, rfl, _⟩ := h
    rfl
  · obtain ⟨b, bl, cols, rfl, hB, hc0, hc1, hnd, q⟩ := h
    refine ⟨_, (pss_cons (ps_set (i := 2) sc_l_choice.nd rfl (.inl rfl) (pe_lst pa_nil))
      (pss_cons (ps_for PassesOwn.never rfl (pi_range1 (by rfl) T.m_range (pa_cons (pe_call G_l_lot (hr.mono (by omega)) (by rfl) T.g_l_lot T.F_l_lot.kp T.b_l_lot .nil pass0 (pa_cons (pv 0) (pa_cons (pe_ix (ixL K) (pe_lst (pa_cons pe_int (pa_cons pe_int pa_nil))) (pe_call G_l_lot (hr.mono (by omega)) (by rfl) T.g_l_lot T.F_l_lot.kp T.b_l_lot .nil pass0 (pa_cons (pv 0) (pa_cons pe_int pa_nil))) (fun _ _ => rfl)) pa_nil))) pa_nil)) (pg_name (i := 3) sc_l_choice.nd rfl (.inl rfl)) (pss_cons (ps_set (i := 4) sc_l_choice.nd rfl (.inl rfl) (pe_callTy call_list_txt (by rfl) T.m_list (by decide +kernel) (pa_cons (pv 1) pa_nil)))
      (pss_cons (ps_set (i := 5) sc_l_choice.nd rfl (.inl rfl) pe_str)
      (pss_cons (ps_for PassesOwn.never rfl (pi_range1 (by rfl) T.m_range (pa_cons (pe_op op_add pe_int (pe_call G_l_lot (hr.mono (by omega)) (by rfl) T.g_l_lot T.F_l_lot.kp T.b_l_lot .nil pass0 (pa_cons (pv 0) (pa_cons (pe_callB call_len_str (by rfl) T.m_len (by decide +kernel) (pa_cons (pv 1) pa_nil)) pa_nil)))) pa_nil)) (pg_name (i := 6) sc_l_choice.nd rfl (.inl rfl)) (pss_one (ps_set (i := 5) sc_l_choice.nd rfl (.inl rfl) (pe_op op_add_str (pv 5) (bmK K PySem.F.plainAttrs_list PySem.F.slot_list_pop PySem.F.type_list_pop mt_popAt (pv 4) (pa_cons (pe_call G_l_lot (hr.mono (by omega)) (by rfl) T.g_l_lot T.F_l_lot.kp T.b_l_lot .nil pass0 (pa_cons (pv 0) (pa_cons (pe_callB (cLenSq K) (by rfl) T.m_len (by decide +kernel) (pa_cons (pv 4) pa_nil)) pa_nil))) pa_nil))))))
      (pss_one (ps_if (pt_cmpR (notInSq K) (pv 5) (pv 2) (by rfl)) (pss_one (ps_expr (bmK K PySem.F.plainAttrs_list PySem.F.slot_list_append PySem.F.type_list_append mt_append (pv 2) (pa_cons (pv 5) pa_nil)))) pss_nil))))))
      (pss_one (ps_ret (pe_callTy (cTupSq K) (by rfl) T.m_tuple (by decide +kernel) (pa_cons (pe_callB cr_sortedS (by rfl) T.m_sorted (by decide +kernel) (pa_cons (pv 2) pa_nil)) pa_nil)))))), ?_⟩
    refine ⟨Nat.zero_le _, fun F nF => ?_⟩
    have nFb := hB.ne nF
    have hB1 := hB.new nF (o := .lst [])
    have hF1 : (upd H F (.lst [])) F = some (.lst []) := upd_same
    have kp1 : Kp b H (upd H F (.lst [])) := Kp.rfl'.new nF
    generalize upd H F (.lst []) = H1 at hB1 hF1 kp1 ⊢
    refine ⟨.ref b, rfl, (by show 2 ≤ sizeLine; decide), fun L nL => ?_⟩
    have nLb := hB1.ne nL
    have hB2 := hB1.new nL (o := .lst [.int 9, .int 21])
    have hL2 : (upd H1 L (.lst [.int 9, .int 21])) L = some (.lst [.int 9, .int 21]) := upd_same
    have hF2 : (upd H1 L (.lst [.int 9, .int 21])) F = some (.lst []) := keep_new hF1 nL
    have kp2 : Kp b H (upd H1 L (.lst [.int 9, .int 21])) := kp1.new nL
    generalize upd H1 L (.lst [.int 9, .int 21]) = H2 at hB2 hL2 hF2 kp2 ⊢
    refine ⟨.ref b, rfl, b, bl, 2, rfl, hB2, by decide, by decide, fun e H3 kp3 hB3 e0 e1 => ?_⟩
    obtain ⟨t, ht, hat⟩ := at_ints (ns := [9, 21]) e0 e1
    have htb : 0 < t ∧ t ≤ 21 := by
      have : ∀ z ∈ ([9, 21] : List Int), 0 < z ∧ z ≤ 21 := by decide
      exact this t ht
    refine ⟨L, [9, 21].map V.int, e, .int t, rfl, rfl, .inl (.inl (kp3 _ _ nLb.1 hL2)), hat, b, bl, t, rfl, hB3, htb.1, by omega, fun m H4 kp4 hB4 m0 m1 => ?_⟩
    have hF4 := kp4 _ _ nFb.1 (kp3 _ _ nFb.1 hF2)
    have kpA : Kp b H H4 := (kp2.trans kp3).trans kp4
    have hlc : (⟨cols.toArray⟩ : Str).length = cols.length := by
      show cols.toArray.size = cols.length
      simp
    refine ⟨m, rfl, by omega, by omega, for_range (fun i σ H' => ∃ (os : List (List Nat)) (y3 y4 y5 y6 : Option V), σ = [some (.ref b), some (tx cols), some (.ref F), y3, y4, y5, y6] ∧ Kp b H H' ∧ Bag b bl H' ∧ H' F = some (.lst (os.map tx)) ∧ os.Nodup ∧ (∀ o ∈ os, OneOk cols o) ∧ os.length ≤ i)
      ⟨[], none, none, none, none, rfl, kpA, hB4, hF4, List.nodup_nil, (fun _ h => nomatch h), Nat.le_refl _⟩ (fun i σ H5 hi hP => ?_) (fun σ H5 hP => ?_)⟩
    · obtain ⟨os, y3, y4, y5, y6, rfl, kp5, hB5, hF5, hos, hok, hol⟩ := hP
      refine ⟨tx cols, rfl, _, rfl, by show cols.length ≤ sizeLine; exact Nat.le_of_lt (small1000 (by omega)), fun M nM => ?_⟩
      have ea : (⟨cols.toArray⟩ : Str).cps.toList = cols := by simp
      rw [ea]
      have nMb := hB5.ne nM
      have nMF : M ≠ F := (ne_of_none hF5 nM).symm
      have nMH : H M = none := Kp.none kp5 nMb.1 nM
      have hB6 := hB5.new nM (o := .lst (cols.map sg))
      have hM6 : (upd H5 M (.lst (cols.map sg))) M = some (.lst (cols.map sg)) := upd_same
      have hF6 : (upd H5 M (.lst (cols.map sg))) F = some (.lst (os.map tx)) := keep_new hF5 nM
      have kp6 : Kp b H (upd H5 M (.lst (cols.map sg))) := kp5.new nM
      generalize upd H5 M (.lst (cols.map sg)) = H6 at hB6 hM6 hF6 kp6 ⊢
      refine ⟨.ref b, rfl, tx cols, rfl, _, rfl, by rw [hlc]; exact Nat.le_of_lt (small1000 (by omega)), b, bl, _, rfl, hB6, by rw [hlc]; omega, by rw [hlc]; omega, fun d H7 kp7 hB7 d0 d1 => ?_⟩
      rw [hlc] at d1
      have hM7 := kp7 _ _ nMb.1 hM6
      have hF7 := kp7 _ _ nFb.1 hF6
      refine ⟨1, d, rfl, rfl, _, rfl, by omega, by omega, for_range (fun j σ H' => ∃ (ll ff : List Nat) (y6 : Option V), σ = [some (.ref b), some (tx cols), some (.ref F), some (.int (0 + (i : Nat))), some (.ref M), some (tx ff), y6] ∧ Kp b H H' ∧ Bag b bl H' ∧ H' F = some (.lst (os.map tx)) ∧ H' M = some (.lst (ll.map sg)) ∧ (ll ++ ff).Perm cols ∧ ff.length = j)
        ⟨cols, [], _, rfl, kp6.trans kp7, hB7, hF7, hM7, by rw [List.append_nil], rfl⟩ (fun j σ H8 hj hP => ?_) (fun σ H8 hP => ?_)⟩
      · obtain ⟨ll, ff, y6, rfl, kp8, hB8, hF8, hM8, hp, hl⟩ := hP
        have hlen : ll.length + ff.length = cols.length := by
          have := hp.length_eq
          rw [List.length_append] at this
          exact this
        have hll : 0 < ll.length := by omega
        refine ⟨tx ff, rfl, .ref M, rfl, .inl ⟨rfl, _, .inl (.inl hM8)⟩, .ref b, rfl, .ref M, rfl, M, _, rfl, .inl (.inl (.inl hM8)), b, bl, _, rfl, hB8, ?_, ?_, fun g H9 kp9 hB9 g0 g1 => ?_⟩
        · rw [List.length_map]
          omega
        · rw [List.length_map]
          omega
        · rw [List.length_map] at g1
          have hg : g.toNat < ll.length := by omega
          have hM9 := kp9 _ _ nMb.1 hM8
          have hy : ll[g.toNat]? = some ll[g.toNat] := List.getElem?_eq_getElem hg
          refine ⟨M, _, g, g.toNat, sg ll[g.toNat], rfl, rfl, hM9, by omega, by omega, PySem.seqIndex_of g0 (by rw [List.length_map]; exact g1), ?_, _, _, rfl, rfl, ?_, ?_⟩
          · rw [List.getElem?_map, hy]
            rfl
          · show ff.length + 1 ≤ sizeLine
            exact Nat.le_of_lt (small1000 (by omega))
          · refine ⟨ll.eraseIdx g.toNat, ff ++ [ll[g.toNat]], some (.int (0 + (j : Nat))), ?_, (kp8.trans kp9).mut nMH, hB9.upd nMb.1 nMb.2, keep_ne (kp9 _ _ nFb.1 hF8) nMF.symm, ?_, (popped hy ff).trans hp, by rw [List.length_append, hl]; rfl⟩
            · have e1 : tx (ff ++ [ll[g.toNat]]) = .str ((⟨ff.toArray⟩ : Str) ++ (⟨[ll[g.toNat]].toArray⟩ : Str)) := by
                rw [app_txt]
              rw [e1]
              rfl
            · rw [upd_same, erase_map]
      · obtain ⟨ll, ff, y6, rfl, kp8, hB8, hF8, hM8, hp, hl⟩ := hP
        refine ⟨tx ff, rfl, .ref F, rfl, F, _, rfl, .inl (.inl (.inl hF8)), rfl, flat_texts _, _, rfl, ?_⟩
        show (if (!inV (tx ff) (os.map tx)) = true then _ else _)
        rw [inV_texts]
        refine ite2 (fun e2 => ?_) (fun e2 => ?_)
        · have hno : ff ∉ os := by simpa using e2
          refine ⟨.ref F, rfl, .inl ⟨rfl, _, .inl (.inl hF8)⟩, tx ff, rfl, F, _, tx ff, rfl, rfl, hF8, by rw [List.length_map]; exact small1000 (by omega), os ++ [ff], _, _, _, _, rfl, kp8.mut nF, hB8.upd nFb.1 nFb.2, by rw [upd_same, List.map_append]; rfl, List.nodup_append.mpr ⟨hos, List.nodup_cons.mpr ⟨(fun h => nomatch h), List.nodup_nil⟩, (fun a ha c hc z => by rw [z, List.mem_singleton.mp hc] at ha; exact hno ha)⟩, fun o ho => ?_, by rw [List.length_append]; show os.length + 1 ≤ i + 1; omega⟩
          rcases List.mem_append.mp ho with z | z
          · exact hok o z
          · rw [List.mem_singleton.mp z]
            exact one_ok hnd hp (by omega)
        · exact ⟨os, _, _, _, _, rfl, kp8, hB8, hF8, hos, hok, by omega⟩
    · obtain ⟨os, y3, y4, y5, y6, rfl, kp5, hB5, hF5, hos, hok, hol⟩ := hP
      rw [← ch_tx] at hF5
      refine ⟨.ref F, rfl, F, os.map txS, rfl, .inl (.inl hF5), by rw [List.length_map]; omega, fun ys p hys hso np => ?_⟩
      obtain ⟨ch, rfl⟩ := strs_texts ys
      have hpc : ch.Perm os := by
        have e1 := hys.map fun z : Str => z.cps.toList
        rw [List.map_map, List.map_map] at e1
        have e2 : ∀ l : List (List Nat), l.map ((fun z : Str => z.cps.toList) ∘ txS) = l := fun l => by
          conv => rhs; rw [← List.map_id l]
          exact List.map_congr_left fun x _ => by simp
        rw [e2, e2] at e1
        exact e1
      rw [ch_tx]
      refine ⟨p, _, rfl, .inl ⟨.inl (.inl upd_same), fun r nr => ?_⟩⟩
      exact q ch r _ ((kp5.new np).new nr) ((hB5.new np).new nr) upd_same ⟨fun o ho => hok o (hpc.mem_iff.mp ho), hpc.nodup_iff.mpr hos, hso⟩ (by rw [hpc.length_eq]; omega)

/-! ### cut_list, cut -/
def spCutList (K : PySem.W.Frag) : Sp := fun vs H Q _ => ∃ (aa : Addr) (us : List V) (as : List Ask) (o : List Nat), vs = [.ref aa, tx o] ∧ H aa = some (.tup us) ∧ AsksZ H us as ∧ as.length ≤ 100 ∧ o.length ≤ 1000 ∧ (∀ a ∈ as, a.es.length ≤ 1000) ∧ ∀ (H' : Hp), Same H H' → Q (tx (cutO as o)) H'
theorem ok_cutlist (T : Tx K mg Z) : FnOk P w K mg base CX0 3 Z.f_cut_list Z.d_cut_list ["asks", "one"] (spCutList K) := by
  have G_used : FnOk P w K mg base CX0 2 Z.f_used Z.d_used ["one", "question"] (spUsed K) := ok_used T
  refine T.F_cut_list.ok sc_cut_list (fun vs H Q E h => ?_) (fun cdv A outer s H vs Q E hr h => ?_)
  · obtain ⟨aa, us, as, o, rfl, _⟩ := h
    rfl
  · obtain ⟨aa, us, as, o, rfl, haa, fas, hal, hol, hel, q⟩ := h
    refine ⟨_, (pss_one (ps_ret (pe_maxLen K (by rfl) (by rfl) T.m_max (by rfl) T.m_len (pa_cons (pe_lc (own := [("question", 2), ("often", 3)]) (tt := tYes) (by rfl) sc_cut_list.nd (piT K (pv 0)) (blkOk_by (own := [("question", 2), ("often", 3)]) (by kernel_rfl)) (fun _ _ _ _ _ => (pgT K (n := 2) (pgs_cons (pg_name (i := 2) sc_cut_list.nd rfl (.inl rfl)) (pgs_cons (pg_name (i := 3) sc_cut_list.nd rfl (.inl rfl)) pgs_nil)))) (fun _ _ _ _ _ => pts_nil) (fun _ _ _ _ _ => (pe_call G_used (hr.mono (by omega)) (by rfl) T.g_used T.F_used.kp T.b_used .nil pass0 (pa_cons (pv 1) (pa_cons (pv 2) pa_nil))))) pa_nil) pe_str))), ?_⟩
    have hul := fas.len
    refine ⟨.ref aa, rfl, aa, rfl, ⟨_, .inl (.inl haa)⟩, fun D nD => lc_it (walk_tup (xs := us)) (fun i H' => Same H H' ∧ H' D = some (.lst (((as.take i).map fun a => txS (usedM o a.es a.rc)).map V.str)))
      ⟨Same.new (Same.refl H) nD, upd_same⟩ (fun i H' _ hP => .inl (.inl (hP.1 _ _ haa))) (fun i x H3 H4 hi hP hY => ?_) (fun H3 hP => ?_)⟩
    · obtain ⟨sm, hD⟩ := hP
      obtain ⟨rfl, hx⟩ := hY
      obtain ⟨a, ha, fa⟩ := (fas.kT (Same.kT sm)).get hx
      obtain ⟨p, qv, rfl, hp, fq⟩ := fa
      have hi2 : i < as.length := (List.getElem?_eq_some_iff.mp ha).1
      have ea : as[i] = a := (List.getElem?_eq_some_iff.mp ha).2
      refine ⟨p, [qv, .int a.often], rfl, .inl (.inl hp), rfl, qv, [.int a.often], rfl, .int a.often, [], rfl, rfl, rfl, tx o, rfl, qv, rfl, o, qv, a.es, a.rc, rfl, hol, fq, hel a (List.mem_of_getElem? ha), fun H5 sm5 => ?_⟩
      refine ⟨_, sm5 _ _ hD, ?_, Same.mut (Same.trans sm sm5) nD, ?_⟩
      · rw [List.length_map, List.length_map, List.length_take]
        exact small1000 (by omega)
      · rw [upd_same, List.take_succ_eq_append_getElem hi2, ea, List.map_append, List.map_append]
        rfl
    · obtain ⟨sm, hD⟩ := hP
      rw [hul, List.take_of_length_le (Nat.le_refl _)] at hD
      refine ⟨D, _, rfl, .inl (.inl hD), fun z hz => ?_, fun hz => ?_, fun m hm hmx => ?_⟩
      · obtain ⟨a, ha, rfl⟩ := List.mem_map.mp hz
        have := used_len o a.es a.rc
        exact Nat.le_of_lt (small1000 (show (usedM o a.es a.rc).length ≤ 1000 by omega))
      · have e0 : as = [] := List.map_eq_nil_iff.mp hz
        have e1 : cutO as o = [] := by
          rw [e0]
          rfl
        have := q H3 sm
        rw [e1] at this
        exact this
      · obtain ⟨a, ha, rfl⟩ := List.mem_map.mp hm
        have e1 : usedM o a.es a.rc = cutO as o := cutO_is ⟨a, ha, rfl⟩ fun a2 ha2 => hmx _ (List.mem_map.mpr ⟨a2, ha2, rfl⟩)
        rw [e1]
        exact q H3 sm
def spCut (K : PySem.W.Frag) : Sp := fun vs H Q _ => ∃ (wv : V) (cols : List Nat) (rows : List (List Int)) (as : List Ask) (chg : Int) (ca : Addr) (ch : List (List Nat)), vs = [wv, .ref ca] ∧ WorkZ H wv cols rows as chg ∧ AsksOk cols as ∧ cols.length ≤ 1000 ∧ H ca = some (.tup (ch.map tx)) ∧ ch.length < 64 ∧ (∀ o ∈ ch, o.length ≤ 1000) ∧
  ∀ (fs : List (List Nat)) (p : Addr) (H' : Hp), Same H H' → H' p = some (.tup (fs.map tx)) → CutOf as ch fs → fs.length ≤ ch.length → Q (.ref p) H'
theorem ok_cut (T : Tx K mg Z) : FnOk P w K mg base CX0 4 Z.f_cut Z.d_cut ["work", "choice"] (spCut K) := by
  have G_cut_list : FnOk P w K mg base CX0 3 Z.f_cut_list Z.d_cut_list ["asks", "one"] (spCutList K) := ok_cutlist T
  refine T.F_cut.ok sc_cut (fun vs H Q E h => ?_) (fun cdv A outer s H vs Q E hr h => ?_)
  · obtain ⟨wv, cols, rows, as, chg, ca, ch, rfl, _⟩ := h
    rfl
  · obtain ⟨wv, cols, rows, as, chg, ca, ch, rfl, fw, has, hcn, hca, hcl, hch, q⟩ := h
    obtain ⟨wa, tv, aa, us, rfl, hwa, fT, haa, fas⟩ := fw
    refine ⟨_, (pss_cons (ps_asg (pv 0) (pgT K (n := 3) (pgs_cons (pg_name (i := 2) sc_cut.nd rfl (.inl rfl)) (pgs_cons (pg_name (i := 3) sc_cut.nd rfl (.inr rfl)) (pgs_cons (pg_name (i := 4) sc_cut.nd rfl (.inl rfl)) pgs_nil)))))
      (pss_cons (ps_setLc (i := 5) (own := [("one", 6)]) (tt := tYes) (by rfl) sc_cut.nd rfl rfl (sw_true rfl rfl rfl (by decide +kernel)) (piT K (pv 1)) (blkOk_by (own := [("one", 6)]) (by kernel_rfl)) (fun _ _ _ _ _ => (pg_name (i := 6) sc_cut.nd rfl (.inl rfl))) (fun _ _ _ _ _ => pts_nil) (fun _ _ _ _ _ => (pe_call G_cut_list (hr.mono (by omega)) (by rfl) T.g_cut_list T.F_cut_list.kp T.b_cut_list .nil pass0 (pa_cons (pv 3) (pa_cons (pv 6) pa_nil)))))
      (pss_one (ps_ret (pe_callTy (cTupSq K) (by rfl) T.m_tuple (by decide +kernel) (pa_cons (pe_callB (cSortSet w) (by rfl) T.m_sorted (by decide +kernel) (pa_cons (pe_scT (own := [("one", 6)]) (tt := _) w (by rfl) sc_cut.nd (piL K (pv 5)) (blkOk_by (own := [("one", 6)]) (by kernel_rfl)) (fun _ _ _ _ _ => (pg_name (i := 6) sc_cut.nd rfl (.inl rfl))) (fun _ _ _ _ _ => (pts_one (pt_cmpR op_ne (pv 6) pe_str (nomark _)))) (fun _ _ _ _ _ => (pv 6))) pa_nil)) pa_nil)))))), ?_⟩
    refine ⟨.ref wa, rfl, wa, [tv, .ref aa, .int chg], rfl, .inl (.inl hwa), rfl, tv, [.ref aa, .int chg], rfl, .ref aa, [.int chg], rfl, .int chg, [], rfl, rfl, ?_⟩
    have hel : ∀ a ∈ as, a.es.length ≤ 1000 := fun a ha => by
      have := (has.ok a ha).1.len
      omega
    have hal := has.len
    refine ⟨.ref ca, rfl, ca, rfl, ⟨_, .inl (.inl hca)⟩, fun D nD => lc_it (walk_tup (xs := ch.map tx)) (fun i H' => Same H H' ∧ H' D = some (.lst ((ch.take i).map fun o => tx (cutO as o))))
      ⟨Same.new (Same.refl H) nD, upd_same⟩ (fun i H' _ hP => .inl (.inl (hP.1 _ _ hca))) (fun i x H3 H4 hi hP hY => ?_) (fun H1 hP => ?_)⟩
    · obtain ⟨sm, hD⟩ := hP
      obtain ⟨rfl, hx⟩ := hY
      rw [List.getElem?_map] at hx
      obtain ⟨o, ho, rfl⟩ := Option.map_eq_some_iff.mp hx
      have hi2 : i < ch.length := (List.getElem?_eq_some_iff.mp ho).1
      have eo : ch[i] = o := (List.getElem?_eq_some_iff.mp ho).2
      refine ⟨rfl, .ref aa, rfl, tx o, rfl, aa, us, as, o, rfl, sm _ _ haa, fas.kT (Same.kT sm), by omega, hch o (List.mem_of_getElem? ho), hel, fun H5 sm5 => ?_⟩
      refine ⟨_, sm5 _ _ hD, ?_, Same.mut (Same.trans sm sm5) nD, ?_⟩
      · rw [List.length_map, List.length_take]
        exact small1000 (by omega)
      · rw [upd_same, List.take_succ_eq_append_getElem hi2, eo, List.map_append]
        rfl
    · obtain ⟨sm, hD⟩ := hP
      rw [List.length_map, List.take_of_length_le (Nat.le_refl _)] at hD
      refine ⟨.ref D, rfl, D, rfl, ⟨_, .inl (.inl hD)⟩, fun S nS => scT_it (walk_list (xs := ch.map fun o => tx (cutO as o))) (fun i H' => Same H1 H' ∧ ∃ ks : List Str, H' S = some (SetSO w S ks) ∧ ks.length ≤ i ∧ ks.Nodup ∧ ∀ x, x ∈ ks ↔ ∃ o ∈ ch.take i, cutO as o ≠ [] ∧ txS (cutO as o) = x)
        ⟨Same.new (Same.refl H1) nS, [], upd_same, Nat.le_refl _, List.nodup_nil, fun x => ⟨(fun z => nomatch z), (fun ⟨o, z, _⟩ => by rw [List.take_zero] at z; cases z)⟩⟩ (fun i H' _ hP => .inl (.inl (hP.1 _ _ hD))) (fun i x H3 H4 hi hP hY => ?_) (fun H3 hP => ?_)⟩
      · obtain ⟨sm3, ks, hS3, hkl, hkn, hkm⟩ := hP
        obtain ⟨rfl, hx⟩ := hY
        rw [List.getElem?_map] at hx
        obtain ⟨o, ho, rfl⟩ := Option.map_eq_some_iff.mp hx
        have hi2 : i < ch.length := (List.getElem?_eq_some_iff.mp ho).1
        have eo : ch[i] = o := (List.getElem?_eq_some_iff.mp ho).2
        have tk : ch.take (i + 1) = ch.take i ++ [o] := by rw [List.take_succ_eq_append_getElem hi2, eo]
        refine ⟨rfl, tx (cutO as o), rfl, rfl, _, rfl, ite2 (fun z => ?_) (fun z => ?_)⟩
        · have hne : cutO as o ≠ [] := fun e => by
            rw [e] at z
            exact absurd z (by decide +kernel)
          refine ⟨tx (cutO as o), rfl, txS (cutO as o), ks, rfl, hS3, by unfold scanBound; omega, Same.mut sm3 nS, _, upd_same, ?_, ?_, fun x => ?_⟩
          · split
            · omega
            · rw [List.length_cons]
              omega
          · split
            · exact hkn
            · exact List.nodup_cons.mpr ⟨by assumption, hkn⟩
          · rw [tk]
            have e1 : (∃ o' ∈ ch.take i ++ [o], cutO as o' ≠ [] ∧ txS (cutO as o') = x) ↔ (x = txS (cutO as o) ∨ ∃ o' ∈ ch.take i, cutO as o' ≠ [] ∧ txS (cutO as o') = x) := by
              constructor
              · rintro ⟨o', ho', h1, h2⟩
                rcases List.mem_append.mp ho' with y | y
                · exact .inr ⟨o', y, h1, h2⟩
                · rw [List.mem_singleton.mp y] at h2
                  exact .inl h2.symm
              · rintro (y | ⟨o', ho', h1, h2⟩)
                · exact ⟨o, List.mem_append_right _ (List.mem_singleton.mpr rfl), hne, y.symm⟩
                · exact ⟨o', List.mem_append_left _ ho', h1, h2⟩
            rw [e1, ← hkm]
            split
            · rename_i hin
              exact ⟨.inr, fun y => y.elim (fun e => by rw [e]; exact hin) id⟩
            · exact List.mem_cons
        · have hne : cutO as o = [] := by
            have z2 : decide (tx (cutO as o) = V.str (Str.ofString "")) = true := by
              cases hz : decide (tx (cutO as o) = V.str (Str.ofString "")) with
              | true => rfl
              | false =>
                rw [hz] at z
                exact absurd rfl z
            have z3 : V.str (Str.ofString "") = tx [] := congrArg V.str (by decide +kernel)
            exact tx_inj ((of_decide_eq_true z2).trans z3)
          refine ⟨sm3, ks, hS3, by omega, hkn, fun x => (hkm x).trans ?_⟩
          rw [tk]
          constructor
          · rintro ⟨o', ho', h1, h2⟩
            exact ⟨o', List.mem_append_left _ ho', h1, h2⟩
          · rintro ⟨o', ho', h1, h2⟩
            rcases List.mem_append.mp ho' with y | y
            · exact ⟨o', y, h1, h2⟩
            · rw [List.mem_singleton.mp y] at h1
              exact absurd hne h1
      · obtain ⟨sm3, ks, hS3, hkl, hkn, hkm⟩ := hP
        rw [List.length_map] at hkl hkm
        rw [List.take_of_length_le (Nat.le_refl _)] at hkm
        refine ⟨S, ks, rfl, hS3, by omega, fun ys p hys hso np => ?_⟩
        obtain ⟨fs, rfl⟩ := strs_texts ys
        rw [ch_tx]
        refine ⟨p, _, rfl, .inl ⟨.inl (.inl upd_same), fun r nr => ?_⟩⟩
        refine q fs r _ (Same.new (Same.new (Same.trans sm sm3) np) nr) upd_same ⟨nodup_texts (hys.nodup_iff.mpr hkn), hso, fun x => ?_⟩ ?_
        · have e1 : x ∈ fs ↔ txS x ∈ fs.map txS := ⟨fun h => List.mem_map.mpr ⟨x, h, rfl⟩, fun h => by
            obtain ⟨y, hy, e⟩ := List.mem_map.mp h
            rw [← txS_inj e]
            exact hy⟩
          rw [e1, hys.mem_iff, hkm]
          constructor
          · rintro ⟨o, ho, h1, h2⟩
            have e2 := txS_inj h2
            exact ⟨by rw [← e2]; exact h1, o, ho, e2⟩
          · rintro ⟨h0, o, ho, e2⟩
            exact ⟨o, ho, by rw [e2]; exact h0, by rw [e2]⟩
        · have := hys.length_eq
          rw [List.length_map] at this
          omega

/-! ### _law_cut -/
def spLcut (K : PySem.W.Frag) : Sp := fun vs H Q _ => ∃ (ca aa : Addr) (ch : List (List Nat)) (us : List V) (as : List Ask), vs = [.ref ca, .ref aa] ∧ H ca = some (.tup (ch.map tx)) ∧ H aa = some (.lst us) ∧ AsksZ H us as ∧ as.length ≤ 100 ∧ ch.length < 64 ∧ (∀ o ∈ ch, o.length ≤ 1000) ∧ (∀ a ∈ as, a.es.length ≤ 1000) ∧
  ∀ (fs : List (List Nat)) (p : Addr) (H' : Hp), Same H H' → H' p = some (.tup (fs.map tx)) → CutOf as ch fs → Q (.ref p) H'
theorem ok_lcut (T : Tx K mg Z) : FnOk P w K mg base CX0 2 Z.f_l_cut Z.d_l_cut ["choice", "asks"] (spLcut K) := by
  have G_l_used : FnOk P w K mg base CX0 1 Z.f_l_used Z.d_l_used ["one", "question"] (spUsed K) := ok_lused T
  refine T.F_l_cut.ok sc_l_cut (fun vs H Q E h => ?_) (fun cdv A outer s H vs Q E hr h => ?_)
  · obtain ⟨ca, aa, ch, us, as, rfl, _⟩ := h
    rfl
  · obtain ⟨ca, aa, ch, us, as, rfl, hca, haa, fas, hal, hcl, hch, hel, q⟩ := h
    refine ⟨_, (pss_cons (ps_set (i := 2) sc_l_cut.nd rfl (.inl rfl) pe_dnewK)
      (pss_cons (ps_for PassesOwn.never rfl (piT K (pv 0)) (pg_name (i := 3) sc_l_cut.nd rfl (.inr rfl)) (pss_cons (ps_set (i := 4) sc_l_cut.nd rfl (.inl rfl) (pe_callB (cr_max rfl) (by rfl) T.m_max (by decide +kernel) (pa_cons (pe_op op_cat (pe_lst (pa_cons pe_int pa_nil)) (pe_lc (own := [("question", 5), ("often", 6)]) (tt := tYes) (by rfl) sc_l_cut.nd (piL K (pv 1)) (blkOk_by (own := [("question", 5), ("often", 6)]) (by kernel_rfl)) (fun _ _ _ _ _ => (pgT K (n := 2) (pgs_cons (pg_name (i := 5) sc_l_cut.nd rfl (.inl rfl)) (pgs_cons (pg_name (i := 6) sc_l_cut.nd rfl (.inl rfl)) pgs_nil)))) (fun _ _ _ _ _ => pts_nil) (fun _ _ _ _ _ => (pe_callB call_len_str (by rfl) T.m_len (by decide +kernel) (pa_cons (pe_call G_l_used (hr.mono (by omega)) (by rfl) T.g_l_used T.F_l_used.kp T.b_l_used .nil pass0 (pa_cons (pv 3) (pa_cons (pv 5) pa_nil))) pa_nil))))) pa_nil)))
      (pss_one (ps_if (pt_cmpR op_gt (pv 4) pe_int (nomark _)) (pss_one (ps_dput (hu_of hr) (pv 2) (pe_slice sl_str (pv 3) po_none (po_some (pv 4))) pe_bl rfl)) pss_nil))))
      (pss_one (ps_ret (pe_callTy (cTupSq K) (by rfl) T.m_tuple (by decide +kernel) (pa_cons (pe_callB (call_sortedD rfl) (by rfl) T.m_sorted (by decide +kernel) (pa_cons (pv 2) pa_nil)) pa_nil)))))), ?_⟩
    have hul := fas.len
    refine fun F nF => ?_
    have sm1 : Same H (upd H F (.dK [])) := Same.new (Same.refl H) nF
    have hF1 : (upd H F (.dK [])) F = some (.dK []) := upd_same
    generalize upd H F (.dK []) = H1 at sm1 hF1 ⊢
    refine ⟨.ref ca, rfl, ca, rfl, ⟨_, .inl (.inl (sm1 _ _ hca))⟩, for_it (walk_tup (xs := ch.map tx)) (fun i σ H' => ∃ (kvs : List (Key × V)) (ks : List Str) (y3 y4 : Option V), σ = [some (.ref ca), some (.ref aa), some (.ref F), y3, y4, none, none] ∧ Same H H' ∧ H' F = some (.dK kvs) ∧ kvs.map (·.1) = ks.map Sum.inr ∧ ks.length ≤ i ∧ ks.Nodup ∧ ∀ x, x ∈ ks ↔ ∃ o ∈ ch.take i, cutO as o ≠ [] ∧ txS (cutO as o) = x)
      ⟨[], [], none, none, rfl, sm1, hF1, rfl, Nat.le_refl _, List.nodup_nil, fun x => ⟨(fun z => nomatch z), (fun ⟨o, z, _⟩ => by rw [List.take_zero] at z; cases z)⟩⟩ (fun i σ H' _ hP => ?_) (fun i x σ H3 H4 hi hP hY => ?_) (fun σ H3 hP => ?_)⟩
    · obtain ⟨kvs, ks, y3, y4, _, sm, _⟩ := hP
      exact .inl (.inl (sm _ _ hca))
    · obtain ⟨kvs, ks, y3, y4, rfl, sm3, hF3, hks, hkl, hkn, hkm⟩ := hP
      obtain ⟨rfl, hx⟩ := hY
      rw [List.getElem?_map] at hx
      obtain ⟨o, ho, rfl⟩ := Option.map_eq_some_iff.mp hx
      have hi2 : i < ch.length := (List.getElem?_eq_some_iff.mp ho).1
      have eo : ch[i] = o := (List.getElem?_eq_some_iff.mp ho).2
      have hol := hch o (List.mem_of_getElem? ho)
      have tk : ch.take (i + 1) = ch.take i ++ [o] := by rw [List.take_succ_eq_append_getElem hi2, eo]
      refine ⟨(by show 1 ≤ sizeLine; decide), fun L nL => ?_⟩
      have sm5 : Same H (upd H4 L (.lst [.int 0])) := Same.new sm3 nL
      have smx : Same H4 (upd H4 L (.lst [.int 0])) := Same.new (Same.refl H4) nL
      have hL5 : (upd H4 L (.lst [.int 0])) L = some (.lst [.int 0]) := upd_same
      generalize upd H4 L (.lst [.int 0]) = H5 at sm5 smx hL5 ⊢
      refine ⟨.ref aa, rfl, aa, rfl, ⟨_, .inl (.inl (sm5 _ _ haa))⟩, fun D nD => lc_it (walk_list (xs := us)) (fun j H' => Same H5 H' ∧ H' D = some (.lst (((as.take j).map fun a => ((usedM o a.es a.rc).length : Int)).map V.int)))
        ⟨Same.new (Same.refl H5) nD, upd_same⟩ (fun j H' _ hP => .inl (.inl (hP.1 _ _ (sm5 _ _ haa)))) (fun j x H6 H7 hj hP hY => ?_) (fun H6 hP => ?_)⟩
      · obtain ⟨sm6, hD⟩ := hP
        obtain ⟨rfl, hx⟩ := hY
        obtain ⟨a, ha, fa⟩ := (fas.kT (Same.kT (Same.trans sm5 sm6))).get hx
        obtain ⟨p, qv, rfl, hp, fq⟩ := fa
        have hj2 : j < as.length := (List.getElem?_eq_some_iff.mp ha).1
        have ea : as[j] = a := (List.getElem?_eq_some_iff.mp ha).2
        have hul2 := used_len o a.es a.rc
        refine ⟨p, [qv, .int a.often], rfl, .inl (.inl hp), rfl, qv, [.int a.often], rfl, .int a.often, [], rfl, rfl, rfl, tx o, rfl, qv, rfl, o, qv, a.es, a.rc, rfl, hol, fq, hel a (List.mem_of_getElem? ha), fun H8 sm8 => ?_⟩
        refine ⟨_, rfl, Nat.le_of_lt (small1000 (show (usedM o a.es a.rc).length ≤ 1000 by omega)), _, sm8 _ _ hD, ?_, Same.mut (Same.trans sm6 sm8) nD, ?_⟩
        · rw [List.length_map, List.length_map, List.length_take]
          exact small1000 (by omega)
        · rw [upd_same, List.take_succ_eq_append_getElem hj2, ea, List.map_append, List.map_append]
          rfl
      · obtain ⟨sm6, hD⟩ := hP
        rw [hul, List.take_of_length_le (Nat.le_refl _)] at hD
        refine ⟨L, D, _, _, rfl, rfl, sm6 _ _ hL5, hD, ?_, fun p np => ?_⟩
        · show 1 + ((as.map fun a => ((usedM o a.es a.rc).length : Int)).map V.int).length ≤ sizeLine
          rw [List.length_map, List.length_map]
          exact Nat.le_of_lt (small1000 (by omega))
        · refine ⟨p, 0 :: as.map fun a => ((usedM o a.es a.rc).length : Int), rfl, .inl (.inl upd_same), Nat.succ_pos _, fun m hm hmx => ?_⟩
          have hm0 : 0 ≤ m := hmx 0 List.mem_cons_self
          obtain ⟨n, rfl⟩ : ∃ n : Nat, m = (n : Int) := ⟨m.toNat, (Int.toNat_of_nonneg hm0).symm⟩
          have en : n = cutLen as o := by
            refine cutLen_is (fun a ha => ?_) ?_
            · have := hmx _ (List.mem_cons_of_mem _ (List.mem_map.mpr ⟨a, ha, rfl⟩))
              omega
            · rcases List.mem_cons.mp hm with z | z
              · exact .inl (by omega)
              · obtain ⟨a, ha, e⟩ := List.mem_map.mp z
                exact .inr ⟨a, ha, by omega⟩
          subst en
          have sm7 : Same H (upd H6 p (.lst ([.int 0] ++ (as.map fun a => ((usedM o a.es a.rc).length : Int)).map V.int))) := Same.new (Same.trans sm5 sm6) np
          have hF7 : (upd H6 p (.lst ([.int 0] ++ (as.map fun a => ((usedM o a.es a.rc).length : Int)).map V.int))) F = some (.dK kvs) := keep_new (sm6 _ _ (smx _ _ hF3)) np
          generalize upd H6 p (.lst ([.int 0] ++ (as.map fun a => ((usedM o a.es a.rc).length : Int)).map V.int)) = H7 at sm7 hF7 ⊢
          refine ⟨.int (cutLen as o : Nat), rfl, _, _, rfl, rfl, _, rfl, ite2 (fun z => ?_) (fun z => ?_)⟩
          · have hpos : 0 < cutLen as o := by
              have : ((cutLen as o : Nat) : Int) > 0 := of_decide_eq_true z
              omega
            have hne := cutO_ne.mpr hpos
            refine ⟨.ref F, rfl, tx o, rfl, .int (cutLen as o : Nat), rfl, _, rfl, _, rfl, Nat.le_of_lt (small1000 (show o.length ≤ 1000 from hol)), ?_⟩
            rw [cut_take]
            have hkvl : kvs.length = ks.length := by
              have := congrArg List.length hks
              rw [List.length_map, List.length_map] at this
              exact this
            refine ⟨F, _, rfl, DPut.k (k := Sum.inr (txS (cutO as o))) hF7 (small1000 (by omega)), ?_⟩
            have e1 : ∀ x, (∃ o' ∈ ch.take i ++ [o], cutO as o' ≠ [] ∧ txS (cutO as o') = x) ↔ (x = txS (cutO as o) ∨ ∃ o' ∈ ch.take i, cutO as o' ≠ [] ∧ txS (cutO as o') = x) := fun x => by
              constructor
              · rintro ⟨o', ho', h1, h2⟩
                rcases List.mem_append.mp ho' with y | y
                · exact .inr ⟨o', y, h1, h2⟩
                · rw [List.mem_singleton.mp y] at h2
                  exact .inl h2.symm
              · rintro (y | ⟨o', ho', h1, h2⟩)
                · exact ⟨o, List.mem_append_right _ (List.mem_singleton.mpr rfl), hne, y.symm⟩
                · exact ⟨o', List.mem_append_left _ ho', h1, h2⟩
            have hin : ∀ x : Str, (Sum.inr x : Key) ∈ kvs.map (·.1) ↔ x ∈ ks := fun x => by
              rw [hks]
              exact ⟨fun h => by
                obtain ⟨y, hy, e⟩ := List.mem_map.mp h
                cases e
                exact hy, fun h => List.mem_map.mpr ⟨x, h, rfl⟩⟩
            rcases put_keys kvs (Sum.inr (txS (cutO as o))) (V.bl true) with ⟨h1, h2⟩ | ⟨h1, h2⟩
            · refine ⟨_, ks, _, _, rfl, Same.mut sm7 nF, upd_same, h2.trans hks, by omega, hkn, fun x => ?_⟩
              rw [tk, e1, ← hkm]
              exact ⟨.inr, fun y => y.elim (fun e => by rw [e]; exact (hin _).mp h1) id⟩
            · have hnk : txS (cutO as o) ∉ ks := fun y => h1 ((hin _).mpr y)
              refine ⟨_, ks ++ [txS (cutO as o)], _, _, rfl, Same.mut sm7 nF, upd_same, ?_, by rw [List.length_append]; show ks.length + 1 ≤ i + 1; omega, List.nodup_append.mpr ⟨hkn, List.nodup_cons.mpr ⟨(fun h => nomatch h), List.nodup_nil⟩, (fun a ha c hc z => by rw [z, List.mem_singleton.mp hc] at ha; exact hnk ha)⟩, fun x => ?_⟩
              · rw [h2, hks, List.map_append]
                rfl
              · rw [tk, e1, ← hkm, List.mem_append, List.mem_singleton]
                exact Or.comm
          · have hz : ¬ 0 < cutLen as o := fun y => z (decide_eq_true (show ((cutLen as o : Nat) : Int) > 0 by omega))
            have hne : cutO as o = [] := by
              by_cases e : cutO as o = []
              · exact e
              · exact absurd (cutO_ne.mp e) hz
            refine ⟨kvs, ks, _, _, rfl, sm7, hF7, hks, by omega, hkn, fun x => (hkm x).trans ?_⟩
            rw [tk]
            constructor
            · rintro ⟨o', ho', h1, h2⟩
              exact ⟨o', List.mem_append_left _ ho', h1, h2⟩
            · rintro ⟨o', ho', h1, h2⟩
              rcases List.mem_append.mp ho' with y | y
              · exact ⟨o', y, h1, h2⟩
              · rw [List.mem_singleton.mp y] at h1
                exact absurd hne h1
    · obtain ⟨kvs, ks, y3, y4, rfl, sm3, hF3, hks, hkl, hkn, hkm⟩ := hP
      rw [List.length_map] at hkl hkm
      rw [List.take_of_length_le (Nat.le_refl _)] at hkm
      refine ⟨.ref F, rfl, F, _, ks, rfl, .inl hF3, hks, by omega, fun ys p hys hso np => ?_⟩
      obtain ⟨fs, rfl⟩ := strs_texts ys
      rw [ch_tx]
      refine ⟨p, _, rfl, .inl ⟨.inl (.inl upd_same), fun r nr => ?_⟩⟩
      refine q fs r _ (Same.new (Same.new sm3 np) nr) upd_same ⟨nodup_texts (hys.nodup_iff.mpr hkn), hso, fun x => ?_⟩
      have e1 : x ∈ fs ↔ txS x ∈ fs.map txS := ⟨fun h => List.mem_map.mpr ⟨x, h, rfl⟩, fun h => by
        obtain ⟨y, hy, e⟩ := List.mem_map.mp h
        rw [← txS_inj e]
        exact hy⟩
      rw [e1, hys.mem_iff, hkm]
      constructor
      · rintro ⟨o, ho, h1, h2⟩
        have e2 := txS_inj h2
        exact ⟨by rw [← e2]; exact h1, o, ho, e2⟩
      · rintro ⟨h0, o, ho, e2⟩
        exact ⟨o, ho, by rw [e2]; exact h0, by rw [e2]⟩

/-! ### the law -/
theorem Bag.sx {b bl : Addr} {Ps : List Addr} {H H' : Hp} (h : Bag b bl H) (t : TG Ps H) (s : Sx Ps H H') : Bag b bl H' := by
  obtain ⟨ns, k, n, e, h1, h2⟩ := h
  exact ⟨ns, k, n, e, s _ _ (t.not h1 fun q z => nomatch z) h1, s _ _ (t.not h2 fun q z => nomatch z) h2⟩
theorem TG.kb {b bl : Addr} {Ps : List Addr} {H H' : Hp} (t : TG Ps H) (h : Bag b bl H) (k : Kp b H H') : TG Ps H' := by
  obtain ⟨ns, m, n, e, h1, h2⟩ := h
  exact t.kp h1 k
def spLaw (K : PySem.W.Frag) (Z : Ad) : Sp := fun vs H Q _ => ∃ (a : Addr) (ns : List Int), vs = [.ref a] ∧ SqL K H a (ns.map V.int) ∧ ns.length ≤ 63 ∧ (∀ P ∈ Z.Ps, GxR.TabG H P) ∧ ∀ H', Q (.bl true) H'
set_option maxHeartbeats 16000000 in
theorem ok_law (T : Tx K mg Z) (TB : Tb base mg Z) : FnOk P w K mg base CX0 10 Z.f_law Z.d_law ["script"] (spLaw K Z) := by
  have G_l_bag : FnOk P w K mg base CX0 1 Z.f_l_bag Z.d_l_bag ["script"] (spBag K) := ok_bag T
  have G_l_lot : FnOk P w K mg base CX0 1 Z.f_l_lot Z.d_l_lot ["bag", "many"] (spLot K) := ok_lot T
  have G_l_table : FnOk P w K mg base CX0 3 Z.f_l_table Z.d_l_table ["bag", "most", "rows"] (spTable K) := ok_table T
  have G_l_question : FnOk P w K mg base CX0 3 Z.f_l_question Z.d_l_question ["bag", "table"] (spQuestion K) := ok_question T
  have G_l_choice : FnOk P w K mg base CX0 2 Z.f_l_choice Z.d_l_choice ["bag", "columns"] (spChoice K) := ok_choice T
  have G_l_same : FnOk P w K mg base CX0 3 Z.f_l_same Z.d_l_same ["found", "due"] (spSame 3 K) := ok_same T 3
  have G_l_cut : FnOk P w K mg base CX0 2 Z.f_l_cut Z.d_l_cut ["choice", "asks"] (spLcut K) := ok_lcut T
  have G_cut : FnOk P w K mg base CX0 4 Z.f_cut Z.d_cut ["work", "choice"] (spCut K) := ok_cut T
  have G_price : FnOk P w K mg base CX0 9 Z.f_price Z.d_price ["work", "choice"] (spPrice K Z) := ok_price T TB
  have G_room : FnOk P w K mg base CX0 4 Z.f_room Z.d_room ["choice"] (spRoom K Z) := ok_room T TB
  refine T.F_law.ok sc_law (fun vs H Q E h => ?_) (fun cdv A outer s H vs Q E hr h => ?_)
  · obtain ⟨a, ns, rfl, _⟩ := h
    rfl
  · obtain ⟨a, ns, rfl, hS, hlen, tgA, q⟩ := h
    have tg : TG Z.Ps H := tgA
    refine ⟨_, (pss_cons (ps_set (i := 1) sc_law.nd rfl (.inl rfl) (pe_call G_l_bag (hr.mono (by omega)) (by rfl) T.g_l_bag T.F_l_bag.kp T.b_l_bag .nil pass0 (pa_cons (pv 0) pa_nil)))
      (pss_cons (ps_for PassesOwn.never rfl (pi_range1 (by rfl) T.m_range (pa_cons pe_int pa_nil)) (pg_name (i := 2) sc_law.nd rfl (.inl rfl)) (pss_cons (ps_set (i := 3) sc_law.nd rfl (.inl rfl) (pe_call G_l_table (hr.mono (by omega)) (by rfl) T.g_l_table T.F_l_table.kp T.b_l_table .nil pass0 (pa_cons (pv 1) (pa_cons pe_int (pa_cons (pe_ix (ixL K) (pe_lst (pa_cons pe_int (pa_cons pe_int pa_nil))) (pe_call G_l_lot (hr.mono (by omega)) (by rfl) T.g_l_lot T.F_l_lot.kp T.b_l_lot .nil pass0 (pa_cons (pv 1) (pa_cons pe_int pa_nil))) (fun _ _ => rfl)) pa_nil)))))
      (pss_cons (ps_set (i := 4) sc_law.nd rfl (.inl rfl) (pe_lst pa_nil))
      (pss_cons (ps_for PassesOwn.never rfl (pi_range1 (by rfl) T.m_range (pa_cons (pe_call G_l_lot (hr.mono (by omega)) (by rfl) T.g_l_lot T.F_l_lot.kp T.b_l_lot .nil pass0 (pa_cons (pv 1) (pa_cons pe_int pa_nil))) pa_nil)) (pg_name (i := 5) sc_law.nd rfl (.inl rfl)) (pss_cons (ps_set (i := 6) sc_law.nd rfl (.inl rfl) (pe_call G_l_question (hr.mono (by omega)) (by rfl) T.g_l_question T.F_l_question.kp T.b_l_question .nil pass0 (pa_cons (pv 1) (pa_cons (pv 3) pa_nil))))
      (pss_one (ps_expr (bmK K PySem.F.plainAttrs_list PySem.F.slot_list_append PySem.F.type_list_append mt_append (pv 4) (pa_cons (pe_tup (pa_cons (pv 6) (pa_cons (pe_op op_add pe_int (pe_call G_l_lot (hr.mono (by omega)) (by rfl) T.g_l_lot T.F_l_lot.kp T.b_l_lot .nil pass0 (pa_cons (pv 1) (pa_cons (pe_ix (ixL K) (pe_lst (pa_cons pe_int (pa_cons pe_int pa_nil))) (pe_call G_l_lot (hr.mono (by omega)) (by rfl) T.g_l_lot T.F_l_lot.kp T.b_l_lot .nil pass0 (pa_cons (pv 1) (pa_cons pe_int pa_nil))) (fun _ _ => rfl)) pa_nil)))) pa_nil))) pa_nil))))))
      (pss_cons (ps_set (i := 7) sc_law.nd rfl (.inl rfl) (pe_tup (pa_cons (pv 3) (pa_cons (pe_callTy (cTupSq K) (by rfl) T.m_tuple (by decide +kernel) (pa_cons (pv 4) pa_nil)) (pa_cons (pe_call G_l_lot (hr.mono (by omega)) (by rfl) T.g_l_lot T.F_l_lot.kp T.b_l_lot .nil pass0 (pa_cons (pv 1) (pa_cons (pe_ix (ixL K) (pe_lst (pa_cons pe_int (pa_cons pe_int pa_nil))) (pe_call G_l_lot (hr.mono (by omega)) (by rfl) T.g_l_lot T.F_l_lot.kp T.b_l_lot .nil pass0 (pa_cons (pv 1) (pa_cons pe_int pa_nil))) (fun _ _ => rfl)) pa_nil))) pa_nil)))))
      (pss_cons (ps_set (i := 8) sc_law.nd rfl (.inl rfl) (pe_call G_l_choice (hr.mono (by omega)) (by rfl) T.g_l_choice T.F_l_choice.kp T.b_l_choice .nil pass0 (pa_cons (pv 1) (pa_cons (pe_ix (ixT K) (pv 3) pe_int (fun _ _ => rfl)) pa_nil))))
      (pss_cons (ps_set (i := 9) sc_law.nd rfl (.inl rfl) (pe_call G_cut (hr.mono (by omega)) (by rfl) T.g_cut T.F_cut.kp T.b_cut .nil pass0 (pa_cons (pv 7) (pa_cons (pv 8) pa_nil))))
      (pss_cons (ps_if (PW.pt (pw_or (pt_not (pt_val (pe_call G_l_same (hr.mono (by omega)) (by rfl) T.g_l_same T.F_l_same.kp T.b_l_same .nil pass0 (pa_cons (pv 9) (pa_cons (pe_call G_l_cut (hr.mono (by omega)) (by rfl) T.g_l_cut T.F_l_cut.kp T.b_l_cut .nil pass0 (pa_cons (pv 8) (pa_cons (pv 4) pa_nil))) pa_nil))))) (pw_or1 (pt_not (pt_val (pe_call G_l_same (hr.mono (by omega)) (by rfl) T.g_l_same T.F_l_same.kp T.b_l_same .nil pass0 (pa_cons (pe_call G_cut (hr.mono (by omega)) (by rfl) T.g_cut T.F_cut.kp T.b_cut .nil pass0 (pa_cons (pv 7) (pa_cons (pv 9) pa_nil))) (pa_cons (pv 9) pa_nil)))))))) (pss_one (ps_ret pe_bl)) pss_nil)
      (pss_one (ps_if (PW.pt (pw_or (pt_cmpR op_gt (pe_call G_price (hr.mono (by omega)) (by rfl) T.g_price T.F_price.kp T.b_price .nil pass0 (pa_cons (pv 7) (pa_cons (pv 9) pa_nil))) (pe_call G_price (hr.mono (by omega)) (by rfl) T.g_price T.F_price.kp T.b_price .nil pass0 (pa_cons (pv 7) (pa_cons (pv 8) pa_nil))) (nomark _)) (pw_or1 (pt_cmpR op_gt (pe_call G_room (hr.mono (by omega)) (by rfl) T.g_room T.F_room.kp T.b_room .nil pass0 (pa_cons (pv 9) pa_nil)) (pe_call G_room (hr.mono (by omega)) (by rfl) T.g_room T.F_room.kp T.b_room .nil pass0 (pa_cons (pv 8) pa_nil)) (nomark _))))) (pss_one (ps_ret pe_bl)) pss_nil))))))))))
      (pss_one (ps_ret pe_bl)))), ?_⟩
    refine ⟨.ref a, rfl, a, ns, rfl, hS, hlen, fun b bl H1 sm1 nb nbl hB1 => ?_⟩
    refine ⟨4, rfl, by decide, by decide, for_range (fun i σ H' => ∃ y2 y3 y4 y5 y6 y7 y8 y9 : Option V, σ = [some (.ref a), some (.ref b), y2, y3, y4, y5, y6, y7, y8, y9] ∧ Bag b bl H' ∧ TG Z.Ps H')
      ⟨none, none, none, none, none, none, none, none, rfl, hB1, tg.same sm1⟩ (fun i σ H2 hi hP => ?_) (fun σ H2 hP => q H2)⟩
    obtain ⟨y2, y3, y4, y5, y6, y7, y8, y9, rfl, hB2, tg2⟩ := hP
    -- table
    refine ⟨.ref b, rfl, (by show 2 ≤ sizeLine; decide), fun L nL => ?_⟩
    have nLb := hB2.ne nL
    have hB3 := hB2.new nL (o := .lst [.int 10, .int 40])
    have tg3 := tg2.new nL (o := .lst [.int 10, .int 40])
    have hL3 : (upd H2 L (.lst [.int 10, .int 40])) L = some (.lst [.int 10, .int 40]) := upd_same
    generalize upd H2 L (.lst [.int 10, .int 40]) = H3 at hB3 tg3 hL3 ⊢
    refine ⟨.ref b, rfl, b, bl, 2, rfl, hB3, by decide, by decide, fun e H4 kp4 hB4 e0 e1 => ?_⟩
    have tg4 := tg3.kb hB3 kp4
    obtain ⟨t0, ht0, hat0⟩ := at_ints (ns := [10, 40]) e0 e1
    have htb : 0 < t0 ∧ t0 ≤ 40 := by
      have : ∀ z ∈ ([10, 40] : List Int), 0 < z ∧ z ≤ 40 := by decide
      exact this t0 ht0
    refine ⟨L, [10, 40].map V.int, e, .int t0, rfl, rfl, .inl (.inl (kp4 _ _ nLb.1 hL3)), hat0, b, bl, 4, t0.toNat, by rw [Int.toNat_of_nonneg (by omega)]; rfl, hB4, by decide, by decide, by omega, fun cols rows tv H5 kp5 hB5 fT hc hc1 hc2 hrs hrn => ?_⟩
    have tg5 := tg4.kb hB4 kp5
    have hrn2 : rows.length ≤ 40 := by omega
    obtain ⟨t, R, vsT, rfl, ht, hRR, fvs⟩ := tab_open fT
    -- asks
    refine ⟨Nat.zero_le _, fun D nD => ?_⟩
    have nDb := hB5.ne nD
    have hB6 := hB5.new nD (o := .lst [])
    have tg6 := tg5.new nD (o := .lst [])
    have kt6 : KT H5 (upd H5 D (.lst [])) := KT.new nD
    have hD6 : (upd H5 D (.lst [])) D = some (.lst []) := upd_same
    generalize upd H5 D (.lst []) = H6 at hB6 tg6 kt6 hD6 ⊢
    refine ⟨.ref b, rfl, b, bl, 6, rfl, hB6, by decide, by decide, fun m H7 kp7 hB7 m0 m1 => ?_⟩
    refine ⟨m, rfl, by omega, by omega, for_range (fun j σ H' => ∃ (as : List Ask) (vs : List V) (z5 z6 : Option V), σ = [some (.ref a), some (.ref b), some (.int (0 + (i : Nat))), some (.ref t), some (.ref D), z5, z6, y7, y8, y9] ∧ Bag b bl H' ∧ TG Z.Ps H' ∧ KT H5 H' ∧ H' D = some (.lst vs) ∧ AsksZ H' vs as ∧ as.length = j ∧ ∀ a ∈ as, QOk cols a.es a.rc ∧ 1 ≤ a.often ∧ a.often ≤ 1000000)
      ⟨[], [], _, _, rfl, hB7, tg6.kb hB6 kp7, kt6.trans (kp7.kTb hB6), kp7 _ _ nDb.1 hD6, .nil, rfl, fun a h => nomatch h⟩ (fun j σ H8 hj hP => ?_) (fun σ H8 hP => ?_)⟩
    · obtain ⟨as, vs, z5, z6, rfl, hB8, tg8, kt8, hD8, fas, hal, hao⟩ := hP
      refine ⟨.ref b, rfl, .ref t, rfl, b, bl, .ref t, cols, rows, rfl, hB8, fT.kt kt8.1, hc, by omega, hrs, by omega, fun es rc qv H9 kp9 hB9 fq hqok => ?_⟩
      have tg9 := tg8.kb hB8 kp9
      have kt9 : KT H8 H9 := kp9.kTb hB8
      have hD9 := kp9 _ _ nDb.1 hD8
      refine ⟨.ref D, rfl, .inl ⟨rfl, _, .inl (.inl hD9)⟩, qv, rfl, .ref b, rfl, (by show 2 ≤ sizeLine; decide), fun M nM => ?_⟩
      have nMb := hB9.ne nM
      have hBA := hB9.new nM (o := .lst [.int 9, .int 1000000])
      have tgA := tg9.new nM (o := .lst [.int 9, .int 1000000])
      have ktA : KT H9 (upd H9 M (.lst [.int 9, .int 1000000])) := KT.new nM
      have hDA : (upd H9 M (.lst [.int 9, .int 1000000])) D = some (.lst vs) := keep_new hD9 nM
      have hMA : (upd H9 M (.lst [.int 9, .int 1000000])) M = some (.lst [.int 9, .int 1000000]) := upd_same
      generalize upd H9 M (.lst [.int 9, .int 1000000]) = HA at hBA tgA ktA hDA hMA ⊢
      refine ⟨.ref b, rfl, b, bl, 2, rfl, hBA, by decide, by decide, fun f HB kpB hBB f0 f1 => ?_⟩
      obtain ⟨u, hu, hua⟩ := at_ints (ns := [9, 1000000]) f0 f1
      have hub : 0 < u ∧ u ≤ 1000000 := by
        have : ∀ z ∈ ([9, 1000000] : List Int), 0 < z ∧ z ≤ 1000000 := by decide
        exact this u hu
      have tgB := tgA.kb hBA kpB
      refine ⟨M, [9, 1000000].map V.int, f, .int u, rfl, rfl, .inl (.inl (kpB _ _ nMb.1 hMA)), hua, b, bl, u, rfl, hBB, hub.1, by omega, fun d HC kpC hBC d0 d1 => ?_⟩
      have tgC := tgB.kb hBB kpC
      have ktC : KT H8 HC := ((kt9.trans ktA).trans (kpB.kTb hBA)).trans (kpC.kTb hBB)
      have ktq : KT H9 HC := (ktA.trans (kpB.kTb hBA)).trans (kpC.kTb hBB)
      have hDC := kpC _ _ nDb.1 (kpB _ _ nDb.1 hDA)
      refine ⟨1, d, rfl, rfl, (by show 2 ≤ sizeLine; decide), fun p np => ?_⟩
      have hDE : (upd HC p (.tup [qv, .int (1 + d)])) D = some (.lst vs) := keep_new hDC np
      have ktE : KT H8 (upd HC p (.tup [qv, .int (1 + d)])) := ktC.trans (KT.new np)
      have hvl := fas.len
      have fp : AskZ (upd HC p (.tup [qv, .int (1 + d)])) (.ref p) ⟨es, rc, 1 + d⟩ := ⟨p, qv, rfl, upd_same, (fq.kT ktq).kT (KT.new np)⟩
      refine ⟨D, vs, .ref p, rfl, rfl, hDE, small1000 (by omega), as ++ [⟨es, rc, 1 + d⟩], vs ++ [.ref p], _, _, rfl, (hBC.new np).upd nDb.1 nDb.2, (tgC.new np).mut hDE, (kt8.trans ktE).trans (.lst hDE), upd_same, ?_, ?_, fun a0 ha => ?_⟩
      · exact (fas.kT (ktE.trans (.lst hDE))).snoc (fp.kT (.lst hDE))
      · rw [List.length_append, hal]
        rfl
      · rcases List.mem_append.mp ha with z | z
        · exact hao a0 z
        · rw [List.mem_singleton.mp z]
          exact ⟨hqok, by show 1 ≤ 1 + d; omega, by show 1 + d ≤ 1000000; omega⟩
    · obtain ⟨as, vs, z5, z6, rfl, hB8, tg8, kt8, hD8, fas, hal, hao⟩ := hP
      have has : AsksOk cols as := ⟨by omega, hao⟩
      have hvl := fas.len
      -- work
      refine ⟨.ref t, rfl, .ref D, rfl, D, vs, rfl, .inl ⟨.inl (.inl hD8), fun aa naa => ?_⟩⟩
      have hB9 := hB8.new naa (o := .tup vs)
      have tg9 := tg8.new naa (o := .tup vs)
      have kt9 : KT H8 (upd H8 aa (.tup vs)) := KT.new naa
      have hD9 : (upd H8 aa (.tup vs)) D = some (.lst vs) := keep_new hD8 naa
      have haa9 : (upd H8 aa (.tup vs)) aa = some (.tup vs) := upd_same
      generalize upd H8 aa (.tup vs) = H9 at hB9 tg9 kt9 hD9 haa9 ⊢
      refine ⟨.ref b, rfl, (by show 2 ≤ sizeLine; decide), fun M nM => ?_⟩
      have nMb := hB9.ne nM
      have hBA := hB9.new nM (o := .lst [.int 3, .int 1000001])
      have tgA := tg9.new nM (o := .lst [.int 3, .int 1000001])
      have ktA : KT H9 (upd H9 M (.lst [.int 3, .int 1000001])) := KT.new nM
      have hDA : (upd H9 M (.lst [.int 3, .int 1000001])) D = some (.lst vs) := keep_new hD9 nM
      have hMA : (upd H9 M (.lst [.int 3, .int 1000001])) M = some (.lst [.int 3, .int 1000001]) := upd_same
      generalize upd H9 M (.lst [.int 3, .int 1000001]) = HA at hBA tgA ktA hDA hMA ⊢
      refine ⟨.ref b, rfl, b, bl, 2, rfl, hBA, by decide, by decide, fun f HB kpB hBB f0 f1 => ?_⟩
      obtain ⟨u, hu, hua⟩ := at_ints (ns := [3, 1000001]) f0 f1
      have hub : 0 < u ∧ u ≤ 1000001 := by
        have : ∀ z ∈ ([3, 1000001] : List Int), 0 < z ∧ z ≤ 1000001 := by decide
        exact this u hu
      have tgB := tgA.kb hBA kpB
      refine ⟨M, [3, 1000001].map V.int, f, .int u, rfl, rfl, .inl (.inl (kpB _ _ nMb.1 hMA)), hua, b, bl, u, rfl, hBB, hub.1, by omega, fun chg HC kpC hBC g0 g1 => ?_⟩
      have tgC := tgB.kb hBB kpC
      have ktC : KT H9 HC := (ktA.trans (kpB.kTb hBA)).trans (kpC.kTb hBB)
      have hDC := kpC _ _ nDb.1 (kpB _ _ nDb.1 hDA)
      refine ⟨(by show 3 ≤ sizeLine; decide), fun wa nwa => ?_⟩
      have hBD := hBC.new nwa (o := .tup [.ref t, .ref aa, .int chg])
      have tgD := tgC.new nwa (o := .tup [.ref t, .ref aa, .int chg])
      have ktD : KT H8 (upd HC wa (.tup [.ref t, .ref aa, .int chg])) := (kt9.trans ktC).trans (KT.new nwa)
      have hDD : (upd HC wa (.tup [.ref t, .ref aa, .int chg])) D = some (.lst vs) := keep_new hDC nwa
      have fW : WorkZ (upd HC wa (.tup [.ref t, .ref aa, .int chg])) (.ref wa) cols rows as chg := ⟨wa, .ref t, aa, vs, rfl, upd_same, fT.kt (kt8.trans ktD).1, (ktC.trans (KT.new nwa)).1 _ _ haa9, fas.kT ktD⟩
      generalize upd HC wa (.tup [.ref t, .ref aa, .int chg]) = HD at hBD tgD ktD hDD fW ⊢
      have fasD := fas.kT ktD
      -- choice
      refine ⟨.ref b, rfl, .ref t, rfl, t, _, 0, tx cols, rfl, rfl, .inl (.inl ((kt8.trans ktD).1 _ _ ht)), rfl, b, bl, cols, rfl, hBD, by omega, by omega, hc.nd, fun ch ca HE kpE hBE hca hch hcl => ?_⟩
      have tgE := tgD.kb hBD kpE
      have ktE : KT HD HE := kpE.kTb hBD
      have hDE := kpE _ _ nDb.1 hDD
      have hch2 : ∀ o ∈ ch, o.length ≤ 1000 ∧ ∀ c ∈ o, c ∈ cols := fun o h => ⟨by have := (hch.ok o h).len; omega, (hch.ok o h).sub⟩
      have hel : ∀ a ∈ as, a.es.length ≤ 1000 := fun a0 ha => by
        have := (has.ok a0 ha).1.len
        omega
      -- found
      refine ⟨.ref wa, rfl, .ref ca, rfl, .ref wa, cols, rows, as, chg, ca, ch, rfl, fW.kT ktE, has, by omega, hca, by omega, fun o ho => (hch2 o ho).1, fun fs fa HF smF hfa hcut hfl => ?_⟩
      have ktF : KT HE HF := Same.kT smF
      have hfs2 : ∀ o ∈ fs, o.length ≤ 1000 ∧ ∀ c ∈ o, c ∈ cols := fun x hx => by
        obtain ⟨_, o, ho, ex⟩ := (hcut.mem x).mp hx
        rw [← ex]
        refine ⟨?_, fun c hc0 => (hch2 o ho).2 c (cutO_sub hc0)⟩
        have := cutO_len as o
        have := (hch2 o ho).1
        omega
      -- the same by the law's own look
      refine ⟨.ref fa, rfl, .ref ca, rfl, .ref D, rfl, ca, D, ch, vs, as, rfl, smF _ _ hca, smF _ _ hDE, (fasD.kT ktE).kT ktF, by omega, by omega, fun o ho => (hch2 o ho).1, hel, fun gs ga HG smG hga hcut2 => ?_⟩
      obtain rfl := hcut.one hcut2
      refine ⟨.ref fa, .ref ga, .tuple (fs.map strD), rfl, ft_texts (smG _ _ hfa), ft_texts hga, dep_texts fs, wd_texts (by omega), fun HI smI => ⟨_, rfl, ?_⟩⟩
      have smX : Same HE HI := Same.trans (Same.trans smF smG) smI
      have ktX : KT HE HI := Same.kT smX
      refine ⟨.ref wa, rfl, .ref fa, rfl, .ref wa, cols, rows, as, chg, fa, fs, rfl, (fW.kT ktE).kT ktX, has, by omega, smI _ _ (smG _ _ hfa), by omega, fun o ho => (hfs2 o ho).1, fun ks ka HJ smJ hka hcut3 hkl => ?_⟩
      obtain rfl := (hcut.again has).one hcut3
      have hfaJ := smJ _ _ (smI _ _ (smG _ _ hfa))
      refine ⟨.ref fa, rfl, .ref ka, .ref fa, .tuple (fs.map strD), rfl, ft_texts hka, ft_texts hfaJ, dep_texts fs, wd_texts (by omega), fun HK smK => ⟨_, rfl, ?_⟩⟩
      have smY : Same HE HK := Same.trans (Same.trans smX smJ) smK
      have ktY : KT HE HK := Same.kT smY
      have tgK : TG Z.Ps HK := tgE.same smY
      have hBK : Bag b bl HK := hBE.same smY
      have hcaK := smY _ _ hca
      have hfaK := smK _ _ hfaJ
      -- prices
      refine ⟨.ref wa, rfl, .ref fa, rfl, .ref wa, cols, rows, as, chg, fa, fs, rfl, tgK, (fW.kT ktE).kT ktY, hrs, by omega, by omega, has, g0, by omega, hfaK, hfs2, by omega, fun HL sxL tgL => ?_⟩
      have ktL : KT HK HL := sxL.kT tgK
      refine ⟨.ref wa, rfl, .ref ca, rfl, .ref wa, cols, rows, as, chg, ca, ch, rfl, tgL, ((fW.kT ktE).kT ktY).kT ktL, hrs, by omega, by omega, has, g0, by omega, ktL.1 _ _ hcaK, hch2, by omega, fun HM sxM tgM => ?_⟩
      have ktM : KT HL HM := sxM.kT tgL
      have hBM : Bag b bl HM := (hBK.sx tgK sxL).sx tgL sxM
      have hw : ¬ workM cols rows fs as chg > workM cols rows ch as chg := by
        have := hcut.work (rows := rows) has (fun o ho => (hch.ok o ho).ne) g0
        omega
      refine ⟨_, _, rfl, rfl, _, rfl, ite2 (fun z => absurd (of_decide_eq_true z) hw) (fun _ => ?_)⟩
      refine ⟨.ref fa, rfl, fa, fs, rfl, tgM, (ktL.trans ktM).1 _ _ hfaK, by omega, fun o ho => (hfs2 o ho).1, fun HN sxN tgN => ?_⟩
      have ktN : KT HM HN := sxN.kT tgM
      refine ⟨.ref ca, rfl, ca, ch, rfl, tgN, ((ktL.trans ktM).trans ktN).1 _ _ hcaK, by omega, fun o ho => (hch2 o ho).1, fun HO sxO tgO => ?_⟩
      have hw2 : ¬ roomM fs > roomM ch := by
        have := hcut.room
        omega
      refine ⟨_, _, rfl, rfl, _, rfl, ite2 (fun z => absurd (of_decide_eq_true z) hw2) (fun _ => ?_)⟩
      exact ⟨_, _, _, _, _, _, _, _, rfl, (hBM.sx tgM sxN).sx tgN sxO, tgO⟩

end
theorem all_mk {l : PySem.W.OpenLaw} {q : Program} {w : World} {K : PySem.W.Frag} {h : Heap} {mg : Str → Option Value} {fa : Addr} (X : K.In h) (G : h.Ns mainGlobals mg) (hfa : mg "law" = some (.ref fa))
    (own : ∀ (nm : Str) (fb : Addr), ((recsOf q).any fun e => e.name == nm) = true → mg nm = some (.ref fb) → OwnTC K fb h)
    {oc0 kv0 dc0 pm0 ct0 : Value} {od0 an0 : Option Addr} {sl0 : Array (Option Value)} {f0 : Addr}
    {c0 P0 : Addr} {ec0 : Value} {ed0 : Option Addr} {ev0 : Array Value} {es0 : Array (Option Value)}
    {oc1 kv1 dc1 pm1 cd1 ct1 : Value} {od1 an1 : Option Addr} {sl1 : Array (Option Value)} {f1 : Addr}
    {oc2 kv2 dc2 pm2 cd2 ct2 : Value} {od2 an2 : Option Addr} {sl2 : Array (Option Value)} {f2 : Addr}
    {oc3 kv3 dc3 pm3 cd3 ct3 : Value} {od3 an3 : Option Addr} {sl3 : Array (Option Value)} {f3 : Addr}
    {oc4 kv4 dc4 pm4 ct4 : Value} {od4 an4 : Option Addr} {sl4 : Array (Option Value)} {f4 : Addr}
    {c4 P4 : Addr} {ec4 : Value} {ed4 : Option Addr} {ev4 : Array Value} {es4 : Array (Option Value)}
    {oc5 kv5 dc5 pm5 cd5 ct5 : Value} {od5 an5 : Option Addr} {sl5 : Array (Option Value)} {f5 : Addr}
    {oc6 kv6 dc6 pm6 cd6 ct6 : Value} {od6 an6 : Option Addr} {sl6 : Array (Option Value)} {f6 : Addr}
    {oc7 kv7 dc7 pm7 ct7 : Value} {od7 an7 : Option Addr} {sl7 : Array (Option Value)} {f7 : Addr}
    {c7 P7 : Addr} {ec7 : Value} {ed7 : Option Addr} {ev7 : Array Value} {es7 : Array (Option Value)}
    {oc8 kv8 dc8 pm8 ct8 : Value} {od8 an8 : Option Addr} {sl8 : Array (Option Value)} {f8 : Addr}
    {c8 P8 : Addr} {ec8 : Value} {ed8 : Option Addr} {ev8 : Array Value} {es8 : Array (Option Value)}
    {oc9 kv9 dc9 pm9 ct9 : Value} {od9 an9 : Option Addr} {sl9 : Array (Option Value)} {f9 : Addr}
    {c9 P9 : Addr} {ec9 : Value} {ed9 : Option Addr} {ev9 : Array Value} {es9 : Array (Option Value)}
    {oc10 kv10 dc10 pm10 cd10 ct10 : Value} {od10 an10 : Option Addr} {sl10 : Array (Option Value)} {f10 : Addr}
    {oc11 kv11 dc11 pm11 cd11 ct11 : Value} {od11 an11 : Option Addr} {sl11 : Array (Option Value)} {f11 : Addr}
    {oc12 kv12 dc12 pm12 cd12 ct12 : Value} {od12 an12 : Option Addr} {sl12 : Array (Option Value)} {f12 : Addr}
    {oc13 kv13 dc13 pm13 cd13 ct13 : Value} {od13 an13 : Option Addr} {sl13 : Array (Option Value)} {f13 : Addr}
    {oc14 kv14 dc14 pm14 cd14 ct14 : Value} {od14 an14 : Option Addr} {sl14 : Array (Option Value)} {f14 : Addr}
    {oc15 kv15 dc15 pm15 cd15 ct15 : Value} {od15 an15 : Option Addr} {sl15 : Array (Option Value)} {f15 : Addr}
    {oc16 kv16 dc16 pm16 cd16 ct16 : Value} {od16 an16 : Option Addr} {sl16 : Array (Option Value)} {f16 : Addr}
    {oc17 kv17 dc17 pm17 cd17 ct17 : Value} {od17 an17 : Option Addr} {sl17 : Array (Option Value)} {f17 : Addr}
    {oc18 kv18 dc18 pm18 cd18 ct18 : Value} {od18 an18 : Option Addr} {sl18 : Array (Option Value)} {f18 : Addr}
    {oc19 kv19 dc19 pm19 cd19 ct19 : Value} {od19 an19 : Option Addr} {sl19 : Array (Option Value)} {f19 : Addr}
    {oc20 kv20 dc20 pm20 cd20 ct20 : Value} {od20 an20 : Option Addr} {sl20 : Array (Option Value)} {f20 : Addr}
    {oc21 kv21 dc21 pm21 cd21 ct21 : Value} {od21 an21 : Option Addr} {sl21 : Array (Option Value)} {f21 : Addr}
    {oc22 kv22 dc22 pm22 cd22 ct22 : Value} {od22 an22 : Option Addr} {sl22 : Array (Option Value)} {f22 : Addr}
    (a0 : PySem.W.nsIn K mainGlobals "picked" = some (some (.ref f0)))
    (l0 : K.lookup f0 = some ⟨oc0, od0, .func (PySem.W.fnOf "picked" "picked" (defArgs s_picked) (defBody s_picked) (defScope s_picked) .none kv0 dc0 pm0 an0 (.ref c0) ct0), sl0⟩)
    (c0_ : PySem.W.codeIn K (.ref c0) "picked" = true) (k0 : PySem.W.keepIn K (.ref f0) = true)
    (lc0 : K.lookup c0 = some ⟨ec0, ed0, .fields ev0, es0⟩) (vc0 : ev0[11]? = some (.ref P0)) (np0 : K.lookup P0 = none) (rc0 : ((recsOf q).any fun e => e.name == "picked") = true)
    (a1 : PySem.W.nsIn K mainGlobals "letters_of" = some (some (.ref f1)))
    (l1 : K.lookup f1 = some ⟨oc1, od1, .func (PySem.W.fnOf "letters_of" "letters_of" (defArgs s_letters_of) (defBody s_letters_of) (defScope s_letters_of) .none kv1 dc1 pm1 an1 cd1 ct1), sl1⟩)
    (c1_ : PySem.W.codeIn K cd1 "letters_of" = true) (k1 : PySem.W.keepIn K (.ref f1) = true)
    (a2 : PySem.W.nsIn K mainGlobals "spans" = some (some (.ref f2)))
    (l2 : K.lookup f2 = some ⟨oc2, od2, .func (PySem.W.fnOf "spans" "spans" (defArgs s_spans) (defBody s_spans) (defScope s_spans) .none kv2 dc2 pm2 an2 cd2 ct2), sl2⟩)
    (c2_ : PySem.W.codeIn K cd2 "spans" = true) (k2 : PySem.W.keepIn K (.ref f2) = true)
    (a3 : PySem.W.nsIn K mainGlobals "used" = some (some (.ref f3)))
    (l3 : K.lookup f3 = some ⟨oc3, od3, .func (PySem.W.fnOf "used" "used" (defArgs s_used) (defBody s_used) (defScope s_used) .none kv3 dc3 pm3 an3 cd3 ct3), sl3⟩)
    (c3_ : PySem.W.codeIn K cd3 "used" = true) (k3 : PySem.W.keepIn K (.ref f3) = true)
    (a4 : PySem.W.nsIn K mainGlobals "stretch" = some (some (.ref f4)))
    (l4 : K.lookup f4 = some ⟨oc4, od4, .func (PySem.W.fnOf "stretch" "stretch" (defArgs s_stretch) (defBody s_stretch) (defScope s_stretch) .none kv4 dc4 pm4 an4 (.ref c4) ct4), sl4⟩)
    (c4_ : PySem.W.codeIn K (.ref c4) "stretch" = true) (k4 : PySem.W.keepIn K (.ref f4) = true)
    (lc4 : K.lookup c4 = some ⟨ec4, ed4, .fields ev4, es4⟩) (vc4 : ev4[11]? = some (.ref P4)) (np4 : K.lookup P4 = none) (rc4 : ((recsOf q).any fun e => e.name == "stretch") = true)
    (a5 : PySem.W.nsIn K mainGlobals "price_by" = some (some (.ref f5)))
    (l5 : K.lookup f5 = some ⟨oc5, od5, .func (PySem.W.fnOf "price_by" "price_by" (defArgs s_price_by) (defBody s_price_by) (defScope s_price_by) .none kv5 dc5 pm5 an5 cd5 ct5), sl5⟩)
    (c5_ : PySem.W.codeIn K cd5 "price_by" = true) (k5 : PySem.W.keepIn K (.ref f5) = true)
    (a6 : PySem.W.nsIn K mainGlobals "price_of" = some (some (.ref f6)))
    (l6 : K.lookup f6 = some ⟨oc6, od6, .func (PySem.W.fnOf "price_of" "price_of" (defArgs s_price_of) (defBody s_price_of) (defScope s_price_of) .none kv6 dc6 pm6 an6 cd6 ct6), sl6⟩)
    (c6_ : PySem.W.codeIn K cd6 "price_of" = true) (k6 : PySem.W.keepIn K (.ref f6) = true)
    (a7 : PySem.W.nsIn K mainGlobals "upkeep" = some (some (.ref f7)))
    (l7 : K.lookup f7 = some ⟨oc7, od7, .func (PySem.W.fnOf "upkeep" "upkeep" (defArgs s_upkeep) (defBody s_upkeep) (defScope s_upkeep) .none kv7 dc7 pm7 an7 (.ref c7) ct7), sl7⟩)
    (c7_ : PySem.W.codeIn K (.ref c7) "upkeep" = true) (k7 : PySem.W.keepIn K (.ref f7) = true)
    (lc7 : K.lookup c7 = some ⟨ec7, ed7, .fields ev7, es7⟩) (vc7 : ev7[11]? = some (.ref P7)) (np7 : K.lookup P7 = none) (rc7 : ((recsOf q).any fun e => e.name == "upkeep") = true)
    (a8 : PySem.W.nsIn K mainGlobals "price" = some (some (.ref f8)))
    (l8 : K.lookup f8 = some ⟨oc8, od8, .func (PySem.W.fnOf "price" "price" (defArgs s_price) (defBody s_price) (defScope s_price) .none kv8 dc8 pm8 an8 (.ref c8) ct8), sl8⟩)
    (c8_ : PySem.W.codeIn K (.ref c8) "price" = true) (k8 : PySem.W.keepIn K (.ref f8) = true)
    (lc8 : K.lookup c8 = some ⟨ec8, ed8, .fields ev8, es8⟩) (vc8 : ev8[11]? = some (.ref P8)) (np8 : K.lookup P8 = none) (rc8 : ((recsOf q).any fun e => e.name == "price") = true)
    (a9 : PySem.W.nsIn K mainGlobals "room" = some (some (.ref f9)))
    (l9 : K.lookup f9 = some ⟨oc9, od9, .func (PySem.W.fnOf "room" "room" (defArgs s_room) (defBody s_room) (defScope s_room) .none kv9 dc9 pm9 an9 (.ref c9) ct9), sl9⟩)
    (c9_ : PySem.W.codeIn K (.ref c9) "room" = true) (k9 : PySem.W.keepIn K (.ref f9) = true)
    (lc9 : K.lookup c9 = some ⟨ec9, ed9, .fields ev9, es9⟩) (vc9 : ev9[11]? = some (.ref P9)) (np9 : K.lookup P9 = none) (rc9 : ((recsOf q).any fun e => e.name == "room") = true)
    (a10 : PySem.W.nsIn K mainGlobals "cut_list" = some (some (.ref f10)))
    (l10 : K.lookup f10 = some ⟨oc10, od10, .func (PySem.W.fnOf "cut_list" "cut_list" (defArgs s_cut_list) (defBody s_cut_list) (defScope s_cut_list) .none kv10 dc10 pm10 an10 cd10 ct10), sl10⟩)
    (c10_ : PySem.W.codeIn K cd10 "cut_list" = true) (k10 : PySem.W.keepIn K (.ref f10) = true)
    (a11 : PySem.W.nsIn K mainGlobals "cut" = some (some (.ref f11)))
    (l11 : K.lookup f11 = some ⟨oc11, od11, .func (PySem.W.fnOf "cut" "cut" (defArgs s_cut) (defBody s_cut) (defScope s_cut) .none kv11 dc11 pm11 an11 cd11 ct11), sl11⟩)
    (c11_ : PySem.W.codeIn K cd11 "cut" = true) (k11 : PySem.W.keepIn K (.ref f11) = true)
    (a12 : PySem.W.nsIn K mainGlobals "_law_bag" = some (some (.ref f12)))
    (l12 : K.lookup f12 = some ⟨oc12, od12, .func (PySem.W.fnOf "_law_bag" "_law_bag" (defArgs s_l_bag) (defBody s_l_bag) (defScope s_l_bag) .none kv12 dc12 pm12 an12 cd12 ct12), sl12⟩)
    (c12_ : PySem.W.codeIn K cd12 "_law_bag" = true) (k12 : PySem.W.keepIn K (.ref f12) = true)
    (a13 : PySem.W.nsIn K mainGlobals "_law_lot" = some (some (.ref f13)))
    (l13 : K.lookup f13 = some ⟨oc13, od13, .func (PySem.W.fnOf "_law_lot" "_law_lot" (defArgs s_l_lot) (defBody s_l_lot) (defScope s_l_lot) .none kv13 dc13 pm13 an13 cd13 ct13), sl13⟩)
    (c13_ : PySem.W.codeIn K cd13 "_law_lot" = true) (k13 : PySem.W.keepIn K (.ref f13) = true)
    (a14 : PySem.W.nsIn K mainGlobals "_law_columns" = some (some (.ref f14)))
    (l14 : K.lookup f14 = some ⟨oc14, od14, .func (PySem.W.fnOf "_law_columns" "_law_columns" (defArgs s_l_columns) (defBody s_l_columns) (defScope s_l_columns) .none kv14 dc14 pm14 an14 cd14 ct14), sl14⟩)
    (c14_ : PySem.W.codeIn K cd14 "_law_columns" = true) (k14 : PySem.W.keepIn K (.ref f14) = true)
    (a15 : PySem.W.nsIn K mainGlobals "_law_table" = some (some (.ref f15)))
    (l15 : K.lookup f15 = some ⟨oc15, od15, .func (PySem.W.fnOf "_law_table" "_law_table" (defArgs s_l_table) (defBody s_l_table) (defScope s_l_table) .none kv15 dc15 pm15 an15 cd15 ct15), sl15⟩)
    (c15_ : PySem.W.codeIn K cd15 "_law_table" = true) (k15 : PySem.W.keepIn K (.ref f15) = true)
    (a16 : PySem.W.nsIn K mainGlobals "_law_near" = some (some (.ref f16)))
    (l16 : K.lookup f16 = some ⟨oc16, od16, .func (PySem.W.fnOf "_law_near" "_law_near" (defArgs s_l_near) (defBody s_l_near) (defScope s_l_near) .none kv16 dc16 pm16 an16 cd16 ct16), sl16⟩)
    (c16_ : PySem.W.codeIn K cd16 "_law_near" = true) (k16 : PySem.W.keepIn K (.ref f16) = true)
    (a17 : PySem.W.nsIn K mainGlobals "_law_question" = some (some (.ref f17)))
    (l17 : K.lookup f17 = some ⟨oc17, od17, .func (PySem.W.fnOf "_law_question" "_law_question" (defArgs s_l_question) (defBody s_l_question) (defScope s_l_question) .none kv17 dc17 pm17 an17 cd17 ct17), sl17⟩)
    (c17_ : PySem.W.codeIn K cd17 "_law_question" = true) (k17 : PySem.W.keepIn K (.ref f17) = true)
    (a18 : PySem.W.nsIn K mainGlobals "_law_used" = some (some (.ref f18)))
    (l18 : K.lookup f18 = some ⟨oc18, od18, .func (PySem.W.fnOf "_law_used" "_law_used" (defArgs s_l_used) (defBody s_l_used) (defScope s_l_used) .none kv18 dc18 pm18 an18 cd18 ct18), sl18⟩)
    (c18_ : PySem.W.codeIn K cd18 "_law_used" = true) (k18 : PySem.W.keepIn K (.ref f18) = true)
    (a19 : PySem.W.nsIn K mainGlobals "_law_same" = some (some (.ref f19)))
    (l19 : K.lookup f19 = some ⟨oc19, od19, .func (PySem.W.fnOf "_law_same" "_law_same" (defArgs s_l_same) (defBody s_l_same) (defScope s_l_same) .none kv19 dc19 pm19 an19 cd19 ct19), sl19⟩)
    (c19_ : PySem.W.codeIn K cd19 "_law_same" = true) (k19 : PySem.W.keepIn K (.ref f19) = true)
    (a20 : PySem.W.nsIn K mainGlobals "_law_choice" = some (some (.ref f20)))
    (l20 : K.lookup f20 = some ⟨oc20, od20, .func (PySem.W.fnOf "_law_choice" "_law_choice" (defArgs s_l_choice) (defBody s_l_choice) (defScope s_l_choice) .none kv20 dc20 pm20 an20 cd20 ct20), sl20⟩)
    (c20_ : PySem.W.codeIn K cd20 "_law_choice" = true) (k20 : PySem.W.keepIn K (.ref f20) = true)
    (a21 : PySem.W.nsIn K mainGlobals "_law_cut" = some (some (.ref f21)))
    (l21 : K.lookup f21 = some ⟨oc21, od21, .func (PySem.W.fnOf "_law_cut" "_law_cut" (defArgs s_l_cut) (defBody s_l_cut) (defScope s_l_cut) .none kv21 dc21 pm21 an21 cd21 ct21), sl21⟩)
    (c21_ : PySem.W.codeIn K cd21 "_law_cut" = true) (k21 : PySem.W.keepIn K (.ref f21) = true)
    (a22 : PySem.W.nsIn K mainGlobals "law" = some (some (.ref f22)))
    (l22 : K.lookup f22 = some ⟨oc22, od22, .func (PySem.W.fnOf "law" "law" (defArgs s_law) (defBody s_law) (defScope s_law) .none kv22 dc22 pm22 an22 cd22 ct22), sl22⟩)
    (c22_ : PySem.W.codeIn K cd22 "law" = true) (k22 : PySem.W.keepIn K (.ref f22) = true)
    (z0 : PySem.W.nsIn K mainGlobals "len" = some none)
    (z1 : PySem.W.nsIn K mainGlobals "range" = some none)
    (z2 : PySem.W.nsIn K mainGlobals "list" = some none)
    (z3 : PySem.W.nsIn K mainGlobals "sorted" = some none)
    (z4 : PySem.W.nsIn K mainGlobals "tuple" = some none)
    (z5 : PySem.W.nsIn K mainGlobals "min" = some none)
    (z6 : PySem.W.nsIn K mainGlobals "max" = some none)
    (z7 : PySem.W.nsIn K mainGlobals "enumerate" = some none)
    (z8 : PySem.W.nsIn K mainGlobals "dict" = some none)
    (z9 : PySem.W.nsIn K mainGlobals "isinstance" = some none)
    (z10 : PySem.W.nsIn K mainGlobals "zip" = some none)
    (z11 : PySem.W.nsIn K mainGlobals "bool" = some none)
    (z12 : PySem.W.nsIn K mainGlobals "str" = some none)
    (z13 : PySem.W.nsIn K mainGlobals "int" = some none)
    (z14 : PySem.W.nsIn K mainGlobals "sum" = some none)
    : LamX.LawAtS l w K CX0 10 63 "script" mg fa h := by
  have e := hfa.symm.trans (PySem.W.mg_of X G a22)
  cases e
  have F0 := fun_mk (st := s_picked) l0 c0_ k0
  have b0 := F0.binds (ps := ["columns", "row", "letters"]) fun _ _ _ _ _ _ us hl => match us, hl with | [_, _, _], _ => rfl
  have o0 := own "picked" _ rc0 (PySem.W.mg_of X G a0) c0 P0 _ _ _ _ _ _ l0 rfl rfl lc0 vc0
  have F1 := fun_mk (st := s_letters_of) l1 c1_ k1
  have b1 := F1.binds (ps := ["equals"]) fun _ _ _ _ _ _ us hl => match us, hl with | [_], _ => rfl
  have F2 := fun_mk (st := s_spans) l2 c2_ k2
  have b2 := F2.binds (ps := ["question"]) fun _ _ _ _ _ _ us hl => match us, hl with | [_], _ => rfl
  have F3 := fun_mk (st := s_used) l3 c3_ k3
  have b3 := F3.binds (ps := ["one", "question"]) fun _ _ _ _ _ _ us hl => match us, hl with | [_, _], _ => rfl
  have F4 := fun_mk (st := s_stretch) l4 c4_ k4
  have b4 := F4.binds (ps := ["table", "one", "question"]) fun _ _ _ _ _ _ us hl => match us, hl with | [_, _, _], _ => rfl
  have o4 := own "stretch" _ rc4 (PySem.W.mg_of X G a4) c4 P4 _ _ _ _ _ _ l4 rfl rfl lc4 vc4
  have F5 := fun_mk (st := s_price_by) l5 c5_ k5
  have b5 := F5.binds (ps := ["table", "one", "question"]) fun _ _ _ _ _ _ us hl => match us, hl with | [_, _, _], _ => rfl
  have F6 := fun_mk (st := s_price_of) l6 c6_ k6
  have b6 := F6.binds (ps := ["table", "choice", "question"]) fun _ _ _ _ _ _ us hl => match us, hl with | [_, _, _], _ => rfl
  have F7 := fun_mk (st := s_upkeep) l7 c7_ k7
  have b7 := F7.binds (ps := ["changes", "choice"]) fun _ _ _ _ _ _ us hl => match us, hl with | [_, _], _ => rfl
  have o7 := own "upkeep" _ rc7 (PySem.W.mg_of X G a7) c7 P7 _ _ _ _ _ _ l7 rfl rfl lc7 vc7
  have F8 := fun_mk (st := s_price) l8 c8_ k8
  have b8 := F8.binds (ps := ["work", "choice"]) fun _ _ _ _ _ _ us hl => match us, hl with | [_, _], _ => rfl
  have o8 := own "price" _ rc8 (PySem.W.mg_of X G a8) c8 P8 _ _ _ _ _ _ l8 rfl rfl lc8 vc8
  have F9 := fun_mk (st := s_room) l9 c9_ k9
  have b9 := F9.binds (ps := ["choice"]) fun _ _ _ _ _ _ us hl => match us, hl with | [_], _ => rfl
  have o9 := own "room" _ rc9 (PySem.W.mg_of X G a9) c9 P9 _ _ _ _ _ _ l9 rfl rfl lc9 vc9
  have F10 := fun_mk (st := s_cut_list) l10 c10_ k10
  have b10 := F10.binds (ps := ["asks", "one"]) fun _ _ _ _ _ _ us hl => match us, hl with | [_, _], _ => rfl
  have F11 := fun_mk (st := s_cut) l11 c11_ k11
  have b11 := F11.binds (ps := ["work", "choice"]) fun _ _ _ _ _ _ us hl => match us, hl with | [_, _], _ => rfl
  have F12 := fun_mk (st := s_l_bag) l12 c12_ k12
  have b12 := F12.binds (ps := ["script"]) fun _ _ _ _ _ _ us hl => match us, hl with | [_], _ => rfl
  have F13 := fun_mk (st := s_l_lot) l13 c13_ k13
  have b13 := F13.binds (ps := ["bag", "many"]) fun _ _ _ _ _ _ us hl => match us, hl with | [_, _], _ => rfl
  have F14 := fun_mk (st := s_l_columns) l14 c14_ k14
  have b14 := F14.binds (ps := ["bag", "most"]) fun _ _ _ _ _ _ us hl => match us, hl with | [_, _], _ => rfl
  have F15 := fun_mk (st := s_l_table) l15 c15_ k15
  have b15 := F15.binds (ps := ["bag", "most", "rows"]) fun _ _ _ _ _ _ us hl => match us, hl with | [_, _, _], _ => rfl
  have F16 := fun_mk (st := s_l_near) l16 c16_ k16
  have b16 := F16.binds (ps := ["bag", "table", "at"]) fun _ _ _ _ _ _ us hl => match us, hl with | [_, _, _], _ => rfl
  have F17 := fun_mk (st := s_l_question) l17 c17_ k17
  have b17 := F17.binds (ps := ["bag", "table"]) fun _ _ _ _ _ _ us hl => match us, hl with | [_, _], _ => rfl
  have F18 := fun_mk (st := s_l_used) l18 c18_ k18
  have b18 := F18.binds (ps := ["one", "question"]) fun _ _ _ _ _ _ us hl => match us, hl with | [_, _], _ => rfl
  have F19 := fun_mk (st := s_l_same) l19 c19_ k19
  have b19 := F19.binds (ps := ["found", "due"]) fun _ _ _ _ _ _ us hl => match us, hl with | [_, _], _ => rfl
  have F20 := fun_mk (st := s_l_choice) l20 c20_ k20
  have b20 := F20.binds (ps := ["bag", "columns"]) fun _ _ _ _ _ _ us hl => match us, hl with | [_, _], _ => rfl
  have F21 := fun_mk (st := s_l_cut) l21 c21_ k21
  have b21 := F21.binds (ps := ["choice", "asks"]) fun _ _ _ _ _ _ us hl => match us, hl with | [_, _], _ => rfl
  have F22 := fun_mk (st := s_law) l22 c22_ k22
  have b22 := F22.binds (ps := ["script"]) fun _ _ _ _ _ _ us hl => match us, hl with | [_], _ => rfl
  let Z : Ad := ⟨f0, PySem.W.fnOf "picked" "picked" (defArgs s_picked) (defBody s_picked) (defScope s_picked) .none kv0 dc0 pm0 an0 (.ref c0) ct0, c0, P0, f1, PySem.W.fnOf "letters_of" "letters_of" (defArgs s_letters_of) (defBody s_letters_of) (defScope s_letters_of) .none kv1 dc1 pm1 an1 cd1 ct1, f2, PySem.W.fnOf "spans" "spans" (defArgs s_spans) (defBody s_spans) (defScope s_spans) .none kv2 dc2 pm2 an2 cd2 ct2, f3, PySem.W.fnOf "used" "used" (defArgs s_used) (defBody s_used) (defScope s_used) .none kv3 dc3 pm3 an3 cd3 ct3, f4, PySem.W.fnOf "stretch" "stretch" (defArgs s_stretch) (defBody s_stretch) (defScope s_stretch) .none kv4 dc4 pm4 an4 (.ref c4) ct4, c4, P4, f5, PySem.W.fnOf "price_by" "price_by" (defArgs s_price_by) (defBody s_price_by) (defScope s_price_by) .none kv5 dc5 pm5 an5 cd5 ct5, f6, PySem.W.fnOf "price_of" "price_of" (defArgs s_price_of) (defBody s_price_of) (defScope s_price_of) .none kv6 dc6 pm6 an6 cd6 ct6, f7, PySem.W.fnOf "upkeep" "upkeep" (defArgs s_upkeep) (defBody s_upkeep) (defScope s_upkeep) .none kv7 dc7 pm7 an7 (.ref c7) ct7, c7, P7, f8, PySem.W.fnOf "price" "price" (defArgs s_price) (defBody s_price) (defScope s_price) .none kv8 dc8 pm8 an8 (.ref c8) ct8, c8, P8, f9, PySem.W.fnOf "room" "room" (defArgs s_room) (defBody s_room) (defScope s_room) .none kv9 dc9 pm9 an9 (.ref c9) ct9, c9, P9, f10, PySem.W.fnOf "cut_list" "cut_list" (defArgs s_cut_list) (defBody s_cut_list) (defScope s_cut_list) .none kv10 dc10 pm10 an10 cd10 ct10, f11, PySem.W.fnOf "cut" "cut" (defArgs s_cut) (defBody s_cut) (defScope s_cut) .none kv11 dc11 pm11 an11 cd11 ct11, f12, PySem.W.fnOf "_law_bag" "_law_bag" (defArgs s_l_bag) (defBody s_l_bag) (defScope s_l_bag) .none kv12 dc12 pm12 an12 cd12 ct12, f13, PySem.W.fnOf "_law_lot" "_law_lot" (defArgs s_l_lot) (defBody s_l_lot) (defScope s_l_lot) .none kv13 dc13 pm13 an13 cd13 ct13, f14, PySem.W.fnOf "_law_columns" "_law_columns" (defArgs s_l_columns) (defBody s_l_columns) (defScope s_l_columns) .none kv14 dc14 pm14 an14 cd14 ct14, f15, PySem.W.fnOf "_law_table" "_law_table" (defArgs s_l_table) (defBody s_l_table) (defScope s_l_table) .none kv15 dc15 pm15 an15 cd15 ct15, f16, PySem.W.fnOf "_law_near" "_law_near" (defArgs s_l_near) (defBody s_l_near) (defScope s_l_near) .none kv16 dc16 pm16 an16 cd16 ct16, f17, PySem.W.fnOf "_law_question" "_law_question" (defArgs s_l_question) (defBody s_l_question) (defScope s_l_question) .none kv17 dc17 pm17 an17 cd17 ct17, f18, PySem.W.fnOf "_law_used" "_law_used" (defArgs s_l_used) (defBody s_l_used) (defScope s_l_used) .none kv18 dc18 pm18 an18 cd18 ct18, f19, PySem.W.fnOf "_law_same" "_law_same" (defArgs s_l_same) (defBody s_l_same) (defScope s_l_same) .none kv19 dc19 pm19 an19 cd19 ct19, f20, PySem.W.fnOf "_law_choice" "_law_choice" (defArgs s_l_choice) (defBody s_l_choice) (defScope s_l_choice) .none kv20 dc20 pm20 an20 cd20 ct20, f21, PySem.W.fnOf "_law_cut" "_law_cut" (defArgs s_l_cut) (defBody s_l_cut) (defScope s_l_cut) .none kv21 dc21 pm21 an21 cd21 ct21, fa, PySem.W.fnOf "law" "law" (defArgs s_law) (defBody s_law) (defScope s_law) .none kv22 dc22 pm22 an22 cd22 ct22⟩
  have T : Tx K mg Z := ⟨F0, ⟨_, _, _, _, _, _, _, _, rfl, l0, c0_⟩, b0, PySem.W.mg_of X G a0, F1, b1, PySem.W.mg_of X G a1, F2, b2, PySem.W.mg_of X G a2, F3, b3, PySem.W.mg_of X G a3, F4, ⟨_, _, _, _, _, _, _, _, rfl, l4, c4_⟩, b4, PySem.W.mg_of X G a4, F5, b5, PySem.W.mg_of X G a5, F6, b6, PySem.W.mg_of X G a6, F7, ⟨_, _, _, _, _, _, _, _, rfl, l7, c7_⟩, b7, PySem.W.mg_of X G a7, F8, ⟨_, _, _, _, _, _, _, _, rfl, l8, c8_⟩, b8, PySem.W.mg_of X G a8, F9, ⟨_, _, _, _, _, _, _, _, rfl, l9, c9_⟩, b9, PySem.W.mg_of X G a9, F10, b10, PySem.W.mg_of X G a10, F11, b11, PySem.W.mg_of X G a11, F12, b12, PySem.W.mg_of X G a12, F13, b13, PySem.W.mg_of X G a13, F14, b14, PySem.W.mg_of X G a14, F15, b15, PySem.W.mg_of X G a15, F16, b16, PySem.W.mg_of X G a16, F17, b17, PySem.W.mg_of X G a17, F18, b18, PySem.W.mg_of X G a18, F19, b19, PySem.W.mg_of X G a19, F20, b20, PySem.W.mg_of X G a20, F21, b21, PySem.W.mg_of X G a21, F22, b22, PySem.W.mg_of X G a22, PySem.W.mg_none_of X G z0, PySem.W.mg_none_of X G z1, PySem.W.mg_none_of X G z2, PySem.W.mg_none_of X G z3, PySem.W.mg_none_of X G z4, PySem.W.mg_none_of X G z5, PySem.W.mg_none_of X G z6, PySem.W.mg_none_of X G z7, PySem.W.mg_none_of X G z8, PySem.W.mg_none_of X G z9, PySem.W.mg_none_of X G z10, PySem.W.mg_none_of X G z11, PySem.W.mg_none_of X G z12, PySem.W.mg_none_of X G z13, PySem.W.mg_none_of X G z14⟩
  have each : ∀ {R : Addr × Addr → Prop}, R (c0, P0) → R (c4, P4) → R (c7, P7) → R (c9, P9) → R (c8, P8) → ∀ p ∈ [(c0, P0), (c4, P4), (c7, P7), (c9, P9), (c8, P8)], R p := fun h0 h4 h7 h9 h8 p hp => by
    simp only [List.mem_cons, List.not_mem_nil, or_false] at hp
    rcases hp with e | e | e | e | e
    · rw [e]
      exact h0
    · rw [e]
      exact h4
    · rw [e]
      exact h7
    · rw [e]
      exact h9
    · rw [e]
      exact h8
  refine ⟨Z.d_law, [(c0, P0), (c4, P4), (c7, P7), (c9, P9), (c8, P8)], spLaw K Z, each o0.1 o4.1 o7.1 o9.1 o8.1, each np0 np4 np7 np9 np8, each o0.2 o4.2 o7.2 o9.2 o8.2, fun s v => .of_eq rfl, fun H a ns hl _ hT hS => ?_, fun base _ _ hTB => ?_⟩
  · refine ⟨a, ns, rfl, hS, hl, fun P hP => ?_, fun _ => rfl⟩
    obtain ⟨p, hp, rfl⟩ : ∃ p ∈ [((c0, P0) : Addr × Addr), ((c4, P4) : Addr × Addr), ((c7, P7) : Addr × Addr), ((c9, P9) : Addr × Addr), ((c8, P8) : Addr × Addr)], p.2 = P := by
      have hP2 : P ∈ [((c0, P0) : Addr × Addr).2, ((c4, P4) : Addr × Addr).2, ((c7, P7) : Addr × Addr).2, ((c9, P9) : Addr × Addr).2, ((c8, P8) : Addr × Addr).2] := hP
      exact List.mem_map.mp (show P ∈ List.map (fun p : Addr × Addr => p.2) [(c0, P0), (c4, P4), (c7, P7), (c9, P9), (c8, P8)] from hP2)
    exact ⟨#[], hT p hp, trivial⟩
  · exact ok_law T ⟨hTB (c0, P0) (by simp), hTB (c4, P4) (by simp), hTB (c7, P7) (by simp), hTB (c9, P9) (by simp), hTB (c8, P8) (by simp)⟩
end My
open PySem PySem.W PyProof.Rows
set_option maxHeartbeats 0 in
theorem PySem.Challenge.cw_stretchkeep_k18_choices_cut_holds : PySem.Challenge.rw_stretchkeep_k18_choices_cut.Holds := by
  w_on; o_law; k_head; (case hw => w_witness2)
  k_fill
  refine My.walk_ofTabs (l := PySem.Challenge.rw_stretchkeep_k18_choices_cut) (n := 63) (k := 10) (x := "script") (CX := fun _ => L2.CX0) rfl (by decide) rfl ⟨rfl, by decide, by decide⟩ (fun w h Y => PySem.W.kIn_of Y) ?F (fun _ _ _ _ _ h => h)
  case F =>
    intro w mg fa h Y KX G hmg own
    refine' My.all_mk KX G hmg own ?a0 ?l0 ?c0_ ?k0 ?lc0 ?vc0 ?np0 ?rc0 ?a1 ?l1 ?c1_ ?k1 ?a2 ?l2 ?c2_ ?k2 ?a3 ?l3 ?c3_ ?k3 ?a4 ?l4 ?c4_ ?k4 ?lc4 ?vc4 ?np4 ?rc4 ?a5 ?l5 ?c5_ ?k5 ?a6 ?l6 ?c6_ ?k6 ?a7 ?l7 ?c7_ ?k7 ?lc7 ?vc7 ?np7 ?rc7 ?a8 ?l8 ?c8_ ?k8 ?lc8 ?vc8 ?np8 ?rc8 ?a9 ?l9 ?c9_ ?k9 ?lc9 ?vc9 ?np9 ?rc9 ?a10 ?l10 ?c10_ ?k10 ?a11 ?l11 ?c11_ ?k11 ?a12 ?l12 ?c12_ ?k12 ?a13 ?l13 ?c13_ ?k13 ?a14 ?l14 ?c14_ ?k14 ?a15 ?l15 ?c15_ ?k15 ?a16 ?l16 ?c16_ ?k16 ?a17 ?l17 ?c17_ ?k17 ?a18 ?l18 ?c18_ ?k18 ?a19 ?l19 ?c19_ ?k19 ?a20 ?l20 ?c20_ ?k20 ?a21 ?l21 ?c21_ ?k21 ?a22 ?l22 ?c22_ ?k22 ?z0 ?z1 ?z2 ?z3 ?z4 ?z5 ?z6 ?z7 ?z8 ?z9 ?z10 ?z11 ?z12 ?z13 ?z14
    (case a0 => k_is)
    (case l0 => k_is)
    (case c0_ => k_is)
    (case k0 => k_is)
    (case lc0 => k_is)
    (case vc0 => rfl)
    (case np0 => first | rfl | kernel_rfl)
    (case rc0 => decide +kernel)
    (case a1 => k_is)
    (case l1 => k_is)
    (case c1_ => k_is)
    (case k1 => k_is)
    (case a2 => k_is)
    (case l2 => k_is)
    (case c2_ => k_is)
    (case k2 => k_is)
    (case a3 => k_is)
    (case l3 => k_is)
    (case c3_ => k_is)
    (case k3 => k_is)
    (case a4 => k_is)
    (case l4 => k_is)
    (case c4_ => k_is)
    (case k4 => k_is)
    (case lc4 => k_is)
    (case vc4 => rfl)
    (case np4 => first | rfl | kernel_rfl)
    (case rc4 => decide +kernel)
    (case a5 => k_is)
    (case l5 => k_is)
    (case c5_ => k_is)
    (case k5 => k_is)
    (case a6 => k_is)
    (case l6 => k_is)
    (case c6_ => k_is)
    (case k6 => k_is)
    (case a7 => k_is)
    (case l7 => k_is)
    (case c7_ => k_is)
    (case k7 => k_is)
    (case lc7 => k_is)
    (case vc7 => rfl)
    (case np7 => first | rfl | kernel_rfl)
    (case rc7 => decide +kernel)
    (case a8 => k_is)
    (case l8 => k_is)
    (case c8_ => k_is)
    (case k8 => k_is)
    (case lc8 => k_is)
    (case vc8 => rfl)
    (case np8 => first | rfl | kernel_rfl)
    (case rc8 => decide +kernel)
    (case a9 => k_is)
    (case l9 => k_is)
    (case c9_ => k_is)
    (case k9 => k_is)
    (case lc9 => k_is)
    (case vc9 => rfl)
    (case np9 => first | rfl | kernel_rfl)
    (case rc9 => decide +kernel)
    (case a10 => k_is)
    (case l10 => k_is)
    (case c10_ => k_is)
    (case k10 => k_is)
    (case a11 => k_is)
    (case l11 => k_is)
    (case c11_ => k_is)
    (case k11 => k_is)
    (case a12 => k_is)
    (case l12 => k_is)
    (case c12_ => k_is)
    (case k12 => k_is)
    (case a13 => k_is)
    (case l13 => k_is)
    (case c13_ => k_is)
    (case k13 => k_is)
    (case a14 => k_is)
    (case l14 => k_is)
    (case c14_ => k_is)
    (case k14 => k_is)
    (case a15 => k_is)
    (case l15 => k_is)
    (case c15_ => k_is)
    (case k15 => k_is)
    (case a16 => k_is)
    (case l16 => k_is)
    (case c16_ => k_is)
    (case k16 => k_is)
    (case a17 => k_is)
    (case l17 => k_is)
    (case c17_ => k_is)
    (case k17 => k_is)
    (case a18 => k_is)
    (case l18 => k_is)
    (case c18_ => k_is)
    (case k18 => k_is)
    (case a19 => k_is)
    (case l19 => k_is)
    (case c19_ => k_is)
    (case k19 => k_is)
    (case a20 => k_is)
    (case l20 => k_is)
    (case c20_ => k_is)
    (case k20 => k_is)
    (case a21 => k_is)
    (case l21 => k_is)
    (case c21_ => k_is)
    (case k21 => k_is)
    (case a22 => k_is)
    (case l22 => k_is)
    (case c22_ => k_is)
    (case k22 => k_is)
    (case z0 => k_is)
    (case z1 => k_is)
    (case z2 => k_is)
    (case z3 => k_is)
    (case z4 => k_is)
    (case z5 => k_is)
    (case z6 => k_is)
    (case z7 => k_is)
    (case z8 => k_is)
    (case z9 => k_is)
    (case z10 => k_is)
    (case z11 => k_is)
    (case z12 => k_is)
    (case z13 => k_is)
    (case z14 => k_is)

