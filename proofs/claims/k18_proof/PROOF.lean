import PyProof.Rows.All
import Wide.All
import OpenK.AllK
import Wide.FinOn
import HandS.ForMost
import HandS.Evl
import PyProof.RulesMatchSeq
import PyProof.Rows.MatchSeqLen
import HandS.TupAny
import HandS.TupMul
import HandS.IsInst
import HandS.Walk
import HandS.Zip
import HandS.More
import KE.KSortedM
import KE.KEqSeq
import PySem.Challenge.RW_surfacehall_k18_texts_refused
import HandS.RaiseMore
import HandS.StrMore
import HandS.Text
import HandS.Star
import HandS.Exc
import HandS.ExcField
import HandS.ExcInit
import KE.KExcSuper
import PyProof.FString
import PyProof.FString4
import HandS.SetFor
import HandS.Finally
import KE.KExcIs
import HandS.ExcIs
import KE.GoesEnum
import PyProof.StrLawsAffix
import HandS.Codes
import HandS.ForExc
import HandS.Lambda
import HandS.HeadHook3
import HandS.HeadWalk
import KE.KStateDown
import HandS.Head0
import HandS.Head1
import HandS.Head2
set_option Elab.async false
set_option linter.all false
set_option maxRecDepth 100000
/-! match over a tuple whose first item is a text -/
namespace SH
open PySem PySem.Spec PyProof.Rows L2

def capSet : List (Option Nat) → List V → L2.St → L2.St
  | some i :: is, v :: vs, σ => capSet is vs (σ.set i (some v))
  | none :: is, _ :: vs, σ => capSet is vs σ
  | _, _, σ => σ

section
variable {X : Cx}
inductive CapOk (X : Cx) : List Pattern → List (Option Nat) → Prop
  | nil : CapOk X [] []
  | wild {ps is pos} : CapOk X ps is → CapOk X (.MatchAs none none pos :: ps) (none :: is)
  | cap {ps is pos i x} (hN : X.N.Nodup) (hi : X.N[i]? = some x) (hx : Loc X.env.scope x) (hf : X.fn x = true ∨ X.env.scope.names.lookup x = some .local) : CapOk X ps is → CapOk X (.MatchAs none (some x) pos :: ps) (some i :: is)

def bnds : List Pattern → List Value → List (Str × Value)
  | .MatchAs none nm _ :: ps, u :: us => (nm.map (·, u)).toList ++ bnds ps us
  | _, _ => []

theorem CapOk.nostar {ps : List Pattern} {is : List (Option Nat)} (c : CapOk X ps is) : ps.findIdx? (·.isStar) = none := by
  induction c with
  | nil => rfl
  | wild _ ih => rw [List.findIdx?_cons, ih]; rfl
  | cap _ _ _ _ _ ih => rw [List.findIdx?_cons, ih]; rfl

theorem caps_each {M : Model} {A : Around} {E : Value → Shared → Prop} {s : Shared} {env : Env} {ps : List Pattern} {is : List (Option Nat)} (c : CapOk X ps is) :
    ∀ {us : List Value}, us.length = ps.length → ∀ {Q : Option (List (Str × Value)) → Shared → Prop}, Q (some (bnds ps us)) s → wpAny M A (matchEach ps env us) Q E s := by
  induction c with
  | nil => intro us hl Q h; exact wpAny_matchEach_nil h
  | @wild ps is pos c ih =>
    intro us hl Q h
    cases us with
    | nil => cases hl
    | cons u us =>
      refine wpAny_matchEach_cons (wpAny_matchPattern_Capture ?_)
      exact ih (by simpa using hl) (by simpa [bnds] using h)
  | @cap ps is pos i x hN hi hx hf c ih =>
    intro us hl Q h
    cases us with
    | nil => cases hl
    | cons u us =>
      refine wpAny_matchEach_cons (wpAny_matchPattern_Capture ?_)
      exact ih (by simpa using hl) (by simpa [bnds] using h)

theorem caps_store {pins : List (Addr × Obj)} {ps : List Pattern} {is : List (Option Nat)} (c : CapOk X ps is) :
    ∀ {us : List Value} {vs : List V} {σ : L2.St} {H : Hp} {s : Shared} {Q : Unit → Shared → Prop}, us.length = ps.length → Vals vs us → Inv X pins σ H s → (∀ s', Inv X pins (capSet is vs σ) H s' → Q () s') →
      wpAny (model X.prog X.w) X.A (assignInOrder ((bnds ps us).map fun (n, _) => bindName X.env n) ((bnds ps us).map (·.2))) Q X.xe s := by
  induction c with
  | nil => intro us vs σ H s Q hl r I h; exact wpAny_assignInOrder_none (h s (by cases vs <;> exact I))
  | @wild ps is pos c ih =>
    intro us vs σ H s Q hl r I h
    cases r with
    | nil => cases hl
    | @cons v u vs us r rs => exact ih (by simpa using hl) rs I h
  | @cap ps is pos i x hN hi hx hf c ih =>
    intro us vs σ H s Q hl r I h
    cases r with
    | nil => cases hl
    | @cons v u vs us r rs =>
      show wpAny _ _ (assignInOrder (bindName X.env x :: ((bnds ps us).map fun (n, _) => bindName X.env n)) (u :: (bnds ps us).map (·.2))) Q X.xe s
      refine wpAny_assignInOrder_more (bindName_ ?_)
      exact store_ok I hN hi hx r (fun s' I' => ih (by simpa using hl) rs I' h) hf

/-- the cases of a match whose subject is a tuple (text, ..) -/
structure PCs (X : Cx) (cs : List MatchCase) (t : Str → List V → TS) : Prop where
  run : ∀ (first : Bool) (pins : List (Addr × Obj)) (s : Shared) (σ : L2.St) (H : Hp) (D : Ends) (a : Addr) (z : Str) (xs : List V), Inv X pins σ H s → SqT X.K H a (.str z :: xs) → t z xs D σ H →
    wpAny (model X.prog X.w) X.A (matchCases cs X.env (.ref a) first) (SP X pins D) X.xe s

def mNil : Str → List V → TS := fun _ _ D σ H => D.nx σ H
theorem pcs_nil : PCs X [] mNil := ⟨fun _ _ _ σ H _ _ _ _ I _ h => wpAny_matchCases_nil ⟨σ, H, I, h⟩⟩
def mAny (tb : TS) : Str → List V → TS := fun _ _ D σ H => tb D σ H
theorem pcs_any {body : List Stmt} {pos : Pos} {rest : List MatchCase} {tb : TS} (hb : PSs X body tb) : PCs X (⟨.MatchAs none none pos, none, body⟩ :: rest) (mAny tb) := by
  refine ⟨fun first pins s σ H D a z xs I hq h => ?_⟩
  refine wpAny_matchCases_cons (wpAny_matchPattern_Capture ?_)
  exact wpAny_assignInOrder_none (hb.run pins s σ H D I h)
def mSeq (lit : Str) (n : Nat) (is : List (Option Nat)) (tb : TS) (tr : Str → List V → TS) : Str → List V → TS := fun z xs D σ H =>
  if z = lit ∧ xs.length = n then tb D (capSet is xs σ) H else tr z xs D σ H
theorem pcs_seq {lit : Str} {j : Nat} {p1 p2 p3 : Pos} {ps : List Pattern} {is : List (Option Nat)} {body : List Stmt} {rest : List MatchCase} {tb : TS} {tr : Str → List V → TS} (hcalm : X.calm = true)
    (c : CapOk X ps is) (hb : PSs X body tb) (hr : PCs X rest tr) :
    PCs X (⟨.MatchSequence (.MatchValue (.Constant (.str lit) j p1) p2 :: ps) p3, none, body⟩ :: rest) (mSeq lit ps.length is tb tr) := by
  refine ⟨fun first pins s σ H D a z xs I hq h => ?_⟩
  obtain ⟨its, rv, ht, hz⟩ := I.tuple hq
  have hlen : its.length = xs.length + 1 := by rw [← rv.length]; rfl
  refine wpAny_matchCases_cons (wpAny_matchPattern_Sequence (wpAny_collectionFlag ht.typeIs flag_seq_tuple ?_) ?_ ?_)
  · simp only [if_true]
    refine pyLen_tuple ht (by simp only [List.size_toArray]; have := line63; simp at hz; omega) ?_
    by_cases hn : xs.length = ps.length
    · have e1 : ((its.toArray.size : Int) != ((Pattern.MatchValue (.Constant (.str lit) j p1) p2 :: ps).length : Int)) = false := by
        simp only [List.size_toArray, List.length_cons, bne_eq_false_iff_eq]; omega
      rw [e1]
      simp only [Bool.false_eq_true, if_false]
      have e2 : (Pattern.MatchValue (.Constant (.str lit) j p1) p2 :: ps).length = its.toArray.size := by simp only [List.size_toArray, List.length_cons]; omega
      rw [e2]
      refine unpackItems_tuple (I.ok.hd hcalm) ht fun h' hx => ?_
      have I1 : Inv X pins σ H { s with heap := h', toks := s.toks + 1 + 1 } := I.kept (t' := s.toks + 1 + 1) fun b o e => hx b o (Nat.ne_of_lt (Heap.lt_size e)) e
      have ea : its.toArray.toList = its := by simp
      rw [ea]
      cases rv with
      | @cons _ u _ us r0 rs =>
        refine wpAny_matchEach_cons (wpAny_matchPattern_Value ?_)
        refine thn (pe_str.run pins _ σ H (fun y H1 => y = .str lit ∧ H1 = H) I1 ⟨rfl, rfl⟩) fun c1 s1 ⟨y, H1, I2, r1, e3, e4⟩ => ?_
        subst e3; subst e4
        refine thn (op_eq pins s1 σ H1 (.str z) (.str lit) u c1 (fun y H2 => y = .bl (decide (z = lit)) ∧ H2 = H1) I2 r0 r1 ⟨rfl, ?_, rfl⟩) fun c2 s2 ⟨y, H2, I3, r2, e3, e4⟩ => ?_
        · congr 1; simp
        subst e3; subst e4
        obtain rfl : c2 = Value.bool (decide (z = lit)) := r2
        refine wpAny_truthy_bool ?_
        by_cases hzl : z = lit
        · rw [decide_eq_true hzl]
          simp only [if_true]
          have hlu : us.length = ps.length := by simp at hlen; omega
          refine caps_each c hlu ?_
          simp only [List.nil_append]
          refine caps_store c hlu rs I3 fun s' I4 => ?_
          have h' : tb D (capSet is xs σ) H2 := by
            have := h; unfold mSeq at this; rwa [if_pos ⟨hzl, hn⟩] at this
          exact hb.run pins s' _ H2 D I4 h'
        · rw [decide_eq_false hzl]
          simp only [Bool.false_eq_true, if_false]
          have h' : tr z xs D σ H2 := by
            have := h; unfold mSeq at this; rwa [if_neg (fun q => hzl q.1)] at this
          exact hr.run false pins s2 σ H2 D a z xs I3 hq h'
    · have e1 : ((its.toArray.size : Int) != ((Pattern.MatchValue (.Constant (.str lit) j p1) p2 :: ps).length : Int)) = true := by
        simp only [List.size_toArray, List.length_cons, bne_iff_ne, ne_eq]; omega
      rw [e1]
      simp only [if_true]
      have h' : tr z xs D σ H := by
        have := h; unfold mSeq at this; rwa [if_neg (fun q => hn q.2)] at this
      exact hr.run false pins _ σ H D a z xs (I.tok _) hq h'
  · rw [List.findIdx?_cons, c.nostar]; rfl
  · rfl

def tMatch (K : PySem.W.Frag) (te : TE) (t : Str → List V → TS) : TS := fun D σ H => te σ H fun x H1 => ∃ a z xs, x = .ref a ∧ SqT K H1 a (.str z :: xs) ∧ t z xs D σ H1
theorem ps_match {e : Expr} {te : TE} {cs : List MatchCase} {t : Str → List V → TS} {pos : Pos} (he : PE X e te) (hc : PCs X cs t) : PS X (.Match e cs pos) (tMatch X.K te t) := by
  refine ⟨fun pins s σ H D I h => ?_⟩
  refine wpAny_Match (thn (he.run pins s σ H _ I h) fun v s1 ⟨x, H1, I1, r1, a, z, xs, e1, hq, q⟩ => ?_)
  subst e1
  obtain rfl : v = Value.ref a := r1
  exact hc.run true pins s1 σ H1 D a z xs I1 hq q
end
end SH
set_option Elab.async false
set_option linter.all false
set_option maxRecDepth 100000
/-! what is tracked, as an ordered list of cells -/
namespace SH
open PySem PySem.Spec PyProof.Rows L2

abbrev Cells := List (Addr × HO)
structure Has (H : Hp) (L : Cells) : Prop where
  ok : ∀ c ∈ L, H c.1 = some c.2
  nd : (L.map (·.1)).Nodup
theorem upd_eq {H : Hp} {p q : Addr} {o : HO} (e : q = p) : upd H p o q = some o := by subst e; exact upd_same
theorem Has.perm {H : Hp} {L L' : Cells} (h : Has H L) (p : L.Perm L') : Has H L' :=
  ⟨fun c hc => h.ok c (p.mem_iff.mpr hc), (p.map (·.1)).nodup_iff.mp h.nd⟩
theorem Has.sub {H : Hp} {L L' : Cells} (h : Has H L) (p : L'.Sublist L) : Has H L' :=
  ⟨fun c hc => h.ok c (p.subset hc), (p.map (·.1)).nodup h.nd⟩
theorem Has.get {H : Hp} {A T : Cells} (h : Has H (A ++ T)) (i : Nat) {p : Addr} {o : HO} (e : T[i]? = some (p, o)) : H p = some o :=
  h.ok (p, o) (List.mem_append_right _ (List.mem_of_getElem? e))
theorem Has.mem {H : Hp} {L : Cells} (h : Has H L) {p : Addr} {o : HO} (e : (p, o) ∈ L) : H p = some o := h.ok _ e
theorem Has.fresh {H : Hp} {L : Cells} (h : Has H L) {p : Addr} (hp : H p = none) : p ∉ L.map (·.1) := fun hm => by
  obtain ⟨c, hc, e⟩ := List.mem_map.mp hm
  have := h.ok c hc
  rw [e, hp] at this; cases this
theorem Has.cons {H : Hp} {L : Cells} (h : Has H L) {p : Addr} (hp : H p = none) (o : HO) : Has (upd H p o) ((p, o) :: L) := by
  refine ⟨fun c hc => ?_, List.nodup_cons.mpr ⟨h.fresh hp, h.nd⟩⟩
  rcases List.mem_cons.mp hc with rfl | hc
  · exact upd_same
  · rw [upd_ne (ne_of_none (h.ok c hc) hp)]; exact h.ok c hc
theorem Has.new {H : Hp} {A T : Cells} (h : Has H (A ++ T)) {p : Addr} (hp : H p = none) (o : HO) : Has (upd H p o) (A ++ (p, o) :: T) :=
  (h.cons hp o).perm List.perm_middle.symm
/-- an object laid that the list doesn't name -/
theorem Has.past {H : Hp} {L : Cells} (h : Has H L) {p : Addr} (hp : H p = none) (o : HO) : Has (upd H p o) L := (h.cons hp o).sub (List.sublist_cons_self _ _)
theorem set_keys : ∀ {T : Cells} {i : Nat} {p : Addr} {o o' : HO}, T[i]? = some (p, o) → (T.set i (p, o')).map (·.1) = T.map (·.1)
  | [], i, p, o, o', e => by simp at e
  | c :: T, 0, p, o, o', e => by
    have e : c = (p, o) := Option.some.inj e
    subst e; rfl
  | c :: T, i + 1, p, o, o', e => by
    have ih := set_keys (T := T) (i := i) (p := p) (o := o) (o' := o') e
    show c.1 :: (T.set i (p, o')).map (·.1) = c.1 :: T.map (·.1)
    rw [ih]
theorem Has.set0 {H : Hp} {T : Cells} (h : Has H T) (i : Nat) {p : Addr} {o : HO} (e : T[i]? = some (p, o)) (o' : HO) : Has (upd H p o') (T.set i (p, o')) := by
  refine ⟨fun c hc => ?_, by rw [set_keys e]; exact h.nd⟩
  obtain ⟨j, hj, ej⟩ := List.getElem_of_mem hc
  by_cases hij : j = i
  · subst hij
    rw [List.getElem_set_self] at ej
    subst ej; exact upd_same
  · rw [List.getElem_set_ne (Ne.symm hij)] at ej
    have hj' : j < T.length := by simpa using hj
    have e1 : T[j]? = some c := by rw [List.getElem?_eq_getElem hj', ej]
    have hne : c.1 ≠ p := fun z => by
      have k1 : (T.map (·.1))[j]? = some c.1 := by rw [List.getElem?_map, e1]; rfl
      have k2 : (T.map (·.1))[i]? = some p := by rw [List.getElem?_map, e]; rfl
      rw [z] at k1
      exact hij (nd_ix h.nd k1 k2)
    rw [upd_ne hne]
    exact h.ok c (List.mem_of_getElem? e1)
theorem set_app {α : Type} {x : α} : ∀ {A T : List α} {i : Nat}, (A ++ T).set (A.length + i) x = A ++ T.set i x
  | [], T, i => by simp
  | a :: A, T, i => by
    have ih := set_app (x := x) (A := A) (T := T) (i := i)
    have e : (a :: A).length + i = (A.length + i) + 1 := by simp; omega
    rw [e]
    show a :: (A ++ T).set (A.length + i) x = _
    rw [ih]; rfl
theorem Has.set {H : Hp} {A T : Cells} (h : Has H (A ++ T)) (i : Nat) {p : Addr} {o : HO} (e : T[i]? = some (p, o)) (o' : HO) : Has (upd H p o') (A ++ T.set i (p, o')) := by
  have e1 : (A ++ T)[A.length + i]? = some (p, o) := by rw [List.getElem?_append_right (by omega)]; simpa using e
  have := h.set0 _ e1 o'
  rwa [set_app] at this
theorem Has.ne {H : Hp} {L : Cells} (h : Has H L) {p q : Addr} {o u : HO} (hp : (p, o) ∈ L) (hq : H q = none) : p ≠ q := ne_of_none (h.mem hp) hq

/-- tuples stay -/
def KeepT (H H' : Hp) : Prop := ∀ b xs, H b = some (.tup xs) → H' b = some (.tup xs)
theorem KeepT.refl (H : Hp) : KeepT H H := fun _ _ e => e
theorem KeepT.trans {H H1 H2 : Hp} (a : KeepT H H1) (b : KeepT H1 H2) : KeepT H H2 := fun c xs e => b c xs (a c xs e)
/-- every promise may be read so: the tuples stay -/
theorem keep_t {P : Program} {w : World} {K : PySem.W.Frag} {mg : Str → Option Value} {base : Heap} {CX : CXT} {k : Nat} {f : Addr} {fd : FuncData} {ps : List Str} {sp : Sp} (F : FnOk P w K mg base CX k f fd ps sp) :
    FnOk P w K mg base CX k f fd ps (fun vs H Q E => sp vs H (fun v H' => KeepT H H' → Q v H') E) := by
  refine ⟨fun vs H Q E q => F.len _ _ _ _ q, fun A outer s H args us vs Q E hr he hb hv hs => ?_⟩
  refine codeAny_mono (F.run A outer s H args us vs _ E hr he hb hv hs) fun r s' q => ?_
  cases r with
  | error e => exact q
  | ok fl =>
    cases fl with
    | ret u =>
      obtain ⟨v, H', e1, e2, un, e3, e4, e5⟩ := q
      exact ⟨v, H', e1, e2, un, e3, e4, e5 un.tups⟩
    | next => exact q
    | brk => exact q
    | cont => exact q
end SH
set_option Elab.async false
set_option linter.all false
set_option maxRecDepth 100000
namespace SH
open PySem PySem.Spec PyProof.Rows L2
def top (i : Nat) : Stmt := PySem.Challenge.pw_surfacehall_k18_texts_refused.main.body.getD i (.Pass ⟨0, 0, 0, 0⟩)
theorem Has.assoc {H : Hp} {A B C : Cells} (h : Has H ((A ++ B) ++ C)) : Has H (A ++ (B ++ C)) := by rwa [List.append_assoc] at h
theorem Has.unassoc {H : Hp} {A B C : Cells} (h : Has H (A ++ (B ++ C))) : Has H ((A ++ B) ++ C) := by rwa [← List.append_assoc] at h
/-- a new instance and its dict -/
theorem small {n : Nat} (h : n ≤ 1000) : n ≤ sizeLine := Nat.le_of_lt (small1000 h)
theorem Has.newAt {H : Hp} {A B C : Cells} (h : Has H (A ++ (B ++ C))) {p : Addr} (hp : H p = none) (o : HO) : Has (upd H p o) (A ++ (B ++ (p, o) :: C)) := (h.unassoc.new hp o).assoc
theorem Has.re {H : Hp} {L L' : Cells} (h : Has H L) (e : L = L') : Has H L' := e ▸ h
theorem Same.new {H : Hp} {p : Addr} (o : HO) (h : H p = none) : Same H (upd H p o) := fun b u e => by rw [upd_ne (ne_of_none e h)]; exact e
theorem Same.mut {H H' : Hp} {p : Addr} (o : HO) (s : Same H H') (h : H p = none) : Same H (upd H' p o) := fun b u e => by rw [upd_ne (ne_of_none e h)]; exact s b u e
theorem Same.has {H H' : Hp} {L : Cells} (s : Same H H') (h : Has H L) : Has H' L := ⟨fun c hc => s _ _ (h.ok c hc), h.nd⟩
theorem upd_tup {H : Hp} {p : Addr} {o : HO} (h : ∀ xs, H p ≠ some (.tup xs)) : ∀ b xs, H b = some (.tup xs) → upd H p o b = some (.tup xs) := fun b xs e => by
  rw [upd_ne]
  · exact e
  · intro z; rw [z] at e; exact h xs e
theorem Has.add {H H' : Hp} {L : Cells} (h : Has H L) {l : Addr} {o : HO} (hl : H l = none) (s : ∀ b o, H b = some o → H' b = some o) (e : H' l = some o) : Has H' ((l, o) :: L) := by
  refine ⟨fun p hp => ?_, ?_⟩
  · rcases List.mem_cons.mp hp with z | z
    · subst z; exact e
    · exact s _ _ (h.ok p z)
  · rw [List.map_cons, List.nodup_cons]
    exact ⟨h.fresh hl, h.nd⟩
theorem Has.same {H H' : Hp} {L : Cells} (h : Has H L) (s : Same H H') : Has H' L := ⟨fun p hp => s _ _ (h.ok p hp), h.nd⟩
theorem KeepT.same {H H' : Hp} (s : Same H H') : KeepT H H' := fun b xs e => s _ _ e
theorem out_it {J : It} {n : Nat} {G : Hp → Prop} {Y : Nat → Hp → V → Hp → Prop} (w : Walk J n G Y) {B : V → Hp → (Hp → Prop) → Prop} {Qd : Hp → Prop} {H0 : Hp} (Pv : Nat → Hp → Prop) (h0 : Pv 0 H0) (hG : ∀ i H, i ≤ n → Pv i H → G H)
    (hs : ∀ i x H H', i < n → Pv i H → Y i H x H' → B x H' (Pv (i + 1))) (hd : ∀ H, Pv n H → Qd H) :
    ∃ W : Nat → Nat → Hp → Prop, (∃ m, W 0 m H0) ∧ ∀ i m H, W i m H →
      (J.stop i H ∧ Qd H) ∨ (J.go i H ∧ ∃ Nx : Hp → Prop, (∀ H', Nx H' → ∃ m', m' < m ∧ W (i + 1) m' H') ∧ ∀ x H', J.yld i H x H' → B x H' Nx) := by
  refine ⟨fun i m H => m = n - i ∧ i ≤ n ∧ Pv i H, ⟨n, by simp, Nat.zero_le _, h0⟩, ?_⟩
  rintro i m H ⟨rfl, hi, p⟩
  have q := hG i H hi p
  by_cases hlt : i < n
  · refine .inr ⟨w.goes i H hlt q, Pv (i + 1), fun H' p' => ⟨n - (i + 1), by omega, rfl, hlt, p'⟩, fun x H' y => hs i x H H' hlt p (w.yields i H x H' hlt q y)⟩
  · have e : i = n := by omega
    subst e
    exact .inl ⟨w.stops H q, hd H p⟩
theorem paired_ix {α β : Type} {R : α → β → Prop} : ∀ {xs : List α} {ys : List β} {i : Nat} {x : α} {y : β}, Paired R xs ys → xs[i]? = some x → ys[i]? = some y → R x y
  | _, _, _, _, _, .nil, h, _ => by simp at h
  | _, _, 0, _, _, .cons r _, h, h' => by simp at h h'; subst h; subst h'; exact r
  | _, _, i + 1, _, _, .cons _ t, h, h' => paired_ix (i := i) t (by simpa using h) (by simpa using h')
theorem paired_len {α β : Type} {R : α → β → Prop} : ∀ {xs : List α} {ys : List β}, Paired R xs ys → xs.length = ys.length
  | _, _, .nil => rfl
  | _, _, .cons _ t => by simp [paired_len t]
theorem paired_snoc {α β : Type} {R : α → β → Prop} {xs : List α} {ys : List β} {a : α} {b : β} (h : Paired R xs ys) (r : R a b) : Paired R (xs ++ [a]) (ys ++ [b]) := by
  induction h with
  | nil => exact .cons r .nil
  | cons a _ ih => exact .cons a ih
inductive Lt where
  | make (n : Int) | drop (n : Int) | size (n w h : Int) | paint (n x y w h m : Int) | place (n x y : Int) | rank (n r : Int) | veil (n : Int) | unveil (n : Int) | tie (n o : Int) | show (n : Int) | hold (n : Int) | let_
  deriving DecidableEq
def Lt.word : Lt → Str
  | .make _ => "make" | .drop _ => "drop" | .size .. => "size" | .paint .. => "paint" | .place .. => "place" | .rank .. => "rank" | .veil _ => "veil" | .unveil _ => "unveil" | .tie .. => "tie" | .show _ => "show" | .hold _ => "hold" | .let_ => "let"
def Lt.nums : Lt → List Int
  | .make n => [n] | .drop n => [n] | .size n w h => [n, w, h] | .paint n x y w h m => [n, x, y, w, h, m] | .place n x y => [n, x, y] | .rank n r => [n, r] | .veil n => [n] | .unveil n => [n] | .tie n o => [n, o] | .show n => [n] | .hold n => [n] | .let_ => []
def Lt.vals (l : Lt) : List V := .str l.word :: l.nums.map V.int
def Lt.bnds : Lt → List (Int × Int)
  | .make _ => [(0, 9)] | .drop _ => [(0, 9)] | .size .. => [(0, 9), (1, 12), (1, 8)] | .paint .. => [(0, 9), (0, 11), (0, 7), (1, 12), (1, 8), (0, 9)] | .place .. => [(0, 9), (-20, 20), (-20, 20)] | .rank .. => [(0, 9), (0, 9)]
  | .veil _ => [(0, 9)] | .unveil _ => [(0, 9)] | .tie .. => [(0, 9), (0, 9)] | .show _ => [(0, 9)] | .hold _ => [(0, 9)] | .let_ => []
def Lt.ok (l : Lt) : Prop := ∀ p ∈ l.nums.zip l.bnds, p.2.1 ≤ p.1 ∧ p.1 ≤ p.2.2
def RowAt (H : Hp) (row : List Addr) (zs : List Lt) : Prop := Paired (fun (t : Addr) (z : Lt) => H t = some (.tup z.vals)) row zs
theorem RowAt.keep {H H' : Hp} {row : List Addr} {zs : List Lt} (h : RowAt H row zs) (k : KeepT H H') : RowAt H' row zs := Paired.mapP h fun _ _ e => k _ _ e
theorem RowAt.new {H : Hp} {ts : List Addr} {zs : List Lt} {p : Addr} {z : Lt} (h : RowAt H ts zs) (hp : H p = none) : RowAt (upd H p (.tup z.vals)) (ts ++ [p]) (zs ++ [z]) := by
  unfold RowAt at h ⊢
  induction h with
  | nil => exact .cons upd_same .nil
  | cons a t ih => exact .cons (by rw [upd_ne (ne_of_none a hp)]; exact a) ih
theorem RowAt.same {H H' : Hp} {ts : List Addr} {zs : List Lt} (r : RowAt H ts zs) (s : Same H H') : RowAt H' ts zs := r.keep (KeepT.same s)
theorem RowAt.wr {H : Hp} {ts : List Addr} {zs : List Lt} {p : Addr} {xs : List V} (r : RowAt H ts zs) (h : H p = some (.lst xs)) (o : HO) : RowAt (upd H p o) ts zs := r.keep (upd_tup fun ys e => by rw [h] at e; cases e)

/-! d.update(e), e a dict with such keys; t * 1 -/
section
variable {X : Cx} {pins : List (Addr × Obj)} {σ : L2.St} {H : Hp} {s : Shared} {a b : Addr} {kvs more : List (Key × V)} {A : Around} {E : Value → Shared → Prop}
theorem d_update {Q : Value → Shared → Prop} (I : Inv X pins σ H s) (e : H a = some (.dK kvs)) (e2 : H b = some (.dK more)) (ne : a ≠ b) (hz : kvs.length + more.length ≤ sizeLine)
    (h : ∀ s', Inv X pins σ (upd H a (.dK (mergeK kvs more))) s' → Q .none s') : wpAny (model X.prog X.w) A (call (.builtin "dict.update") [.ref a, .ref b]) Q E s := by
  obtain ⟨z, hd, vs, rel, dd⟩ := dk_of I.hok e
  obtain ⟨z2, hd2, vs2, rel2, dd2⟩ := dk_of I.hok e2
  refine call_meetsIn PySem.F.slot_dict_update dd.typeIs PySem.F.entry_dict_update (PySem.F.args_dict_update_2 _ _) (meets_dict_update (mixKind X.prog X.w) a b ne hd2)
    ⟨vs, vs2, dd, dd2, by rw [← rel.length, ← rel2.length]; exact hz, fun h' dd' _ hs => h _ ?_⟩
  have he : ∃ q, h'.get? a = some q := let ⟨q, _, _, hq, _⟩ := dd'; ⟨q, hq⟩
  exact d_write I (by rw [e]; exact True.intro) hs he (dk_new (Nat.le_trans (length_mergeK more kvs) hz) hd (KV.merge rel2 rel) dd')
end
def tDUpd (td ty : TE) : TE := fun σ H Q => td σ H fun x H1 => ∃ a, x = .ref a ∧ IsD H1 a ∧ ty σ H1 fun y H2 => ∃ b kvs more, y = .ref b ∧ H2 a = some (.dK kvs) ∧ H2 b = some (.dK more) ∧ a ≠ b ∧ kvs.length + more.length ≤ sizeLine ∧ Q .non (upd H2 a (.dK (mergeK kvs more)))
section
variable {X : Cx} {o e : Expr} {apos cpos : Pos} {td ty : TE}
theorem pe_dupd (ho : PE X o td) (he : PE X e ty) (m : M1 X o "update" apos e cpos) : PE X (.Call (.Attribute o "update" apos) [e] [] cpos) (tDUpd td ty) := by
  refine ⟨fun pins s σ H Q I h => ?_⟩
  refine wpAny_Call_method m.base m.few m.line PySem.F.plainAttrs_dict PySem.F.slot_dict_update PySem.F.type_dict_update (thn (ho.run pins s σ H _ I h) fun u s1 ⟨x, H1, I1, rx, a, ex, d, q1⟩ => ?_)
  subst ex
  obtain rfl : u = Value.ref a := rx
  obtain ⟨t1, t2, _⟩ := isD_at I1 d
  refine ⟨t1, t2, ?_⟩
  rw [m.trees]
  refine Calls.callWith_builtin rfl (Calls.evalArgs_plain (Calls.spliced_cons (thn (he.run pins s1 σ H1 _ I1 q1) fun iv s2 ⟨y, H2, I2, ry, b, kvs, more, ey, e1, e2, ne, hz, q2⟩ => Calls.spliced_nil ?_)))
  subst ey
  obtain rfl : iv = Value.ref b := ry
  exact d_update I2 e1 e2 ne hz fun s3 I3 => ⟨.non, _, I3, rfl, q2⟩
end
theorem tuple_mul1 (l : Addr) (items : Array Value) (n : Nat) (dd : Option Addr) (sl : Array (Option Value)) (u : Tok) :
    Meets (Builtin.«tuple.__mul__» ⟨[.ref l, .int 1 u], []⟩) (fun _ R s => s.heap.get? l = some { cls := .type "tuple", dict := dd, data := .seq items n, slots := sl } ∧ R (.ok (.ret (Value.ref l))) s) :=
  .of_wp fun prog w A R s h => by
    obtain ⟨hp, g, d, tk, os⟩ := s
    obtain ⟨hl, h⟩ := h
    have f1 := AutoSeq1.idx_int
    have c1 : (items.isEmpty || (1 : Int) == 1) = true := by simp
    wp_walk using wpAny_loadPart' hl
    exact ⟨_, rfl, h⟩
/-- t * k for 1 ≤ k -/
def rRepA (K : PySem.W.Frag) : R2 := fun x y H Q => ∃ l k xs, x = .ref l ∧ y = .int k ∧ SqT K H l xs ∧ xs ≠ [] ∧ 1 ≤ k ∧ k ≤ 1000 ∧ xs.length ≤ 1000 ∧ (k = 1 → Q (.ref l) H) ∧ (k ≠ 1 → ∀ p, H p = none → Q (.ref p) (upd H p (.tup (List.replicate k.toNat xs).flatten)))
theorem op_repA {X : Cx} : OpR X (binaryOp .Mult) (rRepA X.K) := by
  intro pins s σ H x y v u Q I rx ry h
  obtain ⟨l, k, xs, rfl, rfl, hT, hne, h1, h2, hz, q1, q2⟩ := h
  by_cases hk : k = 1
  · subst hk
    cases rx
    obtain ⟨t, rfl⟩ := ry
    obtain ⟨its, r, ⟨⟨cls, dd, data, sl⟩, ho, hc, n, hd⟩, hs⟩ := I.tuple hT
    simp only at hc hd
    subst hc hd
    exact wpAny_binaryOp_repeat_ref (T := "tuple") (U := "int") (by decide) ⟨_, ho, rfl⟩ (fun s' => typeIs_int s' 1 t) noFill_tuple_mul F.fills_int_mul F.slot_int_rmul repeat_tuple F.slot_int_index.lookup
      (call_meets F.slot_int_rmul (typeIs_int s 1 t) F.entry_int_rmul (F.args_int_rmul_2 _ _) (int_rmul_tuple 1 t l its.toArray n dd sl)
        ⟨ho, rfl, ⟨_, ho, rfl⟩, call_meets F.slot_tuple_mul ⟨_, ho, rfl⟩ F.entry_tuple_mul (F.args_tuple_mul_2 _ _) (tuple_mul1 l its.toArray n dd sl t) ⟨ho, ⟨.ref l, H, I, rfl, q1 rfl⟩⟩⟩)
  · exact op_repT pins s σ H _ _ v u Q I rx ry ⟨l, k, xs, rfl, rfl, hT, hne, by omega, h2, hz, q2 hk⟩
end SH
set_option Elab.async false
set_option linter.all false
set_option maxRecDepth 100000
namespace SH
open PySem PySem.Spec PyProof.Rows L2
/-- d.get(k) of a written dict -/
def tKGet (K : PySem.W.Frag) (w : World) (td ty : TE) : TE := fun σ H Q => td σ H fun x H1 => ∃ a es n, x = .ref a ∧ KDict K w a es n ∧ ty σ H1 fun y H2 => ∃ (z : Str) (r : Option Value) (v0 : V), y = .str z ∧ PySem.W.nsIn K a z = some r ∧ RelV v0 (r.getD .none) ∧ Q v0 H2
theorem pe_kget {X : Cx} {o e : Expr} {apos cpos : Pos} {td ty : TE} (ho : PE X o td) (he : PE X e ty) (m : M1 X o "get" apos e cpos) : PE X (.Call (.Attribute o "get" apos) [e] [] cpos) (tKGet X.K X.w td ty) := by
  refine ⟨fun pins s σ H Q I h => ?_⟩
  refine wpAny_Call_method m.base m.few m.line PySem.F.plainAttrs_dict PySem.F.slot_dict_get PySem.F.type_dict_get (thn (ho.run pins s σ H _ I h) fun u s1 ⟨x, H1, I1, rx, a, es, n, ex, D, q1⟩ => ?_)
  subst ex
  obtain rfl : u = Value.ref a := rx
  refine ⟨kd_type D I1, fun b q => ?_, ?_⟩
  · cases q
    exact ⟨_, I1.kIn a _ D.at_, rfl⟩
  rw [m.trees]
  refine Calls.callWith_builtin rfl (Calls.evalArgs_plain (Calls.spliced_cons (thn (he.run pins s1 σ H1 _ I1 q1) fun iv s2 ⟨y, H2, I2, ry, z, r, v0, ey, en, rv, q2⟩ => Calls.spliced_nil ?_)))
  subst ey
  obtain ⟨t, rfl⟩ := ry
  refine call_meetsIn PySem.F.slot_dict_get (kd_type D I2) PySem.F.entry_dict_get (PySem.F.args_dict_get_2 _ _) (meets_dict_get (PySem.strKind X.prog X.w) a (PySem.strKind_is X.prog X.w z t) D.low) ⟨_, PySem.W.mapOf_K (prog := X.prog) I2.kIn D.at_ D.lit, ?_⟩
  refine ⟨v0, H2, I2.tok _, ?_, q2⟩
  rw [PySem.W.find_K D.at_ en]
  exact rv
def KTup (K : PySem.W.Frag) (a : Addr) (xs : List V) : Prop := ∃ (o : Obj) (its : Array Value) (n : Nat), K.lookup a = some o ∧ o.cls = .type "tuple" ∧ o.data = .seq its n ∧ its.size ≤ sizeLine ∧ Vals xs its.toList
theorem KTup.sq {K : PySem.W.Frag} {a : Addr} {xs : List V} (h : KTup K a xs) (H : Hp) : SqT K H a xs := .inr h
/-- the written bounds of a word -/
def KB (K : PySem.W.Frag) (tb : Addr) (l : List (Int × Int)) : Prop := ∃ ts : List Addr, KTup K tb (ts.map V.ref) ∧ Paired (fun (t : Addr) (p : Int × Int) => KTup K t [.int p.1, .int p.2]) ts l
abbrev sWithin : Stmt := top 12
abbrev sAre : Stmt := top 13
abbrev sIsLet : Stmt := top 14
structure TxtF (K : PySem.W.Frag) (w : World) (mg : Str → Option Value) : Prop where
  isinst : mg "isinstance" = none
  bool : mg "bool" = none
  int : mg "int" = none
  tuple : mg "tuple" = none
  len : mg "len" = none
  all : mg "all" = none
  zip : mg "zip" = none
  lets : ∃ d es n, mg "LETTERS" = some (.ref d) ∧ KDict K w d es n ∧ ∀ z : Lt, ∃ tb, PySem.W.nsIn K d z.word = some (some (.ref tb)) ∧ KB K tb z.bnds
section
variable {P : Program} {w : World} {K : PySem.W.Frag} {mg : Str → Option Value} {base : Heap}
theorem scWithin : FnScope ["value", "least", "greatest"] ["value", "least", "greatest"] (defScope sWithin) := ⟨rfl, rfl, rfl, by decide +kernel, rfl, by decide +kernel, by decide +kernel⟩
def spWithin : Sp := fun vs H Q _ => ∃ (v lo hi : Int), vs = [.int v, .int lo, .int hi] ∧ Q (.bl (decide (lo ≤ v) && decide (v ≤ hi))) H
theorem tyInt {K : PySem.W.Frag} {H : Hp} {i : Int} : TyX K H (.int i) (.type "int") := .base (by first | exact TyOf.int _ | constructor)
theorem ok_within {f : Addr} {fd : FuncData} (F : Fun K "is_within" "is_within" sWithin f fd) (T : TxtF K w mg) : FnOk P w K mg base CX0 1 f fd ["value", "least", "greatest"] spWithin := by
  refine F.ok scWithin (fun vs H Q E h => ?_) (fun cdv A0 outer s0 H vs Q E hr h => ?_)
  · obtain ⟨v, lo, hi, rfl, _⟩ := h
    rfl
  · obtain ⟨v, lo, hi, rfl, k⟩ := h
    refine ⟨_, pss_cons (ps_if (PW.pt (pw_or (pt_val (pe_callB call_isi (by rfl) T.isinst (by decide +kernel) (pa_cons (pv 0) (pa_cons (pe_bltn (v := .ty "bool") (by rfl) T.bool (by decide +kernel) rfl) pa_nil))))
      (pw_or1 (pt_not (pt_val (pe_callB call_isi (by rfl) T.isinst (by decide +kernel) (pa_cons (pv 0) (pa_cons (pe_bltn (v := .ty "int") (by rfl) T.int (by decide +kernel) rfl) pa_nil)))))))) (pss_one (ps_ret pe_bl)) pss_nil)
      (pss_one (ps_ret (pe_chain op_le op_le (pv 1) (pv 0) (pv 2)))), ?_⟩
    refine ⟨_, rfl, _, _, _, _, false, rfl, by first | exact .ty _ | constructor, tyInt, kit_ty (by decide +kernel), _, rfl, iteF ?_⟩
    refine ⟨_, rfl, _, _, _, _, true, rfl, by first | exact .ty _ | constructor, tyInt, kit_ty (by decide +kernel), _, rfl, iteF ?_⟩
    refine ⟨_, rfl, _, rfl, _, _, rfl, rfl, _, rfl, ?_⟩
    refine ite2 (fun c => ?_) (fun c => ?_)
    · rw [of_decide_eq_true c |> decide_eq_true] at k
      refine ⟨_, rfl, _, _, rfl, rfl, ?_⟩
      simpa using k
    · have c' : decide (lo ≤ v) = false := by simpa using c
      rw [c'] at k
      exact k
end
end SH
set_option Elab.async false
set_option linter.all false
set_option maxRecDepth 100000
namespace SH
open PySem PySem.Spec PyProof.Rows L2 RZ
theorem walk_zipT {K : PySem.W.Frag} {a b : Addr} {xs ys : List V} {n : Nat} (hn : n = min xs.length ys.length) : Walk (ItzT K a b) n (fun H => SqT K H a xs ∧ SqT K H b ys) (YPair (fun i => xs[i]?) (fun i => ys[i]?)) := by
  subst hn
  refine ⟨fun i _ hi q => ?_, fun _ q => ⟨xs, ys, q.1, q.2, by omega⟩, fun i H v H' _ q y => ?_⟩
  · have h1 : i < xs.length := by omega
    have h2 : i < ys.length := by omega
    exact ⟨xs, ys, xs[i], ys[i], q.1, q.2, by simp [h1], by simp [h2]⟩
  · obtain ⟨T, x, z, h1, h2, h3, h4, h5⟩ := y
    exact ⟨T, x, z, h1, h2, h3, h4 xs q.1, h5 ys q.2⟩
def inB (ns : List Int) (bs : List (Int × Int)) : Bool := decide (ns.length = bs.length) && (ns.zip bs).all fun p => decide (p.2.1 ≤ p.1) && decide (p.1 ≤ p.2.2)
section
variable {P : Program} {w : World} {K : PySem.W.Frag} {mg : Str → Option Value} {base : Heap}
abbrev nAre : List Str := ["numbers", "bounds", "number", "least", "greatest"]
theorem scAre : FnScope nAre ["numbers", "bounds"] (defScope sAre) := ⟨rfl, rfl, rfl, by decide +kernel, rfl, by decide +kernel, by decide +kernel⟩
def spAre (K : PySem.W.Frag) : Sp := fun vs H Q _ => ∃ (tn tb : Addr) (ns : List Int) (bs : List (Int × Int)), vs = [.ref tn, .ref tb] ∧ H tn = some (.tup (ns.map V.int)) ∧ ns.length ≤ 20 ∧ KB K tb bs ∧ ∀ H', Same H H' → Q (.bl (inB ns bs)) H'
theorem ok_are {f fW : Addr} {fd fdW : FuncData} (F : Fun K "are_within" "are_within" sAre f fd) (T : TxtF K w mg) (FW : Fun K "is_within" "is_within" sWithin fW fdW) (bW : Binds K fdW ["value", "least", "greatest"] []) (gW : mg "is_within" = some (.ref fW)) :
    FnOk P w K mg base CX0 2 f fd ["numbers", "bounds"] (spAre K) := by
  have GW := ok_within (P := P) (w := w) (mg := mg) (base := base) FW T
  refine F.ok scAre (fun vs H Q E h => ?_) (fun cdv A0 outer s0 H vs Q E hr h => ?_)
  · obtain ⟨tn, tb, ns, bs, rfl, _⟩ := h
    rfl
  · obtain ⟨tn, tb, ns, bs, rfl, hn, hnl, ⟨ts, hts, hp⟩, k⟩ := h
    have hpl := paired_len hp
    refine ⟨_, pss_cons (ps_if (pt_cmpR op_ne (pe_callB call_len_seq (by rfl) T.len PySem.boot_len (pa_cons (pv 0) pa_nil)) (pe_callB call_len_seq (by rfl) T.len PySem.boot_len (pa_cons (pv 1) pa_nil)) (nomark _)) (pss_one (ps_ret pe_bl)) pss_nil)
      (pss_one (ps_ret (pe_callB (cr_all rfl) (by rfl) T.all (by decide +kernel) (pa_cons (pe_lc (own := [("number", 2), ("least", 3), ("greatest", 4)])
        (g := gTup K 2 (gCons (gName 2) (gCons (gTup K 2 (gCons (gName 3) (gCons (gName 4) gNil))) gNil))) (te := tCall spWithin [] E0 (tCons (tVar 2) (tCons (tVar 3) (tCons (tVar 4) tNil))))
        (by rfl) scAre.nd (pi_zipA (by rfl) T.zip (pa_cons (pv 0) (pa_cons (pv 1) pa_nil))) (blkOk_by (own := [("number", 2), ("least", 3), ("greatest", 4)]) (N := nAre) (sc := defScope sAre) (by decide +kernel))
        (fun _ _ _ _ _ => pg_tup rfl (pgs_cons (pg_name (i := 2) scAre.nd rfl (Or.inl rfl)) (pgs_cons (pg_tup rfl (pgs_cons (pg_name (i := 3) scAre.nd rfl (Or.inl rfl)) (pgs_cons (pg_name (i := 4) scAre.nd rfl (Or.inl rfl)) pgs_nil))) pgs_nil)))
        (fun _ _ _ _ _ => pts_nil) (fun _ _ _ _ _ => pe_call GW (hr.mono (by decide)) rfl gW FW.kp bW .nil pass0 (pa_cons (pv 2) (pa_cons (pv 3) (pa_cons (pv 4) pa_nil))))) pa_nil)))), ?_⟩
    refine ⟨_, rfl, tn, _, rfl, .inr (SqT.of hn), _, rfl, tb, _, rfl, .inr (hts.sq H), rfl, _, rfl, ?_⟩
    rw [List.length_map, List.length_map, hpl]
    by_cases hl : ns.length = bs.length
    · rw [decide_eq_true (show V.int (ns.length : Int) = V.int (bs.length : Int) by rw [hl])]
      refine iteF ?_
      refine ⟨_, rfl, _, rfl, tn, tb, _, _, rfl, .inr ⟨SqT.of hn, hts.sq H, fun D hD => ?_⟩⟩
      refine lc_it (walk_zipT (xs := ns.map V.int) (ys := ts.map V.ref) (n := ns.length) (by rw [List.length_map, List.length_map, hpl, ← hl]; simp)) (fun i H2 => Same H H2 ∧ H2 D = some (.lst (((ns.zip bs).take i).map fun p => V.bl (decide (p.2.1 ≤ p.1) && decide (p.1 ≤ p.2.2))))) ?_ ?_ ?_ ?_
      · exact ⟨Same.new _ hD, upd_same⟩
      · rintro i H2 _ ⟨s2, _⟩
        exact ⟨SqT.of (s2 _ _ hn), hts.sq H2⟩
      · rintro i x H2 H3 hi ⟨s2, hD2⟩ ⟨Tp, x1, x2, rfl, hT, rfl, e1, e2⟩
        simp only [List.getElem?_map] at e1 e2
        have hib : i < bs.length := by omega
        have hit : i < ts.length := by omega
        rw [List.getElem?_eq_getElem hi] at e1
        rw [List.getElem?_eq_getElem hit] at e2
        obtain rfl : V.int ns[i] = x1 := Option.some.inj e1
        obtain rfl : V.ref ts[i] = x2 := Option.some.inj e2
        have hk := paired_ix hp (List.getElem?_eq_getElem hit) (List.getElem?_eq_getElem hib)
        refine ⟨Tp, _, rfl, SqT.of upd_same, rfl, _, _, rfl, _, _, rfl, ⟨ts[i], _, rfl, hk.sq _, rfl, _, _, rfl, _, _, rfl, rfl, ?_⟩⟩
        refine ⟨rfl, rfl, ?_⟩
        refine ⟨_, rfl, _, rfl, _, rfl, ns[i], bs[i].1, bs[i].2, rfl, ?_⟩
        have hD3 : upd H2 Tp (.tup [V.int ns[i], V.ref ts[i]]) D = some (.lst (((ns.zip bs).take i).map fun p => V.bl (decide (p.2.1 ≤ p.1) && decide (p.1 ≤ p.2.2)))) := by
          rw [upd_ne (ne_of_none hD2 hT)]; exact hD2
        refine ⟨_, hD3, ?_, ?_, ?_⟩
        · rw [List.length_map, List.length_take]; exact small1000 (by omega)
        · exact Same.mut _ (Same.mut _ s2 (s2.free hT)) hD
        · rw [upd_same, List.take_add_one]
          have e3 : (ns.zip bs)[i]? = some (ns[i], bs[i]) := by rw [List.getElem?_zip_eq_some (z := (ns[i], bs[i])) |>.mpr ⟨List.getElem?_eq_getElem hi, (List.getElem?_eq_getElem hib : bs[i]? = some bs[i])⟩]
          rw [e3, List.map_append]; rfl
      · rintro H2 ⟨s2, hD2⟩
        have e4 : (ns.zip bs).take ns.length = ns.zip bs := List.take_of_length_le (by rw [List.length_zip]; omega)
        rw [e4] at hD2
        refine ⟨D, (ns.zip bs).map fun p => decide (p.2.1 ≤ p.1) && decide (p.1 ≤ p.2.2), rfl, SqL.of (by rw [hD2, List.map_map]; rfl), ?_⟩
        have e5 : inB ns bs = ((ns.zip bs).map fun p => decide (p.2.1 ≤ p.1) && decide (p.1 ≤ p.2.2)).all id := by
          unfold inB
          rw [decide_eq_true hl, List.all_map]; rfl
        have k := k H2 s2
        rw [e5] at k
        exact k
    · rw [decide_eq_false (show ¬ V.int (ns.length : Int) = V.int (bs.length : Int) from fun z => hl (by have := V.int.inj z; omega))]
      have e5 : inB ns bs = false := by unfold inB; rw [decide_eq_false hl]; rfl
      have k := k H (Same.refl H)
      rw [e5] at k
      exact k
end
end SH
set_option Elab.async false
set_option linter.all false
set_option maxRecDepth 100000
namespace SH
open PySem PySem.Spec PyProof.Rows L2
theorem Lt.len (z : Lt) : z.nums.length = z.bnds.length := by cases z <;> rfl
theorem Lt.ok_inB {z : Lt} (h : z.ok) : inB z.nums z.bnds = true := by
  unfold inB
  rw [decide_eq_true z.len, Bool.true_and, List.all_eq_true]
  intro p hp
  have := h p hp
  rw [decide_eq_true this.1, decide_eq_true this.2]; rfl
theorem Lt.nlen (z : Lt) : z.nums.length ≤ 6 := by cases z <;> simp [Lt.nums]
section
variable {P : Program} {w : World} {K : PySem.W.Frag} {mg : Str → Option Value} {base : Heap}
theorem scIsLet : FnScope ["letter", "bounds"] ["letter"] (defScope sIsLet) := ⟨rfl, rfl, rfl, by decide +kernel, rfl, by decide +kernel, by decide +kernel⟩
def spIsLet : Sp := fun vs H Q _ => ∃ (t : Addr) (z : Lt), vs = [.ref t] ∧ H t = some (.tup z.vals) ∧ z.ok ∧ ∀ H', Same H H' → Q (.bl true) H'
theorem ok_isLet {f fA : Addr} {fd fdA : FuncData} (F : Fun K "is_letter" "is_letter" sIsLet f fd) (T : TxtF K w mg)
    (GA : FnOk P w K mg base CX0 2 fA fdA ["numbers", "bounds"] (spAre K)) (bA : Binds K fdA ["numbers", "bounds"] []) (gA : mg "are_within" = some (.ref fA)) (kA : PySem.W.keepIn K (.ref fA) = true) :
    FnOk P w K mg base CX0 3 f fd ["letter"] spIsLet := by
  obtain ⟨d, es, n, gL, KD, hL⟩ := T.lets
  refine F.ok scIsLet (fun vs H Q E h => ?_) (fun cdv A0 outer s0 H vs Q E hr h => ?_)
  · obtain ⟨t, z, rfl, _⟩ := h
    rfl
  · obtain ⟨t, z, rfl, ht, hz, k⟩ := h
    obtain ⟨tb, h1, h2⟩ := hL z
    refine ⟨_, pss_cons (ps_if (PW.pt (pw_or (pt_not (pt_val (pe_callB call_isi (by rfl) T.isinst (by decide +kernel) (pa_cons (pv 0) (pa_cons (pe_bltn (v := .ty "tuple") (by rfl) T.tuple (by decide +kernel) rfl) pa_nil)))))
        (pw_or1 (pt_cmpR op_eq (pe_callB call_len_seq (by rfl) T.len PySem.boot_len (pa_cons (pv 0) pa_nil)) pe_int (nomark _))))) (pss_one (ps_ret pe_bl)) pss_nil)
      (pss_cons (ps_set (i := 1) scIsLet.nd rfl (Or.inl rfl) (pe_kget (pe_glob rfl gL (v := .ref d) rfl) (pe_ix ix_tup (pv 0) pe_int (fun _ _ => rfl)) ⟨rfl, rfl, rfl, rfl⟩))
      (pss_one (ps_ret (pe_and (pe_cmpR op_notN (pv 1) pe_non (nomark _)) (pe_one (pe_call GA hr rfl gA kA bA .nil pass0 (pa_cons (pe_slice sl_tup (pv 0) (po_some pe_int) po_none) (pa_cons (pv 1) pa_nil)))))))), ?_⟩
    refine ⟨_, rfl, _, _, _, _, true, rfl, by first | exact .ty _ | constructor, .base (.tup ht), kit_ty (by decide +kernel), _, rfl, iteF ?_⟩
    refine ⟨_, rfl, t, _, rfl, .inr (SqT.of ht), rfl, _, rfl, ?_⟩
    have e0 : decide (V.int ((z.vals.length : Nat) : Int) = V.int 0) = false := decide_eq_false (fun q => by have := V.int.inj q; unfold Lt.vals at this; simp at this; omega)
    rw [e0]
    refine iteF ?_
    refine ⟨d, es, n, rfl, KD, _, rfl, _, _, _, V.str z.word, rfl, rfl, SqT.of ht, at_of (j := 0) rfl rfl, z.word, _, V.ref tb, rfl, h1, rfl, ?_⟩
    refine ⟨_, rfl, rfl, _, rfl, ?_⟩
    refine iteT ?_
    refine ⟨_, rfl, _, rfl, t, _, rfl, SqT.of ht, ?_, fun p hp => ?_⟩
    · intro q
      have := q.1
      revert this
      unfold Lt.vals
      simp [HT.sIx]
    · refine ⟨_, rfl, p, tb, z.nums, z.bnds, rfl, ?_, Nat.le_trans z.nlen (by decide), h2, fun H' s => ?_⟩
      · rw [upd_same]
        congr 2
        cases z <;> rfl
      · rw [Lt.ok_inB hz]
        exact k H' ((Same.new _ hp).trans s)
end
end SH
set_option Elab.async false
set_option linter.all false
set_option maxRecDepth 100000
namespace SH
open PySem PySem.Spec PyProof.Rows L2
abbrev sMix : Stmt := top 23
abbrev sNext : Stmt := top 24
structure MixH where
  a : Addr
  cl : Addr
  m : Int
  cells : List Int
  pos : Int
def mixCells (m : MixH) : Cells := [(m.a, .lst [.int m.m, .ref m.cl, .int m.pos]), (m.cl, .lst (m.cells.map V.int))]
structure MixOk (m : MixH) : Prop where
  m0 : 0 ≤ m.m
  m1 : m.m < 2147483648
  len : m.cells.length ≤ 63
  pos : 0 ≤ m.pos
structure TxtM (mg : Str → Option Value) : Prop where
  list : mg "list" = none
  max : mg "max" = none
  len : mg "len" = none
section
variable {P : Program} {w : World} {K : PySem.W.Frag} {mg : Str → Option Value} {base : Heap}
abbrev nMix : List Str := ["_law_script", "_law_seed", "_law_mixed", "_law_cell"]
theorem scMix : FnScope nMix ["_law_script", "_law_seed"] (defScope sMix) := ⟨rfl, rfl, rfl, by decide +kernel, rfl, by decide +kernel, by decide +kernel⟩
def spMix : Sp := fun vs H Q _ => ∃ (sa : Addr) (ns : List Int) (seed : Int), vs = [.ref sa, .int seed] ∧ SqL K H sa (ns.map V.int) ∧ ns.length ≤ 63 ∧ 0 ≤ seed ∧ seed < 2147483648 ∧
  ∀ m H', MixOk m → Has H' (mixCells m) → Same H H' → Q (.ref m.a) H'
theorem ok_mix {f : Addr} {fd : FuncData} (F : Fun K "_law_mix" "_law_mix" sMix f fd) (T : TxtM mg) : FnOk P w K mg base CX0 1 f fd ["_law_script", "_law_seed"] (spMix (K := K)) := by
  refine F.ok scMix (fun vs H Q E h => ?_) (fun cdv A0 outer s0 H vs Q E hr h => ?_)
  · obtain ⟨sa, ns, seed, rfl, _⟩ := h
    rfl
  · obtain ⟨sa, ns, seed, rfl, hs, hl, s0, s1, k⟩ := h
    refine ⟨_, pss_cons (ps_set (i := 2) scMix.nd rfl (Or.inl rfl) (pv 1))
      (pss_cons (ps_for PassesOwn.never rfl (pi_list (pv 0)) (pg_name (i := 3) scMix.nd rfl (Or.inl rfl))
        (pss_one (ps_set (i := 2) scMix.nd rfl (Or.inl rfl) (pe_op op_mod (pe_op op_add (pe_op op_add (pe_op op_mul (pv 2) pe_int) (pe_op op_mod (pv 3) pe_int)) pe_int) pe_int))))
      (pss_one (ps_ret (pe_lst (pa_cons (pv 2) (pa_cons (pe_callTy call_list_of (by rfl) T.list (show bootBuiltins "list" = some (.type "list") by decide +kernel) (pa_cons (pv 0) pa_nil)) (pa_cons pe_int pa_nil))))))), ?_⟩
    refine ⟨_, rfl, ?_⟩
    refine ⟨_, rfl, sa, rfl, ⟨_, hs⟩, for_list (K := K) (a := sa) (xs := ns.map V.int) (fun i σ H1 => H1 = H ∧ ∃ mm c, σ = [some (.ref sa), some (.int seed), some (.int mm), c] ∧ 0 ≤ mm ∧ mm < 2147483648) ⟨rfl, _, _, rfl, s0, s1⟩ (fun i σ H1 _ p => by rw [p.1]; exact hs) ?_ ?_⟩
    · rintro i x σ H1 hx ⟨rfl, mm, c, rfl, m0, m1⟩
      rw [List.getElem?_map] at hx
      cases en : ns[i]? with
      | none => rw [en] at hx; cases hx
      | some n =>
        rw [en] at hx
        obtain rfl : V.int n = x := Option.some.inj hx
        refine ⟨_, rfl, _, _, rfl, rfl, .inl ⟨by omega, by omega⟩, _, rfl, _, _, rfl, rfl, (by show (0 : Int) < 2147483629; decide), _, _, rfl, rfl, _, _, rfl, rfl, _, _, rfl, rfl, (by show (0 : Int) < 2147483647; decide), ?_⟩
        refine ⟨rfl, _, _, rfl, Int.emod_nonneg _ (by decide), Int.lt_trans (Int.emod_lt_of_pos _ (by decide)) (by decide)⟩
    · rintro σ H1 ⟨rfl, mm, c, rfl, m0, m1⟩
      refine ⟨_, rfl, _, rfl, sa, _, rfl, .inl hs, fun cl hcl => ⟨small (by show 3 ≤ 1000; decide), fun a ha => ?_⟩⟩
      refine k ⟨a, cl, mm, ns, 0⟩ _ ⟨m0, m1, hl, by show (0 : Int) ≤ 0; decide⟩ ?_ ((Same.new _ hcl).trans (Same.new _ ha))
      have nn : cl ≠ a := ne_of_none upd_same ha
      refine ⟨fun p hp => ?_, ?_⟩
      · rcases List.mem_cons.mp hp with e | e
        · subst e; exact upd_same
        · rw [List.mem_singleton.mp e]
          show upd _ a _ cl = _
          rw [upd_ne nn, upd_same]
      · show [a, cl].Nodup
        simp [nn.symm]
abbrev nNext : List Str := ["_law_h", "_law_many", "_law_at", "_law_cell"]
theorem scNext : FnScope nNext ["_law_h", "_law_many"] (defScope sNext) := ⟨rfl, rfl, rfl, by decide +kernel, rfl, by decide +kernel, by decide +kernel⟩
def spNext : Sp := fun vs H Q _ => ∃ (A B : Cells) (m : MixH) (many : Int), vs = [.ref m.a, .int many] ∧ Has H (A ++ (mixCells m ++ B)) ∧ MixOk m ∧ 1 ≤ many ∧ many ≤ 100000 ∧
  ∀ (r : Int) m' H', 0 ≤ r → r < many → m'.a = m.a → MixOk m' → Has H' (A ++ (mixCells m' ++ B)) → Q (.int r) H'
theorem eqv_nil : ∀ ns : List Int, PyData.eqv (.list (ns.map PyData.int)) (.list []) = decide (ns = []) := fun ns => by
  cases ns with
  | nil => rfl
  | cons n ns => rfl
theorem p18n {c : Int} (h : c < 1000000000000000000) : ¬ (((10 : Int) ^ (18 : Int).toNat) ≤ c) := by
  have : ((10 : Int) ^ (18 : Int).toNat) = 1000000000000000000 := by decide
  omega
theorem p18y {c : Int} (h : 1000000000000000000 ≤ c) : ((10 : Int) ^ (18 : Int).toNat) ≤ c := by
  have : ((10 : Int) ^ (18 : Int).toNat) = 1000000000000000000 := by decide
  omega
theorem dp_ints {H : Hp} : ∀ ns : List Int, DpAll K H (ns.map V.int) (ns.map PyData.int)
  | [] => .nil
  | n :: ns => .cons (.int n) (dp_ints ns)
theorem ok_next {f : Addr} {fd : FuncData} (F : Fun K "_law_next" "_law_next" sNext f fd) (T : TxtM mg) : FnOk P w K mg base CX0 1 f fd ["_law_h", "_law_many"] spNext := by
  refine F.ok scNext (fun vs H Q E h => ?_) (fun cdv A0 outer s0 H vs Q E hr h => ?_)
  · obtain ⟨A, B, m, many, rfl, _⟩ := h
    rfl
  · obtain ⟨A, B, m, many, rfl, hh, ok, y1, y2, k⟩ := h
    refine ⟨_, pss_cons (ps_set (i := 2) scNext.nd rfl (Or.inl rfl) (pe_op op_mod (pe_ix ix_list (pv 0) pe_int (fun _ _ => rfl)) (pe_callB (call_max2 rfl) (by rfl) T.max (by decide +kernel) (pa_cons pe_int (pa_cons (pe_callB call_len_seq (by rfl) T.len PySem.boot_len (pa_cons (pe_ix ix_list (pv 0) pe_int (fun _ _ => rfl)) pa_nil)) pa_nil)))))
      (pss_cons (ps_set (i := 3) scNext.nd rfl (Or.inl rfl) (pe_ifExp (pt_cmpR (op_neD hr.units) (pe_ix ix_list (pv 0) pe_int (fun _ _ => rfl)) (pe_lst pa_nil) (nomark _)) (pe_ix ix_list (pe_ix ix_list (pv 0) pe_int (fun _ _ => rfl)) (pv 2) (fun _ _ => rfl)) pe_int))
      (pss_cons (ps_if (pt_cmpR op_ge (pv 3) (pe_op op_pow pe_int pe_int) (nomark _))
        (pss_cons (ps_asg (pe_op op_fdiv (pv 3) (pv 1)) (pg_sub (pe_ix ix_list (pv 0) pe_int (fun _ _ => rfl)) (pv 2) set_list)) (pss_one (ps_ret (pe_op op_mod (pv 3) (pv 1))))) pss_nil)
      (pss_cons (ps_asg (pe_op op_mod (pe_op op_add (pe_op op_add (pe_op op_mul (pe_ix ix_list (pv 0) pe_int (fun _ _ => rfl)) pe_int) (pe_op op_mul (pv 3) pe_int)) pe_int) pe_int) (pg_sub (pv 0) pe_int set_list))
      (pss_cons (ps_asg (pe_op op_add (pe_ix ix_list (pv 0) pe_int (fun _ _ => rfl)) pe_int) (pg_sub (pv 0) pe_int set_list))
      (pss_one (ps_ret (pe_op op_mod (pe_op op_fdiv (pe_ix ix_list (pv 0) pe_int (fun _ _ => rfl)) pe_int) (pv 1)))))))), ?_⟩
    obtain ⟨ma, mcl, mm, cells, pos⟩ := m
    obtain ⟨m0, m1, hlen, hpos⟩ := ok
    simp only at m0 m1 hlen hpos
    have h0 : H ma = some (.lst [.int mm, .ref mcl, .int pos]) := hh.get 0 rfl
    have h1 : H mcl = some (.lst (cells.map V.int)) := hh.get 1 rfl
    refine ⟨_, rfl, _, _, _, .int pos, rfl, rfl, SqL.of h0, at_of (j := 2) rfl rfl, _, rfl, _, _, _, .ref mcl, rfl, rfl, SqL.of h0, at_of (j := 1) rfl rfl, _, _, rfl, .inl (SqL.of h1), _, _, rfl, _, _, rfl, rfl, ?_, ?_⟩
    · show 0 < (if ((cells.map V.int).length : Int) > 1 then ((cells.map V.int).length : Int) else 1)
      split <;> omega
    generalize hL : (if ((cells.map V.int).length : Int) > 1 then ((cells.map V.int).length : Int) else 1) = L
    have hL1 : 1 ≤ L ∧ (cells ≠ [] → L = (cells.length : Int)) := by
      rw [← hL, List.length_map]
      refine ⟨by split <;> omega, fun hne => ?_⟩
      have : 0 < cells.length := List.length_pos_iff.mpr hne
      split <;> omega
    have ha0 : 0 ≤ pos % L := Int.emod_nonneg _ (by omega)
    have ha1 : pos % L < L := Int.emod_lt_of_pos _ (by omega)
    generalize hat : pos % L = at_ at ha0 ha1
    simp only [hat]
    refine ⟨_, rfl, _, _, _, .ref mcl, rfl, rfl, SqL.of h0, at_of (j := 1) rfl rfl, small (by show 0 ≤ 1000; decide), fun q hq => ?_⟩
    have hh1 := hh.past hq (.lst [])
    have h0' : upd H q (.lst []) ma = some (.lst [.int mm, .ref mcl, .int pos]) := hh1.get 0 rfl
    have h1' : upd H q (.lst []) mcl = some (.lst (cells.map V.int)) := hh1.get 1 rfl
    refine ⟨.list (cells.map PyData.int), .list [], .lst (SqL.of h1') (dp_ints cells), .lst (SqL.of upd_same) .nil, PySem.W.ke_shaped_ints _, PySem.W.ke_shaped_ints [], ?_⟩
    rw [eqv_nil]
    generalize upd H q (.lst []) = H1 at hh1 h0' h1'
    by_cases hne : cells = []
    · rw [decide_eq_true hne]
      refine ⟨_, rfl, iteF ?_⟩
      refine ⟨_, rfl, _, _, rfl, rfl, (by show CPow 10 18; unfold CPow; decide), _, _, rfl, rfl, _, rfl, ?_⟩
      rw [decide_eq_false (show ¬ (((10 : Int) ^ (18 : Int).toNat) ≤ (0 : Int)) from p18n (by omega))]
      refine iteF ?_
      refine ⟨_, rfl, _, _, _, .int mm, rfl, rfl, SqL.of h0', at_of (j := 0) rfl rfl, _, _, rfl, rfl, .inr ⟨by omega, by omega⟩, _, rfl, _, _, rfl, rfl, .inr ⟨by omega, by omega⟩, _, _, rfl, rfl, _, _, rfl, rfl, _, _, rfl, rfl, (by show (0 : Int) < 2147483647; decide), ?_⟩
      have m20 : 0 ≤ ((mm * 48271 + (0 : Int) * 69621 + 11) % 2147483647) := Int.emod_nonneg _ (by decide)
      have m21 : ((mm * 48271 + (0 : Int) * 69621 + 11) % 2147483647) < 2147483647 := Int.emod_lt_of_pos _ (by decide)
      refine ⟨_, rfl, _, _, _, 0, rfl, rfl, h0', rfl, ?_⟩
      have g2 := hh1.set 0 (o := .lst [.int mm, .ref mcl, .int pos]) rfl (.lst [.int ((mm * 48271 + (0 : Int) * 69621 + 11) % 2147483647), .ref mcl, .int pos])
      refine ⟨_, rfl, _, _, _, .int pos, rfl, rfl, SqL.of (g2.get 0 rfl), at_of (j := 2) rfl rfl, _, _, rfl, rfl, ?_⟩
      refine ⟨_, rfl, _, _, _, 2, rfl, rfl, g2.get 0 rfl, rfl, ?_⟩
      have g3 := g2.set 0 (o := .lst [.int ((mm * 48271 + (0 : Int) * 69621 + 11) % 2147483647), .ref mcl, .int pos]) rfl (.lst [.int ((mm * 48271 + (0 : Int) * 69621 + 11) % 2147483647), .ref mcl, .int (pos + 1)])
      refine ⟨_, rfl, _, _, _, .int ((mm * 48271 + (0 : Int) * 69621 + 11) % 2147483647), rfl, rfl, SqL.of (g3.get 0 rfl), at_of (j := 0) rfl rfl, _, _, rfl, rfl, (by show (0 : Int) < 7 ∧ (7 : Int) < 1073741824; decide), _, rfl, _, _, rfl, rfl, (by show (0 : Int) < many; omega), ?_⟩
      exact k _ ⟨ma, mcl, ((mm * 48271 + (0 : Int) * 69621 + 11) % 2147483647), cells, pos + 1⟩ _ (Int.emod_nonneg _ (by omega)) (Int.emod_lt_of_pos _ (by omega)) rfl ⟨m20, by show ((mm * 48271 + (0 : Int) * 69621 + 11) % 2147483647) < _; omega, hlen, by show 0 ≤ pos + 1; omega⟩ g3
    · rw [decide_eq_false hne]
      refine ⟨_, rfl, iteT ?_⟩
      have hL2 := hL1.2 hne
      have hal : at_.toNat < cells.length := by omega
      have ea : cells[at_.toNat]? = some cells[at_.toNat] := List.getElem?_eq_getElem hal
      generalize cells[at_.toNat] = cell at ea
      refine ⟨_, rfl, _, _, _, .ref mcl, rfl, rfl, SqL.of h0', at_of (j := 1) rfl rfl, _, rfl, _, _, _, .int cell, rfl, rfl, SqL.of h1', at_of (j := at_.toNat) (by omega) (by rw [List.getElem?_map, ea]; rfl), ?_⟩
      refine ⟨_, rfl, _, _, rfl, rfl, (by show CPow 10 18; unfold CPow; decide), _, _, rfl, rfl, _, rfl, ?_⟩
      by_cases hc : (1000000000000000000 : Int) ≤ cell
      · rw [decide_eq_true (show ((10 : Int) ^ (18 : Int).toNat) ≤ cell from p18y (by omega))]
        refine iteT ?_
        refine ⟨_, rfl, _, rfl, _, _, rfl, rfl, ⟨by omega, by omega⟩, _, rfl, _, _, _, .ref mcl, rfl, rfl, SqL.of h0', at_of (j := 1) rfl rfl, _, rfl, _, _, _, at_.toNat, rfl, rfl, h1', ?_, ?_⟩
        · rw [List.length_map]
          unfold ixN
          rw [if_pos (by omega), if_pos (by omega)]
        · have g2 := hh1.set 1 (o := .lst (cells.map V.int)) rfl (.lst ((cells.set at_.toNat (cell / many)).map V.int))
          rw [← List.map_set] 
          refine ⟨_, rfl, _, rfl, _, _, rfl, rfl, (by show (0 : Int) < many; omega), ?_⟩
          exact k _ ⟨ma, mcl, mm, cells.set at_.toNat (cell / many), pos⟩ _ (Int.emod_nonneg _ (by omega)) (Int.emod_lt_of_pos _ (by omega)) rfl ⟨m0, m1, by show (cells.set _ _).length ≤ 63; rw [List.length_set]; exact hlen, hpos⟩ g2
      · skip
        rw [decide_eq_false (show ¬ (((10 : Int) ^ (18 : Int).toNat) ≤ cell) from p18n (by omega))]
        refine iteF ?_
        refine ⟨_, rfl, _, _, _, .int mm, rfl, rfl, SqL.of h0', at_of (j := 0) rfl rfl, _, _, rfl, rfl, .inr ⟨by omega, by omega⟩, _, rfl, _, _, rfl, rfl, .inr ⟨by omega, by omega⟩, _, _, rfl, rfl, _, _, rfl, rfl, _, _, rfl, rfl, (by show (0 : Int) < 2147483647; decide), ?_⟩
        have m20 : 0 ≤ ((mm * 48271 + cell * 69621 + 11) % 2147483647) := Int.emod_nonneg _ (by decide)
        have m21 : ((mm * 48271 + cell * 69621 + 11) % 2147483647) < 2147483647 := Int.emod_lt_of_pos _ (by decide)
        refine ⟨_, rfl, _, _, _, 0, rfl, rfl, h0', rfl, ?_⟩
        have g2 := hh1.set 0 (o := .lst [.int mm, .ref mcl, .int pos]) rfl (.lst [.int ((mm * 48271 + cell * 69621 + 11) % 2147483647), .ref mcl, .int pos])
        refine ⟨_, rfl, _, _, _, .int pos, rfl, rfl, SqL.of (g2.get 0 rfl), at_of (j := 2) rfl rfl, _, _, rfl, rfl, ?_⟩
        refine ⟨_, rfl, _, _, _, 2, rfl, rfl, g2.get 0 rfl, rfl, ?_⟩
        have g3 := g2.set 0 (o := .lst [.int ((mm * 48271 + cell * 69621 + 11) % 2147483647), .ref mcl, .int pos]) rfl (.lst [.int ((mm * 48271 + cell * 69621 + 11) % 2147483647), .ref mcl, .int (pos + 1)])
        refine ⟨_, rfl, _, _, _, .int ((mm * 48271 + cell * 69621 + 11) % 2147483647), rfl, rfl, SqL.of (g3.get 0 rfl), at_of (j := 0) rfl rfl, _, _, rfl, rfl, (by show (0 : Int) < 7 ∧ (7 : Int) < 1073741824; decide), _, rfl, _, _, rfl, rfl, (by show (0 : Int) < many; omega), ?_⟩
        exact k _ ⟨ma, mcl, ((mm * 48271 + cell * 69621 + 11) % 2147483647), cells, pos + 1⟩ _ (Int.emod_nonneg _ (by omega)) (Int.emod_lt_of_pos _ (by omega)) rfl ⟨m20, by show ((mm * 48271 + cell * 69621 + 11) % 2147483647) < _; omega, hlen, by show 0 ≤ pos + 1; omega⟩ g3
end
end SH
set_option Elab.async false
set_option linter.all false
set_option maxRecDepth 100000
namespace SH
open PySem PySem.Spec PyProof.Rows L2
theorem catA_mk {K : PySem.W.Frag} {H : Hp} {a b : Addr} {xs ys : List V} {Q : VK} (ha : H a = some (.tup xs)) (hb : H b = some (.tup ys)) (hz : xs.length + ys.length ≤ 1000)
    (k : ∀ p H', Same H H' → H' p = some (.tup (xs ++ ys)) → Q (.ref p) H') : rCatA K (.ref a) (.ref b) H Q :=
  ⟨a, b, xs, ys, rfl, rfl, SqT.of ha, SqT.of hb, small hz, fun e => k b H (Same.refl H) (by rw [e]; exact hb), fun _ e => k a H (Same.refl H) (by rw [e, List.append_nil]; exact ha), fun _ _ p hp => k p _ (Same.new _ hp) upd_same⟩
theorem slA_mk {K : PySem.W.Frag} {H : Hp} {a : Addr} {xs : List V} {lo hi : Option Int} {Q : VK} (ha : H a = some (.tup xs))
    (k : ∀ p H', Same H H' → H' p = some (.tup (cutV xs lo hi)) → Q (.ref p) H') : rSlA K (.ref a) lo hi H Q :=
  ⟨a, xs, rfl, SqT.of ha, fun e => k a H (Same.refl H) (by
    have : cutV xs lo hi = xs := by unfold cutV; rw [e.1, e.2]; simp
    rw [this]; exact ha), fun _ p hp => k p _ (Same.new _ hp) upd_same⟩
theorem repA_mk {K : PySem.W.Frag} {H : Hp} {a : Addr} {v : V} {n : Int} {Q : VK} (ha : H a = some (.tup [v])) (h1 : 1 ≤ n) (h2 : n ≤ 1000)
    (k : ∀ p H', Same H H' → H' p = some (.tup (List.replicate n.toNat v)) → Q (.ref p) H') : rRepA K (.ref a) (.int n) H Q := by
  refine ⟨a, n, [v], rfl, rfl, SqT.of ha, by simp, h1, h2, by simp, fun e => k a H (Same.refl H) (by rw [e]; exact ha), fun _ p hp => k p _ (Same.new _ hp) ?_⟩
  rw [upd_same]
  congr 2
  generalize n.toNat = m
  induction m with
  | zero => rfl
  | succ m ih => rw [List.replicate_succ, List.flatten_cons, ih]; rfl
theorem cut_take (xs : List V) (w : Nat) : cutV xs none (some (w : Int)) = xs.take w := by
  unfold cutV
  rw [HT.sIx_none, HT.sIx_nat, List.drop_zero, Nat.sub_zero]
  rcases Nat.le_total w xs.length with h | h
  · rw [Nat.min_eq_left h]
  · rw [Nat.min_eq_right h, List.take_of_length_le (Nat.le_refl _), List.take_of_length_le h]
theorem cut_drop (xs : List V) (w : Nat) : cutV xs (some (w : Int)) none = xs.drop w := by
  unfold cutV
  rw [HT.sIx_none, HT.sIx_nat]
  rcases Nat.le_total w xs.length with h | h
  · rw [Nat.min_eq_left h, List.take_of_length_le (by rw [List.length_drop]; exact Nat.le_refl _)]
  · rw [Nat.min_eq_right h, Nat.sub_self, List.take_zero, List.drop_of_length_le h]
/-- marks: a tuple of h tuples of w -/
def RowsAt (H : Hp) (rows : List Addr) (w : Nat) : Prop := ∀ r ∈ rows, ∃ xs, H r = some (.tup xs) ∧ xs.length = w
def MarksAt (H : Hp) (mt : Addr) (w h : Nat) : Prop := ∃ rows : List Addr, H mt = some (.tup (rows.map V.ref)) ∧ rows.length = h ∧ RowsAt H rows w
theorem RowsAt.keep {H H' : Hp} {rows : List Addr} {w : Nat} (r : RowsAt H rows w) (k : KeepT H H') : RowsAt H' rows w := fun x hx => let ⟨xs, a, b⟩ := r x hx; ⟨xs, k _ _ a, b⟩
theorem MarksAt.keep {H H' : Hp} {mt : Addr} {w h : Nat} (r : MarksAt H mt w h) (k : KeepT H H') : MarksAt H' mt w h := let ⟨rows, a, b, c⟩ := r; ⟨rows, k _ _ a, b, c.keep k⟩
structure TxtG (mg : Str → Option Value) : Prop where
  list : mg "list" = none
  len : mg "len" = none
  range : mg "range" = none
  tuple : mg "tuple" = none
  sorted : mg "sorted" = none
  min : mg "min" = none
abbrev sSized : Stmt := top 28
section
variable {P : Program} {w : World} {K : PySem.W.Frag} {mg : Str → Option Value} {base : Heap}
abbrev nSized : List Str := ["_law_marks", "_law_wide", "_law_high", "_law_found", "_law_y", "_law_row"]
theorem scSized : FnScope nSized ["_law_marks", "_law_wide", "_law_high"] (defScope sSized) := ⟨rfl, rfl, rfl, by decide +kernel, rfl, by decide +kernel, by decide +kernel⟩
def spSized : Sp := fun vs H Q _ => ∃ (mt : Addr) (w h : Nat) (w' h' : Nat), vs = [.ref mt, .int (w' : Nat), .int (h' : Nat)] ∧ MarksAt H mt w h ∧ w ≤ 12 ∧ h ≤ 8 ∧ 1 ≤ w' ∧ w' ≤ 12 ∧ 1 ≤ h' ∧ h' ≤ 8 ∧
  ∀ mt' H', Same H H' → MarksAt H' mt' w' h' → Q (.ref mt') H'
theorem ok_sized {f : Addr} {fd : FuncData} (F : Fun K "_law_sized" "_law_sized" sSized f fd) (T : TxtG mg) : FnOk P w K mg base CX0 1 f fd ["_law_marks", "_law_wide", "_law_high"] spSized := by
  refine F.ok scSized (fun vs H Q E h => ?_) (fun cdv A0 outer s0 H vs Q E hr h => ?_)
  · obtain ⟨mt, w, h, w', h', rfl, _⟩ := h
    rfl
  · obtain ⟨mt, w, h, w', h', rfl, ⟨rows, hm, hl, hr0⟩, w1, h1, w2, w3, h2, h3, k⟩ := h
    refine ⟨_, pss_cons (ps_set (i := 3) scSized.nd rfl (Or.inl rfl) (pe_lst pa_nil))
      (pss_cons (ps_for PassesOwn.never rfl (pi_range1 rfl T.range (pa_cons (pv 2) pa_nil)) (pg_name (i := 4) scSized.nd rfl (Or.inl rfl))
        (pss_cons (ps_set (i := 5) scSized.nd rfl (Or.inl rfl) (pe_ifExp (pt_cmpR op_lt (pv 4) (pe_callB call_len_seq (by rfl) T.len PySem.boot_len (pa_cons (pv 0) pa_nil)) (nomark _)) (pe_ix ix_tup (pv 0) (pv 4) (fun _ _ => rfl)) (pe_tup pa_nil)))
        (pss_one (ps_expr (pe_bm PySem.F.plainAttrs_list PySem.F.slot_list_append PySem.F.type_list_append mt_append (pv 3)
          (pa_cons (pe_slice sl_tupA (pe_op op_catA (pv 5) (pe_op op_repA (pe_tup (pa_cons pe_int pa_nil)) (pv 1))) po_none (po_some (pv 1))) pa_nil))))))
      (pss_one (ps_ret (pe_callTy call_tuple_of (by rfl) T.tuple (show bootBuiltins "tuple" = some (.type "tuple") by decide +kernel) (pa_cons (pv 3) pa_nil))))), ?_⟩
    refine ⟨small (by show 0 ≤ 1000; decide), fun fl hfl => ?_⟩
    refine ⟨_, rfl, (h' : Nat), rfl, by omega, by omega, ?_⟩
    refine for_range (lo := 0) (n := ((h' : Nat) : Int).toNat) (fun i σ H2 => ∃ v4 v5 rs, σ = [some (.ref mt), some (.int (w' : Nat)), some (.int (h' : Nat)), some (.ref fl), v4, v5] ∧ Same H H2 ∧ H2 fl = some (.lst (rs.map V.ref)) ∧ rs.length = i ∧ RowsAt H2 rs w')
      ⟨_, _, [], rfl, Same.new _ hfl, upd_same, rfl, fun _ h => by cases h⟩ ?_ ?_
    · rintro i σ H2 hi ⟨v4, v5, rs, rfl, s2, hf2, rl, ra⟩
      rw [Int.zero_add]
      refine ⟨_, rfl, _, rfl, mt, _, rfl, .inr (SqT.of (s2 _ _ hm)), _, _, rfl, rfl, _, rfl, ?_⟩
      rw [List.length_map]
      by_cases c : i < h
      have c2 : i < rows.length := by omega
      have ei : rows[i]? = some rows[i] := List.getElem?_eq_getElem c2
      obtain ⟨xs, hx1, hx2⟩ := hr0 _ (List.mem_of_getElem? ei)
      rw [decide_eq_true (by omega)]
      refine iteT ?_
      refine ⟨_, rfl, _, rfl, _, _, _, V.ref rows[i], rfl, rfl, SqT.of (s2 _ _ hm), at_of (j := i) rfl (by rw [List.getElem?_map, ei]; rfl), ?_⟩
      have hrr := s2 _ _ hx1
      have hx : xs.length ≤ 12 := by omega
      have s3 : Same H2 H2 := Same.refl H2
      have hf3 := hf2
      generalize rows[i] = rr at hrr
      rotate_left
      rw [decide_eq_false (by omega)]
      refine iteF ?_
      refine ⟨small (by show 0 ≤ 1000; decide), fun rr hrr0 => ?_⟩
      have s3 := Same.new (HO.tup []) hrr0
      have hrr : upd H2 rr (.tup []) rr = some (.tup []) := upd_same
      have hf3 := s3 _ _ hf2
      generalize upd H2 rr (.tup []) = H2' at s3 hrr hf3
      obtain ⟨xs, exs⟩ : ∃ xs : List V, xs = [] := ⟨_, rfl⟩
      have hx : xs.length ≤ 12 := by rw [exs]; decide
      rw [← exs] at hrr
      all_goals
        refine ⟨_, rfl, .inl ⟨rfl, _, SqL.of hf3⟩, _, rfl, ⟨small (by show 1 ≤ 1000; decide), fun z hz => ?_⟩⟩
        have s4 := s3.trans (Same.new (HO.tup [V.int 0]) hz)
        refine ⟨_, rfl, repA_mk upd_same (by omega) (by omega) fun zz H5 s5 hzz => ?_⟩
        have s6 := (Same.new (HO.tup [V.int 0]) hz).trans s5
        refine catA_mk (s6 _ _ hrr) hzz (by rw [List.length_replicate]; omega) fun cc H6 s7 hcc => ?_
        refine ⟨_, rfl, _, rfl, slA_mk hcc fun r H7 s8 hr7 => ?_⟩
        rw [cut_take] at hr7
        have s9 := s6.trans (s7.trans s8)
        refine ⟨fl, _, _, rfl, rfl, s9 _ _ hf3, ?_, ?_⟩
        · rw [List.length_map]; exact small1000 (by omega)
        · refine ⟨_, _, rs ++ [r], rfl, Same.mut _ (s2.trans (s3.trans s9)) hfl, ?_, by simp [rl], ?_⟩
          · rw [upd_same, List.map_append]; rfl
          · have s10 := s3.trans s9
            intro q hq
            rcases List.mem_append.mp hq with hq | hq
            · obtain ⟨ys, e1, e2⟩ := ra q hq
              exact ⟨ys, by rw [upd_ne (by intro z; have := s10 _ _ hf2; rw [← z, s10 _ _ e1] at this; cases this)]; exact s10 _ _ e1, e2⟩
            · rw [List.mem_singleton.mp hq]
              refine ⟨_, by rw [upd_ne (by intro z; have := s9 _ _ hf3; rw [← z, hr7] at this; cases this)]; exact hr7, ?_⟩
              rw [List.length_take, List.length_append, List.length_replicate]; omega
    · rintro σ H2 ⟨v4, v5, rs, rfl, s2, hf2, rl, ra⟩
      refine ⟨_, rfl, fl, _, rfl, .inl ⟨SqL.of hf2, fun mt' hmt => ?_⟩⟩
      refine k mt' _ (s2.trans (Same.new _ hmt)) ⟨rs, upd_same, by omega, ra.keep (KeepT.same (Same.new _ hmt))⟩
end
end SH
set_option Elab.async false
set_option linter.all false
set_option maxRecDepth 100000
namespace SH
open PySem PySem.Spec PyProof.Rows L2
theorem seqT {a : Str} {A B : Prop} (h : A) : if decide (V.str a = V.str a) = true then A else B := by rw [decide_eq_true rfl]; exact iteT h
theorem seqF {a b : Str} {A B : Prop} (ne : a ≠ b) (h : B) : if decide (V.str a = V.str b) = true then A else B := by
  rw [decide_eq_false (fun e => ne (V.str.inj e))]; exact iteF h
theorem slN_mk {K : PySem.W.Frag} {H : Hp} {a : Addr} {xs : List V} {lo : Option Int} {Q : VK} {σ : L2.St} (ha : H a = some (.tup xs))
    (k : ∀ p H', Same H H' → H' p = some (.tup (cutV xs lo none)) → Q (.ref p) H') : tNoPart σ H fun u H3 => rSlA K (.ref a) lo u H3 Q := slA_mk ha k
/-- a look: x, y, rank, veiled, marks -/
def PendAt (H : Hp) (p : Addr) : Prop := ∃ (x y r : Int) (v : Bool) (mt : Addr) (w h : Nat), H p = some (.tup [.int x, .int y, .int r, .bl v, .ref mt]) ∧ MarksAt H mt w h ∧ 1 ≤ w ∧ w ≤ 12 ∧ 1 ≤ h ∧ h ≤ 8
theorem PendAt.keep {H H' : Hp} {p : Addr} (r : PendAt H p) (k : KeepT H H') : PendAt H' p := let ⟨x, y, r, v, mt, w, h, a, b, c⟩ := r; ⟨x, y, r, v, mt, w, h, k _ _ a, b.keep k, c⟩
abbrev sPending : Stmt := top 29
def Lt.look (z : Lt) : Prop := z.word = "size" ∨ z.word = "paint" ∨ z.word = "place" ∨ z.word = "rank" ∨ z.word = "veil" ∨ z.word = "unveil"
section
variable {P : Program} {w : World} {K : PySem.W.Frag} {mg : Str → Option Value} {base : Heap}
abbrev nPending : List Str := ["_law_look", "_law_letter_here", "_law_x", "_law_y", "_law_rank", "_law_veiled", "_law_marks", "_law_word", "_law_left", "_law_top", "_law_wide", "_law_high", "_law_mark", "_law_rows", "_law_k"]
theorem scPending : FnScope nPending ["_law_look", "_law_letter_here"] (defScope sPending) := ⟨rfl, rfl, rfl, by decide +kernel, rfl, by decide +kernel, by decide +kernel⟩
def spPending : Sp := fun vs H Q _ => ∃ (p t : Addr) (z : Lt), vs = [.ref p, .ref t] ∧ PendAt H p ∧ H t = some (.tup z.vals) ∧ z.ok ∧ z.look ∧
  ∀ r H', Same H H' → (r = .non ∨ ∃ p', r = .ref p' ∧ PendAt H' p') → Q r H'
set_option maxHeartbeats 0 in
theorem ok_pending {f fS : Addr} {fd fdS : FuncData} (F : Fun K "_law_pending" "_law_pending" sPending f fd) (T : TxtG mg)
    (GS : FnOk P w K mg base CX0 1 fS fdS ["_law_marks", "_law_wide", "_law_high"] spSized) (bS : Binds K fdS ["_law_marks", "_law_wide", "_law_high"] []) (gS : mg "_law_sized" = some (.ref fS)) (kS : PySem.W.keepIn K (.ref fS) = true) :
    FnOk P w K mg base CX0 2 f fd ["_law_look", "_law_letter_here"] spPending := by
  refine F.ok scPending (fun vs H Q E h => ?_) (fun cdv A0 outer s0 H vs Q E hr h => ?_)
  · obtain ⟨p, t, z, rfl, _⟩ := h
    rfl
  · obtain ⟨p, t, z, rfl, ⟨x, y, r, v, mt, w, h, hp, hm, w1, w2, h1, h2⟩, ht, hz, hlook, k⟩ := h
    refine ⟨_, pss_cons (ps_asg (pv 0) (pg_tup (by rfl) (pgs_cons (pg_name (i := 2) scPending.nd rfl (Or.inl rfl)) (pgs_cons (pg_name (i := 3) scPending.nd rfl (Or.inl rfl)) (pgs_cons (pg_name (i := 4) scPending.nd rfl (Or.inl rfl)) (pgs_cons (pg_name (i := 5) scPending.nd rfl (Or.inl rfl)) (pgs_cons (pg_name (i := 6) scPending.nd rfl (Or.inl rfl)) pgs_nil)))))))
      (pss_cons (ps_set (i := 7) scPending.nd rfl (Or.inl rfl) (pe_ix ix_tup (pv 1) pe_int (fun _ _ => rfl)))
      (pss_cons (ps_if (pt_cmpR op_eq (pv 7) pe_str (nomark _))
        (pss_one (ps_ret (pe_tup (pa_cons (pv 2) (pa_cons (pv 3) (pa_cons (pv 4) (pa_cons (pv 5) (pa_cons (pe_call GS hr rfl gS kS bS .nil pass0 (pa_cons (pv 6) (pa_cons (pe_ix ix_tup (pv 1) pe_int (fun _ _ => rfl)) (pa_cons (pe_ix ix_tup (pv 1) pe_int (fun _ _ => rfl)) pa_nil)))) pa_nil)))))))) pss_nil)
      (pss_cons (ps_if (pt_cmpR op_eq (pv 7) pe_str (nomark _))
        (pss_cons (ps_asg (pe_slice sl_tupA (pv 1) (po_some pe_int) po_none) (pg_tup (by rfl) (pgs_cons (pg_name (i := 8) scPending.nd rfl (Or.inl rfl)) (pgs_cons (pg_name (i := 9) scPending.nd rfl (Or.inl rfl)) (pgs_cons (pg_name (i := 10) scPending.nd rfl (Or.inl rfl)) (pgs_cons (pg_name (i := 11) scPending.nd rfl (Or.inl rfl)) (pgs_cons (pg_name (i := 12) scPending.nd rfl (Or.inl rfl)) pgs_nil)))))))
        (pss_cons (ps_if (PW.pt (pw_or (pt_cmpR op_gt (pe_op op_add (pv 8) (pv 10)) (pe_callB call_len_seq (by rfl) T.len PySem.boot_len (pa_cons (pe_ix ix_tup (pv 6) pe_int (fun _ _ => rfl)) pa_nil)) (nomark _))
          (pw_or1 (pt_cmpR op_gt (pe_op op_add (pv 9) (pv 11)) (pe_callB call_len_seq (by rfl) T.len PySem.boot_len (pa_cons (pv 6) pa_nil)) (nomark _))))) (pss_one (ps_ret pe_non)) pss_nil)
        (pss_cons (ps_set (i := 13) scPending.nd rfl (Or.inl rfl) (pe_callTy call_list_of (by rfl) T.list (show bootBuiltins "list" = some (.type "list") by decide +kernel) (pa_cons (pv 6) pa_nil)))
        (pss_cons (ps_for PassesOwn.never rfl (pi_range2 rfl T.range (pa_cons (pv 9) (pa_cons (pe_op op_add (pv 9) (pv 11)) pa_nil))) (pg_name (i := 14) scPending.nd rfl (Or.inl rfl))
          (pss_one (ps_asg (pe_op op_catA (pe_op op_catA (pe_slice sl_tupA (pe_ix ix_list (pv 13) (pv 14) (fun _ _ => rfl)) po_none (po_some (pv 8))) (pe_op op_repA (pe_tup (pa_cons (pv 12) pa_nil)) (pv 10))) (pe_slice sl_tupA (pe_ix ix_list (pv 13) (pv 14) (fun _ _ => rfl)) (po_some (pe_op op_add (pv 8) (pv 10))) po_none))
            (pg_sub (pv 13) (pv 14) set_list))))
        (pss_one (ps_ret (pe_tup (pa_cons (pv 2) (pa_cons (pv 3) (pa_cons (pv 4) (pa_cons (pv 5) (pa_cons (pe_callTy call_tuple_of (by rfl) T.tuple (show bootBuiltins "tuple" = some (.type "tuple") by decide +kernel) (pa_cons (pv 13) pa_nil)) pa_nil)))))))))))) pss_nil)
      (pss_cons (ps_if (pt_cmpR op_eq (pv 7) pe_str (nomark _))
        (pss_one (ps_ret (pe_tup (pa_cons (pe_ix ix_tup (pv 1) pe_int (fun _ _ => rfl)) (pa_cons (pe_ix ix_tup (pv 1) pe_int (fun _ _ => rfl)) (pa_cons (pv 4) (pa_cons (pv 5) (pa_cons (pv 6) pa_nil)))))))) pss_nil)
      (pss_cons (ps_if (pt_cmpR op_eq (pv 7) pe_str (nomark _))
        (pss_one (ps_ret (pe_tup (pa_cons (pv 2) (pa_cons (pv 3) (pa_cons (pe_ix ix_tup (pv 1) pe_int (fun _ _ => rfl)) (pa_cons (pv 5) (pa_cons (pv 6) pa_nil)))))))) pss_nil)
      (pss_one (ps_ret (pe_tup (pa_cons (pv 2) (pa_cons (pv 3) (pa_cons (pv 4) (pa_cons (pe_cmpR op_eq (pv 7) pe_str (nomark _)) (pa_cons (pv 6) pa_nil))))))))))))), ?_⟩
    refine ⟨_, rfl, p, _, rfl, SqT.of hp, rfl, ?_⟩
    refine ⟨_, _, rfl, _, _, rfl, _, _, rfl, _, _, rfl, _, _, rfl, rfl, ?_⟩
    refine ⟨_, rfl, _, _, _, V.str z.word, rfl, rfl, SqT.of ht, at_of (j := 0) rfl rfl, ?_⟩
    refine ⟨_, rfl, rfl, _, rfl, ?_⟩
    have small5 : (5 : Nat) ≤ sizeLine := small (by decide)
    cases z with
    | size n a b =>
      obtain ⟨⟨hn0, hn1⟩, ⟨ha0, ha1⟩, hb0, hb1⟩ : (0 ≤ n ∧ n ≤ 9) ∧ (1 ≤ a ∧ a ≤ 12) ∧ 1 ≤ b ∧ b ≤ 8 := by simpa [Lt.ok, Lt.nums, Lt.bnds] using hz
      obtain ⟨a, rfl⟩ := Int.eq_ofNat_of_zero_le (show 0 ≤ a by omega)
      obtain ⟨b, rfl⟩ := Int.eq_ofNat_of_zero_le (show 0 ≤ b by omega)
      refine seqT ?_
      refine ⟨_, rfl, _, rfl, _, rfl, _, rfl, _, rfl, _, rfl, _, _, _, V.int a, rfl, rfl, SqT.of ht, at_of (j := 2) rfl rfl, _, rfl, _, _, _, V.int b, rfl, rfl, SqT.of ht, at_of (j := 3) rfl rfl, ?_⟩
      refine ⟨mt, w, h, a, b, rfl, hm, w2, h2, by omega, by omega, by omega, by omega, fun mt' H' s' hm' => ⟨small5, fun q hq => ?_⟩⟩
      refine k (.ref q) _ (s'.trans (Same.new _ hq)) (.inr ⟨q, rfl, x, y, r, v, mt', a, b, upd_same, hm'.keep (KeepT.same (Same.new _ hq)), by omega, by omega, by omega, by omega⟩)
    | paint n a b c d m =>
      obtain ⟨_, ⟨a0, a1⟩, ⟨b0, b1⟩, ⟨c0, c1⟩, ⟨d0, d1⟩, _⟩ : (0 ≤ n ∧ n ≤ 9) ∧ (0 ≤ a ∧ a ≤ 11) ∧ (0 ≤ b ∧ b ≤ 7) ∧ (1 ≤ c ∧ c ≤ 12) ∧ (1 ≤ d ∧ d ≤ 8) ∧ 0 ≤ m ∧ m ≤ 9 := by simpa [Lt.ok, Lt.nums, Lt.bnds] using hz
      obtain ⟨a, rfl⟩ := Int.eq_ofNat_of_zero_le a0
      obtain ⟨b, rfl⟩ := Int.eq_ofNat_of_zero_le b0
      obtain ⟨c, rfl⟩ := Int.eq_ofNat_of_zero_le (show 0 ≤ c by omega)
      obtain ⟨d, rfl⟩ := Int.eq_ofNat_of_zero_le (show 0 ≤ d by omega)
      refine seqF (show ("paint" : Str) ≠ _ by decide +kernel) ?_
      refine ⟨_, rfl, rfl, _, rfl, seqT ?_⟩
      obtain ⟨rows, hm1, hm2, hm3⟩ := id hm
      refine ⟨_, rfl, _, rfl, ?_⟩
      refine slN_mk ht fun tp H1 s1 htp => ?_
      have htp : H1 tp = some (.tup [.int (a : Nat), .int (b : Nat), .int (c : Nat), .int (d : Nat), .int m]) := htp
      refine ⟨_, _, rfl, SqT.of htp, rfl, _, _, rfl, _, _, rfl, _, _, rfl, _, _, rfl, _, _, rfl, rfl, ?_⟩
      have hm1' := s1 _ _ hm1
      have hr0 : rows[0]? = some rows[0] := List.getElem?_eq_getElem (by omega)
      obtain ⟨xs0, x01, x02⟩ := hm3 _ (List.mem_of_getElem? hr0)
      refine ⟨_, rfl, _, rfl, _, _, rfl, rfl, _, rfl, _, _, _, V.ref rows[0], rfl, rfl, SqT.of hm1', at_of (j := 0) rfl (by rw [List.getElem?_map, hr0]; rfl), _, _, rfl, .inr (SqT.of (s1 _ _ x01)), _, _, rfl, rfl, _, rfl, ?_⟩
      rw [x02]
      have noway : Q .non H1 := k .non H1 s1 (.inl rfl)
      refine ite2 (fun c1 => noway) (fun c1 => ?_)
      refine ⟨_, rfl, _, rfl, _, _, rfl, rfl, _, rfl, _, _, rfl, .inr (SqT.of hm1'), _, _, rfl, rfl, _, rfl, ?_⟩
      rw [List.length_map, hm2]
      refine ite2 (fun c2 => noway) (fun c2 => ?_)
      have c1 : a + c ≤ w := by have := of_decide_eq_false (Bool.not_eq_true _ ▸ c1); omega
      have c2 : b + d ≤ h := by have := of_decide_eq_false (Bool.not_eq_true _ ▸ c2); omega
      refine ⟨_, rfl, _, _, rfl, .inr (SqT.of hm1'), fun rl hrl => ?_⟩
      have s2 := s1.trans (Same.new (HO.lst (rows.map V.ref)) hrl)
      refine ⟨_, rfl, _, rfl, _, rfl, _, _, rfl, rfl, _, _, rfl, ⟨by omega, by omega, by omega, by omega⟩, ?_⟩
      refine for_range (lo := (b : Nat)) (n := (((b : Nat) : Int) + (d : Nat) - (b : Nat)).toNat) (fun i σ H2 => ∃ v14 rs, σ = [some (.ref p), some (.ref t), some (.int x), some (.int y), some (.int r), some (.bl v), some (.ref mt), some (.str "paint"), some (.int (a : Nat)), some (.int (b : Nat)), some (.int (c : Nat)), some (.int (d : Nat)), some (.int m), some (.ref rl), v14] ∧ Same H1 H2 ∧ H2 rl = some (.lst (rs.map V.ref)) ∧ rs.length = h ∧ RowsAt H2 rs w)
        ⟨_, rows, rfl, Same.new _ hrl, upd_same, hm2, hm3.keep (KeepT.same s2)⟩ ?_ ?_
      · rintro i σ H2 hi ⟨v14, rs, rfl, s3, hrl2, hrs, hra⟩
        have ei : rs[b + i]? = some rs[b + i] := List.getElem?_eq_getElem (by omega)
        obtain ⟨xs, e1, e2⟩ := hra _ (List.mem_of_getElem? ei)
        have eidx : ((b : Nat) : Int) + (i : Nat) = ((b + i : Nat) : Int) := by omega
        rw [eidx]
        refine ⟨_, rfl, _, rfl, _, _, _, V.ref rs[b + i], rfl, rfl, SqL.of hrl2, at_of (j := b + i) rfl (by rw [List.getElem?_map, ei]; rfl), _, rfl, _, rfl, slA_mk e1 fun q1 H3 t3 hq1 => ?_⟩
        rw [cut_take] at hq1
        refine ⟨_, rfl, small (by show 1 ≤ 1000; decide), fun q2 hq2 => ⟨_, rfl, repA_mk upd_same (by omega) (by omega) fun q3 H4 t4 hq3 => ?_⟩⟩
        have t4' := (Same.new (HO.tup [V.int m]) hq2).trans t4
        refine catA_mk (t4' _ _ hq1) hq3 (by rw [List.length_take, List.length_replicate]; omega) fun q4 H5 t5 hq4 => ?_
        have t6 := t3.trans (t4'.trans t5)
        refine ⟨_, rfl, _, rfl, _, _, _, V.ref rs[b + i], rfl, rfl, SqL.of (t6 _ _ hrl2), at_of (j := b + i) rfl (by rw [List.getElem?_map, ei]; rfl), _, rfl, _, rfl, _, _, rfl, rfl, ?_⟩
        refine ⟨((a + c : Nat) : Int), congrArg V.int (show ((a : Nat) : Int) + ((c : Nat) : Int) = ((a + c : Nat) : Int) by omega), slN_mk (t6 _ _ e1) fun q5 H6 t7 hq5 => ?_⟩
        rw [cut_drop] at hq5
        refine catA_mk (t7 _ _ hq4) hq5 (by simp only [List.length_append, List.length_take, List.length_replicate, List.length_drop]; omega) fun q6 H7 t8 hq6 => ?_
        have t9 := t6.trans (t7.trans t8)
        refine ⟨_, rfl, _, rfl, _, _, _, b + i, rfl, rfl, t9 _ _ hrl2, ?_, ?_⟩
        · rw [List.length_map]
          unfold ixN
          rw [if_pos (by omega), if_pos (by omega), Int.toNat_natCast]
        · refine ⟨_, rs.set (b + i) q6, rfl, Same.mut _ (s3.trans t9) hrl, ?_, by simpa using hrs, ?_⟩
          · rw [upd_same, List.map_set]
          · intro u hu
            rcases List.mem_or_eq_of_mem_set hu with hu | hu
            · obtain ⟨ys, g1, g2⟩ := hra u hu
              exact ⟨ys, by rw [upd_ne (by intro z; have := t9 _ _ hrl2; rw [← z, t9 _ _ g1] at this; cases this)]; exact t9 _ _ g1, g2⟩
            · rw [hu]
              refine ⟨_, by rw [upd_ne (by intro z; have := t9 _ _ hrl2; rw [← z, hq6] at this; cases this)]; exact hq6, ?_⟩
              simp only [List.length_append, List.length_take, List.length_replicate, List.length_drop]
              omega
      · rintro σ H2 ⟨v14, rs, rfl, s3, hrl2, hrs, hra⟩
        refine ⟨_, rfl, _, rfl, _, rfl, _, rfl, _, rfl, _, _, rfl, .inl ⟨SqL.of hrl2, fun mt' hmt => ⟨small5, fun q hq => ?_⟩⟩⟩
        have s4 := (Same.new (HO.tup (rs.map V.ref)) hmt)
        refine k (.ref q) _ (s1.trans (s3.trans (s4.trans (Same.new _ hq)))) (.inr ⟨q, rfl, x, y, r, v, mt', w, h, upd_same, MarksAt.keep ⟨rs, upd_same, hrs, hra.keep (KeepT.same s4)⟩ (KeepT.same (Same.new _ hq)), by omega, by omega, by omega, by omega⟩)
    | place n a b =>
      refine seqF (show ("place" : Str) ≠ _ by decide +kernel) ?_
      refine ⟨_, rfl, rfl, _, rfl, seqF (show ("place" : Str) ≠ _ by decide +kernel) ?_⟩
      refine ⟨_, rfl, rfl, _, rfl, seqT ?_⟩
      refine ⟨_, rfl, _, _, _, V.int a, rfl, rfl, SqT.of ht, at_of (j := 2) rfl rfl, _, rfl, _, _, _, V.int b, rfl, rfl, SqT.of ht, at_of (j := 3) rfl rfl, ?_⟩
      refine ⟨_, rfl, _, rfl, _, rfl, small5, fun q hq => ?_⟩
      refine k (.ref q) _ (Same.new _ hq) (.inr ⟨q, rfl, a, b, r, v, mt, w, h, upd_same, hm.keep (KeepT.same (Same.new _ hq)), by omega, by omega, by omega, by omega⟩)
    | rank n a =>
      refine seqF (show ("rank" : Str) ≠ _ by decide +kernel) ?_
      refine ⟨_, rfl, rfl, _, rfl, seqF (show ("rank" : Str) ≠ _ by decide +kernel) ?_⟩
      refine ⟨_, rfl, rfl, _, rfl, seqF (show ("rank" : Str) ≠ _ by decide +kernel) ?_⟩
      refine ⟨_, rfl, rfl, _, rfl, seqT ?_⟩
      refine ⟨_, rfl, _, rfl, _, rfl, _, _, _, V.int a, rfl, rfl, SqT.of ht, at_of (j := 2) rfl rfl, ?_⟩
      refine ⟨_, rfl, _, rfl, small5, fun q hq => ?_⟩
      refine k (.ref q) _ (Same.new _ hq) (.inr ⟨q, rfl, x, y, a, v, mt, w, h, upd_same, hm.keep (KeepT.same (Same.new _ hq)), by omega, by omega, by omega, by omega⟩)
    | veil n =>
      refine seqF (show ("veil" : Str) ≠ _ by decide +kernel) ?_
      refine ⟨_, rfl, rfl, _, rfl, seqF (show ("veil" : Str) ≠ _ by decide +kernel) ?_⟩
      refine ⟨_, rfl, rfl, _, rfl, seqF (show ("veil" : Str) ≠ _ by decide +kernel) ?_⟩
      refine ⟨_, rfl, rfl, _, rfl, seqF (show ("veil" : Str) ≠ _ by decide +kernel) ?_⟩
      refine ⟨_, rfl, _, rfl, _, rfl, _, rfl, rfl, ?_⟩
      refine ⟨_, rfl, small5, fun q hq => ?_⟩
      refine k (.ref q) _ (Same.new _ hq) (.inr ⟨q, rfl, x, y, r, _, mt, w, h, upd_same, hm.keep (KeepT.same (Same.new _ hq)), by omega, by omega, by omega, by omega⟩)
    | unveil n =>
      refine seqF (show ("unveil" : Str) ≠ _ by decide +kernel) ?_
      refine ⟨_, rfl, rfl, _, rfl, seqF (show ("unveil" : Str) ≠ _ by decide +kernel) ?_⟩
      refine ⟨_, rfl, rfl, _, rfl, seqF (show ("unveil" : Str) ≠ _ by decide +kernel) ?_⟩
      refine ⟨_, rfl, rfl, _, rfl, seqF (show ("unveil" : Str) ≠ _ by decide +kernel) ?_⟩
      refine ⟨_, rfl, _, rfl, _, rfl, _, rfl, rfl, ?_⟩
      refine ⟨_, rfl, small5, fun q hq => ?_⟩
      refine k (.ref q) _ (Same.new _ hq) (.inr ⟨q, rfl, x, y, r, _, mt, w, h, upd_same, hm.keep (KeepT.same (Same.new _ hq)), by omega, by omega, by omega, by omega⟩)
    | make n => exact absurd hlook (by rintro (h | h | h | h | h | h) <;> exact absurd (show ("make" : Str) = _ from h) (by decide +kernel))
    | drop n => exact absurd hlook (by rintro (h | h | h | h | h | h) <;> exact absurd (show ("drop" : Str) = _ from h) (by decide +kernel))
    | tie n o => exact absurd hlook (by rintro (h | h | h | h | h | h) <;> exact absurd (show ("tie" : Str) = _ from h) (by decide +kernel))
    | «show» n => exact absurd hlook (by rintro (h | h | h | h | h | h) <;> exact absurd (show ("show" : Str) = _ from h) (by decide +kernel))
    | hold n => exact absurd hlook (by rintro (h | h | h | h | h | h) <;> exact absurd (show ("hold" : Str) = _ from h) (by decide +kernel))
    | let_ => exact absurd hlook (by rintro (h | h | h | h | h | h) <;> exact absurd (show ("let" : Str) = _ from h) (by decide +kernel))
end
end SH
set_option Elab.async false
set_option linter.all false
set_option maxRecDepth 100000
namespace SH
open PySem PySem.Spec PyProof.Rows L2
def sortI (l : List Int) : List Int := l.mergeSort (fun a b => decide (a ≤ b))
theorem sortI_perm (l : List Int) : (sortI l).Perm l := List.mergeSort_perm _ _
theorem sortI_pw (l : List Int) : (sortI l).Pairwise (· ≤ ·) := by
  have := List.pairwise_mergeSort (le := fun a b : Int => decide (a ≤ b)) (fun a b c h1 h2 => by simp at *; omega) (fun a b => by simp; omega) l
  exact this.imp (fun h => of_decide_eq_true h)
theorem sortI_of {ys l : List Int} (p : ys.Perm l) (h : ys.Pairwise (· ≤ ·)) : ys = sortI l := PySem.W.ksm_same (p.trans (sortI_perm l).symm) h (sortI_pw l)

def famMax : Nat → Nat
  | 0 => 1
  | d + 1 => 1 + 10 * famMax d
theorem flat_le {α β : Type} {f : α → List β} {m : Nat} : ∀ {l : List α}, (∀ x ∈ l, (f x).length ≤ m) → (l.flatMap f).length ≤ l.length * m
  | [], _ => by simp
  | x :: l, h => by
    have h1 := h x List.mem_cons_self
    have h2 := flat_le (f := f) (m := m) (l := l) fun y hy => h y (List.mem_cons_of_mem _ hy)
    rw [List.flatMap_cons, List.length_append, List.length_cons, Nat.succ_mul]
    omega

theorem Same.free {H H' : Hp} (s : Same H H') {p : Addr} (h : H' p = none) : H p = none := by
  cases e : H p with
  | none => rfl
  | some o => rw [s _ _ e] at h; cases h
/-- a client's surfaces by what was told -/
structure WE where
  k : Int
  da : Addr
  p : Addr
  rd : V
  sh : V
  top : Option Int
def topV : Option Int → V
  | none => .non
  | some i => .int i
def WE.kvs (e : WE) : List (Key × V) := [(.inr "pending", .ref e.p), (.inr "ready", e.rd), (.inr "shown", e.sh), (.inr "top", topV e.top)]
def wKvs (es : List WE) : List (Key × V) := es.map fun e => ((Sum.inl e.k : Key), V.ref e.da)
def wCells (wa : Addr) (es : List WE) : Cells := (wa, .dK (wKvs es)) :: es.map fun e => (e.da, HO.dK e.kvs)
def findW (es : List WE) (k : Int) : Option WE := es.find? fun e => decide (e.k = k)
theorem valW (es : List WE) (k : Int) : valV (wKvs es) (Sum.inl k : Key) = (findW es k).map fun e => V.ref e.da := by
  induction es with
  | nil => rfl
  | cons p l ih =>
    by_cases e : p.k = k
    · show valV ((Sum.inl p.k, V.ref p.da) :: wKvs l) _ = _
      rw [valV_pos (by show (Sum.inl p.k : Key) = Sum.inl k; rw [e])]
      unfold findW
      rw [List.find?_cons, decide_eq_true e]; rfl
    · show valV ((Sum.inl p.k, V.ref p.da) :: wKvs l) _ = _
      rw [valV_neg (by show ¬ (Sum.inl p.k : Key) = Sum.inl k; exact fun z => e (Sum.inl.inj z)), ih]
      unfold findW
      rw [List.find?_cons, decide_eq_false e]
theorem findW_mem {es : List WE} {k : Int} {e : WE} (h : findW es k = some e) : e ∈ es ∧ e.k = k :=
  ⟨List.mem_of_find?_eq_some h, by have := List.find?_some h; simpa using this⟩
theorem findW_some {es : List WE} {k : Int} (h : k ∈ es.map (·.k)) : ∃ e, findW es k = some e := by
  obtain ⟨p, hp, e⟩ := List.mem_map.mp h
  unfold findW
  cases q : es.find? (fun p => decide (p.k = k)) with
  | some r => exact ⟨_, rfl⟩
  | none => exact absurd (decide_eq_true e) (List.find?_eq_none.mp q p hp)
theorem kvs_pend (e : WE) : valV e.kvs (Sum.inr "pending" : Key) = some (.ref e.p) := by kernel_rfl
theorem kvs_rd (e : WE) : valV e.kvs (Sum.inr "ready" : Key) = some e.rd := by kernel_rfl
theorem kvs_sh (e : WE) : valV e.kvs (Sum.inr "shown" : Key) = some e.sh := by kernel_rfl
theorem kvs_top (e : WE) : valV e.kvs (Sum.inr "top" : Key) = some (topV e.top) := by kernel_rfl
def topIs (es : List WE) (n k : Int) : Bool := match findW es k with
  | none => false
  | some e => decide (e.top = some n)
def kids (es : List WE) (n : Int) : List Int := (sortI (es.map (·.k))).filter (topIs es n)
def under (es : List WE) : Nat → Int → List Int
  | 0, n => [n]
  | d + 1, n => n :: (kids es n).flatMap (under es d)
def Flat (es : List WE) : Nat → Int → Prop
  | 0, n => kids es n = []
  | d + 1, n => ∀ k ∈ kids es n, Flat es d k
/-- the dicts stand there -/
def WAt (H : Hp) (wa : Addr) (es : List WE) : Prop := H wa = some (.dK (wKvs es)) ∧ ∀ e ∈ es, H e.da = some (.dK e.kvs)
theorem WAt.same {H H' : Hp} {wa : Addr} {es : List WE} (h : WAt H wa es) (s : Same H H') : WAt H' wa es := ⟨s _ _ h.1, fun e he => s _ _ (h.2 e he)⟩
theorem kids_le (es : List WE) (n : Int) : (kids es n).length ≤ es.length := by
  refine Nat.le_trans (List.length_filter_le _ _) ?_
  rw [(sortI_perm _).length_eq, List.length_map]; exact Nat.le_refl _
theorem under_len {es : List WE} (hl : es.length ≤ 10) : ∀ (d : Nat) (n : Int), (under es d n).length ≤ famMax d
  | 0, n => Nat.le_refl _
  | d + 1, n => by
    unfold under famMax
    rw [List.length_cons]
    have h1 := flat_le (f := under es d) (m := famMax d) (l := kids es n) fun k _ => under_len hl d k
    have h3 := Nat.mul_le_mul_right (famMax d) (Nat.le_trans (kids_le es n) hl)
    omega
abbrev sUnder : Stmt := top 30
section
variable {P : Program} {w : World} {K : PySem.W.Frag} {mg : Str → Option Value} {base : Heap}
abbrev nUnder : List Str := ["_law_w", "_law_name", "_law_found", "_law_part"]
theorem scUnder : FnScope nUnder ["_law_w", "_law_name"] (defScope sUnder) := ⟨rfl, rfl, rfl, by decide +kernel, rfl, by decide +kernel, by decide +kernel⟩
def spUnder (d : Nat) : Sp := fun vs H Q _ => ∃ (wa : Addr) (es : List WE) (n : Int), vs = [.ref wa, .int n] ∧ WAt H wa es ∧ es.length ≤ 10 ∧ Flat es d n ∧
  ∀ p H', Same H H' → H p = none → H' p = some (.lst ((under es d n).map V.int)) → Q (.ref p) H'
theorem topV_eq (t : Option Int) (n : Int) : decide (topV t = V.int n) = decide (t = some n) := by
  cases t with
  | none => rfl
  | some i =>
    by_cases e : i = n
    · subst e; rw [decide_eq_true (show topV (some i) = V.int i from rfl), decide_eq_true rfl]
    · rw [decide_eq_false (show ¬ topV (some i) = V.int n from fun z => e (V.int.inj z)), decide_eq_false (fun z => e (Option.some.inj z))]
theorem ok_under {f : Addr} {fd : FuncData} (F : Fun K "_law_under" "_law_under" sUnder f fd) (bF : Binds K fd ["_law_w", "_law_name"] []) (gF : mg "_law_under" = some (.ref f)) (T : TxtG mg) :
    ∀ d, famMax d ≤ 2000 → FnOk P w K mg base CX0 (d + 1) f fd ["_law_w", "_law_name"] (spUnder d)
  | 0, _ => by
    refine F.ok scUnder (fun vs H Q E h => ?_) (fun cdv A0 outer s0 H vs Q E hr h => ?_)
    · obtain ⟨wa, es, n, rfl, _⟩ := h
      rfl
    · obtain ⟨wa, es, n, rfl, hw, hl, hfl, k⟩ := h
      have hu := hu_of hr
      refine ⟨_, pss_cons (ps_set (i := 2) scUnder.nd rfl (Or.inl rfl) (pe_lst (pa_cons (pv 1) pa_nil)))
        (pss_cons (ps_for PassesOwn.never rfl (pi_list (pe_callB (call_sortedDI rfl) (by rfl) T.sorted (by decide +kernel) (pa_cons (pv 0) pa_nil))) (pg_name (i := 3) scUnder.nd rfl (Or.inl rfl))
          (pss_one (ps_if (pt_cmpR op_eq (pe_dget hu (pe_dget hu (pv 0) (pv 3) (fun _ _ => rfl)) pe_str (fun _ _ => rfl)) (pv 1) (nomark _)) pss_never pss_nil)))
        (pss_one (ps_ret (pv 2)))), ?_⟩
      refine ⟨_, rfl, small (by show 1 ≤ 1000; decide), fun p hp0 => ?_⟩
      have s1 := Same.new (HO.lst [V.int n]) hp0
      refine ⟨_, rfl, wa, _, es.map (·.k), rfl, .inl (s1 _ _ hw.1), by unfold wKvs; simp, by rw [List.length_map]; omega, fun ys q hperm hord hq => ?_⟩
      have ey : ys = sortI (es.map (·.k)) := sortI_of hperm hord
      subst ey
      generalize hks : sortI (es.map (·.k)) = ks at *
      refine ⟨q, rfl, ⟨_, SqL.of upd_same⟩, for_list (K := K) (a := q) (xs := ks.map V.int) (fun i σ H2 => ∃ v, σ = [some (.ref wa), some (.int n), some (.ref p), v] ∧ Same H H2 ∧ H2 q = some (.lst (ks.map V.int)) ∧ H2 p = some (.lst ([n].map V.int))) ?_ ?_ ?_ ?_⟩
      · refine ⟨none, rfl, s1.trans (Same.new _ hq), upd_same, ?_⟩
        rw [upd_ne (ne_of_none (upd_same : upd H p _ p = _) hq)]
        exact upd_same
      · rintro i σ H2 _ ⟨v, _, _, hq2, _⟩
        exact SqL.of hq2
      · rintro i x σ H2 hi ⟨v, rfl, s2, hq2, hp2⟩
        rw [List.getElem?_map] at hi
        cases en : ks[i]? with
        | none => rw [en] at hi; cases hi
        | some n1 =>
          rw [en] at hi
          obtain rfl : V.int n1 = x := Option.some.inj hi
          have hn : n1 ∈ ks := List.mem_of_getElem? en
          obtain ⟨e, he⟩ := findW_some (es := es) (k := n1) (by rw [← hks] at hn; exact (sortI_perm _).mem_iff.mp hn)
          have hw2 := hw.same s2
          have hne : decide (topV e.top = V.int n) = false := by
            rw [topV_eq]
            refine decide_eq_false fun z => ?_
            have : n1 ∈ kids es n := by unfold kids; rw [hks]; exact List.mem_filter.mpr ⟨hn, by unfold topIs; rw [he]; exact decide_eq_true z⟩
            rw [show kids es n = [] from hfl] at this
            cases this
          refine ⟨_, rfl, _, rfl, wa, V.ref e.da, rfl, by have := DGet.k (k := (Sum.inl n1 : Key)) hw2.1; rw [valW, he] at this; exact this, e.da, topV e.top, rfl, by have := DGet.k (k := (Sum.inr "top" : Key)) (hw2.2 e (findW_mem he).1); rw [kvs_top] at this; exact this, _, rfl, ?_⟩
          have fin : (if decide (topV e.top = V.int n) = true then False else ∃ v, ([some (.ref wa), some (.int n), some (.ref p), some (V.int n1)] : L2.St) = [some (.ref wa), some (.int n), some (.ref p), v] ∧ Same H H2 ∧ H2 q = some (.lst (ks.map V.int)) ∧ H2 p = some (.lst ([n].map V.int))) := by
            rw [hne]
            exact iteF ⟨_, rfl, s2, hq2, hp2⟩
          cases et : e.top with
          | none => rw [et] at fin; exact ⟨rfl, _, rfl, fin⟩
          | some tt => rw [et] at fin; exact ⟨rfl, _, rfl, fin⟩
      · rintro σ H2 ⟨v, rfl, s2, hq2, hp2⟩
        exact ⟨_, rfl, k p H2 s2 hp0 hp2⟩
  | d + 1, hm => by
    have GF := ok_under F bF gF T d (by unfold famMax at hm; omega)
    refine F.ok scUnder (fun vs H Q E h => ?_) (fun cdv A0 outer s0 H vs Q E hr h => ?_)
    · obtain ⟨wa, es, n, rfl, _⟩ := h
      rfl
    · obtain ⟨wa, es, n, rfl, hw, hl, hfl, k⟩ := h
      have hu := hu_of hr
      refine ⟨_, pss_cons (ps_set (i := 2) scUnder.nd rfl (Or.inl rfl) (pe_lst (pa_cons (pv 1) pa_nil)))
        (pss_cons (ps_for PassesOwn.never rfl (pi_list (pe_callB (call_sortedDI rfl) (by rfl) T.sorted (by decide +kernel) (pa_cons (pv 0) pa_nil))) (pg_name (i := 3) scUnder.nd rfl (Or.inl rfl))
          (pss_one (ps_if (pt_cmpR op_eq (pe_dget hu (pe_dget hu (pv 0) (pv 3) (fun _ _ => rfl)) pe_str (fun _ _ => rfl)) (pv 1) (nomark _))
            (pss_one (ps_set (i := 2) scUnder.nd rfl (Or.inl rfl) (pe_op op_cat (pv 2) (pe_call GF hr rfl gF F.kp bF .nil pass0 (pa_cons (pv 0) (pa_cons (pv 3) pa_nil)))))) pss_nil)))
        (pss_one (ps_ret (pv 2)))), ?_⟩
      refine ⟨_, rfl, small (by show 1 ≤ 1000; decide), fun p hp0 => ?_⟩
      have s1 := Same.new (HO.lst [V.int n]) hp0
      refine ⟨_, rfl, wa, _, es.map (·.k), rfl, .inl (s1 _ _ hw.1), by unfold wKvs; simp, by rw [List.length_map]; omega, fun ys q hperm hord hq => ?_⟩
      have ey : ys = sortI (es.map (·.k)) := sortI_of hperm hord
      subst ey
      generalize hks : sortI (es.map (·.k)) = ks at *
      have hq0 := s1.free hq
      have hkl : ks.length ≤ 10 := by rw [← hks, (sortI_perm _).length_eq, List.length_map]; exact hl
      refine ⟨q, rfl, ⟨_, SqL.of upd_same⟩, for_list (K := K) (a := q) (xs := ks.map V.int) (fun i σ H2 => ∃ v p2, σ = [some (.ref wa), some (.int n), some (.ref p2), v] ∧ Same H H2 ∧ H p2 = none ∧ H2 q = some (.lst (ks.map V.int)) ∧
        H2 p2 = some (.lst ((n :: ((ks.take i).filter (topIs es n)).flatMap (under es d)).map V.int))) ?_ ?_ ?_ ?_⟩
      · refine ⟨none, p, rfl, s1.trans (Same.new _ hq), hp0, upd_same, ?_⟩
        rw [upd_ne (ne_of_none (upd_same : upd H p _ p = _) hq)]
        exact upd_same
      · rintro i σ H2 _ ⟨v, p2, _, _, _, hq2, _⟩
        exact SqL.of hq2
      · rintro i x σ H2 hi ⟨v, p2, rfl, s2, hp20, hq2, hp2⟩
        rw [List.getElem?_map] at hi
        cases en : ks[i]? with
        | none => rw [en] at hi; cases hi
        | some n1 =>
          rw [en] at hi
          obtain rfl : V.int n1 = x := Option.some.inj hi
          have hn : n1 ∈ ks := List.mem_of_getElem? en
          obtain ⟨e, he⟩ := findW_some (es := es) (k := n1) (by rw [← hks] at hn; exact (sortI_perm _).mem_iff.mp hn)
          have hw2 := hw.same s2
          have etk : (ks.take (i + 1)).filter (topIs es n) = (ks.take i).filter (topIs es n) ++ (if topIs es n n1 = true then [n1] else []) := by
            rw [List.take_add_one, en, List.filter_append]
            congr 1
            simp only [Option.toList_some, List.filter_cons, List.filter_nil]
          have eti : topIs es n n1 = decide (e.top = some n) := by unfold topIs; rw [he]
          refine ⟨_, rfl, _, rfl, wa, V.ref e.da, rfl, by have := DGet.k (k := (Sum.inl n1 : Key)) hw2.1; rw [valW, he] at this; exact this, e.da, topV e.top, rfl, by have := DGet.k (k := (Sum.inr "top" : Key)) (hw2.2 e (findW_mem he).1); rw [kvs_top] at this; exact this, _, rfl, ?_⟩
          rw [etk, eti, ← topV_eq]
          by_cases c : topV e.top = V.int n
          · have ct : e.top = some n := by have := topV_eq e.top n; rw [decide_eq_true c] at this; exact of_decide_eq_true this.symm
            rw [c]
            refine ⟨rfl, _, rfl, ?_⟩
            rw [decide_eq_true rfl]
            refine iteT ?_
            have hkid : n1 ∈ kids es n := by unfold kids; rw [hks]; exact List.mem_filter.mpr ⟨hn, by rw [eti]; exact decide_eq_true ct⟩
            refine ⟨_, rfl, _, rfl, _, rfl, wa, es, n1, rfl, hw2, hl, hfl n1 hkid, fun r H3 s3 hr0 hr3 => ?_⟩
            refine ⟨p2, r, _, _, rfl, rfl, s3 _ _ hp2, hr3, ?_, fun p4 hp4 => ?_⟩
            · rw [List.length_map, List.length_map, List.length_cons]
              have h5 := under_len hl d n1
              have h6 := flat_le (f := under es d) (m := famMax d) (l := (ks.take i).filter (topIs es n)) fun k _ => under_len hl d k
              have h7 : ((ks.take i).filter (topIs es n)).length ≤ 10 := by
                refine Nat.le_trans (List.length_filter_le _ _) ?_
                rw [List.length_take]; omega
              have h8 := Nat.mul_le_mul_right (famMax d) h7
              have h9 : 1 + 10 * famMax d ≤ 2000 := hm
              have := sizeLine_eq
              rw [sizeLine_eq]; omega
            · refine ⟨_, p4, rfl, s2.trans (s3.trans (Same.new _ hp4)), (s2.trans s3).free hp4, (s3.trans (Same.new _ hp4)) _ _ hq2, ?_⟩
              rw [upd_same]
              simp
          · have hne : decide (topV e.top = V.int n) = false := decide_eq_false c
            have fin : (if decide (topV e.top = V.int n) = true then False else True) := by rw [hne]; exact iteF trivial
            cases et : e.top with
            | none =>
              refine ⟨rfl, _, rfl, ?_⟩
              rw [et] at hne
              rw [hne]
              refine iteF ⟨_, p2, rfl, s2, hp20, hq2, ?_⟩
              rw [hp2]
              simp
            | some tt =>
              refine ⟨rfl, _, rfl, ?_⟩
              rw [et] at hne
              rw [hne]
              refine iteF ⟨_, p2, rfl, s2, hp20, hq2, ?_⟩
              rw [hp2]
              simp
      · rintro σ H2 ⟨v, p2, rfl, s2, hp20, hq2, hp2⟩
        refine ⟨_, rfl, k p2 H2 s2 hp20 ?_⟩
        rw [hp2, List.take_of_length_le (by rw [List.length_map]; exact Nat.le_refl _)]
        unfold under kids
        rw [hks]
end
end SH
set_option Elab.async false
set_option linter.all false
set_option maxRecDepth 100000
namespace SH
open PySem PySem.Spec PyProof.Rows L2
/-! who is a part of whom -/
abbrev Tp := List (Int × Option Int)
def WE.key (e : WE) : Int × Option Int := (e.k, e.top)
def topOf (T : Tp) (k : Int) : Option (Option Int) := (T.find? fun p => decide (p.1 = k)).map (·.2)
structure WOk (T : Tp) : Prop where
  nd : (T.map (·.1)).Nodup
  rng : ∀ p ∈ T, 0 ≤ p.1 ∧ p.1 ≤ 9
  tops : ∀ k t, topOf T k = some (some t) → topOf T t = some none ∨ ∃ u, topOf T t = some (some u) ∧ topOf T u = some none
theorem topOf_findW (es : List WE) (k : Int) : topOf (es.map WE.key) k = (findW es k).map (·.top) := by
  unfold topOf findW
  rw [List.find?_map, Option.map_map]
  rfl
theorem topOf_mem {T : Tp} {k : Int} {t : Option Int} (h : topOf T k = some t) : (k, t) ∈ T := by
  unfold topOf at h
  cases e : T.find? fun p => decide (p.1 = k) with
  | none => rw [e] at h; cases h
  | some p =>
    rw [e] at h
    have h1 := List.mem_of_find?_eq_some e
    have h2 : p.1 = k := by have := List.find?_some e; simpa using this
    have h3 : p.2 = t := Option.some.inj h
    rw [← h2, ← h3]; exact h1
theorem topOf_of {T : Tp} (nd : (T.map (·.1)).Nodup) {k : Int} {t : Option Int} (h : (k, t) ∈ T) : topOf T k = some t := by
  induction T with
  | nil => cases h
  | cons p T ih =>
    rw [List.map_cons, List.nodup_cons] at nd
    unfold topOf
    rw [List.find?_cons]
    rcases List.mem_cons.mp h with e | e
    · rw [← e, decide_eq_true (show (k, t).1 = k from rfl)]; rfl
    · have hne : ¬ p.1 = k := fun z => nd.1 (List.mem_map.mpr ⟨(k, t), e, z.symm⟩)
      rw [decide_eq_false hne]
      exact ih nd.2 e
theorem pigeon : ∀ (n : Nat) (l : List Int), l.Nodup → (∀ x ∈ l, 0 ≤ x ∧ x < (n : Int)) → l.length ≤ n
  | 0, l, _, h => by
    cases l with
    | nil => exact Nat.le_refl _
    | cons x l => have := h x List.mem_cons_self; omega
  | n + 1, l, nd, h => by
    have ih := pigeon n (l.erase (n : Int)) (nd.erase _) fun x hx => by
      have h1 := (nd.mem_erase_iff).mp hx
      have h2 := h x h1.2
      have h3 : x ≠ (n : Int) := h1.1
      omega
    by_cases c : (n : Int) ∈ l
    · rw [List.length_erase_of_mem c] at ih; omega
    · rw [List.erase_of_not_mem c] at ih; omega
theorem WOk.len {T : Tp} (h : WOk T) : T.length ≤ 10 := by
  have := pigeon 10 (T.map (·.1)) h.nd fun x hx => by
    obtain ⟨p, hp, e⟩ := List.mem_map.mp hx
    have := h.rng p hp
    rw [← e]
    show 0 ≤ p.1 ∧ p.1 < 10
    omega
  rwa [List.length_map] at this
theorem mem_kids {es : List WE} {n k : Int} : k ∈ kids es n ↔ topOf (es.map WE.key) k = some (some n) := by
  unfold kids
  rw [List.mem_filter]
  have h1 : topIs es n k = true ↔ topOf (es.map WE.key) k = some (some n) := by
    rw [topOf_findW]
    unfold topIs
    cases findW es k with
    | none => simp
    | some e => simp
  rw [h1]
  refine ⟨fun h => h.2, fun h => ⟨?_, h⟩⟩
  refine (sortI_perm _).mem_iff.mpr ?_
  have := topOf_mem h
  obtain ⟨e, he, e2⟩ := List.mem_map.mp this
  exact List.mem_map.mpr ⟨e, he, congrArg (·.1) e2⟩
theorem WOk.kid2 {T : Tp} (h : WOk T) {i j k n : Int} (h1 : topOf T i = some (some j)) (h2 : topOf T j = some (some k)) (h3 : topOf T k = some (some n)) : False := by
  rcases h.tops i j h1 with q | ⟨u, q, q2⟩
  · rw [h2] at q; cases q
  · rw [h2] at q
    have : k = u := Option.some.inj (Option.some.inj q)
    rw [← this, h3] at q2; cases q2
theorem WOk.flat {es : List WE} (h : WOk (es.map WE.key)) (n : Int) : Flat es 2 n := fun k hk j hj => by
  show kids es j = []
  cases e : kids es j with
  | nil => rfl
  | cons i r => exact (h.kid2 (mem_kids.mp (by rw [e]; exact List.mem_cons_self)) (mem_kids.mp hj) (mem_kids.mp hk)).elim
theorem under2 (es : List WE) (n : Int) : under es 2 n = n :: (kids es n).flatMap fun k => k :: kids es k := by
  show n :: (kids es n).flatMap (fun k => k :: (kids es k).flatMap (under es 0)) = _
  congr 2
  funext k
  congr 1
  show (kids es k).flatMap (fun j => [j]) = _
  rw [List.flatMap_singleton']
theorem kids_nd {es : List WE} (h : (es.map (·.k)).Nodup) (n : Int) : (kids es n).Nodup := by
  unfold kids
  exact ((sortI_perm _).nodup_iff.mpr h).sublist List.filter_sublist
theorem WOk.under_nd {es : List WE} (h : WOk (es.map WE.key)) (n : Int) : (under es 2 n).Nodup := by
  have hk : (es.map (·.k)).Nodup := by have := h.nd; rw [List.map_map] at this; exact this
  rw [under2, List.nodup_cons]
  have self : ∀ {k : Int}, ¬ topOf (es.map WE.key) k = some (some k) := fun z => h.kid2 z z z
  have two : ∀ {k j : Int}, topOf (es.map WE.key) k = some (some j) → ¬ topOf (es.map WE.key) j = some (some k) := fun a b => h.kid2 a b a
  refine ⟨fun hm => ?_, ?_⟩
  · obtain ⟨k, hk, hn⟩ := List.mem_flatMap.mp hm
    have hk := mem_kids.mp hk
    rcases List.mem_cons.mp hn with e | e
    · rw [← e] at hk; exact self hk
    · exact two hk (mem_kids.mp e)
  · show List.Pairwise _ _
    rw [List.pairwise_flatMap]
    refine ⟨fun k hk' => List.nodup_cons.mpr ⟨fun z => self (mem_kids.mp z), kids_nd hk k⟩, ?_⟩
    have hp : (kids es n).Pairwise (· ≠ ·) := kids_nd hk n
    refine (List.Pairwise.and_mem.mp hp).imp ?_
    rintro a b ⟨ha, hb, hab⟩
    have ha := mem_kids.mp ha
    have hb := mem_kids.mp hb
    intro x hx y hy e0
    subst e0
    rcases List.mem_cons.mp hx with e1 | e1 <;> rcases List.mem_cons.mp hy with e2 | e2
    · exact hab (e1.symm.trans e2)
    · have := mem_kids.mp e2
      rw [e1, ha] at this
      have : n = b := Option.some.inj (Option.some.inj this)
      rw [← this] at hb; exact self hb
    · have := mem_kids.mp e1
      rw [e2, hb] at this
      have : n = a := Option.some.inj (Option.some.inj this)
      rw [← this] at ha; exact self ha
    · have q1 := mem_kids.mp e1
      have q2 := mem_kids.mp e2
      rw [q1] at q2
      exact hab (Option.some.inj (Option.some.inj q2))
theorem WOk.under_in {es : List WE} {n : Int} (hn : n ∈ es.map (·.k)) {x : Int} (hx : x ∈ under es 2 n) : x ∈ es.map (·.k) := by
  have kin : ∀ {a b : Int}, a ∈ kids es b → a ∈ es.map (·.k) := fun h => by
    unfold kids at h
    exact (sortI_perm _).mem_iff.mp (List.mem_filter.mp h).1
  rw [under2] at hx
  rcases List.mem_cons.mp hx with e | e
  · rw [e]; exact hn
  · obtain ⟨k, hk, hx⟩ := List.mem_flatMap.mp e
    rcases List.mem_cons.mp hx with e | e
    · rw [e]; exact kin hk
    · exact kin e
theorem WOk.under_cl {es : List WE} (h : WOk (es.map WE.key)) {n k t : Int} (hk : topOf (es.map WE.key) k = some (some t)) (ht : t ∈ under es 2 n) : k ∈ under es 2 n := by
  rw [under2] at ht ⊢
  rcases List.mem_cons.mp ht with e | e
  · rw [e] at hk
    exact List.mem_cons_of_mem _ (List.mem_flatMap.mpr ⟨k, mem_kids.mpr hk, List.mem_cons_self⟩)
  · obtain ⟨j, hj, hx⟩ := List.mem_flatMap.mp e
    rcases List.mem_cons.mp hx with e | e
    · rw [e] at hk
      exact List.mem_cons_of_mem _ (List.mem_flatMap.mpr ⟨j, hj, List.mem_cons_of_mem _ (mem_kids.mpr hk)⟩)
    · exact (h.kid2 hk (mem_kids.mp e) (mem_kids.mp hj)).elim
theorem topOf_filter {T : Tp} {q : Int → Bool} {k : Int} : topOf (T.filter fun p => q p.1) k = if q k = true then topOf T k else none := by
  unfold topOf
  induction T with
  | nil => simp
  | cons p T ih =>
    rw [List.filter_cons]
    by_cases e : p.1 = k
    · by_cases c : q p.1 = true
      · rw [if_pos c, List.find?_cons, decide_eq_true e, ← e, if_pos c, List.find?_cons, decide_eq_true rfl]
      · rw [if_neg c, ih, ← e, if_neg c, if_neg c]
    · by_cases c : q p.1 = true
      · rw [if_pos c, List.find?_cons, decide_eq_false e, List.find?_cons, decide_eq_false e]
        exact ih
      · rw [if_neg c, ih, List.find?_cons, decide_eq_false e]
theorem WOk.drop {es : List WE} (h : WOk (es.map WE.key)) (n : Int) : WOk ((es.map WE.key).filter fun p => decide (p.1 ∉ under es 2 n)) := by
  refine ⟨h.nd.sublist ((List.filter_sublist).map _), fun p hp => h.rng p (List.mem_filter.mp hp).1, fun k t hkt => ?_⟩
  have tf := fun k => topOf_filter (T := es.map WE.key) (q := fun x => decide (x ∉ under es 2 n)) (k := k)
  rw [tf] at hkt
  by_cases c : decide (k ∉ under es 2 n) = true
  · rw [if_pos c] at hkt
    have ck := of_decide_eq_true c
    have ct : t ∉ under es 2 n := fun z => ck (h.under_cl hkt z)
    rcases h.tops k t hkt with q | ⟨u, q, q2⟩
    · left; rw [tf, if_pos (decide_eq_true ct)]; exact q
    · have cu : u ∉ under es 2 n := fun z => ct (h.under_cl q z)
      exact .inr ⟨u, by rw [tf, if_pos (decide_eq_true ct)]; exact q, by rw [tf, if_pos (decide_eq_true cu)]; exact q2⟩
  · rw [if_neg c] at hkt; cases hkt
theorem WOk.nil : WOk [] := ⟨List.nodup_nil, fun _ h => (by cases h), fun k t h => (by cases h)⟩
theorem topOf_app {T : Tp} {n k : Int} {t : Option Int} : topOf (T ++ [(n, t)]) k = match topOf T k with
    | some x => some x
    | none => if n = k then some t else none := by
  unfold topOf
  rw [List.find?_append]
  cases e : T.find? fun p => decide (p.1 = k) with
  | some p => rfl
  | none =>
    show Option.map _ ((([(n, t)] : Tp).find? fun p => decide (p.1 = k))) = _
    by_cases c : n = k
    · simp [List.find?_cons, c]
    · simp [List.find?_cons, c]
theorem WOk.make {T : Tp} (h : WOk T) {n : Int} (hn : topOf T n = none) (h0 : 0 ≤ n) (h9 : n ≤ 9) : WOk (T ++ [(n, none)]) := by
  have hni : n ∉ T.map (·.1) := fun z => by
    obtain ⟨p, hp, e⟩ := List.mem_map.mp z
    have := topOf_of h.nd (k := p.1) (t := p.2) hp
    rw [e, hn] at this; cases this
  have up : ∀ {k x}, topOf T k = some x → topOf (T ++ [(n, none)]) k = some x := fun e => by rw [topOf_app, e]
  refine ⟨?_, fun p hp => ?_, fun k t hk => ?_⟩
  · rw [List.map_append, List.nodup_append]
    refine ⟨h.nd, by simp, fun a ha b hb e => ?_⟩
    have : b = n := by simpa using hb
    rw [e, this] at ha; exact hni ha
  · rcases List.mem_append.mp hp with q | q
    · exact h.rng p q
    · rw [List.mem_singleton.mp q]; exact ⟨h0, h9⟩
  · rw [topOf_app] at hk
    cases e : topOf T k with
    | none =>
      rw [e] at hk
      by_cases c : n = k
      · simp [c] at hk
      · simp [c] at hk
    | some x =>
      rw [e] at hk
      have hx : x = some t := Option.some.inj hk
      rw [hx] at e
      rcases h.tops k t e with q | ⟨u, q, q2⟩
      · exact .inl (up q)
      · exact .inr ⟨u, up q, up q2⟩
def setTop (T : Tp) (n o : Int) : Tp := T.map fun p => if p.1 = n then (p.1, some o) else p
theorem topOf_set {T : Tp} {n o k : Int} : topOf (setTop T n o) k = if k = n then (topOf T k).map (fun _ => some o) else topOf T k := by
  unfold topOf setTop
  induction T with
  | nil => simp
  | cons p T ih =>
    rw [List.map_cons, List.find?_cons, List.find?_cons]
    by_cases e : p.1 = n
    · rw [if_pos e]
      by_cases c : p.1 = k
      · rw [if_pos (show k = n by rw [← c]; exact e)]; simp [c]
      · rw [decide_eq_false (show ¬ (p.1, some o).1 = k from c)]
        try rw [decide_eq_false c]
        exact ih
    · rw [if_neg e]
      by_cases c : p.1 = k
      · rw [decide_eq_true c, if_neg (by rw [← c]; exact e)]
      · rw [decide_eq_false c]; exact ih
theorem WOk.tie {T : Tp} (h : WOk T) {n o : Int} (hno : n ≠ o) (hk : ∀ k, ¬ topOf T k = some (some n)) (ho : topOf T o = some none ∨ ∃ u, topOf T o = some (some u) ∧ topOf T u = some none) : WOk (setTop T n o) := by
  have ek : (setTop T n o).map (·.1) = T.map (·.1) := by
    unfold setTop
    rw [List.map_map]
    refine List.map_congr_left fun p _ => ?_
    show (if p.1 = n then (p.1, some o) else p).1 = p.1
    split <;> rfl
  refine ⟨by rw [ek]; exact h.nd, fun p hp => ?_, fun k t hkt => ?_⟩
  · have : p.1 ∈ (setTop T n o).map (·.1) := List.mem_map_of_mem hp
    rw [ek] at this
    obtain ⟨q, hq, e⟩ := List.mem_map.mp this
    rw [← e]; exact h.rng q hq
  · have same : ∀ {a}, a ≠ n → topOf (setTop T n o) a = topOf T a := fun ha => by rw [topOf_set, if_neg ha]
    have tn : ∀ {a b : Int}, topOf T a = some (some b) → b ≠ n := fun q z => hk _ (by rw [z] at q; exact q)
    have chain : ∀ {a : Int}, a ≠ n → (topOf T a = some none ∨ ∃ u, topOf T a = some (some u) ∧ topOf T u = some none) → (topOf (setTop T n o) a = some none ∨ ∃ u, topOf (setTop T n o) a = some (some u) ∧ topOf (setTop T n o) u = some none) := by
      intro a ha q
      rcases q with q | ⟨u, q, q2⟩
      · exact .inl (by rw [same ha]; exact q)
      · exact .inr ⟨u, by rw [same ha]; exact q, by rw [same (tn q)]; exact q2⟩
    by_cases e : k = n
    · rw [topOf_set, if_pos e] at hkt
      cases q : topOf T k with
      | none => rw [q] at hkt; cases hkt
      | some x =>
        rw [q] at hkt
        have : o = t := Option.some.inj (Option.some.inj hkt)
        rw [← this]
        exact chain (Ne.symm hno) ho
    · rw [same e] at hkt
      exact chain (tn hkt) (h.tops k t hkt)
end SH
set_option Elab.async false
set_option linter.all false
set_option maxRecDepth 100000
namespace SH
open PySem PySem.Spec PyProof.Rows L2
abbrev sTied : Stmt := top 31
def TieOk (T : Tp) (n o : Int) : Prop := n ≠ o ∧ topOf T n = some none ∧ (∀ k, ¬ topOf T k = some (some n)) ∧ (topOf T o = some none ∨ ∃ u, topOf T o = some (some u) ∧ topOf T u = some none)
theorem WAt.get {H : Hp} {wa : Addr} {es : List WE} (h : WAt H wa es) {k : Int} {e : WE} (he : findW es k = some e) : DGet H wa (V.int k) (some (V.ref e.da)) := by
  have := DGet.k (k := (Sum.inl k : Key)) h.1
  rw [valW, he] at this; exact this
theorem WAt.top {H : Hp} {wa : Addr} {es : List WE} (h : WAt H wa es) {e : WE} (he : e ∈ es) : DGet H e.da (V.str "top") (some (topV e.top)) := by
  have := DGet.k (k := (Sum.inr "top" : Key)) (h.2 e he)
  rw [kvs_top] at this; exact this
theorem WAt.rd {H : Hp} {wa : Addr} {es : List WE} (h : WAt H wa es) {e : WE} (he : e ∈ es) : DGet H e.da (V.str "ready") (some e.rd) := by
  have := DGet.k (k := (Sum.inr "ready" : Key)) (h.2 e he)
  rw [kvs_rd] at this; exact this
theorem WAt.sh {H : Hp} {wa : Addr} {es : List WE} (h : WAt H wa es) {e : WE} (he : e ∈ es) : DGet H e.da (V.str "shown") (some e.sh) := by
  have := DGet.k (k := (Sum.inr "shown" : Key)) (h.2 e he)
  rw [kvs_sh] at this; exact this
theorem WAt.pend {H : Hp} {wa : Addr} {es : List WE} (h : WAt H wa es) {e : WE} (he : e ∈ es) : DGet H e.da (V.str "pending") (some (V.ref e.p)) := by
  have := DGet.k (k := (Sum.inr "pending" : Key)) (h.2 e he)
  rw [kvs_pend] at this; exact this
theorem WAt.is {H : Hp} {wa : Addr} {es : List WE} (h : WAt H wa es) (k : Int) : DGet H wa (V.int k) ((findW es k).map fun e => V.ref e.da) := by
  have := DGet.k (k := (Sum.inl k : Key)) h.1
  rw [valW] at this; exact this
section
variable {P : Program} {w : World} {K : PySem.W.Frag} {mg : Str → Option Value} {base : Heap}
abbrev nTied : List Str := ["_law_w", "_law_name", "_law_other", "_law_above"]
theorem scTied : FnScope nTied ["_law_w", "_law_name", "_law_other"] (defScope sTied) := ⟨rfl, rfl, rfl, by decide +kernel, rfl, by decide +kernel, by decide +kernel⟩
def spTied : Sp := fun vs H Q _ => ∃ (wa : Addr) (es : List WE) (n o : Int), vs = [.ref wa, .int n, .int o] ∧ WAt H wa es ∧ WOk (es.map WE.key) ∧
  ∀ b H', Same H H' → (b = true → TieOk (es.map WE.key) n o) → Q (.bl b) H'
theorem ok_tied {f fU : Addr} {fd fdU : FuncData} (F : Fun K "_law_is_tied" "_law_is_tied" sTied f fd) (T : TxtG mg)
    (GU : FnOk P w K mg base CX0 3 fU fdU ["_law_w", "_law_name"] (spUnder 2)) (bU : Binds K fdU ["_law_w", "_law_name"] []) (gU : mg "_law_under" = some (.ref fU)) (kU : PySem.W.keepIn K (.ref fU) = true) :
    FnOk P w K mg base CX0 4 f fd ["_law_w", "_law_name", "_law_other"] spTied := by
  refine F.ok scTied (fun vs H Q E h => ?_) (fun cdv A0 outer s0 H vs Q E hr h => ?_)
  · obtain ⟨wa, es, n, o, rfl, _⟩ := h
    rfl
  · obtain ⟨wa, es, n, o, rfl, hw, ok, k⟩ := h
    have hu := hu_of hr
    refine ⟨_, pss_cons (ps_if (PW.pt (pw_or (pt_cmpR op_eq (pv 1) (pv 2) (nomark _)) (pw_or (pt_cmp (pc_dnotin hu (pv 1) (pv 0))) (pw_or (pt_cmp (pc_dnotin hu (pv 2) (pv 0)))
        (pw_or1 (pt_cmpR op_gt (pe_callB call_len_seq (by rfl) T.len PySem.boot_len (pa_cons (pe_call GU hr rfl gU kU bU .nil pass0 (pa_cons (pv 0) (pa_cons (pv 1) pa_nil))) pa_nil)) pe_int (nomark _))))))) (pss_one (ps_ret pe_bl)) pss_nil)
      (pss_cons (ps_if (PW.pt (pw_or (pt_cmpR op_notN (pe_dget hu (pe_dget hu (pv 0) (pv 1) (fun _ _ => rfl)) pe_str (fun _ _ => rfl)) pe_non (nomark _))
        (pw_or (pt_cmpR op_notN (pe_dget hu (pe_dget hu (pv 0) (pv 1) (fun _ _ => rfl)) pe_str (fun _ _ => rfl)) pe_non (nomark _))
        (pw_or1 (pt_cmpR op_notN (pe_dget hu (pe_dget hu (pv 0) (pv 1) (fun _ _ => rfl)) pe_str (fun _ _ => rfl)) pe_non (nomark _)))))) (pss_one (ps_ret pe_bl)) pss_nil)
      (pss_cons (ps_set (i := 3) scTied.nd rfl (Or.inl rfl) (pe_dget hu (pe_dget hu (pv 0) (pv 2) (fun _ _ => rfl)) pe_str (fun _ _ => rfl)))
      (pss_one (ps_ret (pe_or (pe_cmpR op_isN (pv 3) pe_non (nomark _)) (pe_one (pe_cmpR op_isN (pe_dget hu (pe_dget hu (pv 0) (pv 3) (fun _ _ => rfl)) pe_str (fun _ _ => rfl)) pe_non (nomark _)))))))), ?_⟩
    have no : ∀ H', Same H H' → Q (.bl false) H' := fun H' s => k false H' s (fun z => by cases z)
    have hlen := ok.len
    rw [List.length_map] at hlen
    refine ⟨_, rfl, _, rfl, rfl, _, rfl, ?_⟩
    by_cases c1 : n = o
    · rw [decide_eq_true (show V.int n = V.int o by rw [c1])]
      exact iteT (no H (Same.refl H))
    rw [decide_eq_false (show ¬ V.int n = V.int o from fun z => c1 (V.int.inj z))]
    refine iteF ?_
    refine ⟨_, rfl, _, rfl, wa, _, rfl, hw.is n, _, rfl, ?_⟩
    cases en : findW es n with
    | none => exact iteT (no H (Same.refl H))
    | some e =>
    refine iteF ?_
    refine ⟨_, rfl, _, rfl, wa, _, rfl, hw.is o, _, rfl, ?_⟩
    cases eo : findW es o with
    | none => exact iteT (no H (Same.refl H))
    | some g =>
    refine iteF ?_
    refine ⟨_, rfl, _, rfl, wa, es, n, rfl, hw, hlen, ok.flat n, fun p H1 s1 hp0 hp => ?_⟩
    refine ⟨p, _, rfl, .inl (SqL.of hp), _, _, rfl, rfl, _, rfl, ?_⟩
    rw [List.length_map, under2, List.length_cons]
    by_cases c2 : (1 : Int) < (((kids es n).flatMap fun k => k :: kids es k).length + 1 : Nat)
    · rw [decide_eq_true c2]
      exact iteT (no H1 s1)
    rw [decide_eq_false c2]
    refine iteF ?_
    have hk : kids es n = [] := by
      cases q : kids es n with
      | nil => rfl
      | cons a r => rw [q] at c2; simp at c2; omega
    have hw1 := hw.same s1
    have em := (findW_mem en).1
    refine ⟨_, rfl, _, rfl, wa, _, rfl, hw1.get en, _, _, rfl, hw1.sh em, rfl, _, rfl, ?_⟩
    refine ite2 (fun _ => no H1 s1) (fun _ => ?_)
    refine ⟨_, rfl, _, rfl, wa, _, rfl, hw1.get en, _, _, rfl, hw1.rd em, rfl, _, rfl, ?_⟩
    refine ite2 (fun _ => no H1 s1) (fun _ => ?_)
    refine ⟨_, rfl, _, rfl, wa, _, rfl, hw1.get en, _, _, rfl, hw1.top em, rfl, _, rfl, ?_⟩
    refine ite2 (fun _ => no H1 s1) (fun c3 => ?_)
    have et : e.top = none := by
      cases q : e.top with
      | none => rfl
      | some i => rw [q] at c3; exact absurd rfl c3
    have om := (findW_mem eo).1
    refine ⟨_, rfl, _, rfl, wa, _, rfl, hw1.get eo, _, _, rfl, hw1.top om, ?_⟩
    have base : (∀ b, (b = true → (topOf (es.map WE.key) o = some none ∨ ∃ u, topOf (es.map WE.key) o = some (some u) ∧ topOf (es.map WE.key) u = some none)) → Q (.bl b) H1) := fun b hb => k b H1 s1 fun z =>
      ⟨c1, by rw [topOf_findW, en]; show some e.top = _; rw [et], fun j hj => (by have := mem_kids.mpr hj; rw [hk] at this; cases this), hb z⟩
    cases eg : g.top with
    | none =>
      refine ⟨_, rfl, rfl, _, rfl, ?_⟩
      refine iteT ?_
      exact base true fun _ => .inl (by rw [topOf_findW, eo]; show some g.top = _; rw [eg])
    | some u =>
      refine ⟨_, rfl, rfl, _, rfl, ?_⟩
      refine iteF ?_
      have hg : topOf (es.map WE.key) o = some (some u) := by rw [topOf_findW, eo]; show some g.top = _; rw [eg]
      have hux : ∃ x, topOf (es.map WE.key) u = some x := by
        rcases ok.tops o u hg with q | ⟨v, q, _⟩
        · exact ⟨_, q⟩
        · exact ⟨_, q⟩
      obtain ⟨x, hx⟩ := hux
      rw [topOf_findW] at hx
      cases eu : findW es u with
      | none => rw [eu] at hx; cases hx
      | some gu =>
        refine ⟨_, rfl, _, rfl, wa, _, rfl, hw1.get eu, _, _, rfl, hw1.top (findW_mem eu).1, rfl, ?_⟩
        refine base _ fun z => .inr ⟨u, hg, ?_⟩
        rw [topOf_findW, eu]
        show some gu.top = _
        cases q : gu.top with
        | none => rfl
        | some i => rw [q] at z; exact absurd (of_decide_eq_true z) (by intro y; cases y)
end
end SH
set_option Elab.async false
set_option linter.all false
set_option maxRecDepth 100000
namespace SH
open PySem PySem.Spec PyProof.Rows L2
def WE.core (e : WE) : Int × Addr × Addr × Option Int := (e.k, e.da, e.p, e.top)
def WPend (H : Hp) (es : List WE) : Prop := ∀ e ∈ es, PendAt H e.p
theorem WPend.keep {H H' : Hp} {es : List WE} (h : WPend H es) (k : KeepT H H') : WPend H' es := fun e he => (h e he).keep k
theorem WPend.core {H : Hp} {es es' : List WE} (h : WPend H es) (c : es'.map WE.core = es.map WE.core) : WPend H es' := fun e he => by
  have : e.core ∈ es.map WE.core := by rw [← c]; exact List.mem_map_of_mem he
  obtain ⟨e2, h2, q⟩ := List.mem_map.mp this
  have : e2.p = e.p := congrArg (fun x => x.2.2.1) q
  rw [← this]; exact h e2 h2
theorem core_key {es es' : List WE} (c : es'.map WE.core = es.map WE.core) : es'.map WE.key = es.map WE.key := by
  have f : WE.key = (fun x : Int × Addr × Addr × Option Int => (x.1, x.2.2.2)) ∘ WE.core := rfl
  rw [f, ← List.map_map, ← List.map_map, c]
theorem wat_of {H : Hp} {A B : Cells} {wa : Addr} {es : List WE} (h : Has H (A ++ (wCells wa es ++ B))) : WAt H wa es :=
  ⟨h.get 0 rfl, fun e he => h.mem (List.mem_append_right _ (List.mem_append_left _ (List.mem_cons_of_mem _ (List.mem_map.mpr ⟨e, he, rfl⟩))))⟩
theorem findW_ix {es : List WE} {k : Int} {e : WE} (h : findW es k = some e) : ∃ i : Nat, es[i]? = some e := by
  obtain ⟨i, hi, q⟩ := List.getElem_of_mem (findW_mem h).1
  exact ⟨i, by rw [List.getElem?_eq_getElem hi, q]⟩
theorem wkvs_set {es : List WE} {i : Nat} {e e' : WE} (h : es[i]? = some e) (hk : e'.k = e.k) (hd : e'.da = e.da) : wKvs (es.set i e') = wKvs es := by
  unfold wKvs
  rw [List.map_set, hk, hd]
  refine List.ext_getElem? fun j => ?_
  by_cases c : i = j
  · subst c
    have hi := (List.getElem?_eq_some_iff.mp h).1
    rw [List.getElem?_set_self (by rw [List.length_map]; exact hi), List.getElem?_map, h]; rfl
  · rw [List.getElem?_set_ne c]
theorem Has.wset {H : Hp} {A B : Cells} {wa : Addr} {es : List WE} {i : Nat} {e e' : WE} (h : Has H (A ++ (wCells wa es ++ B))) (he : es[i]? = some e) (hk : e'.k = e.k) (hd : e'.da = e.da) :
    Has (upd H e.da (.dK e'.kvs)) (A ++ (wCells wa (es.set i e') ++ B)) := by
  have hi := (List.getElem?_eq_some_iff.mp he).1
  have e1 : (wCells wa es ++ B)[i + 1]? = some (e.da, HO.dK e.kvs) := by
    unfold wCells
    rw [List.cons_append, List.getElem?_cons_succ, List.getElem?_append_left (by rw [List.length_map]; exact hi), List.getElem?_map, he]; rfl
  have := h.set (i + 1) e1 (.dK e'.kvs)
  refine this.re ?_
  congr 1
  unfold wCells
  rw [List.cons_append, List.set_cons_succ, List.set_append_left _ _ (by rw [List.length_map]; exact hi), wkvs_set he hk hd, List.map_set, hd]; rfl
theorem core_set {es : List WE} {i : Nat} {e e' : WE} (h : es[i]? = some e) (hc : e'.core = e.core) : (es.set i e').map WE.core = es.map WE.core := by
  rw [List.map_set, hc]
  refine List.ext_getElem? fun j => ?_
  by_cases c : i = j
  · subst c
    have hi := (List.getElem?_eq_some_iff.mp h).1
    rw [List.getElem?_set_self (by rw [List.length_map]; exact hi), List.getElem?_map, h]; rfl
  · rw [List.getElem?_set_ne c]
theorem core_find {es es' : List WE} (c : es'.map WE.core = es.map WE.core) {k : Int} {e : WE} (h : findW es k = some e) : ∃ e', findW es' k = some e' ∧ e'.core = e.core := by
  have g : ∀ l : List WE, (findW l k).map WE.core = (l.map WE.core).find? fun x => decide (x.1 = k) := fun l => by
    unfold findW
    rw [List.find?_map]; rfl
  have g1 := g es'
  rw [c, ← g es, h] at g1
  cases q : findW es' k with
  | none => rw [q] at g1; cases g1
  | some e' => rw [q] at g1; exact ⟨e', rfl, Option.some.inj g1⟩
theorem KeepT.dk {H : Hp} {p : Addr} {kvs : List (Key × V)} (h : H p = some (.dK kvs)) (o : HO) : KeepT H (upd H p o) := upd_tup fun xs e => by rw [h] at e; cases e
theorem keyset {es : List WE} (nd : ((es.map WE.key).map (·.1)).Nodup) {i : Nat} {e e' : WE} {o : Int} (h : es[i]? = some e) (hk : e'.k = e.k) (ht : e'.top = some o) : (es.set i e').map WE.key = setTop (es.map WE.key) e.k o := by
  unfold setTop
  refine List.ext_getElem? fun j => ?_
  rw [List.map_set, List.getElem?_map]
  have hi := (List.getElem?_eq_some_iff.mp h).1
  by_cases c : i = j
  · subst c
    rw [List.getElem?_set_self (by rw [List.length_map]; exact hi), List.getElem?_map, h]
    show some e'.key = some (if e.key.1 = e.k then (e.key.1, some o) else e.key)
    rw [if_pos (show e.key.1 = e.k from rfl)]
    show some (e'.k, e'.top) = some (e.k, some o)
    rw [hk, ht]
  · rw [List.getElem?_set_ne c, List.getElem?_map]
    cases q : es[j]? with
    | none => rfl
    | some g =>
      show some g.key = some (if g.key.1 = e.k then (g.key.1, some o) else g.key)
      rw [if_neg]
      intro z
      have k1 : ((es.map WE.key).map (·.1))[i]? = some e.k := by rw [List.getElem?_map, List.getElem?_map, h]; rfl
      have k2 : ((es.map WE.key).map (·.1))[j]? = some e.k := by rw [List.getElem?_map, List.getElem?_map, q]; exact congrArg some z
      exact c (nd_ix nd k1 k2)
theorem putW_new {es : List WE} {n : Int} {d : Addr} (h : findW es n = none) : putK (wKvs es) (Sum.inl n : Key) (V.ref d) = wKvs es ++ [(Sum.inl n, V.ref d)] := by
  unfold putK
  have : ((wKvs es).any fun kv => decide (kv.1 = (Sum.inl n : Key))) = false := by
    rw [valV_any, valW, h]; rfl
  rw [this]; rfl
theorem dropW {es : List WE} {n : Int} : dropK (wKvs es) (Sum.inl n : Key) = wKvs (es.filter fun e => decide (e.k ≠ n)) := by
  unfold dropK wKvs
  rw [List.filter_map]
  congr 1
  refine List.filter_congr fun e _ => ?_
  show decide ((Sum.inl e.k : Key) ≠ Sum.inl n) = decide (e.k ≠ n)
  exact decide_eq_decide.mpr ⟨fun h z => h (by rw [z]), fun h z => h (Sum.inl.inj z)⟩
theorem Has.wdrop {H : Hp} {A B : Cells} {wa : Addr} {es : List WE} {q : WE → Bool} (h : Has H (A ++ (wCells wa es ++ B))) :
    Has (upd H wa (.dK (wKvs (es.filter q)))) (A ++ (wCells wa (es.filter q) ++ B)) := by
  have h1 := h.set 0 (p := wa) (o := .dK (wKvs es)) rfl (.dK (wKvs (es.filter q)))
  refine (h1.sub ?_)
  refine List.Sublist.append_left ?_ _
  show (wCells wa (es.filter q) ++ B).Sublist (((wa, HO.dK (wKvs (es.filter q))) :: es.map fun e => (e.da, HO.dK e.kvs)) ++ B)
  refine List.Sublist.append_right ?_ _
  unfold wCells
  exact List.Sublist.cons₂ _ ((List.filter_sublist).map _)
theorem Has.wadd {H : Hp} {A B : Cells} {wa : Addr} {es : List WE} {e : WE} (h : Has H (A ++ (wCells wa es ++ ((e.da, HO.dK e.kvs) :: B)))) : Has (upd H wa (.dK (wKvs (es ++ [e])))) (A ++ (wCells wa (es ++ [e]) ++ B)) := by
  have h1 := h.set 0 (p := wa) (o := .dK (wKvs es)) rfl (.dK (wKvs (es ++ [e])))
  refine h1.re ?_
  congr 1
  unfold wCells
  rw [List.map_append, List.cons_append, List.cons_append, List.append_assoc]; rfl
end SH
set_option Elab.async false
set_option linter.all false
set_option maxRecDepth 100000
namespace SH
open PySem PySem.Spec PyProof.Rows L2
abbrev sDoes : Stmt := top 32
def Lt.name : Lt → Int
  | .make n => n | .drop n => n | .size n _ _ => n | .paint n _ _ _ _ _ => n | .place n _ _ => n | .rank n _ => n | .veil n => n | .unveil n => n | .tie n _ => n | .show n => n | .hold n => n | .let_ => 0
theorem word_let {z : Lt} (h : z.word = "let") : z = .let_ := by
  cases z with
  | make n => exact absurd (show ("make" : Str) = "let" from h) (by decide +kernel)
  | drop n => exact absurd (show ("drop" : Str) = "let" from h) (by decide +kernel)
  | size n a b => exact absurd (show ("size" : Str) = "let" from h) (by decide +kernel)
  | paint n a b c d m => exact absurd (show ("paint" : Str) = "let" from h) (by decide +kernel)
  | place n a b => exact absurd (show ("place" : Str) = "let" from h) (by decide +kernel)
  | rank n a => exact absurd (show ("rank" : Str) = "let" from h) (by decide +kernel)
  | veil n => exact absurd (show ("veil" : Str) = "let" from h) (by decide +kernel)
  | unveil n => exact absurd (show ("unveil" : Str) = "let" from h) (by decide +kernel)
  | tie n a => exact absurd (show ("tie" : Str) = "let" from h) (by decide +kernel)
  | «show» n => exact absurd (show ("show" : Str) = "let" from h) (by decide +kernel)
  | hold n => exact absurd (show ("hold" : Str) = "let" from h) (by decide +kernel)
  | let_ => exact rfl
theorem word_make {z : Lt} (h : z.word = "make") : ∃ n, z = .make n := by
  cases z with
  | make n => exact ⟨_, rfl⟩
  | drop n => exact absurd (show ("drop" : Str) = "make" from h) (by decide +kernel)
  | size n a b => exact absurd (show ("size" : Str) = "make" from h) (by decide +kernel)
  | paint n a b c d m => exact absurd (show ("paint" : Str) = "make" from h) (by decide +kernel)
  | place n a b => exact absurd (show ("place" : Str) = "make" from h) (by decide +kernel)
  | rank n a => exact absurd (show ("rank" : Str) = "make" from h) (by decide +kernel)
  | veil n => exact absurd (show ("veil" : Str) = "make" from h) (by decide +kernel)
  | unveil n => exact absurd (show ("unveil" : Str) = "make" from h) (by decide +kernel)
  | tie n a => exact absurd (show ("tie" : Str) = "make" from h) (by decide +kernel)
  | «show» n => exact absurd (show ("show" : Str) = "make" from h) (by decide +kernel)
  | hold n => exact absurd (show ("hold" : Str) = "make" from h) (by decide +kernel)
  | let_ => exact absurd (show ("let" : Str) = "make" from h) (by decide +kernel)
theorem word_tie {z : Lt} (h : z.word = "tie") : ∃ n o, z = .tie n o := by
  cases z with
  | make n => exact absurd (show ("make" : Str) = "tie" from h) (by decide +kernel)
  | drop n => exact absurd (show ("drop" : Str) = "tie" from h) (by decide +kernel)
  | size n a b => exact absurd (show ("size" : Str) = "tie" from h) (by decide +kernel)
  | paint n a b c d m => exact absurd (show ("paint" : Str) = "tie" from h) (by decide +kernel)
  | place n a b => exact absurd (show ("place" : Str) = "tie" from h) (by decide +kernel)
  | rank n a => exact absurd (show ("rank" : Str) = "tie" from h) (by decide +kernel)
  | veil n => exact absurd (show ("veil" : Str) = "tie" from h) (by decide +kernel)
  | unveil n => exact absurd (show ("unveil" : Str) = "tie" from h) (by decide +kernel)
  | tie n a => exact ⟨_, _, rfl⟩
  | «show» n => exact absurd (show ("show" : Str) = "tie" from h) (by decide +kernel)
  | hold n => exact absurd (show ("hold" : Str) = "tie" from h) (by decide +kernel)
  | let_ => exact absurd (show ("let" : Str) = "tie" from h) (by decide +kernel)
theorem word_hold {z : Lt} (h : z.word = "hold") : ∃ n, z = .hold n := by
  cases z with
  | make n => exact absurd (show ("make" : Str) = "hold" from h) (by decide +kernel)
  | drop n => exact absurd (show ("drop" : Str) = "hold" from h) (by decide +kernel)
  | size n a b => exact absurd (show ("size" : Str) = "hold" from h) (by decide +kernel)
  | paint n a b c d m => exact absurd (show ("paint" : Str) = "hold" from h) (by decide +kernel)
  | place n a b => exact absurd (show ("place" : Str) = "hold" from h) (by decide +kernel)
  | rank n a => exact absurd (show ("rank" : Str) = "hold" from h) (by decide +kernel)
  | veil n => exact absurd (show ("veil" : Str) = "hold" from h) (by decide +kernel)
  | unveil n => exact absurd (show ("unveil" : Str) = "hold" from h) (by decide +kernel)
  | tie n a => exact absurd (show ("tie" : Str) = "hold" from h) (by decide +kernel)
  | «show» n => exact absurd (show ("show" : Str) = "hold" from h) (by decide +kernel)
  | hold n => exact ⟨_, rfl⟩
  | let_ => exact absurd (show ("let" : Str) = "hold" from h) (by decide +kernel)
theorem word_drop {z : Lt} (h : z.word = "drop") : ∃ n, z = .drop n := by
  cases z with
  | make n => exact absurd (show ("make" : Str) = "drop" from h) (by decide +kernel)
  | drop n => exact ⟨_, rfl⟩
  | size n a b => exact absurd (show ("size" : Str) = "drop" from h) (by decide +kernel)
  | paint n a b c d m => exact absurd (show ("paint" : Str) = "drop" from h) (by decide +kernel)
  | place n a b => exact absurd (show ("place" : Str) = "drop" from h) (by decide +kernel)
  | rank n a => exact absurd (show ("rank" : Str) = "drop" from h) (by decide +kernel)
  | veil n => exact absurd (show ("veil" : Str) = "drop" from h) (by decide +kernel)
  | unveil n => exact absurd (show ("unveil" : Str) = "drop" from h) (by decide +kernel)
  | tie n a => exact absurd (show ("tie" : Str) = "drop" from h) (by decide +kernel)
  | «show» n => exact absurd (show ("show" : Str) = "drop" from h) (by decide +kernel)
  | hold n => exact absurd (show ("hold" : Str) = "drop" from h) (by decide +kernel)
  | let_ => exact absurd (show ("let" : Str) = "drop" from h) (by decide +kernel)
theorem word_show {z : Lt} (h : z.word = "show") : ∃ n, z = .show n := by
  cases z with
  | make n => exact absurd (show ("make" : Str) = "show" from h) (by decide +kernel)
  | drop n => exact absurd (show ("drop" : Str) = "show" from h) (by decide +kernel)
  | size n a b => exact absurd (show ("size" : Str) = "show" from h) (by decide +kernel)
  | paint n a b c d m => exact absurd (show ("paint" : Str) = "show" from h) (by decide +kernel)
  | place n a b => exact absurd (show ("place" : Str) = "show" from h) (by decide +kernel)
  | rank n a => exact absurd (show ("rank" : Str) = "show" from h) (by decide +kernel)
  | veil n => exact absurd (show ("veil" : Str) = "show" from h) (by decide +kernel)
  | unveil n => exact absurd (show ("unveil" : Str) = "show" from h) (by decide +kernel)
  | tie n a => exact absurd (show ("tie" : Str) = "show" from h) (by decide +kernel)
  | «show» n => exact ⟨_, rfl⟩
  | hold n => exact absurd (show ("hold" : Str) = "show" from h) (by decide +kernel)
  | let_ => exact absurd (show ("let" : Str) = "show" from h) (by decide +kernel)
theorem word_look {z : Lt} (h1 : z.word ≠ "let") (h2 : z.word ≠ "make") (h3 : z.word ≠ "tie") (h4 : z.word ≠ "hold") (h5 : z.word ≠ "drop") (h6 : z.word ≠ "show") : z.look := by
  cases z with
  | make n => exact absurd rfl h2
  | drop n => exact absurd rfl h5
  | size n a b => exact .inl rfl
  | paint n a b c d m => exact .inr (.inl rfl)
  | place n a b => exact .inr (.inr (.inl rfl))
  | rank n a => exact .inr (.inr (.inr (.inl rfl)))
  | veil n => exact .inr (.inr (.inr (.inr (.inl rfl))))
  | unveil n => exact .inr (.inr (.inr (.inr (.inr (rfl)))))
  | tie n a => exact absurd rfl h3
  | «show» n => exact absurd rfl h6
  | hold n => exact absurd rfl h4
  | let_ => exact absurd rfl h1
theorem Lt.vals1 {z : Lt} (h : z ≠ .let_) : z.vals[1]? = some (V.int z.name) := by cases z <;> first | rfl | exact absurd rfl h
section
variable {P : Program} {w : World} {K : PySem.W.Frag} {mg : Str → Option Value} {base : Heap}
abbrev nDoes : List Str := ["_law_w", "_law_letter_here", "_law_word", "_law_name", "_law_gone", "_law_one", "_law_found", "_law_look"]
theorem scDoes : FnScope nDoes ["_law_w", "_law_letter_here"] (defScope sDoes) := ⟨rfl, rfl, rfl, by decide +kernel, rfl, by decide +kernel, by decide +kernel⟩
def spDoes : Sp := fun vs H Q _ => ∃ (A B : Cells) (wa t : Addr) (es : List WE) (z : Lt), vs = [.ref wa, .ref t] ∧ Has H (A ++ (wCells wa es ++ B)) ∧ WOk (es.map WE.key) ∧ WPend H es ∧ H t = some (.tup z.vals) ∧ z.ok ∧
  ∀ b r x1 x2 es' H', KeepT H H' → H' r = some (.tup [.bl b, x1, x2]) → WOk (es'.map WE.key) → WPend H' es' → Has H' (A ++ (wCells wa es' ++ B)) → Q (.ref r) H'
set_option maxHeartbeats 0 in
theorem ok_does {f fU fT fP : Addr} {fd fdU fdT fdP : FuncData} (F : Fun K "_law_does" "_law_does" sDoes f fd) (T : TxtG mg)
    (GU : FnOk P w K mg base CX0 3 fU fdU ["_law_w", "_law_name"] (spUnder 2)) (bU : Binds K fdU ["_law_w", "_law_name"] []) (gU : mg "_law_under" = some (.ref fU)) (kU : PySem.W.keepIn K (.ref fU) = true)
    (GT : FnOk P w K mg base CX0 4 fT fdT ["_law_w", "_law_name", "_law_other"] spTied) (bT : Binds K fdT ["_law_w", "_law_name", "_law_other"] []) (gT : mg "_law_is_tied" = some (.ref fT)) (kT : PySem.W.keepIn K (.ref fT) = true)
    (GP : FnOk P w K mg base CX0 2 fP fdP ["_law_look", "_law_letter_here"] spPending) (bP : Binds K fdP ["_law_look", "_law_letter_here"] []) (gP : mg "_law_pending" = some (.ref fP)) (kP : PySem.W.keepIn K (.ref fP) = true) :
    FnOk P w K mg base CX0 5 f fd ["_law_w", "_law_letter_here"] spDoes := by
  refine F.ok scDoes (fun vs H Q E h => ?_) (fun cdv A0 outer s0 H vs Q E hr h => ?_)
  · obtain ⟨A, B, wa, t, es, z, rfl, _⟩ := h
    rfl
  · obtain ⟨A, B, wa, t, es, z, rfl, hh, ok, wp, ht, hz, k⟩ := h
    have hu := hu_of hr
    refine ⟨_, (pss_cons (ps_set (i := 2) scDoes.nd rfl (Or.inl rfl) (pe_ix ix_tup (pv 1) pe_int (fun _ _ => rfl))) (pss_cons (ps_if (pt_cmpR op_eq (pv 2) pe_str (nomark _)) (pss_one (ps_ret (pe_tup (pa_cons pe_bl (pa_cons (pe_lst pa_nil) (pa_cons (pe_lst pa_nil) pa_nil)))))) pss_nil) (pss_cons (ps_set (i := 3) scDoes.nd rfl (Or.inl rfl) (pe_ix ix_tup (pv 1) pe_int (fun _ _ => rfl))) (pss_cons (ps_if (pt_cmpR op_eq (pv 2) pe_str (nomark _)) (pss_cons (ps_if (pt_cmp (pc_din hu (pv 3) (pv 0))) (pss_one (ps_ret (pe_tup (pa_cons pe_bl (pa_cons (pe_lst pa_nil) (pa_cons (pe_lst pa_nil) pa_nil)))))) pss_nil) (pss_cons (ps_dput hu (pv 0) (pv 3) (pe_disp (pps_cons pe_str (pe_tup (pa_cons pe_int (pa_cons pe_int (pa_cons pe_int (pa_cons pe_bl (pa_cons (pe_tup (pa_cons (pe_tup (pa_cons pe_int pa_nil)) pa_nil)) pa_nil)))))) (pps_cons pe_str pe_non (pps_cons pe_str pe_non (pps_cons pe_str pe_non pps_nil)))) (by rfl) (by rfl) (fun z => by cases z) (by decide)) rfl) (pss_one (ps_ret (pe_tup (pa_cons pe_bl (pa_cons (pe_lst pa_nil) (pa_cons (pe_lst pa_nil) pa_nil)))))))) pss_nil) (pss_cons (ps_if (pt_cmpR op_eq (pv 2) pe_str (nomark _)) (pss_cons (ps_if (pt_not (pt_val (pe_call GT hr rfl gT kT bT .nil pass0 (pa_cons (pv 0) (pa_cons (pv 3) (pa_cons (pe_ix ix_tup (pv 1) pe_int (fun _ _ => rfl)) pa_nil)))))) (pss_one (ps_ret (pe_tup (pa_cons pe_bl (pa_cons (pe_lst pa_nil) (pa_cons (pe_lst pa_nil) pa_nil)))))) pss_nil) (pss_cons (ps_dput hu (pe_dget hu (pv 0) (pv 3) (fun _ _ => rfl)) pe_str (pe_ix ix_tup (pv 1) pe_int (fun _ _ => rfl)) rfl) (pss_one (ps_ret (pe_tup (pa_cons pe_bl (pa_cons (pe_lst pa_nil) (pa_cons (pe_lst pa_nil) pa_nil)))))))) pss_nil) (pss_cons (ps_if (pt_cmp (pc_dnotin hu (pv 3) (pv 0))) (pss_one (ps_ret (pe_tup (pa_cons pe_bl (pa_cons (pe_lst pa_nil) (pa_cons (pe_lst pa_nil) pa_nil)))))) pss_nil) (pss_cons (ps_if (pt_cmpR op_eq (pv 2) pe_str (nomark _)) (pss_one (ps_ret (pe_tup (pa_cons pe_bl (pa_cons (pe_lst pa_nil) (pa_cons (pe_lst pa_nil) pa_nil)))))) pss_nil) (pss_cons (ps_if (pt_cmpR op_eq (pv 2) pe_str (nomark _)) (pss_cons (ps_set (i := 4) scDoes.nd rfl (Or.inl rfl) (pe_call GU (hr.mono (by decide)) rfl gU kU bU .nil pass0 (pa_cons (pv 0) (pa_cons (pv 3) pa_nil)))) (pss_cons (ps_for PassesOwn.never rfl (pi_list (pv 4)) (pg_name (i := 5) scDoes.nd rfl (Or.inl rfl)) (pss_one (ps_expr (pe_dpop1 (pv 0) (pv 5) ⟨rfl, rfl, rfl, rfl⟩)))) (pss_one (ps_ret (pe_tup (pa_cons pe_bl (pa_cons (pe_lst pa_nil) (pa_cons (pv 4) pa_nil)))))))) pss_nil) (pss_cons (ps_if (pt_cmpR op_eq (pv 2) pe_str (nomark _)) (pss_cons (ps_dput hu (pe_dget hu (pv 0) (pv 3) (fun _ _ => rfl)) pe_str (pe_dget hu (pe_dget hu (pv 0) (pv 3) (fun _ _ => rfl)) pe_str (fun _ _ => rfl)) rfl) (pss_cons (ps_set (i := 6) scDoes.nd rfl (Or.inl rfl) (pe_ifExp (pt_cmpR op_isN (pe_dget hu (pe_dget hu (pv 0) (pv 3) (fun _ _ => rfl)) pe_str (fun _ _ => rfl)) pe_non (nomark _)) (pe_call GU (hr.mono (by decide)) rfl gU kU bU .nil pass0 (pa_cons (pv 0) (pa_cons (pv 3) pa_nil))) (pe_lst pa_nil))) (pss_cons (ps_setLc (i := 6) (own := [("_law_one", 5)]) (g := gName 5) (te := tVar 5) (tt := tTest (tOp (fun x y H Q => y = .non ∧ Q (.bl (!decide (x = .non))) H) (tDGet (tDGet (tVar 0) (tVar 5)) (tC (.str "ready"))) (tC .non))) (by rfl) scDoes.nd rfl rfl (sw_true rfl rfl rfl (by decide +kernel)) (pi_list (pv 6)) (blkOk_by (own := [("_law_one", 5)]) (N := nDoes) (sc := defScope sDoes) (by decide +kernel)) (fun _ _ _ _ _ => (pg_name (i := 5) scDoes.nd rfl (Or.inl rfl))) (fun _ _ _ _ _ => pts_one (pt_cmpR op_notN (pe_dget hu (pe_dget hu (pv 0) (pv 5) (fun _ _ => rfl)) pe_str (fun _ _ => rfl)) pe_non (nomark _))) (fun _ _ _ _ _ => pv 5)) (pss_cons (ps_for PassesOwn.never rfl (pi_list (pv 6)) (pg_name (i := 5) scDoes.nd rfl (Or.inl rfl)) (pss_one (ps_expr (pe_dupd (pe_dget hu (pv 0) (pv 5) (fun _ _ => rfl)) (pe_disp (pps_cons pe_str (pe_dget hu (pe_dget hu (pv 0) (pv 5) (fun _ _ => rfl)) pe_str (fun _ _ => rfl)) (pps_cons pe_str pe_non pps_nil)) (by rfl) (by rfl) (fun z => by cases z) (by decide)) ⟨rfl, rfl, rfl, rfl⟩)))) (pss_one (ps_ret (pe_tup (pa_cons pe_bl (pa_cons (pv 6) (pa_cons (pe_lst pa_nil) pa_nil)))))))))) pss_nil) (pss_cons (ps_set (i := 7) scDoes.nd rfl (Or.inl rfl) (pe_call GP (hr.mono (by decide)) rfl gP kP bP .nil pass0 (pa_cons (pe_dget hu (pe_dget hu (pv 0) (pv 3) (fun _ _ => rfl)) pe_str (fun _ _ => rfl)) (pa_cons (pv 1) pa_nil)))) (pss_cons (ps_if (pt_cmpR op_notN (pv 7) pe_non (nomark _)) (pss_one (ps_dput hu (pe_dget hu (pv 0) (pv 3) (fun _ _ => rfl)) pe_str (pv 7) rfl)) pss_nil) (pss_one (ps_ret (pe_tup (pa_cons (pe_cmpR op_notN (pv 7) pe_non (nomark _)) (pa_cons (pe_lst pa_nil) (pa_cons (pe_lst pa_nil) pa_nil))))))))))))))))), ?_⟩
    have small3 : (3 : Nat) ≤ sizeLine := small (by decide)
    have small0 : (0 : Nat) ≤ sizeLine := small (by decide)
    have hlen := ok.len
    rw [List.length_map] at hlen
    have hw := wat_of hh
    have res : ∀ (b : Bool) (es1 : List WE) (H1 : Hp), KeepT H H1 → WOk (es1.map WE.key) → WPend H1 es1 → Has H1 (A ++ (wCells wa es1 ++ B)) →
        (0 ≤ sizeLine ∧ ∀ p, H1 p = none → (0 ≤ sizeLine ∧ ∀ p', upd H1 p (.lst []) p' = none → (3 ≤ sizeLine ∧ ∀ r, upd (upd H1 p (.lst [])) p' (.lst []) r = none → Q (.ref r) (upd (upd (upd H1 p (.lst [])) p' (.lst [])) r (.tup [.bl b, .ref p, .ref p']))))) := by
      intro b es1 H1 k1 ok1 wp1 h1
      refine ⟨small0, fun p hp => ⟨small0, fun p' hp' => ⟨small3, fun r hr => ?_⟩⟩⟩
      have s1 := (Same.new (HO.lst []) hp).trans ((Same.new (HO.lst []) hp').trans (Same.new (HO.tup [.bl b, .ref p, .ref p']) hr))
      exact k b r _ _ es1 _ (k1.trans (KeepT.same s1)) upd_same ok1 (wp1.keep (KeepT.same s1)) (Same.has s1 h1)
    refine ⟨_, rfl, _, _, _, V.str z.word, rfl, rfl, SqT.of ht, at_of (j := 0) rfl rfl, ?_⟩
    have wne : ∀ {a : Str}, ¬ decide (V.str z.word = V.str a) = true → z.word ≠ a := fun c e => c (decide_eq_true (by rw [e]))
    have weq : ∀ {a : Str}, decide (V.str z.word = V.str a) = true → z.word = a := fun c => V.str.inj (of_decide_eq_true c)
    refine ⟨_, rfl, rfl, _, rfl, ?_⟩
    refine ite2 (fun _ => res true es H (KeepT.refl H) ok wp hh) (fun n1 => ?_)
    refine ⟨_, rfl, _, _, _, V.int z.name, rfl, rfl, SqT.of ht, at_of (j := 1) rfl (Lt.vals1 fun e => wne n1 (by rw [e]; rfl)), ?_⟩
    refine ⟨_, rfl, rfl, _, rfl, ?_⟩
    refine ite2 (fun c => ?_) (fun n2 => ?_)
    · obtain ⟨n, rfl⟩ := word_make (weq c)
      have hn : 0 ≤ n ∧ n ≤ 9 := hz (n, (0, 9)) (by simp [Lt.nums, Lt.bnds])
      refine ⟨_, rfl, _, rfl, wa, _, rfl, hw.is n, _, rfl, ?_⟩
      cases en : findW es n with
      | some e => exact iteT (res false es H (KeepT.refl H) ok wp hh)
      | none =>
      refine iteF ?_
      refine fun d hd => ⟨small (by show 1 ≤ 1000; decide), fun q1 hq1 => ⟨small (by show 1 ≤ 1000; decide), fun q2 hq2 => ⟨small (by show 5 ≤ 1000; decide), fun q3 hq3 => ?_⟩⟩⟩
      have hd3 : upd (upd (upd (upd H d (.dK [])) q1 (.tup [.int 0])) q2 (.tup [.ref q1])) q3 (.tup [.int 0, .int 0, .int 0, .bl false, .ref q2]) d = some (.dK []) := by
        have e1 : upd H d (.dK []) d = some (.dK []) := upd_same
        rw [upd_ne (ne_of_none ((Same.new _ hq2) _ _ ((Same.new _ hq1) _ _ e1)) hq3), upd_ne (ne_of_none ((Same.new _ hq1) _ _ e1) hq2), upd_ne (ne_of_none e1 hq1)]; exact e1
      have e0k : ∀ q, mergeK [] (WE.kvs ⟨n, d, q, .non, .non, none⟩) = WE.kvs ⟨n, d, q, .non, .non, none⟩ := fun q => by kernel_rfl
      have s4 := (Same.new (HO.dK []) hd).trans ((Same.new (HO.tup [.int 0]) hq1).trans ((Same.new (HO.tup [.ref q1]) hq2).trans (Same.new (HO.tup [.int 0, .int 0, .int 0, .bl false, .ref q2]) hq3)))
      have h2 : Has _ (A ++ (wCells wa es ++ (d, HO.dK []) :: B)) := (((hh.newAt hd (.dK [])).past hq1 (.tup [.int 0])).past hq2 (.tup [.ref q1])).past hq3 (.tup [.int 0, .int 0, .int 0, .bl false, .ref q2])
      have pa1 : (upd (upd (upd (upd H d (.dK [])) q1 (.tup [.int 0])) q2 (.tup [.ref q1])) q3 (.tup [.int 0, .int 0, .int 0, .bl false, .ref q2])) q1 = some (.tup [.int 0]) := by
        have e1 : upd (upd H d (.dK [])) q1 (.tup [.int 0]) q1 = some (.tup [.int 0]) := upd_same
        exact (Same.new _ hq3) _ _ ((Same.new _ hq2) _ _ e1)
      have pa2 : (upd (upd (upd (upd H d (.dK [])) q1 (.tup [.int 0])) q2 (.tup [.ref q1])) q3 (.tup [.int 0, .int 0, .int 0, .bl false, .ref q2])) q2 = some (.tup [.ref q1]) := by
        have e1 : upd (upd (upd H d (.dK [])) q1 (.tup [.int 0])) q2 (.tup [.ref q1]) q2 = some (.tup [.ref q1]) := upd_same
        exact (Same.new _ hq3) _ _ e1
      have pa3 : (upd (upd (upd (upd H d (.dK [])) q1 (.tup [.int 0])) q2 (.tup [.ref q1])) q3 (.tup [.int 0, .int 0, .int 0, .bl false, .ref q2])) q3 = some (.tup [.int 0, .int 0, .int 0, .bl false, .ref q2]) := upd_same
      generalize (upd (upd (upd (upd H d (.dK [])) q1 (.tup [.int 0])) q2 (.tup [.ref q1])) q3 (.tup [.int 0, .int 0, .int 0, .bl false, .ref q2])) = H4 at hd3 s4 h2 pa1 pa2 pa3
      have pnd : PendAt H4 q3 := ⟨0, 0, 0, false, q2, 1, 1, pa3, ⟨[q1], pa2, rfl, fun r hr => ⟨[.int 0], by rw [List.mem_singleton.mp hr]; exact pa1, rfl⟩⟩, by decide, by decide, by decide, by decide⟩
      have h3 := ((Has.unassoc h2).set 0 (o := .dK []) rfl (.dK (WE.kvs ⟨n, d, q3, .non, .non, none⟩))).assoc
      have h4 := Has.wadd (e := ⟨n, d, q3, .non, .non, none⟩) h3
      have hw5 : upd H4 d (.dK (WE.kvs ⟨n, d, q3, .non, .non, none⟩)) wa = some (.dK (wKvs es)) := h3.get 0 rfl
      refine ⟨hd3, WE.kvs ⟨n, d, q3, .non, .non, none⟩, rfl, by show 4 ≤ 15; decide, ?_⟩
      rw [e0k]
      refine ⟨_, rfl, _, rfl, wa, _, rfl, DPut.k (k := (Sum.inl n : Key)) hw5 (by unfold wKvs; rw [List.length_map]; exact small1000 (by omega)), ?_⟩
      rw [putW_new en]
      have ek : wKvs es ++ [((Sum.inl n : Key), V.ref d)] = wKvs (es ++ [⟨n, d, q3, .non, .non, none⟩]) := by unfold wKvs; rw [List.map_append]; rfl
      rw [ek]
      have kt : KeepT H (upd (upd H4 d (.dK (WE.kvs ⟨n, d, q3, .non, .non, none⟩))) wa (.dK (wKvs (es ++ [⟨n, d, q3, .non, .non, none⟩])))) := (KeepT.same s4).trans ((KeepT.dk hd3 _).trans (KeepT.dk hw5 _))
      refine res true _ _ kt ?_ ?_ h4
      · rw [List.map_append]
        exact ok.make (by rw [topOf_findW, en]; rfl) hn.1 hn.2
      · intro x hx
        rcases List.mem_append.mp hx with hx | hx
        · exact (wp x hx).keep kt
        · rw [List.mem_singleton.mp hx]
          exact pnd.keep ((KeepT.dk hd3 _).trans (KeepT.dk hw5 _))
    refine ⟨_, rfl, rfl, _, rfl, ?_⟩
    refine ite2 (fun c => ?_) (fun n3 => ?_)
    · obtain ⟨n, o, rfl⟩ := word_tie (weq c)
      refine ⟨_, rfl, _, rfl, _, rfl, _, _, _, V.int o, rfl, rfl, SqT.of ht, at_of (j := 2) rfl rfl, wa, es, n, o, rfl, hw, ok, fun b H1 s1 hb => ⟨_, rfl, ?_⟩⟩
      have g1 := Same.has s1 hh
      cases b with
      | false => exact iteT (res false es H1 (KeepT.same s1) ok (wp.keep (KeepT.same s1)) g1)
      | true =>
        refine iteF ?_
        obtain ⟨hno, tn, nk, to⟩ := hb rfl
        cases en : findW es n with
        | none => rw [topOf_findW, en] at tn; cases tn
        | some e =>
        obtain ⟨i, hi⟩ := findW_ix en
        have em := findW_mem en
        have hw1 := hw.same s1
        refine ⟨_, rfl, _, _, _, V.int o, rfl, rfl, SqT.of (s1 _ _ ht), at_of (j := 2) rfl rfl, _, rfl, _, rfl, wa, _, rfl, hw1.get en, e.da, _, rfl, DPut.k (k := (Sum.inr "top" : Key)) (hw1.2 e em.1) (by show 4 < sizeLine; exact small1000 (by decide)), ?_⟩
        have ek : putK e.kvs (Sum.inr "top" : Key) (V.int o) = WE.kvs { e with top := some o } := by kernel_rfl
        rw [ek]
        have kt := KeepT.dk (hw1.2 e em.1) (.dK (WE.kvs { e with top := some o }))
        refine res true (es.set i { e with top := some o }) _ ((KeepT.same s1).trans kt) ?_ ?_ (Has.wset g1 hi rfl rfl)
        · rw [keyset ok.nd hi (e' := { e with top := some o }) rfl rfl, em.2]
          exact ok.tie hno nk to
        · intro x hx
          rcases List.mem_or_eq_of_mem_set hx with hx | hx
          · exact (wp x hx).keep ((KeepT.same s1).trans kt)
          · rw [hx]; exact (wp e em.1).keep ((KeepT.same s1).trans kt)
    refine ⟨_, rfl, _, rfl, wa, _, rfl, hw.is z.name, _, rfl, ?_⟩
    cases en : findW es z.name with
    | none => exact iteT (res false es H (KeepT.refl H) ok wp hh)
    | some e =>
    refine iteF ?_
    obtain ⟨i, hi⟩ := findW_ix en
    have em := findW_mem en
    refine ⟨_, rfl, rfl, _, rfl, ?_⟩
    refine ite2 (fun _ => res true es H (KeepT.refl H) ok wp hh) (fun n4 => ?_)
    refine ⟨_, rfl, rfl, _, rfl, ?_⟩
    refine ite2 (fun c => ?_) (fun n5 => ?_)
    · obtain ⟨n, rfl⟩ := word_drop (weq c)
      have hn : n ∈ es.map (·.k) := List.mem_map.mpr ⟨e, em.1, em.2⟩
      refine ⟨_, rfl, _, rfl, wa, es, n, rfl, hw, hlen, ok.flat n, fun p H1 s1 hp0 hp => ?_⟩
      have gnd := ok.under_nd n
      have gin : ∀ x ∈ under es 2 n, x ∈ es.map (·.k) := fun x hx => WOk.under_in hn hx
      have gok := ok.drop n
      have glen := under_len hlen 2 n
      generalize under es 2 n = G at *
      have g1 := Same.has s1 hh
      refine ⟨_, rfl, p, rfl, ⟨_, SqL.of hp⟩, for_list (K := K) (a := p) (xs := G.map V.int) (fun i σ H2 => ∃ v5, σ = [some (.ref wa), some (.ref t), some (.str "drop"), some (.int n), some (.ref p), v5, none, none] ∧ KeepT H H2 ∧ H2 p = some (.lst (G.map V.int)) ∧
        Has H2 (A ++ (wCells wa (es.filter fun e => decide (e.k ∉ G.take i)) ++ B))) ?_ ?_ ?_ ?_⟩
      · refine ⟨none, rfl, KeepT.same s1, hp, ?_⟩
        rw [List.filter_eq_self.mpr (fun e _ => by simp)]
        exact g1
      · rintro i σ H2 _ ⟨v5, _, _, hp2, _⟩
        exact SqL.of hp2
      · rintro i x σ H2 hx ⟨v5, rfl, k2, hp2, g2⟩
        rw [List.getElem?_map] at hx
        cases eg : G[i]? with
        | none => rw [eg] at hx; cases hx
        | some g =>
          rw [eg] at hx
          obtain rfl : V.int g = x := Option.some.inj hx
          have hw2 := wat_of g2
          have hgi := (List.getElem?_eq_some_iff.mp eg).1
          have hgt : g ∉ G.take i := fun z => by
            obtain ⟨j, hj, q⟩ := List.getElem_of_mem z
            rw [List.length_take] at hj
            rw [List.getElem_take] at q
            have q2 : G[j]? = some g := by rw [List.getElem?_eq_getElem (by omega), q]
            have := nd_ix (l := G) gnd q2 eg
            omega
          obtain ⟨e1, he1, q1⟩ := List.mem_map.mp (gin g (List.mem_of_getElem? eg))
          obtain ⟨e2, he2⟩ := findW_some (es := es.filter fun e => decide (e.k ∉ G.take i)) (k := g) (List.mem_map.mpr ⟨e1, List.mem_filter.mpr ⟨he1, decide_eq_true (by rw [q1]; exact hgt)⟩, q1⟩)
          refine ⟨_, rfl, wa, rfl, .inl ⟨_, .inl hw2.1⟩, _, rfl, _, (Sum.inl g : Key), V.ref e2.da, hw2.1, rfl, by rw [valW, he2]; rfl, ?_⟩
          rw [dropW, List.filter_filter]
          have ef : (es.filter fun a => decide (a.k ≠ g) && decide (a.k ∉ G.take i)) = es.filter fun e => decide (e.k ∉ G.take (i + 1)) := by
            refine List.filter_congr fun a _ => ?_
            rw [List.take_add_one, eg]
            simp only [Option.toList_some, List.mem_append, List.mem_singleton, not_or, Bool.decide_and]
            exact Bool.and_comm _ _
          rw [ef]
          have g3 := Has.wdrop (q := fun a => decide (a.k ≠ g)) g2
          rw [List.filter_filter, ef] at g3
          refine ⟨_, rfl, k2.trans (KeepT.dk hw2.1 _), ?_, g3⟩
          rw [upd_ne]
          · exact hp2
          · intro z; rw [z, hw2.1] at hp2; cases hp2
      · rintro σ H2 ⟨v5, rfl, k2, hp2, g2⟩
        rw [List.length_map, List.take_of_length_le (Nat.le_refl _)] at g2
        refine ⟨small0, fun l hl => ⟨_, rfl, small3, fun r hr => ?_⟩⟩
        have s3 := (Same.new (HO.lst []) hl).trans (Same.new (HO.tup [.bl true, .ref l, .ref p]) hr)
        refine k true r _ _ _ _ (k2.trans (KeepT.same s3)) upd_same ?_ ?_ (Same.has s3 g2)
        · have : (es.filter fun e => decide (e.k ∉ G)).map WE.key = (es.map WE.key).filter fun p => decide (p.1 ∉ G) := by rw [List.filter_map]; rfl
          rw [this]; exact gok
        · intro x hx
          exact (wp x (List.mem_filter.mp hx).1).keep (k2.trans (KeepT.same s3))
    refine ⟨_, rfl, rfl, _, rfl, ?_⟩
    refine ite2 (fun c => ?_) (fun n6 => ?_)
    · obtain ⟨n, rfl⟩ := word_show (weq c)
      have hn : n ∈ es.map (·.k) := List.mem_map.mpr ⟨e, em.1, em.2⟩
      refine ⟨_, rfl, _, rfl, wa, _, rfl, hw.get en, e.da, _, rfl, hw.pend em.1, _, rfl, _, rfl, wa, _, rfl, hw.get en, e.da, _, rfl, DPut.k (k := (Sum.inr "ready" : Key)) (hw.2 e em.1) (by show 4 < sizeLine; exact small1000 (by decide)), ?_⟩
      have ek : putK e.kvs (Sum.inr "ready" : Key) (V.ref e.p) = WE.kvs { e with rd := .ref e.p } := by kernel_rfl
      rw [ek]
      have kt1 := KeepT.dk (hw.2 e em.1) (.dK (WE.kvs { e with rd := .ref e.p }))
      have g1 := Has.wset (e' := { e with rd := .ref e.p }) hh hi rfl rfl
      have cor := core_set (e' := { e with rd := .ref e.p }) hi rfl
      generalize es.set i { e with rd := .ref e.p } = es1 at g1 cor
      have ht1 := kt1 _ _ ht
      generalize upd H e.da (.dK (WE.kvs { e with rd := .ref e.p })) = H1 at kt1 g1 ht1
      have hw1 := wat_of g1
      have ok1 : WOk (es1.map WE.key) := by rw [core_key cor]; exact ok
      have hlen1 : es1.length ≤ 10 := by have := congrArg List.length cor; rw [List.length_map, List.length_map] at this; omega
      obtain ⟨e1, en1, ec1⟩ := core_find cor en
      have em1 := findW_mem en1
      refine ⟨_, rfl, _, rfl, wa, _, rfl, hw1.get en1, e1.da, _, rfl, hw1.top em1.1, rfl, _, rfl, ?_⟩
      have kin : ∀ g ∈ under es1 2 n, g ∈ es1.map (·.k) := fun g hg => WOk.under_in (List.mem_map.mpr ⟨e1, em1.1, em1.2⟩) hg
      have glen := under_len hlen1 2 n
      refine ite2 (fun _ => ?_) (fun _ => ?_)
      refine ⟨_, rfl, _, rfl, wa, es1, n, rfl, hw1, hlen1, ok1.flat n, fun p H2 s2 hp0 hp => ?_⟩
      have g2 := Same.has s2 g1
      obtain ⟨G, eG⟩ : ∃ G, G = under es1 2 n := ⟨_, rfl⟩
      rw [← eG] at hp
      have hG : ∀ g ∈ G, g ∈ es1.map (·.k) := by rw [eG]; exact kin
      have hGl : G.length ≤ 200 := by rw [eG]; exact Nat.le_trans glen (by decide)
      rotate_left
      refine ⟨small0, fun p hp0 => ?_⟩
      have s2 := Same.new (HO.lst []) hp0
      have g2 := Same.has s2 g1
      obtain ⟨G, eG⟩ : ∃ G : List Int, G = [] := ⟨_, rfl⟩
      have hp : upd H1 p (.lst []) p = some (.lst (G.map V.int)) := by rw [eG]; exact upd_same
      have hG : ∀ g ∈ G, g ∈ es1.map (·.k) := by rw [eG]; intro g hg; cases hg
      have hGl : G.length ≤ 200 := by rw [eG]; decide
      generalize upd H1 p (.lst []) = H2 at s2 g2 hp
      all_goals
        have hw2 := wat_of g2
        have kt2 := kt1.trans (KeepT.same s2)
        refine ⟨_, rfl, p, rfl, ⟨_, SqL.of hp⟩, fun D hD => ?_⟩
        refine lc_list (K := K) (a := p) (xs := G.map V.int) (fun i H3 => Same H2 H3 ∧ ∃ G' : List Int, H3 D = some (.lst (G'.map V.int)) ∧ (∀ g ∈ G', g ∈ es1.map (·.k)) ∧ G'.length ≤ i) ⟨Same.new _ hD, [], upd_same, fun g hg => (by cases hg), Nat.le_refl _⟩ ?_ ?_ ?_
        · rintro i H3 _ ⟨s3, _⟩
          exact SqL.of (s3 _ _ hp)
        · rintro i x H3 hx ⟨s3, G', hD3, hG', hGl'⟩
          rw [List.getElem?_map] at hx
          cases eg : G[i]? with
          | none => rw [eg] at hx; cases hx
          | some g =>
            rw [eg] at hx
            obtain rfl : V.int g = x := Option.some.inj hx
            have hgi := (List.getElem?_eq_some_iff.mp eg).1
            obtain ⟨e2, he2⟩ := findW_some (hG g (List.mem_of_getElem? eg))
            have hw3 := hw2.same s3
            refine ⟨rfl, _, rfl, _, rfl, wa, _, rfl, hw3.get he2, e2.da, _, rfl, hw3.rd (findW_mem he2).1, rfl, _, rfl, ?_⟩
            refine ite2 (fun _ => ?_) (fun _ => ?_)
            · refine ⟨_, rfl, _, hD3, by rw [List.length_map]; exact small1000 (by omega), Same.mut _ s3 hD, G' ++ [g], by rw [upd_same, List.map_append]; rfl, fun g2 hg2 => ?_, by simp; omega⟩
              rcases List.mem_append.mp hg2 with h | h
              · exact hG' g2 h
              · rw [List.mem_singleton.mp h]; exact hG g (List.mem_of_getElem? eg)
            · exact ⟨s3, G', hD3, hG', by omega⟩
        · rintro H3 ⟨s3, G', hD3, hG', hGl'⟩
          have g3 := Same.has s3 g2
          refine ⟨_, rfl, D, rfl, ⟨_, SqL.of hD3⟩, for_list (K := K) (a := D) (xs := G'.map V.int) (fun i σ H4 => ∃ v5 es2, σ = [some (.ref wa), some (.ref t), some (.str "show"), some (.int n), none, v5, some (.ref D), none] ∧ KeepT H3 H4 ∧ H4 D = some (.lst (G'.map V.int)) ∧
            es2.map WE.core = es1.map WE.core ∧ Has H4 (A ++ (wCells wa es2 ++ B))) ⟨_, es1, rfl, KeepT.refl _, hD3, rfl, g3⟩ ?_ ?_ ?_⟩
          · rintro i σ H4 _ ⟨v5, es2, _, _, hD4, _⟩
            exact SqL.of hD4
          · rintro i x σ H4 hx ⟨v5, es2, rfl, k4, hD4, cor2, g4⟩
            rw [List.getElem?_map] at hx
            cases eg : G'[i]? with
            | none => rw [eg] at hx; cases hx
            | some g =>
              rw [eg] at hx
              obtain rfl : V.int g = x := Option.some.inj hx
              obtain ⟨f1, hf1⟩ := findW_some (hG' g (List.mem_of_getElem? eg))
              obtain ⟨f2, hf2, _⟩ := core_find cor2 hf1
              obtain ⟨j, hj⟩ := findW_ix hf2
              have hw4 := wat_of g4
              have fm := findW_mem hf2
              refine ⟨_, rfl, _, rfl, wa, _, rfl, hw4.get hf2, f2.da, rfl, .inl ⟨_, .inl (hw4.2 f2 fm.1)⟩, fun d2 hd2 => ?_⟩
              have s5 := Same.new (HO.dK []) hd2
              have hw5 := hw4.same s5
              refine ⟨_, rfl, _, rfl, wa, _, rfl, hw5.get hf2, f2.da, _, rfl, hw5.rd fm.1, ?_⟩
              refine ⟨upd_same, [(Sum.inr "shown", f2.rd), (Sum.inr "ready", .non)], rfl, by show 2 ≤ 15; decide, ?_⟩
              have nd2 : f2.da ≠ d2 := ne_of_none (hw4.2 f2 fm.1) hd2
              have em2 : mergeK [] [((Sum.inr "shown" : Key), f2.rd), (Sum.inr "ready", .non)] = [((Sum.inr "shown" : Key), f2.rd), (Sum.inr "ready", .non)] := by kernel_rfl
              rw [em2]
              have nwa : wa ≠ d2 := ne_of_none hw4.1 hd2
              refine ⟨d2, f2.kvs, _, rfl, by rw [upd_ne nd2, upd_ne nd2]; exact hw4.2 f2 fm.1, upd_same, nd2, by show 4 + 2 ≤ sizeLine; exact small (by decide), ?_⟩
              have em3 : mergeK f2.kvs [((Sum.inr "shown" : Key), f2.rd), (Sum.inr "ready", .non)] = WE.kvs { f2 with sh := f2.rd, rd := .non } := by kernel_rfl
              rw [em3]
              have g5 : Has (upd (upd H4 d2 (.dK [])) d2 (.dK [((Sum.inr "shown" : Key), f2.rd), (Sum.inr "ready", .non)])) (A ++ (wCells wa es2 ++ B)) := by
                refine ⟨fun c hc => ?_, g4.nd⟩
                have q := g4.ok c hc
                have nc := ne_of_none q hd2
                rw [upd_ne nc, upd_ne nc]; exact q
              have k5 : KeepT H4 (upd (upd H4 d2 (.dK [])) d2 (.dK [((Sum.inr "shown" : Key), f2.rd), (Sum.inr "ready", .non)])) := fun b xs q => by
                have nc := ne_of_none q hd2
                rw [upd_ne nc, upd_ne nc]; exact q
              have h5 := (wat_of g5).2 f2 fm.1
              have g6 := Has.wset (e' := { f2 with sh := f2.rd, rd := .non }) g5 hj rfl rfl
              refine ⟨_, es2.set j { f2 with sh := f2.rd, rd := .non }, rfl, k4.trans (k5.trans (KeepT.dk h5 _)), ?_, (core_set (e' := { f2 with sh := f2.rd, rd := .non }) hj rfl).trans cor2, g6⟩
              have nD : D ≠ f2.da := fun z => by have := hw4.2 f2 fm.1; rw [← z, hD4] at this; cases this
              have nD2 := ne_of_none hD4 hd2
              rw [upd_ne nD, upd_ne nD2, upd_ne nD2]; exact hD4
          · rintro σ H4 ⟨v5, es2, rfl, k4, hD4, cor2, g4⟩
            refine ⟨_, rfl, small0, fun l hl => ⟨small3, fun r hr => ?_⟩⟩
            have s5 := (Same.new (HO.lst []) hl).trans (Same.new (HO.tup [.bl true, .ref D, .ref l]) hr)
            have kt := kt2.trans ((KeepT.same s3).trans (k4.trans (KeepT.same s5)))
            have cc := cor2.trans cor
            refine k true r _ _ es2 _ kt upd_same (by rw [core_key cc]; exact ok) ((wp.keep kt).core cc) (Same.has s5 g4)
    have hl := word_look (wne n1) (wne n2) (wne n3) (wne n4) (wne n5) (wne n6)
    refine ⟨_, rfl, _, rfl, wa, _, rfl, hw.get en, e.da, _, rfl, hw.pend em.1, _, rfl, e.p, t, z, rfl, wp e em.1, ht, hz, hl, fun r H1 s1 hr => ?_⟩
    have g1 := Same.has s1 hh
    have hw1 := hw.same s1
    refine ⟨_, rfl, rfl, _, rfl, ?_⟩
    rcases hr with rfl | ⟨p', rfl, hp'⟩
    · refine iteF ?_
      refine ⟨_, rfl, rfl, ?_⟩
      exact res _ es H1 (KeepT.same s1) ok (wp.keep (KeepT.same s1)) g1
    · refine iteT ?_
      refine ⟨_, rfl, _, rfl, _, rfl, wa, _, rfl, hw1.get en, e.da, _, rfl, DPut.k (k := (Sum.inr "pending" : Key)) (hw1.2 e em.1) (by show 4 < sizeLine; exact small1000 (by decide)), ?_⟩
      have ek : putK e.kvs (Sum.inr "pending" : Key) (V.ref p') = WE.kvs { e with p := p' } := by kernel_rfl
      rw [ek]
      have kt := KeepT.dk (hw1.2 e em.1) (.dK (WE.kvs { e with p := p' }))
      refine ⟨_, rfl, rfl, ?_⟩
      refine res _ (es.set i { e with p := p' }) _ ((KeepT.same s1).trans kt) ?_ ?_ (Has.wset g1 hi rfl rfl)
      · have : (es.set i { e with p := p' }).map WE.key = es.map WE.key := by
          rw [List.map_set]
          refine List.ext_getElem? fun j => ?_
          by_cases c : i = j
          · subst c
            have hl := (List.getElem?_eq_some_iff.mp hi).1
            rw [List.getElem?_set_self (by rw [List.length_map]; exact hl), List.getElem?_map, hi]; rfl
          · rw [List.getElem?_set_ne c]
        rw [this]; exact ok
      · intro x hx
        rcases List.mem_or_eq_of_mem_set hx with hx | hx
        · exact (wp x hx).keep ((KeepT.same s1).trans kt)
        · rw [hx]; exact hp'.keep kt
end
end SH
set_option Elab.async false
set_option linter.all false
set_option maxRecDepth 100000
namespace SH
open PySem PySem.Spec PyProof.Rows L2
abbrev sOdd : Stmt := top 27
section
variable {P : Program} {w : World} {K : PySem.W.Frag} {mg : Str → Option Value} {base : Heap}
abbrev nOdd : List Str := ["_law_h", "_law_w", "_law_name", "_law_some"]
theorem scOdd : FnScope nOdd ["_law_h", "_law_w"] (defScope sOdd) := ⟨rfl, rfl, rfl, by decide +kernel, rfl, by decide +kernel, by decide +kernel⟩
def spOdd : Sp := fun vs H Q _ => ∃ (A B : Cells) (m : MixH) (wv : V), vs = [.ref m.a, wv] ∧ Has H (A ++ (mixCells m ++ B)) ∧ MixOk m ∧
  ∀ t z m' H', m'.a = m.a → MixOk m' → Has H' (A ++ (mixCells m' ++ B)) → H' t = some (.tup (Lt.vals z)) → z.ok → Q (.ref t) H'
theorem ok_odd {f fN : Addr} {fd fdN : FuncData} (F : Fun K "_law_odd" "_law_odd" sOdd f fd)
    (GN : FnOk P w K mg base CX0 1 fN fdN ["_law_h", "_law_many"] spNext) (bN : Binds K fdN ["_law_h", "_law_many"] []) (gN : mg "_law_next" = some (.ref fN)) (kN : PySem.W.keepIn K (.ref fN) = true) :
    FnOk P w K mg base CX0 2 f fd ["_law_h", "_law_w"] spOdd := by
  have GN := keep_t GN
  refine F.ok scOdd (fun vs H Q E h => ?_) (fun cdv A0 outer s0 H vs Q E hr h => ?_)
  · obtain ⟨A, B, m, wv, rfl, _⟩ := h
    rfl
  · obtain ⟨A, B, m, wv, rfl, hh, ok, k⟩ := h
    refine ⟨_, (pss_cons (ps_set (i := 2) scOdd.nd rfl (Or.inl rfl) (pe_call GN hr rfl gN kN bN .nil pass0 (pa_cons (pv 0) (pa_cons pe_int pa_nil)))) (pss_cons (ps_set (i := 3) scOdd.nd rfl (Or.inl rfl) (pe_lst (pa_cons (pe_tup (pa_cons pe_str (pa_cons (pv 2) pa_nil))) (pa_cons (pe_tup (pa_cons pe_str (pa_cons (pv 2) pa_nil))) (pa_cons (pe_tup (pa_cons pe_str (pa_cons (pv 2) (pa_cons pe_int (pa_cons pe_int pa_nil))))) (pa_cons (pe_tup (pa_cons pe_str (pa_cons (pv 2) (pa_cons pe_int (pa_cons pe_int (pa_cons pe_int (pa_cons pe_int (pa_cons pe_int pa_nil)))))))) pa_nil)))))) (pss_cons (ps_expr (pe_bm PySem.F.plainAttrs_list PySem.F.slot_list_append PySem.F.type_list_append mt_append (pv 3) (pa_cons (pe_tup (pa_cons pe_str (pa_cons (pv 2) (pa_cons pe_int (pa_cons pe_int pa_nil))))) pa_nil))) (pss_cons (ps_set (i := 3) scOdd.nd rfl (Or.inl rfl) (pe_op op_cat (pv 3) (pe_lst (pa_cons (pe_tup (pa_cons pe_str (pa_cons (pv 2) (pa_cons pe_int pa_nil)))) (pa_cons (pe_tup (pa_cons pe_str (pa_cons (pv 2) pa_nil))) (pa_cons (pe_tup (pa_cons pe_str (pa_cons (pv 2) pa_nil))) (pa_cons (pe_tup (pa_cons pe_str (pa_cons (pv 2) (pa_cons (pe_call GN hr rfl gN kN bN .nil pass0 (pa_cons (pv 0) (pa_cons pe_int pa_nil))) pa_nil)))) (pa_cons (pe_tup (pa_cons pe_str (pa_cons (pv 2) pa_nil))) pa_nil)))))))) (pss_one (ps_ret (pe_ix ix_list (pe_op op_cat (pv 3) (pe_lst (pa_cons (pe_tup (pa_cons pe_str (pa_cons (pv 2) pa_nil))) (pa_cons (pe_tup (pa_cons pe_str (pa_cons (pv 2) (pa_cons pe_int (pa_cons pe_int (pa_cons pe_int (pa_cons pe_int (pa_cons pe_int pa_nil)))))))) pa_nil)))) (pe_call GN hr rfl gN kN bN .nil pass0 (pa_cons (pv 0) (pa_cons pe_int pa_nil))) (fun _ _ => rfl)))))))), ?_⟩
    have sm : ∀ {n : Nat}, n ≤ 1000 → n ≤ sizeLine := small
    refine ⟨_, rfl, A, B, m, 10, rfl, hh, ok, by decide, by decide, fun n m1 H1 n0 n9 e1 o1 g1 k1 => ?_⟩
    refine ⟨_, rfl, sm (by show 2 ≤ 1000; decide), fun p1 hp1 => ?_⟩
    have R1 : RowAt (upd H1 p1 (.tup (Lt.vals (.make n)))) [p1] [.make n] := .cons upd_same .nil
    have g2 := g1.past hp1 (.tup (Lt.vals (.make n)))
    refine ⟨_, rfl, sm (by show 2 ≤ 1000; decide), fun p2 hp2 => ?_⟩
    have R2 := R1.new (z := .drop n) hp2
    have g3 := g2.past hp2 (.tup (Lt.vals (.drop n)))
    refine ⟨_, rfl, sm (by show 4 ≤ 1000; decide), fun p3 hp3 => ?_⟩
    have R3 := R2.new (z := .size n 2 2) hp3
    have g4 := g3.past hp3 (.tup (Lt.vals (.size n 2 2)))
    refine ⟨_, rfl, sm (by show 7 ≤ 1000; decide), fun p4 hp4 => ⟨sm (by show 4 ≤ 1000; decide), fun l hl => ?_⟩⟩
    have R4 := R3.new (z := .paint n 11 7 1 1 3) hp4
    have g5 := g4.past hp4 (.tup (Lt.vals (.paint n 11 7 1 1 3)))
    have R5 := R4.same (Same.new (.lst [.ref p1, .ref p2, .ref p3, .ref p4]) hl)
    have g6 := g5.cons hl (.lst [.ref p1, .ref p2, .ref p3, .ref p4])
    have hl1 := Has.get (A := []) g6 0 rfl
    refine ⟨_, rfl, .inl ⟨rfl, _, SqL.of hl1⟩, _, rfl, sm (by show 4 ≤ 1000; decide), fun p5 hp5 => ⟨l, _, _, rfl, rfl, Has.get (A := []) (g6.past hp5 _) 0 rfl, by show 4 < sizeLine; exact small1000 (by decide), ?_⟩⟩
    have R6 := R5.new (z := .place n 0 0) hp5
    have g7 := g6.past hp5 (.tup (Lt.vals (.place n 0 0)))
    have hl2 := Has.get (A := []) g7 0 rfl
    have R7 := R6.wr hl2 (.lst ([.ref p1, .ref p2, .ref p3, .ref p4] ++ [.ref p5]))
    have g8 := Has.set (A := []) g7 0 (o := .lst [.ref p1, .ref p2, .ref p3, .ref p4]) rfl (.lst ([.ref p1, .ref p2, .ref p3, .ref p4] ++ [.ref p5]))
    refine ⟨_, rfl, _, rfl, sm (by show 3 ≤ 1000; decide), fun p6 hp6 => ?_⟩
    have R8 := R7.new (z := .rank n 1) hp6
    have g9 := Has.past g8 hp6 (.tup (Lt.vals (.rank n 1)))
    refine ⟨_, rfl, sm (by show 2 ≤ 1000; decide), fun p7 hp7 => ?_⟩
    have R9 := R8.new (z := .veil n) hp7
    have g10 := g9.past hp7 (.tup (Lt.vals (.veil n)))
    refine ⟨_, rfl, sm (by show 2 ≤ 1000; decide), fun p8 hp8 => ?_⟩
    have R10 := R9.new (z := .unveil n) hp8
    have g11 := g10.past hp8 (.tup (Lt.vals (.unveil n)))
    refine ⟨_, rfl, _, rfl, (l, _) :: A, B, m1, 10, congrArg (fun x => [V.ref x, V.int 10]) e1.symm, g11, o1, by decide, by decide, fun o m2 H3 o0 o9 e2 o2 g12 k2 => ?_⟩
    have R11 := R10.keep k2
    refine ⟨sm (by show 3 ≤ 1000; decide), fun p9 hp9 => ?_⟩
    have R12 := R11.new (z := .tie n o) hp9
    have g13 := Has.past g12 hp9 (.tup (Lt.vals (.tie n o)))
    refine ⟨_, rfl, sm (by show 2 ≤ 1000; decide), fun p10 hp10 => ⟨sm (by show 5 ≤ 1000; decide), fun l2 hl2 => ?_⟩⟩
    have R13 := R12.new (z := .show n) hp10
    have g14 := g13.past hp10 (.tup (Lt.vals (.show n)))
    have R14 := R13.same (Same.new (.lst [.ref p6, .ref p7, .ref p8, .ref p9, .ref p10]) hl2)
    have g15 := g14.past hl2 (.lst [.ref p6, .ref p7, .ref p8, .ref p9, .ref p10])
    refine ⟨l, l2, _, _, rfl, rfl, Has.get (A := []) g15 0 rfl, upd_same, sm (by show 5 + 5 ≤ 1000; decide), fun l3 hl3 => ?_⟩
    have R15 := R14.same (Same.new (.lst ([.ref p1, .ref p2, .ref p3, .ref p4] ++ [.ref p5] ++ [.ref p6, .ref p7, .ref p8, .ref p9, .ref p10])) hl3)
    have g16 := g15.cons hl3 (.lst ([.ref p1, .ref p2, .ref p3, .ref p4] ++ [.ref p5] ++ [.ref p6, .ref p7, .ref p8, .ref p9, .ref p10]))
    refine ⟨_, rfl, _, rfl, sm (by show 2 ≤ 1000; decide), fun p11 hp11 => ?_⟩
    have R16 := R15.new (z := .hold n) hp11
    have g17 := g16.past hp11 (.tup (Lt.vals (.hold n)))
    refine ⟨_, rfl, sm (by show 7 ≤ 1000; decide), fun p12 hp12 => ⟨sm (by show 2 ≤ 1000; decide), fun l4 hl4 => ?_⟩⟩
    have R17 := R16.new (z := .paint n 0 0 12 8 1) hp12
    have g18 := g17.past hp12 (.tup (Lt.vals (.paint n 0 0 12 8 1)))
    have R18 := R17.same (Same.new (.lst [.ref p11, .ref p12]) hl4)
    have g19 := g18.past hl4 (.lst [.ref p11, .ref p12])
    refine ⟨l3, l4, _, _, rfl, rfl, Has.get (A := []) g19 0 rfl, upd_same, sm (by show 10 + 2 ≤ 1000; decide), fun l5 hl5 => ?_⟩
    have R19 := R18.same (Same.new (.lst ([.ref p1, .ref p2, .ref p3, .ref p4] ++ [.ref p5] ++ [.ref p6, .ref p7, .ref p8, .ref p9, .ref p10] ++ [.ref p11, .ref p12])) hl5)
    have g20 := g19.cons hl5 (.lst ([.ref p1, .ref p2, .ref p3, .ref p4] ++ [.ref p5] ++ [.ref p6, .ref p7, .ref p8, .ref p9, .ref p10] ++ [.ref p11, .ref p12]))
    have e2 := e2.trans e1
    refine ⟨_, rfl, (l5, _) :: (l3, _) :: (l, _) :: A, B, m2, 12, congrArg (fun x => [V.ref x, V.int 12]) e2.symm, g20, o2, by decide, by decide, fun r m3 H4 r0 r9 e3 o3 g21 k3 => ?_⟩
    have R20 := R19.keep k3
    have g22 : Has H4 (A ++ (mixCells m3 ++ B)) := Has.sub g21 (List.Sublist.trans (List.sublist_cons_self _ _) (List.Sublist.trans (List.sublist_cons_self _ _) (List.sublist_cons_self _ _)))
    have hl6 := Has.get (A := []) g21 0 rfl
    have hrl : r.toNat < 12 := by omega
    obtain ⟨z, hz⟩ : ∃ z, ([Lt.make n, .drop n, .size n 2 2, .paint n 11 7 1 1 3] ++ [.place n 0 0] ++ [.rank n 1] ++ [.veil n] ++ [.unveil n] ++ [.tie n o] ++ [.show n] ++ [.hold n] ++ [.paint n 0 0 12 8 1])[r.toNat]? = some z := ⟨_, List.getElem?_eq_getElem (by show r.toNat < 12; exact hrl)⟩
    obtain ⟨t, ht⟩ : ∃ t, ([p1, p2, p3, p4] ++ [p5] ++ [p6, p7, p8, p9, p10] ++ [p11, p12])[r.toNat]? = some t := ⟨_, List.getElem?_eq_getElem (by show r.toNat < 12; exact hrl)⟩
    have htz := paired_ix R20 (i := r.toNat) (x := t) (y := z) ht hz
    refine ⟨l5, _, r, V.ref t, rfl, rfl, SqL.of hl6, at_of (j := r.toNat) (by omega) (by
      have : ([p1, p2, p3, p4] ++ [p5] ++ [p6, p7, p8, p9, p10] ++ [p11, p12]).map V.ref = [V.ref p1, .ref p2, .ref p3, .ref p4] ++ [.ref p5] ++ [.ref p6, .ref p7, .ref p8, .ref p9, .ref p10] ++ [.ref p11, .ref p12] := rfl
      rw [← this, List.getElem?_map, ht]; rfl), ?_⟩
    refine k t z m3 H4 (e3.trans e2) o3 g22 htz ?_
    have hmem := List.mem_of_getElem? hz
    simp only [List.mem_append, List.mem_cons, List.not_mem_nil, or_false] at hmem
    have okz : ∀ y : Lt, y ∈ [Lt.make n, .drop n, .size n 2 2, .paint n 11 7 1 1 3, .place n 0 0, .rank n 1, .veil n, .unveil n, .tie n o, .show n, .hold n, .paint n 0 0 12 8 1] → y.ok := by
      intro y hy
      simp only [List.mem_cons, List.not_mem_nil, or_false] at hy
      rcases hy with rfl | rfl | rfl | rfl | rfl | rfl | rfl | rfl | rfl | rfl | rfl | rfl <;> simp [Lt.ok, Lt.nums, Lt.bnds] <;> omega
    refine okz z ?_
    simp only [List.mem_cons, List.not_mem_nil, or_false]
    rcases hmem with ((((((((h | h | h | h) | h) | h) | h) | h) | h) | h) | h) | h <;> simp [h]
end
end SH
set_option Elab.async false
set_option linter.all false
set_option maxRecDepth 100000
namespace SH
open PySem PySem.Spec PyProof.Rows L2
abbrev sLetter : Stmt := top 26
theorem nodup_sub_len {l k : List Int} (nd : l.Nodup) (h : ∀ x ∈ l, x ∈ k) : l.length ≤ k.length := by
  induction l generalizing k with
  | nil => exact Nat.zero_le _
  | cons x l ih =>
    rw [List.nodup_cons] at nd
    have hx := h x List.mem_cons_self
    have := ih (k := k.erase x) nd.2 fun y hy => by
      have h1 := h y (List.mem_cons_of_mem _ hy)
      have h2 : y ≠ x := fun z => nd.1 (z ▸ hy)
      exact (List.mem_erase_of_ne h2).mpr h1
    rw [List.length_erase_of_mem hx] at this
    have : 1 ≤ k.length := List.length_pos_of_mem hx
    simp only [List.length_cons]
    omega
def freshW (es : List WE) : List Nat := (List.range 10).filter fun o => (findW es (o : Nat)).isNone
theorem fresh_pos {es : List WE} (h : es.length < 10) : 1 ≤ (freshW es).length := by
  rcases Nat.eq_zero_or_pos (freshW es).length with q | q
  · exfalso
    have e : freshW es = [] := List.eq_nil_of_length_eq_zero q
    have hall : ∀ o ∈ List.range 10, ((o : Nat) : Int) ∈ es.map (·.k) := fun o ho => by
      cases f : findW es (o : Nat) with
      | none =>
        have : o ∈ freshW es := List.mem_filter.mpr ⟨ho, by rw [f]; rfl⟩
        rw [e] at this; cases this
      | some x => exact List.mem_map.mpr ⟨x, (findW_mem f).1, (findW_mem f).2⟩
    have := nodup_sub_len (l := (List.range 10).map fun (o : Nat) => ((o : Nat) : Int)) (k := es.map (·.k)) (by decide) fun x hx => by
      obtain ⟨o, ho, e⟩ := List.mem_map.mp hx
      rw [← e]; exact hall o ho
    rw [List.length_map, List.length_map, List.length_range] at this
    omega
  · exact q
theorem fresh_le (es : List WE) : (freshW es).length ≤ 10 := by
  refine Nat.le_trans (List.length_filter_le _ _) ?_
  rw [List.length_range]; exact Nat.le_refl _
theorem neNil {K : PySem.W.Frag} {H : Hp} {l q : Addr} {ks : List Int} {Q : VK} (h : H l = some (.lst (ks.map V.int))) (e : H q = some (.lst [])) (k : Q (.bl (!decide (ks = []))) H) : rNeD K (.ref l) (.ref q) H Q := by
  refine ⟨.list (ks.map PyData.int), .list [], .lst (SqL.of h) (dp_ints ks), .lst (SqL.of e) .nil, PySem.W.ke_shaped_ints _, PySem.W.ke_shaped_ints [], ?_⟩
  rw [eqv_nil]; exact k
theorem eqNil {K : PySem.W.Frag} {H : Hp} {l q : Addr} {ks : List Int} {Q : VK} (h : H l = some (.lst (ks.map V.int))) (e : H q = some (.lst [])) (k : Q (.bl (decide (ks = []))) H) : rEqD K (.ref l) (.ref q) H Q := by
  refine ⟨.list (ks.map PyData.int), .list [], .lst (SqL.of h) (dp_ints ks), .lst (SqL.of e) .nil, PySem.W.ke_shaped_ints _, PySem.W.ke_shaped_ints [], ?_⟩
  rw [eqv_nil]; exact k
theorem pick3 {a b c : Int} {r : Int} {lo hi : Int} (r0 : 0 ≤ r) (r1 : r < 3) (ha : lo ≤ a ∧ a ≤ hi) (hb : lo ≤ b ∧ b ≤ hi) (hc : lo ≤ c ∧ c ≤ hi) : ∃ v : Int, ([V.int a, V.int b, V.int c] : List V)[r.toNat]? = some (V.int v) ∧ lo ≤ v ∧ v ≤ hi := by
  have : r.toNat = 0 ∨ r.toNat = 1 ∨ r.toNat = 2 := by omega
  rcases this with e | e | e <;> rw [e]
  · exact ⟨a, rfl, ha⟩
  · exact ⟨b, rfl, hb⟩
  · exact ⟨c, rfl, hc⟩
theorem pick2 {a b : Int} {r : Int} {lo hi : Int} (r0 : 0 ≤ r) (r1 : r < 2) (ha : lo ≤ a ∧ a ≤ hi) (hb : lo ≤ b ∧ b ≤ hi) : ∃ v : Int, ([V.int a, V.int b] : List V)[r.toNat]? = some (V.int v) ∧ lo ≤ v ∧ v ≤ hi := by
  have : r.toNat = 0 ∨ r.toNat = 1 := by omega
  rcases this with e | e <;> rw [e]
  · exact ⟨a, rfl, ha⟩
  · exact ⟨b, rfl, hb⟩
theorem Has.tail {H : Hp} {c : Addr × HO} {L : Cells} (h : Has H (c :: L)) : Has H L := Has.sub h (List.sublist_cons_self _ _)
theorem wordAt {n : Int} {j : Nat} (J : j < 10) (n0 : 0 ≤ n) (n9 : n ≤ 9) : ∃ wd : Str, ([V.str "veil", .str "unveil", .str "unveil", .str "tie", .str "drop", .str "hold", .str "show", .str "show", .str "show", .str "let"] : List V)[j]? = some (V.str wd) ∧ (wd = "tie" ∨ wd = "let" ∨ ∃ z : Lt, z.vals = [V.str wd, V.int n] ∧ z.ok) := by
  have ok1 : ∀ z : Lt, z.nums = [n] → z.bnds = [(0, 9)] → z.ok := fun z h1 h2 => by unfold Lt.ok; rw [h1, h2]; simp; omega
  have : j = 0 ∨ j = 1 ∨ j = 2 ∨ j = 3 ∨ j = 4 ∨ j = 5 ∨ j = 6 ∨ j = 7 ∨ j = 8 ∨ j = 9 := by omega
  rcases this with e | e | e | e | e | e | e | e | e | e <;> rw [e]
  · exact ⟨_, rfl, .inr (.inr ⟨.veil n, rfl, ok1 _ rfl rfl⟩)⟩
  · exact ⟨_, rfl, .inr (.inr ⟨.unveil n, rfl, ok1 _ rfl rfl⟩)⟩
  · exact ⟨_, rfl, .inr (.inr ⟨.unveil n, rfl, ok1 _ rfl rfl⟩)⟩
  · exact ⟨_, rfl, .inl rfl⟩
  · exact ⟨_, rfl, .inr (.inr ⟨.drop n, rfl, ok1 _ rfl rfl⟩)⟩
  · exact ⟨_, rfl, .inr (.inr ⟨.hold n, rfl, ok1 _ rfl rfl⟩)⟩
  · exact ⟨_, rfl, .inr (.inr ⟨.show n, rfl, ok1 _ rfl rfl⟩)⟩
  · exact ⟨_, rfl, .inr (.inr ⟨.show n, rfl, ok1 _ rfl rfl⟩)⟩
  · exact ⟨_, rfl, .inr (.inr ⟨.show n, rfl, ok1 _ rfl rfl⟩)⟩
  · exact ⟨_, rfl, .inr (.inl rfl)⟩
section
variable {P : Program} {w : World} {K : PySem.W.Frag} {mg : Str → Option Value} {base : Heap}
abbrev nLetter : List Str := ["_law_h", "_law_w", "_law_some", "_law_name", "_law_other", "_law_turn", "_law_fresh", "_law_marks", "_law_wide", "_law_high", "_law_x", "_law_y", "_law_far", "_law_words", "_law_word", "_law_one"]
theorem scLetter : FnScope nLetter ["_law_h", "_law_w"] (defScope sLetter) := ⟨rfl, rfl, rfl, by decide +kernel, rfl, by decide +kernel, by decide +kernel⟩
def spLetter : Sp := fun vs H Q _ => ∃ (A B : Cells) (m : MixH) (wa : Addr) (es : List WE), vs = [.ref m.a, .ref wa] ∧ Has H (A ++ (mixCells m ++ (wCells wa es ++ B))) ∧ MixOk m ∧ WOk (es.map WE.key) ∧ WPend H es ∧
  ∀ t z m' H', m'.a = m.a → MixOk m' → Has H' (A ++ (mixCells m' ++ (wCells wa es ++ B))) → H' t = some (.tup (Lt.vals z)) → z.ok → Q (.ref t) H'
set_option maxHeartbeats 0 in
theorem ok_letter {f fN : Addr} {fd fdN : FuncData} (F : Fun K "_law_letter" "_law_letter" sLetter f fd) (T : TxtG mg)
    (GN : FnOk P w K mg base CX0 1 fN fdN ["_law_h", "_law_many"] spNext) (bN : Binds K fdN ["_law_h", "_law_many"] []) (gN : mg "_law_next" = some (.ref fN)) (kN : PySem.W.keepIn K (.ref fN) = true) :
    FnOk P w K mg base CX0 2 f fd ["_law_h", "_law_w"] spLetter := by
  have GN := keep_t GN
  refine F.ok scLetter (fun vs H Q E h => ?_) (fun cdv A0 outer s0 H vs Q E hr h => ?_)
  · obtain ⟨A, B, m, wa, es, rfl, _⟩ := h
    rfl
  · obtain ⟨A, B, m, wa, es, rfl, hh, om, ok, wp, k⟩ := h
    have hu := hu_of hr
    refine ⟨_, (pss_cons (ps_set (i := 2) scLetter.nd rfl (Or.inl rfl) (pe_callB (call_sortedDI rfl) (by rfl) T.sorted (by decide +kernel) (pa_cons (pv 1) pa_nil))) (pss_cons (ps_set (i := 3) scLetter.nd rfl (Or.inl rfl) (pe_ifExp (pt_cmpR (op_neD hr.units) (pv 2) (pe_lst pa_nil) (nomark _)) (pe_ix ix_list (pv 2) (pe_call GN hr rfl gN kN bN .nil pass0 (pa_cons (pv 0) (pa_cons (pe_callB call_len_seq (by rfl) T.len PySem.boot_len (pa_cons (pv 2) pa_nil)) pa_nil))) (fun _ _ => rfl)) (pe_call GN hr rfl gN kN bN .nil pass0 (pa_cons (pv 0) (pa_cons pe_int pa_nil))))) (pss_cons (ps_set (i := 4) scLetter.nd rfl (Or.inl rfl) (pe_ifExp (pt_cmpR (op_neD hr.units) (pv 2) (pe_lst pa_nil) (nomark _)) (pe_ix ix_list (pv 2) (pe_call GN hr rfl gN kN bN .nil pass0 (pa_cons (pv 0) (pa_cons (pe_callB call_len_seq (by rfl) T.len PySem.boot_len (pa_cons (pv 2) pa_nil)) pa_nil))) (fun _ _ => rfl)) (pe_call GN hr rfl gN kN bN .nil pass0 (pa_cons (pv 0) (pa_cons pe_int pa_nil))))) (pss_cons (ps_set (i := 5) scLetter.nd rfl (Or.inl rfl) (pe_call GN hr rfl gN kN bN .nil pass0 (pa_cons (pv 0) (pa_cons pe_int pa_nil)))) (pss_cons (ps_if (PW.pt (pw_or (pt_cmpR (op_eqD hr.units) (pv 2) (pe_lst pa_nil) (nomark _)) (pw_or1 (PW.pt (pw_and (pt_cmpR op_lt (pv 5) pe_int (nomark _)) (pw_and1 (pt_cmpR op_lt (pe_callB call_len_seq (by rfl) T.len PySem.boot_len (pa_cons (pv 2) pa_nil)) pe_int (nomark _)))))))) (pss_cons (ps_setLc (i := 6) (own := [("_law_one", 15)]) (g := gName 15) (te := tVar 15) (tt := tTest (tDNotIn (tVar 15) (tVar 1))) (by rfl) scLetter.nd rfl rfl (sw_true rfl rfl rfl (by decide +kernel)) (pi_range1 rfl T.range (pa_cons pe_int pa_nil)) (blkOk_by (own := [("_law_one", 15)]) (N := nLetter) (sc := defScope sLetter) (by decide +kernel)) (fun _ _ _ _ _ => (pg_name (i := 15) scLetter.nd rfl (Or.inl rfl))) (fun _ _ _ _ _ => pts_one (pt_cmp (pc_dnotin hu (pv 15) (pv 1)))) (fun _ _ _ _ _ => pv 15)) (pss_one (ps_ret (pe_tup (pa_cons pe_str (pa_cons (pe_ix ix_list (pv 6) (pe_call GN hr rfl gN kN bN .nil pass0 (pa_cons (pv 0) (pa_cons (pe_ifExp (pt_cmpR op_gt (pe_callB call_len_seq (by rfl) T.len PySem.boot_len (pa_cons (pv 6) pa_nil)) pe_int (nomark _)) (pe_ix ix_list (pe_lst (pa_cons (pe_callB call_len_seq (by rfl) T.len PySem.boot_len (pa_cons (pv 6) pa_nil)) (pa_cons pe_int (pa_cons pe_int pa_nil)))) (pe_call GN hr rfl gN kN bN .nil pass0 (pa_cons (pv 0) (pa_cons pe_int pa_nil))) (fun _ _ => rfl)) pe_int) pa_nil))) (fun _ _ => rfl)) pa_nil)))))) pss_nil) (pss_cons (ps_if (pt_cmpR op_lt (pv 5) pe_int (nomark _)) (pss_one (ps_ret (pe_tup (pa_cons pe_str (pa_cons (pv 3) (pa_cons (pe_op op_add pe_int (pe_call GN hr rfl gN kN bN .nil pass0 (pa_cons (pv 0) (pa_cons (pe_ix ix_list (pe_lst (pa_cons pe_int (pa_cons pe_int pa_nil))) (pe_call GN hr rfl gN kN bN .nil pass0 (pa_cons (pv 0) (pa_cons pe_int pa_nil))) (fun _ _ => rfl)) pa_nil)))) (pa_cons (pe_op op_add pe_int (pe_call GN hr rfl gN kN bN .nil pass0 (pa_cons (pv 0) (pa_cons (pe_ix ix_list (pe_lst (pa_cons pe_int (pa_cons pe_int pa_nil))) (pe_call GN hr rfl gN kN bN .nil pass0 (pa_cons (pv 0) (pa_cons pe_int pa_nil))) (fun _ _ => rfl)) pa_nil)))) pa_nil))))))) pss_nil) (pss_cons (ps_if (pt_cmpR op_lt (pv 5) pe_int (nomark _)) (pss_cons (ps_set (i := 7) scLetter.nd rfl (Or.inl rfl) (pe_ix ix_tup (pe_dget hu (pe_dget hu (pv 1) (pv 3) (fun _ _ => rfl)) pe_str (fun _ _ => rfl)) pe_int (fun _ _ => rfl))) (pss_cons (ps_par (i := 8) (j := 9) (by rfl) scLetter.nd rfl rfl (by decide) rfl rfl (pa_cons (pe_op op_add pe_int (pe_call GN hr rfl gN kN bN .nil pass0 (pa_cons (pv 0) (pa_cons (pe_callB call_len_seq (by rfl) T.len PySem.boot_len (pa_cons (pe_ix ix_tup (pv 7) pe_int (fun _ _ => rfl)) pa_nil)) pa_nil)))) (pa_cons (pe_op op_add pe_int (pe_call GN hr rfl gN kN bN .nil pass0 (pa_cons (pv 0) (pa_cons (pe_callB call_len_seq (by rfl) T.len PySem.boot_len (pa_cons (pv 7) pa_nil)) pa_nil)))) pa_nil)) (by rfl)) (pss_cons (ps_par (i := 10) (j := 11) (by rfl) scLetter.nd rfl rfl (by decide) rfl rfl (pa_cons (pe_call GN hr rfl gN kN bN .nil pass0 (pa_cons (pv 0) (pa_cons (pe_op op_add (pe_op op_sub (pe_callB call_len_seq (by rfl) T.len PySem.boot_len (pa_cons (pe_ix ix_tup (pv 7) pe_int (fun _ _ => rfl)) pa_nil)) (pv 8)) pe_int) pa_nil))) (pa_cons (pe_call GN hr rfl gN kN bN .nil pass0 (pa_cons (pv 0) (pa_cons (pe_op op_add (pe_op op_sub (pe_callB call_len_seq (by rfl) T.len PySem.boot_len (pa_cons (pv 7) pa_nil)) (pv 9)) pe_int) pa_nil))) pa_nil)) (by rfl)) (pss_one (ps_ret (pe_tup (pa_cons pe_str (pa_cons (pv 3) (pa_cons (pv 10) (pa_cons (pv 11) (pa_cons (pv 8) (pa_cons (pv 9) (pa_cons (pe_call GN hr rfl gN kN bN .nil pass0 (pa_cons (pv 0) (pa_cons pe_int pa_nil))) pa_nil))))))))))))) pss_nil) (pss_cons (ps_if (pt_cmpR op_lt (pv 5) pe_int (nomark _)) (pss_cons (ps_set (i := 12) scLetter.nd rfl (Or.inl rfl) (pe_ix ix_list (pe_lst (pa_cons pe_int (pa_cons pe_int (pa_cons pe_int pa_nil)))) (pe_call GN hr rfl gN kN bN .nil pass0 (pa_cons (pv 0) (pa_cons pe_int pa_nil))) (fun _ _ => rfl))) (pss_one (ps_ret (pe_tup (pa_cons pe_str (pa_cons (pv 3) (pa_cons (pe_op op_sub (pe_call GN hr rfl gN kN bN .nil pass0 (pa_cons (pv 0) (pa_cons (pe_op op_add (pe_op op_mul pe_int (pv 12)) pe_int) pa_nil))) (pv 12)) (pa_cons (pe_op op_sub (pe_call GN hr rfl gN kN bN .nil pass0 (pa_cons (pv 0) (pa_cons (pe_op op_add (pe_op op_mul pe_int (pv 12)) pe_int) pa_nil))) (pv 12)) pa_nil)))))))) pss_nil) (pss_cons (ps_if (pt_cmpR op_lt (pv 5) pe_int (nomark _)) (pss_one (ps_ret (pe_tup (pa_cons pe_str (pa_cons (pv 3) (pa_cons (pe_call GN hr rfl gN kN bN .nil pass0 (pa_cons (pv 0) (pa_cons (pe_ix ix_list (pe_lst (pa_cons pe_int (pa_cons pe_int pa_nil))) (pe_call GN hr rfl gN kN bN .nil pass0 (pa_cons (pv 0) (pa_cons pe_int pa_nil))) (fun _ _ => rfl)) pa_nil))) pa_nil)))))) pss_nil) (pss_cons (ps_set (i := 13) scLetter.nd rfl (Or.inl rfl) (pe_lst (pa_cons pe_str (pa_cons pe_str (pa_cons pe_str (pa_cons pe_str (pa_cons pe_str (pa_cons pe_str (pa_cons pe_str (pa_cons pe_str (pa_cons pe_str (pa_cons pe_str pa_nil)))))))))))) (pss_cons (ps_set (i := 14) scLetter.nd rfl (Or.inl rfl) (pe_ix ix_list (pv 13) (pe_ifExp (pt_cmpR op_gt (pe_call GN hr rfl gN kN bN .nil pass0 (pa_cons (pv 0) (pa_cons pe_int pa_nil))) pe_int (nomark _)) (pe_callB (call_min2 rfl) (by rfl) T.min (by decide +kernel) (pa_cons (pe_call GN hr rfl gN kN bN .nil pass0 (pa_cons (pv 0) (pa_cons pe_int pa_nil))) (pa_cons pe_int pa_nil))) pe_int) (fun _ _ => rfl))) (pss_one (ps_ret (pe_ifExp (pt_cmpR op_eq (pv 14) pe_str (nomark _)) (pe_tup (pa_cons (pv 14) (pa_cons (pv 3) (pa_cons (pv 4) pa_nil)))) (pe_ifExp (pt_cmpR op_eq (pv 14) pe_str (nomark _)) (pe_tup (pa_cons pe_str pa_nil)) (pe_tup (pa_cons (pv 14) (pa_cons (pv 3) pa_nil)))))))))))))))))), ?_⟩
    have sm : ∀ {n : Nat}, n ≤ 1000 → n ≤ sizeLine := small
    have hlen := ok.len
    rw [List.length_map] at hlen
    have wat : ∀ {A' : Cells} {m' : MixH} {H' : Hp}, Has H' (A' ++ (mixCells m' ++ (wCells wa es ++ B))) → WAt H' wa es := fun g => wat_of (A := _ ++ _) (Has.unassoc g)
    have hw := wat hh
    refine ⟨_, rfl, wa, _, es.map (·.k), rfl, .inl hw.1, by unfold wKvs; simp, by rw [List.length_map]; omega, fun ys sl hperm hord hsl => ?_⟩
    have ksl : ys.length = es.length := by rw [hperm.length_eq, List.length_map]
    have kin : ∀ x ∈ ys, x ∈ es.map (·.k) := fun x hx => hperm.mem_iff.mp hx
    have krng : ∀ x ∈ ys, 0 ≤ x ∧ x ≤ 9 := fun x hx => by
      obtain ⟨e, he, q⟩ := List.mem_map.mp (kin x hx)
      have := ok.rng e.key (List.mem_map_of_mem he)
      rw [← q]; exact this
    have g0 := hh.cons hsl (.lst (ys.map V.int))
    have kt0 : KeepT H (upd H sl (.lst (ys.map V.int))) := KeepT.same (Same.new _ hsl)
    generalize hH0 : upd H sl (.lst (ys.map V.int)) = H0 at g0 kt0
    have hs0 := Has.get (A := []) g0 0 rfl
    have ktO : KeepT H H0 := kt0
    have gO := g0
    by_cases hy : ys = []
    · have hless : es.length < 10 := by rw [← ksl, hy]; decide
      have dec : decide (ys = []) = true := decide_eq_true hy
      refine ⟨_, rfl, sm (by show 0 ≤ 1000; decide), fun q1 hq1 => ?_⟩
      refine neNil ((Same.new _ hq1) _ _ hs0) upd_same ?_
      refine ⟨_, rfl, ?_⟩
      rw [dec]
      refine iteF ?_
      have g0 := gO.past hq1 (.lst [])
      have t0 := ktO.trans (KeepT.same (Same.new (HO.lst []) hq1))
      have e0 : m.a = m.a := rfl
      have o0 := om
      obtain ⟨m0, em0⟩ : ∃ x, x = m := ⟨_, rfl⟩
      rw [← em0] at g0 o0
      have e0 : m0.a = m.a := by rw [em0]
      refine ⟨_, rfl, ((sl, _) :: A), wCells wa es ++ B, m0, 10, congrArg (fun x => [V.ref x, V.int 10]) e0.symm, g0, o0, by decide, by decide, fun r1 m1 H1 ra1 rb1 f1 o1 g1 k1 => ?_⟩
      have e1 := f1.trans e0
      have t1 := t0.trans k1
      refine ⟨_, rfl, sm (by show 0 ≤ 1000; decide), fun q2 hq2 => ?_⟩
      refine neNil ((Same.new _ hq2) _ _ (Has.get (A := []) g1 0 rfl)) upd_same ?_
      refine ⟨_, rfl, ?_⟩
      rw [dec]
      refine iteF ?_
      have g1 := Has.past g1 hq2 (.lst [])
      have t1 := t1.trans (KeepT.same (Same.new (HO.lst []) hq2))
      refine ⟨_, rfl, ((sl, _) :: A), wCells wa es ++ B, m1, 10, congrArg (fun x => [V.ref x, V.int 10]) e1.symm, g1, o1, by decide, by decide, fun r2 m2 H2 ra2 rb2 f2 o2 g2 k2 => ?_⟩
      have e2 := f2.trans e1
      have t2 := t1.trans k2
      refine ⟨_, rfl, ((sl, _) :: A), wCells wa es ++ B, m2, 24, congrArg (fun x => [V.ref x, V.int 24]) e2.symm, g2, o2, by decide, by decide, fun r3 m3 H3 ra3 rb3 f3 o3 g3 k3 => ?_⟩
      have e3 := f3.trans e2
      have t3 := t2.trans k3
      refine ⟨_, rfl, sm (by show 0 ≤ 1000; decide), fun q3 hq3 => ?_⟩
      refine eqNil ((Same.new _ hq3) _ _ (Has.get (A := []) g3 0 rfl)) upd_same ?_
      refine ⟨_, rfl, ?_⟩
      rw [dec]
      refine iteT ?_
      have g3 := Has.past g3 hq3 (.lst [])
      have t3 := t3.trans (KeepT.same (Same.new (HO.lst []) hq3))
      generalize hH3 : upd H3 q3 (.lst []) = H3 at g3 t3
      refine ⟨10, rfl, by decide, by decide, fun D hD => ?_⟩
      refine lc_range (lo := 0) (n := (10 : Int).toNat) (fun j H2 => Same H3 H2 ∧ H2 D = some (.lst (((List.range j).filter fun o => (findW es (o : Nat)).isNone).map fun (o : Nat) => V.int (o : Nat)))) ⟨Same.new _ hD, upd_same⟩ ?_ ?_
      · rintro j H2 hj ⟨s2, hD2⟩
        rw [Int.zero_add]
        refine ⟨rfl, _, rfl, _, rfl, wa, _, rfl, ((wat g3).same s2).is (j : Nat), _, rfl, ?_⟩
        rw [List.range_succ, List.filter_append]
        cases q : findW es (j : Nat) with
        | none =>
          refine iteT ?_
          refine ⟨_, rfl, _, hD2, ?_, Same.mut _ s2 hD, ?_⟩
          · rw [List.length_map]
            have := List.length_filter_le (fun o => (findW es ((o : Nat) : Int)).isNone) (List.range j)
            rw [List.length_range] at this
            have hj : j < 10 := hj
            exact small1000 (by omega)
          · rw [upd_same, List.map_append]
            have : ([j].filter fun o => (findW es ((o : Nat) : Int)).isNone) = [j] := by simp [q]
            rw [this]; rfl
        | some x =>
          refine iteF ⟨s2, ?_⟩
          have : ([j].filter fun o => (findW es ((o : Nat) : Int)).isNone) = [] := by simp [q]
          rw [this, List.append_nil]; exact hD2
      · rintro H4 ⟨s2, hD2⟩
        have hD2 : H4 D = some (.lst ((freshW es).map fun (o : Nat) => V.int (o : Nat))) := hD2
        have fp := fresh_pos (es := es) hless
        have fl := fresh_le es
        have g4 := Has.add g3 hD s2 hD2
        have t4 := t3.trans (KeepT.same s2)
        have o4 := o3
        have e4 := e3
        obtain ⟨m4, em4⟩ : ∃ x, x = m3 := ⟨_, rfl⟩
        rw [← em4] at g4 o4 e4
        have fin : ∀ (r : Int), 0 ≤ r → r < ((freshW es).length : Int) → ∃ f : Nat, (freshW es)[r.toNat]? = some f ∧ f ≤ 9 := fun r r0 r1 => by
          have hl : r.toNat < (freshW es).length := by omega
          refine ⟨_, List.getElem?_eq_getElem hl, ?_⟩
          have := (List.mem_filter.mp (List.getElem_mem hl)).1
          have := List.mem_range.mp this
          omega
        refine ⟨_, rfl, _, rfl, _, rfl, D, _, rfl, .inl (SqL.of hD2), _, _, rfl, rfl, _, rfl, ?_⟩
        rw [List.length_map]
        refine ite2 (fun c => ?_) (fun c => ?_)
        · have c := of_decide_eq_true c
          refine ⟨_, rfl, D, _, rfl, .inl (SqL.of hD2), sm (by show 3 ≤ 1000; decide), fun l hl => ?_⟩
          have g4 := Has.cons g4 hl (.lst [V.int ((freshW es).map fun (o : Nat) => V.int (o : Nat)).length, .int 2, .int 1])
          have t4 := t4.trans (KeepT.same (Same.new (HO.lst [V.int ((freshW es).map fun (o : Nat) => V.int (o : Nat)).length, .int 2, .int 1]) hl))
          refine ⟨_, rfl, ((l, _) :: (D, _) :: (sl, _) :: A), wCells wa es ++ B, m4, 3, congrArg (fun x => [V.ref x, V.int 3]) e4.symm, g4, o4, by decide, by decide, fun r5 m5 H5 ra5 rb5 f5 o5 g5 k5 => ?_⟩
          have e5 := f5.trans e4
          have t5 := t4.trans k5
          obtain ⟨v, hv, v1, v2⟩ := pick3 (a := (((freshW es).map fun (o : Nat) => V.int (o : Nat)).length : Int)) (b := 2) (c := 1) (lo := 1) (hi := ((freshW es).length : Int)) ra5 rb5 (by rw [List.length_map]; omega) (by omega) (by omega)
          refine ⟨l, _, _, V.int v, rfl, rfl, SqL.of (Has.get (A := []) g5 0 rfl), at_of (j := r5.toNat) (by omega) hv, ?_⟩
          refine ⟨((l, _) :: (D, _) :: (sl, _) :: A), wCells wa es ++ B, m5, v, congrArg (fun x => [V.ref x, V.int v]) e5.symm, g5, o5, v1, by omega, fun r6 m6 H6 ra6 rb6 f6 o6 g6 k6 => ?_⟩
          have e6 := f6.trans e5
          have t6 := t5.trans k6
          obtain ⟨f, hf, hf9⟩ := fin r6 ra6 (by omega)
          refine ⟨D, _, _, V.int (f : Nat), rfl, rfl, SqL.of (Has.get (A := []) g6 1 rfl), at_of (j := r6.toNat) (by omega) (by rw [List.getElem?_map, hf]; rfl), sm (by show 2 ≤ 1000; decide), fun t ht => ?_⟩
          refine k t (.make (f : Nat)) m6 _ e6 o6 ((Has.tail (Has.tail (Has.tail g6))).past ht _) upd_same ?_
          simp [Lt.ok, Lt.nums, Lt.bnds]; omega
        · have c : ¬ (1 : Int) < ((freshW es).length : Nat) := fun z => c (decide_eq_true z)
          refine ⟨((D, _) :: (sl, _) :: A), wCells wa es ++ B, m4, 1, congrArg (fun x => [V.ref x, V.int 1]) e4.symm, g4, o4, by decide, by decide, fun r5 m5 H5 ra5 rb5 f5 o5 g5 k5 => ?_⟩
          have e5 := f5.trans e4
          have t5 := t4.trans k5
          obtain ⟨f, hf, hf9⟩ := fin r5 ra5 (by omega)
          refine ⟨D, _, _, V.int (f : Nat), rfl, rfl, SqL.of (Has.get (A := []) g5 0 rfl), at_of (j := r5.toNat) (by omega) (by rw [List.getElem?_map, hf]; rfl), sm (by show 2 ≤ 1000; decide), fun t ht => ?_⟩
          refine k t (.make (f : Nat)) m5 _ e5 o5 ((Has.tail (Has.tail g5)).past ht _) upd_same ?_
          simp [Lt.ok, Lt.nums, Lt.bnds]; omega
    · have dec : decide (ys = []) = false := decide_eq_false hy
      have yl : 1 ≤ ys.length := List.length_pos_iff.mpr hy
      have yl2 : (ys.map V.int).length = ys.length := List.length_map _
      have pk : ∀ r : Int, 0 ≤ r → r < ((ys.map V.int).length : Int) → ∃ n, ys[r.toNat]? = some n ∧ n ∈ ys := fun r r0 r1 => by
        have hl : r.toNat < ys.length := by omega
        exact ⟨_, List.getElem?_eq_getElem hl, List.getElem_mem hl⟩
      refine ⟨_, rfl, sm (by show 0 ≤ 1000; decide), fun q1 hq1 => ?_⟩
      refine neNil ((Same.new _ hq1) _ _ hs0) upd_same ?_
      refine ⟨_, rfl, ?_⟩
      rw [dec]
      refine iteT ?_
      have g0 := gO.past hq1 (.lst [])
      have t0 := ktO.trans (KeepT.same (Same.new (HO.lst []) hq1))
      have o0 := om
      obtain ⟨m0, em0⟩ : ∃ x, x = m := ⟨_, rfl⟩
      rw [← em0] at g0 o0
      have e0 : m0.a = m.a := by rw [em0]
      refine ⟨_, rfl, _, rfl, _, rfl, sl, _, rfl, .inl (SqL.of (Has.get (A := []) g0 0 rfl)), ?_⟩
      refine ⟨((sl, _) :: A), wCells wa es ++ B, m0, ((ys.map V.int).length : Int), congrArg (fun x => [V.ref x, V.int ((ys.map V.int).length : Int)]) e0.symm, g0, o0, by omega, by omega, fun r1 m1 H1 ra1 rb1 f1 o1 g1 k1 => ?_⟩
      have e1 := f1.trans e0
      have t1 := t0.trans k1
      obtain ⟨n, hn1, hn2⟩ := pk r1 ra1 rb1
      refine ⟨sl, _, _, V.int n, rfl, rfl, SqL.of (Has.get (A := []) g1 0 rfl), at_of (j := r1.toNat) (by omega) (by rw [List.getElem?_map, hn1]; rfl), ?_⟩
      refine ⟨_, rfl, sm (by show 0 ≤ 1000; decide), fun q2 hq2 => ?_⟩
      refine neNil ((Same.new _ hq2) _ _ (Has.get (A := []) g1 0 rfl)) upd_same ?_
      refine ⟨_, rfl, ?_⟩
      rw [dec]
      refine iteT ?_
      have g1 := Has.past g1 hq2 (.lst [])
      have t1 := t1.trans (KeepT.same (Same.new (HO.lst []) hq2))
      refine ⟨_, rfl, _, rfl, _, rfl, sl, _, rfl, .inl (SqL.of (Has.get (A := []) g1 0 rfl)), ?_⟩
      refine ⟨((sl, _) :: A), wCells wa es ++ B, m1, ((ys.map V.int).length : Int), congrArg (fun x => [V.ref x, V.int ((ys.map V.int).length : Int)]) e1.symm, g1, o1, by omega, by omega, fun r2 m2 H2 ra2 rb2 f2 o2 g2 k2 => ?_⟩
      have e2 := f2.trans e1
      have t2 := t1.trans k2
      obtain ⟨o, ho1, ho2⟩ := pk r2 ra2 rb2
      refine ⟨sl, _, _, V.int o, rfl, rfl, SqL.of (Has.get (A := []) g2 0 rfl), at_of (j := r2.toNat) (by omega) (by rw [List.getElem?_map, ho1]; rfl), ?_⟩
      refine ⟨_, rfl, ((sl, _) :: A), wCells wa es ++ B, m2, 24, congrArg (fun x => [V.ref x, V.int 24]) e2.symm, g2, o2, by decide, by decide, fun r3 m3 H3 ra3 rb3 f3 o3 g3 k3 => ?_⟩
      have e3 := f3.trans e2
      have t3 := t2.trans k3
      refine ⟨_, rfl, sm (by show 0 ≤ 1000; decide), fun q3 hq3 => ?_⟩
      refine eqNil ((Same.new _ hq3) _ _ (Has.get (A := []) g3 0 rfl)) upd_same ?_
      refine ⟨_, rfl, ?_⟩
      rw [dec]
      refine iteF ?_
      have g3 := Has.past g3 hq3 (.lst [])
      have t3 := t3.trans (KeepT.same (Same.new (HO.lst []) hq3))
      generalize hH3 : upd H3 q3 (.lst []) = H3 at g3 t3
      have hn := krng n hn2
      have ho := krng o ho2
      obtain ⟨e, en⟩ := findW_some (kin n hn2)
      have em := findW_mem en
      refine ⟨_, rfl, _, _, rfl, rfl, _, rfl, ?_⟩
      refine ite2 (fun _ => ?_) (fun _ => ?_)
      refine ⟨_, rfl, sl, _, rfl, .inl (SqL.of (Has.get (A := []) g3 0 rfl)), _, _, rfl, rfl, _, rfl, ?_⟩
      refine ite2 (fun cl => ?_) (fun _ => ?_)
      · have hless : es.length < 10 := by have := of_decide_eq_true cl; rw [List.length_map] at this; omega
        refine ⟨10, rfl, by decide, by decide, fun D hD => ?_⟩
        refine lc_range (lo := 0) (n := (10 : Int).toNat) (fun j H2 => Same H3 H2 ∧ H2 D = some (.lst (((List.range j).filter fun o => (findW es (o : Nat)).isNone).map fun (o : Nat) => V.int (o : Nat)))) ⟨Same.new _ hD, upd_same⟩ ?_ ?_
        · rintro j H2 hj ⟨s2, hD2⟩
          rw [Int.zero_add]
          refine ⟨rfl, _, rfl, _, rfl, wa, _, rfl, ((wat g3).same s2).is (j : Nat), _, rfl, ?_⟩
          rw [List.range_succ, List.filter_append]
          cases q : findW es (j : Nat) with
          | none =>
            refine iteT ?_
            refine ⟨_, rfl, _, hD2, ?_, Same.mut _ s2 hD, ?_⟩
            · rw [List.length_map]
              have := List.length_filter_le (fun o => (findW es ((o : Nat) : Int)).isNone) (List.range j)
              rw [List.length_range] at this
              have hj : j < 10 := hj
              exact small1000 (by omega)
            · rw [upd_same, List.map_append]
              have : ([j].filter fun o => (findW es ((o : Nat) : Int)).isNone) = [j] := by simp [q]
              rw [this]; rfl
          | some x =>
            refine iteF ⟨s2, ?_⟩
            have : ([j].filter fun o => (findW es ((o : Nat) : Int)).isNone) = [] := by simp [q]
            rw [this, List.append_nil]; exact hD2
        · rintro H4 ⟨s2, hD2⟩
          have hD2 : H4 D = some (.lst ((freshW es).map fun (o : Nat) => V.int (o : Nat))) := hD2
          have fp := fresh_pos (es := es) hless
          have fl := fresh_le es
          have g4 := Has.add g3 hD s2 hD2
          have t4 := t3.trans (KeepT.same s2)
          have o4 := o3
          have e4 := e3
          obtain ⟨m4, em4⟩ : ∃ x, x = m3 := ⟨_, rfl⟩
          rw [← em4] at g4 o4 e4
          have fin : ∀ (r : Int), 0 ≤ r → r < ((freshW es).length : Int) → ∃ f : Nat, (freshW es)[r.toNat]? = some f ∧ f ≤ 9 := fun r r0 r1 => by
            have hl : r.toNat < (freshW es).length := by omega
            refine ⟨_, List.getElem?_eq_getElem hl, ?_⟩
            have := (List.mem_filter.mp (List.getElem_mem hl)).1
            have := List.mem_range.mp this
            omega
          refine ⟨_, rfl, _, rfl, _, rfl, D, _, rfl, .inl (SqL.of hD2), _, _, rfl, rfl, _, rfl, ?_⟩
          rw [List.length_map]
          refine ite2 (fun c => ?_) (fun c => ?_)
          · have c := of_decide_eq_true c
            refine ⟨_, rfl, D, _, rfl, .inl (SqL.of hD2), sm (by show 3 ≤ 1000; decide), fun l hl => ?_⟩
            have g4 := Has.cons g4 hl (.lst [V.int ((freshW es).map fun (o : Nat) => V.int (o : Nat)).length, .int 2, .int 1])
            have t4 := t4.trans (KeepT.same (Same.new (HO.lst [V.int ((freshW es).map fun (o : Nat) => V.int (o : Nat)).length, .int 2, .int 1]) hl))
            refine ⟨_, rfl, ((l, _) :: (D, _) :: (sl, _) :: A), wCells wa es ++ B, m4, 3, congrArg (fun x => [V.ref x, V.int 3]) e4.symm, g4, o4, by decide, by decide, fun r5 m5 H5 ra5 rb5 f5 o5 g5 k5 => ?_⟩
            have e5 := f5.trans e4
            have t5 := t4.trans k5
            obtain ⟨v, hv, v1, v2⟩ := pick3 (a := (((freshW es).map fun (o : Nat) => V.int (o : Nat)).length : Int)) (b := 2) (c := 1) (lo := 1) (hi := ((freshW es).length : Int)) ra5 rb5 (by rw [List.length_map]; omega) (by omega) (by omega)
            refine ⟨l, _, _, V.int v, rfl, rfl, SqL.of (Has.get (A := []) g5 0 rfl), at_of (j := r5.toNat) (by omega) hv, ?_⟩
            refine ⟨((l, _) :: (D, _) :: (sl, _) :: A), wCells wa es ++ B, m5, v, congrArg (fun x => [V.ref x, V.int v]) e5.symm, g5, o5, v1, by omega, fun r6 m6 H6 ra6 rb6 f6 o6 g6 k6 => ?_⟩
            have e6 := f6.trans e5
            have t6 := t5.trans k6
            obtain ⟨f, hf, hf9⟩ := fin r6 ra6 (by omega)
            refine ⟨D, _, _, V.int (f : Nat), rfl, rfl, SqL.of (Has.get (A := []) g6 1 rfl), at_of (j := r6.toNat) (by omega) (by rw [List.getElem?_map, hf]; rfl), sm (by show 2 ≤ 1000; decide), fun t ht => ?_⟩
            refine k t (.make (f : Nat)) m6 _ e6 o6 ((Has.tail (Has.tail (Has.tail g6))).past ht _) upd_same ?_
            simp [Lt.ok, Lt.nums, Lt.bnds]; omega
          · have c : ¬ (1 : Int) < ((freshW es).length : Nat) := fun z => c (decide_eq_true z)
            refine ⟨((D, _) :: (sl, _) :: A), wCells wa es ++ B, m4, 1, congrArg (fun x => [V.ref x, V.int 1]) e4.symm, g4, o4, by decide, by decide, fun r5 m5 H5 ra5 rb5 f5 o5 g5 k5 => ?_⟩
            have e5 := f5.trans e4
            have t5 := t4.trans k5
            obtain ⟨f, hf, hf9⟩ := fin r5 ra5 (by omega)
            refine ⟨D, _, _, V.int (f : Nat), rfl, rfl, SqL.of (Has.get (A := []) g5 0 rfl), at_of (j := r5.toNat) (by omega) (by rw [List.getElem?_map, hf]; rfl), sm (by show 2 ≤ 1000; decide), fun t ht => ?_⟩
            refine k t (.make (f : Nat)) m5 _ e5 o5 ((Has.tail (Has.tail g5)).past ht _) upd_same ?_
            simp [Lt.ok, Lt.nums, Lt.bnds]; omega
      all_goals
        refine ⟨_, rfl, _, _, rfl, rfl, _, rfl, ?_⟩
        refine ite2 (fun _ => ?_) (fun _ => ?_)
        · refine ⟨_, rfl, _, rfl, sm (by show 2 ≤ 1000; decide), fun l1 hl1 => ?_⟩
          have g3 := Has.cons g3 hl1 (.lst [.int 4, .int 12])
          have t3 := t3.trans (KeepT.same (Same.new (HO.lst [.int 4, .int 12]) hl1))
          refine ⟨_, rfl, ((l1, _) :: (sl, _) :: A), wCells wa es ++ B, m3, 2, congrArg (fun x => [V.ref x, V.int 2]) e3.symm, g3, o3, by decide, by decide, fun r4 m4 H4 ra4 rb4 f4 o4 g4 k4 => ?_⟩
          have e4 := f4.trans e3
          have t4 := t3.trans k4
          obtain ⟨v1, hv1, va1, vb1⟩ := pick2 (a := 4) (b := 12) (lo := 1) (hi := 12) ra4 rb4 (by decide) (by decide)
          refine ⟨l1, _, _, V.int v1, rfl, rfl, SqL.of (Has.get (A := []) g4 0 rfl), at_of (j := r4.toNat) (by omega) hv1, ?_⟩
          refine ⟨((l1, _) :: (sl, _) :: A), wCells wa es ++ B, m4, v1, congrArg (fun x => [V.ref x, V.int v1]) e4.symm, g4, o4, va1, by omega, fun r5 m5 H5 ra5 rb5 f5 o5 g5 k5 => ?_⟩
          have e5 := f5.trans e4
          have t5 := t4.trans k5
          refine ⟨_, _, rfl, rfl, _, rfl, sm (by show 2 ≤ 1000; decide), fun l2 hl2 => ?_⟩
          have g5 := Has.cons g5 hl2 (.lst [.int 3, .int 8])
          have t5 := t5.trans (KeepT.same (Same.new (HO.lst [.int 3, .int 8]) hl2))
          refine ⟨_, rfl, ((l2, _) :: (l1, _) :: (sl, _) :: A), wCells wa es ++ B, m5, 2, congrArg (fun x => [V.ref x, V.int 2]) e5.symm, g5, o5, by decide, by decide, fun r6 m6 H6 ra6 rb6 f6 o6 g6 k6 => ?_⟩
          have e6 := f6.trans e5
          have t6 := t5.trans k6
          obtain ⟨v2, hv2, va2, vb2⟩ := pick2 (a := 3) (b := 8) (lo := 1) (hi := 8) ra6 rb6 (by decide) (by decide)
          refine ⟨l2, _, _, V.int v2, rfl, rfl, SqL.of (Has.get (A := []) g6 0 rfl), at_of (j := r6.toNat) (by omega) hv2, ?_⟩
          refine ⟨((l2, _) :: (l1, _) :: (sl, _) :: A), wCells wa es ++ B, m6, v2, congrArg (fun x => [V.ref x, V.int v2]) e6.symm, g6, o6, va2, by omega, fun r7 m7 H7 ra7 rb7 f7 o7 g7 k7 => ?_⟩
          have e7 := f7.trans e6
          have t7 := t6.trans k7
          refine ⟨_, _, rfl, rfl, sm (by show 4 ≤ 1000; decide), fun t ht => ?_⟩
          refine k t (.size n (1 + r5) (1 + r7)) m7 _ e7 o7 ((Has.tail (Has.tail (Has.tail g7))).past ht _) upd_same ?_
          simp [Lt.ok, Lt.nums, Lt.bnds]; omega
        refine ⟨_, rfl, _, _, rfl, rfl, _, rfl, ?_⟩
        refine ite2 (fun _ => ?_) (fun _ => ?_)
        · have wp3 := wp.keep t3
          have w3 := wat g3
          obtain ⟨x0, y0, r0, v0, mt, W, Hh, hp, ⟨rows, hm1, hm2, hm3⟩, W1, W12, Hh1, Hh8⟩ := wp3 e em.1
          have er0 : rows[0]? = some rows[0] := List.getElem?_eq_getElem (by omega)
          obtain ⟨xs0, hx1, hx2⟩ := hm3 _ (List.mem_of_getElem? er0)
          have emap : (rows.map V.ref)[0]? = some (V.ref rows[0]) := by rw [List.getElem?_map, er0]; rfl
          have eml : (rows.map V.ref).length = Hh := by rw [List.length_map]; exact hm2
          generalize rows.map V.ref = rvs at hm1 emap eml
          generalize rows[0] = row0 at hx1 emap
          refine ⟨_, rfl, _, rfl, wa, _, rfl, w3.get en, e.da, _, rfl, w3.pend em.1, _, _, _, V.ref mt, rfl, rfl, SqT.of hp, at_of (j := 4) rfl rfl, ?_⟩
          refine ⟨_, rfl, _, rfl, _, _, _, V.ref row0, rfl, rfl, SqT.of hm1, at_of (j := 0) rfl emap, _, _, rfl, .inr (SqT.of hx1), ?_⟩
          rw [hx2]
          refine ⟨((sl, _) :: A), wCells wa es ++ B, m3, (W : Int), congrArg (fun x => [V.ref x, V.int (W : Int)]) e3.symm, g3, o3, by omega, by omega, fun r4 m4 H4 ra4 rb4 f4 o4 g4 k4 => ?_⟩
          have e4 := f4.trans e3
          have t4 := t3.trans k4
          refine ⟨_, _, rfl, rfl, _, rfl, _, rfl, _, _, rfl, .inr (SqT.of (k4 _ _ hm1)), ?_⟩
          rw [eml]
          refine ⟨((sl, _) :: A), wCells wa es ++ B, m4, (Hh : Int), congrArg (fun x => [V.ref x, V.int (Hh : Int)]) e4.symm, g4, o4, by omega, by omega, fun r5 m5 H5 ra5 rb5 f5 o5 g5 k5 => ?_⟩
          have e5 := f5.trans e4
          have t5 := t4.trans k5
          refine ⟨_, _, rfl, rfl, _, _, rfl, ?_⟩
          have hm5 := k5 _ _ (k4 _ _ hm1)
          have hx5 := k5 _ _ (k4 _ _ hx1)
          refine ⟨_, rfl, _, rfl, _, _, _, V.ref row0, rfl, rfl, SqT.of hm5, at_of (j := 0) rfl emap, _, _, rfl, .inr (SqT.of hx5), _, rfl, _, _, rfl, rfl, _, _, rfl, rfl, ?_⟩
          rw [hx2]
          refine ⟨((sl, _) :: A), wCells wa es ++ B, m5, ((W : Int) - (1 + r4) + 1), congrArg (fun x => [V.ref x, V.int ((W : Int) - (1 + r4) + 1)]) e5.symm, g5, o5, by omega, by omega, fun r6 m6 H6 ra6 rb6 f6 o6 g6 k6 => ?_⟩
          have e6 := f6.trans e5
          have t6 := t5.trans k6
          refine ⟨_, rfl, _, rfl, _, _, rfl, .inr (SqT.of (k6 _ _ hm5)), _, rfl, _, _, rfl, rfl, _, _, rfl, rfl, ?_⟩
          rw [eml]
          refine ⟨((sl, _) :: A), wCells wa es ++ B, m6, ((Hh : Int) - (1 + r5) + 1), congrArg (fun x => [V.ref x, V.int ((Hh : Int) - (1 + r5) + 1)]) e6.symm, g6, o6, by omega, by omega, fun r7 m7 H7 ra7 rb7 f7 o7 g7 k7 => ?_⟩
          have e7 := f7.trans e6
          have t7 := t6.trans k7
          refine ⟨_, _, rfl, ?_⟩
          refine ⟨_, rfl, _, rfl, _, rfl, _, rfl, _, rfl, ?_⟩
          refine ⟨_, rfl, ((sl, _) :: A), wCells wa es ++ B, m7, 10, congrArg (fun x => [V.ref x, V.int 10]) e7.symm, g7, o7, by decide, by decide, fun r8 m8 H8 ra8 rb8 f8 o8 g8 k8 => ?_⟩
          have e8 := f8.trans e7
          have t8 := t7.trans k8
          refine ⟨sm (by show 7 ≤ 1000; decide), fun t ht => ?_⟩
          refine k t (.paint n r6 r7 (1 + r4) (1 + r5) r8) m8 _ e8 o8 ((Has.tail g8).past ht _) upd_same ?_
          simp [Lt.ok, Lt.nums, Lt.bnds]; omega
        refine ⟨_, rfl, _, _, rfl, rfl, _, rfl, ?_⟩
        refine ite2 (fun _ => ?_) (fun _ => ?_)
        · refine ⟨sm (by show 3 ≤ 1000; decide), fun l1 hl1 => ?_⟩
          have g3 := Has.cons g3 hl1 (.lst [.int 6, .int 3, .int 20])
          have t3 := t3.trans (KeepT.same (Same.new (HO.lst [.int 6, .int 3, .int 20]) hl1))
          refine ⟨_, rfl, ((l1, _) :: (sl, _) :: A), wCells wa es ++ B, m3, 3, congrArg (fun x => [V.ref x, V.int 3]) e3.symm, g3, o3, by decide, by decide, fun r4 m4 H4 ra4 rb4 f4 o4 g4 k4 => ?_⟩
          have e4 := f4.trans e3
          have t4 := t3.trans k4
          obtain ⟨far, hv1, va1, vb1⟩ := pick3 (a := 6) (b := 3) (c := 20) (lo := 3) (hi := 20) ra4 rb4 (by decide) (by decide) (by decide)
          refine ⟨l1, _, _, V.int far, rfl, rfl, SqL.of (Has.get (A := []) g4 0 rfl), at_of (j := r4.toNat) (by omega) hv1, ?_⟩
          refine ⟨_, rfl, _, rfl, _, rfl, _, _, rfl, rfl, .inl ⟨by decide, by decide⟩, _, _, rfl, rfl, ?_⟩
          refine ⟨((l1, _) :: (sl, _) :: A), wCells wa es ++ B, m4, (2 * far + 1), congrArg (fun x => [V.ref x, V.int (2 * far + 1)]) e4.symm, g4, o4, by omega, by omega, fun r5 m5 H5 ra5 rb5 f5 o5 g5 k5 => ?_⟩
          have e5 := f5.trans e4
          have t5 := t4.trans k5
          refine ⟨_, rfl, _, _, rfl, rfl, _, rfl, _, rfl, _, _, rfl, rfl, .inl ⟨by decide, by decide⟩, _, _, rfl, rfl, ?_⟩
          refine ⟨((l1, _) :: (sl, _) :: A), wCells wa es ++ B, m5, (2 * far + 1), congrArg (fun x => [V.ref x, V.int (2 * far + 1)]) e5.symm, g5, o5, by omega, by omega, fun r6 m6 H6 ra6 rb6 f6 o6 g6 k6 => ?_⟩
          have e6 := f6.trans e5
          have t6 := t5.trans k6
          refine ⟨_, rfl, _, _, rfl, rfl, sm (by show 4 ≤ 1000; decide), fun t ht => ?_⟩
          refine k t (.place n (r5 - far) (r6 - far)) m6 _ e6 o6 ((Has.tail (Has.tail g6)).past ht _) upd_same ?_
          simp [Lt.ok, Lt.nums, Lt.bnds]; omega
        refine ⟨_, rfl, _, _, rfl, rfl, _, rfl, ?_⟩
        refine ite2 (fun _ => ?_) (fun _ => ?_)
        · refine ⟨_, rfl, _, rfl, sm (by show 2 ≤ 1000; decide), fun l1 hl1 => ?_⟩
          have g3 := Has.cons g3 hl1 (.lst [.int 3, .int 10])
          have t3 := t3.trans (KeepT.same (Same.new (HO.lst [.int 3, .int 10]) hl1))
          refine ⟨_, rfl, ((l1, _) :: (sl, _) :: A), wCells wa es ++ B, m3, 2, congrArg (fun x => [V.ref x, V.int 2]) e3.symm, g3, o3, by decide, by decide, fun r4 m4 H4 ra4 rb4 f4 o4 g4 k4 => ?_⟩
          have e4 := f4.trans e3
          have t4 := t3.trans k4
          obtain ⟨v1, hv1, va1, vb1⟩ := pick2 (a := 3) (b := 10) (lo := 1) (hi := 10) ra4 rb4 (by decide) (by decide)
          refine ⟨l1, _, _, V.int v1, rfl, rfl, SqL.of (Has.get (A := []) g4 0 rfl), at_of (j := r4.toNat) (by omega) hv1, ?_⟩
          refine ⟨((l1, _) :: (sl, _) :: A), wCells wa es ++ B, m4, v1, congrArg (fun x => [V.ref x, V.int v1]) e4.symm, g4, o4, va1, by omega, fun r5 m5 H5 ra5 rb5 f5 o5 g5 k5 => ?_⟩
          have e5 := f5.trans e4
          have t5 := t4.trans k5
          refine ⟨sm (by show 3 ≤ 1000; decide), fun t ht => ?_⟩
          refine k t (.rank n r5) m5 _ e5 o5 ((Has.tail (Has.tail g5)).past ht _) upd_same ?_
          simp [Lt.ok, Lt.nums, Lt.bnds]; omega
        refine ⟨sm (by show 10 ≤ 1000; decide), fun l1 hl1 => ?_⟩
        have g3 := Has.cons g3 hl1 (.lst [V.str "veil", .str "unveil", .str "unveil", .str "tie", .str "drop", .str "hold", .str "show", .str "show", .str "show", .str "let"])
        have t3 := t3.trans (KeepT.same (Same.new (HO.lst [V.str "veil", .str "unveil", .str "unveil", .str "tie", .str "drop", .str "hold", .str "show", .str "show", .str "show", .str "let"]) hl1))
        refine ⟨_, rfl, ?_⟩
        refine ⟨_, rfl, ((l1, _) :: (sl, _) :: A), wCells wa es ++ B, m3, 9, congrArg (fun x => [V.ref x, V.int 9]) e3.symm, g3, o3, by decide, by decide, fun r4 m4 H4 ra4 rb4 f4 o4 g4 k4 => ?_⟩
        have e4 := f4.trans e3
        have t4 := t3.trans k4
        refine ⟨_, _, rfl, rfl, _, rfl, ?_⟩
        refine ite2 (fun _ => ?_) (fun _ => ?_)
        refine ⟨_, rfl, ((l1, _) :: (sl, _) :: A), wCells wa es ++ B, m4, 12, congrArg (fun x => [V.ref x, V.int 12]) e4.symm, g4, o4, by decide, by decide, fun r5 m5 H5 ra5 rb5 f5 o5 g5 k5 => ?_⟩
        have e5 := f5.trans e4
        have t5 := t4.trans k5
        refine ⟨_, _, rfl, ?_⟩
        obtain ⟨j, hj, J⟩ : ∃ j : Nat, (if (8 : Int) < r5 then 8 else r5) = (j : Int) ∧ j < 10 := ⟨(if (8 : Int) < r5 then 8 else r5).toNat, by split <;> omega, by split <;> omega⟩
        have gW := g5
        have eW := e5
        have oW := o5
        generalize m5 = mW at gW eW oW
        rotate_left
        obtain ⟨j, hj, J⟩ : ∃ j : Nat, (9 : Int) = (j : Int) ∧ j < 10 := ⟨9, rfl, by decide⟩
        have gW := g4
        have eW := e4
        have oW := o4
        generalize m4 = mW at gW eW oW
        all_goals
          obtain ⟨wd, hwd, hz⟩ := wordAt (n := n) J hn.1 hn.2
          refine ⟨l1, _, _, V.str wd, rfl, rfl, SqL.of (Has.get (A := []) gW 0 rfl), at_of (j := j) hj hwd, ?_⟩
          refine ⟨_, rfl, rfl, _, rfl, ?_⟩
          refine ite2 (fun c => ?_) (fun c => ?_)
          · have c := V.str.inj (of_decide_eq_true c)
            refine ⟨_, rfl, _, rfl, _, rfl, sm (by show 3 ≤ 1000; decide), fun t ht => ?_⟩
            refine k t (.tie n o) mW _ eW oW ((Has.tail (Has.tail gW)).past ht _) (by rw [upd_same, c]; rfl) ?_
            simp [Lt.ok, Lt.nums, Lt.bnds]; omega
          refine ⟨_, rfl, rfl, _, rfl, ?_⟩
          refine ite2 (fun c2 => ?_) (fun c2 => ?_)
          · refine ⟨sm (by show 1 ≤ 1000; decide), fun t ht => ?_⟩
            refine k t .let_ mW _ eW oW ((Has.tail (Has.tail gW)).past ht _) upd_same ?_
            simp [Lt.ok, Lt.nums, Lt.bnds]
          rcases hz with hz | hz | ⟨z, hz, hzo⟩
          · exact absurd (decide_eq_true (by rw [hz])) c
          · exact absurd (decide_eq_true (by rw [hz])) c2
          · refine ⟨_, rfl, _, rfl, sm (by show 2 ≤ 1000; decide), fun t ht => ?_⟩
            exact k t z mW _ eW oW ((Has.tail (Has.tail gW)).past ht _) (by rw [upd_same, hz]) hzo
end
end SH
set_option Elab.async false
set_option linter.all false
set_option maxRecDepth 100000
namespace SH
open PySem PySem.Spec PyProof.Rows L2
abbrev sBook : Stmt := top 33
theorem has_mid {H : Hp} {c : Addr × HO} {A M W B : Cells} (h : Has H (c :: (A ++ (M ++ (W ++ B))))) : Has H (A ++ (M ++ (c :: B))) := by
  have h1 : Has H (c :: (A ++ (M ++ B))) := h.sub (List.Sublist.cons₂ _ (List.Sublist.append_left (List.Sublist.append_left (List.sublist_append_right _ _) _) _))
  refine h1.perm ?_
  rw [← List.append_assoc, ← List.append_assoc]
  exact List.perm_middle.symm
section
variable {P : Program} {w : World} {K : PySem.W.Frag} {mg : Str → Option Value} {base : Heap}
abbrev nBook : List Str := ["_law_h", "_law_many", "_law_w", "_law_found", "_law_odd_here", "_law_k", "_law_letter_here"]
theorem scBook : FnScope nBook ["_law_h", "_law_many"] (defScope sBook) := ⟨rfl, rfl, rfl, by decide +kernel, rfl, by decide +kernel, by decide +kernel⟩
def spBook : Sp := fun vs H Q _ => ∃ (A B : Cells) (m : MixH) (many : Int), vs = [.ref m.a, .int many] ∧ Has H (A ++ (mixCells m ++ B)) ∧ MixOk m ∧ 0 ≤ many ∧ many ≤ 900 ∧
  ∀ fl ts zs m' H', m'.a = m.a → MixOk m' → Has H' (A ++ (mixCells m' ++ ((fl, .lst (ts.map V.ref)) :: B))) → RowAt H' ts zs → (∀ z ∈ zs, z.ok) → (zs.length : Int) ≤ many → KeepT H H' → Q (.ref fl) H'
set_option maxHeartbeats 0 in
theorem ok_book {f fN fO fL fD : Addr} {fd fdN fdO fdL fdD : FuncData} (F : Fun K "_law_book" "_law_book" sBook f fd) (T : TxtG mg)
    (GN : FnOk P w K mg base CX0 1 fN fdN ["_law_h", "_law_many"] spNext) (bN : Binds K fdN ["_law_h", "_law_many"] []) (gN : mg "_law_next" = some (.ref fN)) (kN : PySem.W.keepIn K (.ref fN) = true)
    (GO : FnOk P w K mg base CX0 2 fO fdO ["_law_h", "_law_w"] spOdd) (bO : Binds K fdO ["_law_h", "_law_w"] []) (gO : mg "_law_odd" = some (.ref fO)) (kO : PySem.W.keepIn K (.ref fO) = true)
    (GL : FnOk P w K mg base CX0 2 fL fdL ["_law_h", "_law_w"] spLetter) (bL : Binds K fdL ["_law_h", "_law_w"] []) (gL : mg "_law_letter" = some (.ref fL)) (kL : PySem.W.keepIn K (.ref fL) = true)
    (GD : FnOk P w K mg base CX0 5 fD fdD ["_law_w", "_law_letter_here"] spDoes) (bD : Binds K fdD ["_law_w", "_law_letter_here"] []) (gD : mg "_law_does" = some (.ref fD)) (kD : PySem.W.keepIn K (.ref fD) = true) :
    FnOk P w K mg base CX0 6 f fd ["_law_h", "_law_many"] spBook := by
  have GN := keep_t GN
  have GO := keep_t GO
  have GL := keep_t GL
  refine F.ok scBook (fun vs H Q E h => ?_) (fun cdv A0 outer s0 H vs Q E hr h => ?_)
  · obtain ⟨A, B, m, many, rfl, _⟩ := h
    rfl
  · obtain ⟨A, B, m, many, rfl, hh, om, mn0, mn1, k⟩ := h
    have hu := hu_of hr
    refine ⟨_, (pss_cons (ps_set (i := 2) scBook.nd rfl (Or.inl rfl) pe_dnewK) (pss_cons (ps_set (i := 3) scBook.nd rfl (Or.inl rfl) (pe_lst pa_nil)) (pss_cons (ps_set (i := 4) scBook.nd rfl (Or.inl rfl) (pe_ix ix_list (pe_lst (pa_cons pe_int (pa_cons pe_int (pa_cons pe_int pa_nil)))) (pe_call GN (hr.mono (by decide)) rfl gN kN bN .nil pass0 (pa_cons (pv 0) (pa_cons pe_int pa_nil))) (fun _ _ => rfl))) (pss_cons (ps_for PassesOwn.never rfl (pi_range1 rfl T.range (pa_cons (pe_call GN (hr.mono (by decide)) rfl gN kN bN .nil pass0 (pa_cons (pv 0) (pa_cons (pe_op op_add (pv 1) pe_int) pa_nil))) pa_nil)) (pg_name (i := 5) scBook.nd rfl (Or.inl rfl)) (pss_cons (ps_set (i := 6) scBook.nd rfl (Or.inl rfl) (pe_ifExp (PW.pt (pw_and (pt_cmpR op_gt (pv 4) pe_int (nomark _)) (pw_and1 (pt_cmpR op_eq (pe_call GN (hr.mono (by decide)) rfl gN kN bN .nil pass0 (pa_cons (pv 0) (pa_cons (pv 4) pa_nil))) pe_int (nomark _))))) (pe_call GO (hr.mono (by decide)) rfl gO kO bO .nil pass0 (pa_cons (pv 0) (pa_cons (pv 2) pa_nil))) (pe_call GL (hr.mono (by decide)) rfl gL kL bL .nil pass0 (pa_cons (pv 0) (pa_cons (pv 2) pa_nil))))) (pss_cons (ps_expr (pe_bm PySem.F.plainAttrs_list PySem.F.slot_list_append PySem.F.type_list_append mt_append (pv 3) (pa_cons (pv 6) pa_nil))) (pss_one (ps_if (pt_not (pt_val (pe_ix ix_tup (pe_call GD hr rfl gD kD bD .nil pass0 (pa_cons (pv 2) (pa_cons (pv 6) pa_nil))) pe_int (fun _ _ => rfl)))) (pss_one (ps_set (i := 2) scBook.nd rfl (Or.inl rfl) pe_dnewK)) pss_nil))))) (pss_one (ps_ret (pv 3))))))), ?_⟩
    have sm : ∀ {n : Nat}, n ≤ 1000 → n ≤ sizeLine := small
    refine fun wa hwa => ⟨sm (by show 0 ≤ 1000; decide), fun fl hfl => ⟨sm (by show 3 ≤ 1000; decide), fun l hl => ?_⟩⟩
    have g0 : Has _ (A ++ (mixCells m ++ (wCells wa [] ++ B))) := hh.newAt hwa (.dK [])
    have g0 := (g0.cons hfl (.lst [])).cons hl (.lst [.int 1, .int 40, .int 400])
    have t0 : KeepT H _ := KeepT.same ((Same.new (HO.dK []) hwa).trans ((Same.new (HO.lst []) hfl).trans (Same.new (HO.lst [.int 1, .int 40, .int 400]) hl)))
    have o0 := om
    obtain ⟨m0, em0⟩ : ∃ x, x = m := ⟨_, rfl⟩
    rw [← em0] at g0 o0
    have e0 : m0.a = m.a := by rw [em0]
    refine ⟨_, rfl, ((l, _) :: (fl, _) :: A), wCells wa [] ++ B, m0, 3, congrArg (fun x => [V.ref x, V.int 3]) e0.symm, g0, o0, by decide, by decide, fun r1 m1 H1 ra1 rb1 f1 o1 g1 k1 => ?_⟩
    have e1 := f1.trans e0
    have t1 := t0.trans k1
    obtain ⟨od, hod, od1, od2⟩ := pick3 (a := 1) (b := 40) (c := 400) (lo := 1) (hi := 400) ra1 rb1 (by decide) (by decide) (by decide)
    refine ⟨l, _, _, V.int od, rfl, rfl, SqL.of (Has.get (A := []) g1 0 rfl), at_of (j := r1.toNat) (by omega) hod, ?_⟩
    have g1 := Has.tail g1
    refine ⟨_, rfl, _, rfl, _, _, rfl, rfl, ?_⟩
    refine ⟨((fl, _) :: A), wCells wa [] ++ B, m1, (many + 1), congrArg (fun x => [V.ref x, V.int (many + 1)]) e1.symm, g1, o1, by omega, by omega, fun r2 m2 H2 ra2 rb2 f2 o2 g2 k2 => ?_⟩
    have e2 := f2.trans e1
    have t2 := t1.trans k2
    refine ⟨r2, rfl, by omega, by omega, ?_⟩
    refine for_range (lo := 0) (n := r2.toNat) (fun i σ H3 => ∃ wa fl v5 v6 m3 es ts zs, σ = [some (.ref m.a), some (.int many), some (.ref wa), some (.ref fl), some (.int od), v5, v6] ∧ m3.a = m.a ∧ MixOk m3 ∧ WOk (es.map WE.key) ∧ WPend H3 es ∧ RowAt H3 ts zs ∧ (∀ z ∈ zs, z.ok) ∧ zs.length = i ∧ KeepT H H3 ∧
      Has H3 ((fl, HO.lst (ts.map V.ref)) :: (A ++ (mixCells m3 ++ (wCells wa es ++ B))))) ⟨wa, fl, none, none, m2, [], [], [], rfl, e2, o2, WOk.nil, fun _ h => (by cases h), .nil, fun _ h => (by cases h), rfl, t2, g2⟩ ?_ ?_
    · rintro i σ H3 hi ⟨wa, fl, v5, v6, m3, es, ts, zs, rfl, e3, o3, ok, wp, R, hzs, hzl, t3, g3⟩
      refine ⟨_, rfl, _, _, rfl, rfl, _, rfl, ?_⟩
      refine ite2 (fun _ => ?_) (fun _ => ?_)
      refine ⟨_, rfl, _, rfl, ((fl, _) :: A), wCells wa es ++ B, m3, od, congrArg (fun x => [V.ref x, V.int od]) e3.symm, g3, o3, od1, by omega, fun r4 m4 H4 ra4 rb4 f4 o4 g4 k4 => ?_⟩
      have e4 := f4.trans e3
      have t4 := t3.trans k4
      refine ⟨rfl, _, rfl, ?_⟩
      refine ite2 (fun _ => ?_) (fun _ => ?_)
      refine ⟨_, rfl, _, rfl, ((fl, _) :: A), wCells wa es ++ B, m4, V.ref wa, congrArg (fun x => [V.ref x, V.ref wa]) e4.symm, g4, o4, fun t z mX HX fX oX gX htz hzo kX0 => ?_⟩
      have eX := fX.trans e4
      have tX := t4.trans kX0
      have kX := k4.trans kX0
      rotate_left
      refine ⟨_, rfl, _, rfl, ((fl, _) :: A), B, m4, wa, es, congrArg (fun x => [V.ref x, V.ref wa]) e4.symm, g4, o4, ok, wp.keep k4, fun t z mX HX fX oX gX htz hzo kX0 => ?_⟩
      have eX := fX.trans e4
      have tX := t4.trans kX0
      have kX := k4.trans kX0
      rotate_left
      refine ⟨_, rfl, _, rfl, ((fl, _) :: A), B, m3, wa, es, congrArg (fun x => [V.ref x, V.ref wa]) e3.symm, g3, o3, ok, wp, fun t z mX HX fX oX gX htz hzo kX => ?_⟩
      have eX := fX.trans e3
      have tX := t3.trans kX
      all_goals
        have R1 := R.keep kX
        have hfl := Has.get (A := []) gX 0 rfl
        refine ⟨_, rfl, .inl ⟨rfl, _, SqL.of hfl⟩, _, rfl, fl, _, _, rfl, rfl, hfl, by rw [List.length_map, paired_len R, hzl]; exact small1000 (by omega), ?_⟩
        have g7 := Has.set (A := []) gX 0 rfl (.lst (ts.map V.ref ++ [.ref t]))
        have g7 : Has (upd HX fl (.lst (ts.map V.ref ++ [.ref t]))) ((((fl, HO.lst ((ts ++ [t]).map V.ref)) :: A) ++ mixCells mX) ++ (wCells wa es ++ B)) := Has.unassoc (A := (fl, HO.lst ((ts ++ [t]).map V.ref)) :: A) (g7.re (by rw [List.map_append]; rfl))
        have R2 := paired_snoc (R1.wr hfl (.lst (ts.map V.ref ++ [.ref t]))) (upd_tup (fun xs e => by rw [hfl] at e; cases e) _ _ htz)
        have tX2 := tX.trans (upd_tup (p := fl) (o := .lst (ts.map V.ref ++ [.ref t])) (fun xs e => by rw [hfl] at e; cases e))
        have wp7 := (wp.keep kX).keep (upd_tup (p := fl) (o := .lst (ts.map V.ref ++ [.ref t])) (fun xs e => by rw [hfl] at e; cases e))
        refine ⟨_, rfl, _, rfl, _, B, wa, t, es, z, rfl, g7, ok, wp7, upd_tup (fun xs e => by rw [hfl] at e; cases e) _ _ htz, hzo, fun b r x1 x2 es' H8 k8 hr8 ok8 wp8 g8 => ?_⟩
        refine ⟨_, _, _, V.bl b, rfl, rfl, SqT.of hr8, at_of (j := 0) rfl rfl, _, rfl, ?_⟩
        have R8 := RowAt.keep R2 k8
        have t8 := tX2.trans k8
        have z8 : ∀ y ∈ zs ++ [z], y.ok := fun y hy => by
          rcases List.mem_append.mp hy with h | h
          · exact hzs y h
          · rw [List.mem_singleton.mp h]; exact hzo
        have l8 : (zs ++ [z]).length = i + 1 := by rw [List.length_append, hzl]; rfl
        cases b with
        | true =>
          refine iteF ?_
          exact ⟨wa, fl, _, _, mX, es', ts ++ [t], zs ++ [z], rfl, eX, oX, ok8, wp8, R8, z8, l8, t8, Has.assoc (A := (fl, HO.lst ((ts ++ [t]).map V.ref)) :: A) g8⟩
        | false =>
          refine iteT ?_
          intro d hd
          have s9 := Same.new (HO.dK []) hd
          have g9 := Has.new g8 hd (.dK [])
          have g9 : Has (upd H8 d (.dK [])) ((((fl, HO.lst ((ts ++ [t]).map V.ref)) :: A) ++ mixCells mX) ++ (wCells d [] ++ B)) := g9.sub (List.Sublist.append_left (List.Sublist.cons₂ _ (List.sublist_append_right _ _)) _)
          exact ⟨d, fl, _, _, mX, [], ts ++ [t], zs ++ [z], rfl, eX, oX, WOk.nil, fun _ h => (by cases h), R8.keep (KeepT.same s9), z8, l8, t8.trans (KeepT.same s9), Has.assoc (A := (fl, HO.lst ((ts ++ [t]).map V.ref)) :: A) g9⟩
    · rintro σ H3 ⟨wa, fl, v5, v6, m3, es, ts, zs, rfl, e3, o3, ok, wp, R, hzs, hzl, t3, g3⟩
      exact ⟨_, rfl, k fl ts zs m3 H3 e3 o3 (has_mid g3) R hzs (by omega) t3⟩
end
end SH
set_option Elab.async false
set_option linter.all false
set_option maxRecDepth 100000
namespace SH
open PySem PySem.Spec PyProof.Rows L2 StX
def nS (i : Int) : Str := Str.ofString (toString i)
def nums41 : List Int := (List.range 41).map fun k => ((k : Nat) : Int) - 20
theorem mem41 {n : Int} (h0 : -20 ≤ n) (h1 : n ≤ 20) : n ∈ nums41 := by
  refine List.mem_map.mpr ⟨(n + 20).toNat, List.mem_range.mpr (by omega), by omega⟩
theorem num_int : ∀ {n : Int}, n ∈ nums41 → PySem.intText? (nS n) = some n := fun h => of_decide_eq_true (List.all_eq_true.mp (show (nums41.all fun n => decide (PySem.intText? (nS n) = some n)) = true by decide +kernel) _ h)
theorem num_len : ∀ {n : Int}, n ∈ nums41 → (Txt.removeprefix (nS n) "-").length = 1 ∨ (Txt.removeprefix (nS n) "-").length = 2 := fun h => of_decide_eq_true (List.all_eq_true.mp (show (nums41.all fun n => decide ((Txt.removeprefix (nS n) "-").length = 1 ∨ (Txt.removeprefix (nS n) "-").length = 2)) = true by decide +kernel) _ h)
theorem num_dig : ∀ {n : Int}, n ∈ nums41 → ∀ c ∈ (Txt.removeprefix (nS n) "-").cps.toList, c ∈ ("0123456789" : Str).cps.toList := fun h c hc => of_decide_eq_true (List.all_eq_true.mp (List.all_eq_true.mp (show (nums41.all fun n => (Txt.removeprefix (nS n) "-").cps.toList.all fun c => decide (c ∈ ("0123456789" : Str).cps.toList)) = true by decide +kernel) _ h) c hc)
theorem num_sep : ∀ {n : Int}, n ∈ nums41 → ∀ c ∈ (nS n).cps.toList, c ≠ 32 ∧ c ≠ 10 := fun h c hc => of_decide_eq_true (List.all_eq_true.mp (List.all_eq_true.mp (show (nums41.all fun n => (nS n).cps.toList.all fun c => decide (c ≠ 32 ∧ c ≠ 10)) = true by decide +kernel) _ h) c hc)
theorem num_short : ∀ {n : Int}, n ∈ nums41 → (nS n).length ≤ 3 ∧ 1 ≤ (nS n).length := fun h => of_decide_eq_true (List.all_eq_true.mp (show (nums41.all fun n => decide ((nS n).length ≤ 3 ∧ 1 ≤ (nS n).length)) = true by decide +kernel) _ h)
structure TxtP (mg : Str → Option Value) : Prop where
  str : mg "str" = none
  int : mg "int" = none
  len : mg "len" = none
  all : mg "all" = none
  tuple : mg "tuple" = none
  max : mg "max" = none
  enumerate : mg "enumerate" = none
  range : mg "range" = none
  list : mg "list" = none
  isinst : mg "isinstance" = none
  bool : mg "bool" = none
  figures : ∃ t, mg "FIGURES" = some (.str "0123456789" t)
  most : ∃ t, mg "MOST_CLIENTS" = some (.int 5 t)
def rStr : List V → Hp → VK → Prop := fun xs H Q => (∃ i, xs = [.int i] ∧ i.natAbs.log2 < 1920 ∧ Q (.str (toString i)) H) ∨ (∃ a, xs = [.str a] ∧ Q (.str a) H)
theorem call_strA {X : Cx} : CallR X (.type "str") rStr := CallR.or call_str_int SkE.call_str_str
abbrev sRowOf : Stmt := top 18
abbrev sNum : Stmt := top 20
theorem log41 {n : Int} (h0 : -20 ≤ n) (h1 : n ≤ 20) : n.natAbs.log2 < 1920 := by
  have : n.natAbs ≤ 20 := by omega
  have h2 : n.natAbs < 2 ^ 5 := by omega
  by_cases c : n.natAbs = 0
  · rw [c]; decide
  · have := (Nat.log2_lt c).mpr h2
    omega
section
variable {P : Program} {w : World} {K : PySem.W.Frag} {mg : Str → Option Value} {base : Heap}
abbrev nNum : List Str := ["word", "figures", "number", "sign"]
theorem scNum : FnScope nNum ["word"] (defScope sNum) := ⟨rfl, rfl, rfl, by decide +kernel, rfl, by decide +kernel, by decide +kernel⟩
def spNum : Sp := fun vs H Q _ => ∃ n : Int, vs = [.str (nS n)] ∧ -20 ≤ n ∧ n ≤ 20 ∧ ∀ H', Same H H' → Q (.int n) H'
theorem ok_num {f : Addr} {fd : FuncData} (F : Fun K "number_of" "number_of" sNum f fd) (T : TxtP mg) : FnOk P w K mg base CX0 1 f fd ["word"] spNum := by
  obtain ⟨tF, hF⟩ := T.figures
  refine F.ok scNum (fun vs H Q E h => ?_) (fun cdv A0 outer s0 H vs Q E hr h => ?_)
  · obtain ⟨n, rfl, _⟩ := h
    rfl
  · obtain ⟨n, rfl, n0, n1, k⟩ := h
    refine ⟨_, (pss_cons (ps_set (i := 1) scNum.nd rfl (Or.inl rfl) (pe_m1 PySem.F.slot_str_removeprefix PySem.F.type_str_removeprefix mt_removeprefix (pv 0) pe_str)) (pss_cons (ps_if (PW.pt (pw_or (pt_cmpR op_notIn_seq (pe_callB call_len_str (by rfl) T.len PySem.boot_len (pa_cons (pv 1) pa_nil)) (pe_tup (pa_cons pe_int (pa_cons pe_int pa_nil))) (by rfl)) (pw_or1 (pt_not (pt_val (pe_callB (cr_all rfl) (by rfl) T.all (by decide +kernel) (pa_cons (pe_lc (own := [("sign", 3)]) (g := gName 3) (te := tOp (fun x y H Q => ∃ (c : Nat) (z : Str), x = .str ⟨#[c]⟩ ∧ y = .str z ∧ Q (.bl (decide (c ∈ z.cps.toList))) H) (tVar 3) (tC (.str "0123456789"))) (by rfl) scNum.nd (pi_str (pv 1)) (blkOk_by (own := [("sign", 3)]) (N := nNum) (sc := defScope sNum) (by decide +kernel)) (fun _ _ _ _ _ => (pg_name (i := 3) scNum.nd rfl (Or.inl rfl))) (fun _ _ _ _ _ => pts_nil) (fun _ _ _ _ _ => pe_cmpR op_in_sign (pv 3) (pe_glob rfl hF ⟨_, rfl⟩) rfl)) pa_nil))))))) (pss_one (ps_ret pe_non)) pss_nil) (pss_cons (ps_set (i := 2) scNum.nd rfl (Or.inl rfl) (pe_callTy call_int_str (by rfl) T.int (by decide +kernel) (pa_cons (pv 0) pa_nil))) (pss_cons (ps_if (pt_cmpR op_ne (pe_callTy call_strA (by rfl) T.str (by decide +kernel) (pa_cons (pv 2) pa_nil)) (pv 0) (nomark _)) (pss_one (ps_ret pe_non)) pss_nil) (pss_one (ps_ret (pv 2))))))), ?_⟩
    have hm := mem41 n0 n1
    have hl := num_len hm
    have hd := num_dig hm
    have hs := num_short hm
    have sm : ∀ {n : Nat}, n ≤ 1000 → n ≤ sizeLine := small
    refine ⟨_, rfl, ⟨_, rfl⟩, _, _, rfl, rfl, sm (by omega), ?_⟩
    generalize Txt.removeprefix (nS n) "-" = fg at hl hd
    refine ⟨_, rfl, _, rfl, sm (by omega), sm (by show 2 ≤ 1000; decide), fun q hq => ?_⟩
    have s1 := Same.new (HO.tup [.int 1, .int 2]) hq
    refine ⟨q, _, rfl, .inr (SqT.of upd_same), rfl, rfl, _, rfl, ?_⟩
    have hin : inV (V.int (fg.length : Nat)) [.int 1, .int 2] = true := by
      rcases hl with e | e <;> rw [e] <;> rfl
    rw [hin]
    refine iteF ?_
    refine ⟨_, rfl, _, rfl, fun D hD => ?_⟩
    refine lc_it (walk_str (z := fg)) (fun i H2 => Same H H2 ∧ H2 D = some (.lst ((List.replicate i true).map V.bl))) ⟨s1.trans (Same.new _ hD), upd_same⟩ (fun _ _ _ _ => trivial) ?_ ?_
    · rintro i x H2 H3 hi ⟨s2, hD2⟩ ⟨rfl, c, hc, rfl⟩
      have hcm : c ∈ fg.cps.toList := by
        rw [← Array.getElem?_toList] at hc
        exact List.mem_of_getElem? hc
      refine ⟨rfl, _, rfl, c, _, rfl, rfl, ?_⟩
      rw [decide_eq_true (hd c hcm)]
      refine ⟨_, hD2, ?_, Same.mut _ s2 (s1.free hD), ?_⟩
      · rw [List.length_map, List.length_replicate]
        have hfl : fg.cps.size = fg.length := rfl
        exact small1000 (by omega)
      · rw [upd_same, List.replicate_succ', List.map_append]; rfl
    · rintro H2 ⟨s2, hD2⟩
      refine ⟨D, List.replicate fg.cps.size true, rfl, SqL.of hD2, ?_⟩
      have ha : (List.replicate fg.cps.size true).all id = true := by simp
      rw [ha]
      refine ⟨_, rfl, iteF ?_⟩
      refine ⟨_, rfl, _, n, rfl, num_int hm, by omega, ?_⟩
      refine ⟨_, rfl, .inl ⟨n, rfl, log41 n0 n1, _, rfl, rfl, _, rfl, ?_⟩⟩
      rw [show decide (V.str (toString n) = V.str (nS n)) = true from decide_eq_true rfl]
      refine iteF ?_
      exact ⟨_, rfl, k H2 s2⟩
/-- a letter's row -/
def wordsS (c : Int) (z : Lt) : List Str := nS c :: z.word :: z.nums.map nS
def rowS (c : Int) (z : Lt) : Str := Txt.join " " (wordsS c z)
theorem Lt.num41 {z : Lt} (h : z.ok) : ∀ n ∈ z.nums, -20 ≤ n ∧ n ≤ 20 := by
  intro n hn
  cases z <;> simp only [Lt.ok, Lt.nums, Lt.bnds, List.zip_cons_cons, List.zip_nil_right, List.mem_cons, List.not_mem_nil, or_false, forall_eq_or_imp, forall_eq] at h hn
  all_goals first
    | (rcases hn with rfl | rfl | rfl | rfl | rfl | rfl <;> omega)
    | (rcases hn with rfl | rfl | rfl <;> omega)
    | (rcases hn with rfl | rfl <;> omega)
    | (subst hn; omega)
def strOf : V → Str
  | .int i => nS i
  | .str a => a
  | _ => ""
abbrev nRowOf : List Str := ["client", "letter", "word"]
theorem scRowOf : FnScope nRowOf ["client", "letter"] (defScope sRowOf) := ⟨rfl, rfl, rfl, by decide +kernel, rfl, by decide +kernel, by decide +kernel⟩
def spRowOf : Sp := fun vs H Q _ => ∃ (c : Int) (t : Addr) (z : Lt), vs = [.int c, .ref t] ∧ 0 ≤ c ∧ c ≤ 4 ∧ H t = some (.tup z.vals) ∧ z.ok ∧ ∀ H', Same H H' → Q (.str (rowS c z)) H'
theorem ok_rowOf {f : Addr} {fd : FuncData} (F : Fun K "row_of" "row_of" sRowOf f fd) (T : TxtP mg) : FnOk P w K mg base CX0 1 f fd ["client", "letter"] spRowOf := by
  refine F.ok scRowOf (fun vs H Q E h => ?_) (fun cdv A0 outer s0 H vs Q E hr h => ?_)
  · obtain ⟨c, t, z, rfl, _⟩ := h
    rfl
  · obtain ⟨c, t, z, rfl, c0, c4, ht, hz, k⟩ := h
    refine ⟨_, (pss_one (ps_ret (pe_join pe_str (pe_lc (own := [("word", 2)]) (g := gName 2) (te := tCB rStr (tCons (tVar 2) tNil)) (by rfl) scRowOf.nd (pi_tup (pe_tup (pa_cons (pv 0) (pa_star (pv 1) pa_nil)))) (blkOk_by (own := [("word", 2)]) (N := nRowOf) (sc := defScope sRowOf) (by decide +kernel)) (fun _ _ _ _ _ => (pg_name (i := 2) scRowOf.nd rfl (Or.inl rfl))) (fun _ _ _ _ _ => pts_nil) (fun _ _ _ _ _ => (pe_callTy call_strA (by rfl) T.str (by decide +kernel) (pa_cons (pv 2) pa_nil))))))), ?_⟩
    have sm : ∀ {n : Nat}, n ≤ 1000 → n ≤ sizeLine := small
    have hzl := z.nlen
    have hn := Lt.num41 hz
    refine ⟨⟨_, rfl⟩, _, rfl, _, rfl, t, z.vals, rfl, .inl (SqT.of ht), ?_⟩
    have enil : z.vals ++ [] = z.vals := List.append_nil _
    refine ⟨sm (by show (V.int c :: (z.vals ++ [])).length ≤ 1000; rw [enil]; unfold Lt.vals; simp only [List.length_cons, List.length_map]; omega), fun q hq => ?_⟩
    have s1 := Same.new (HO.tup (.int c :: (z.vals ++ []))) hq
    have hq1 : upd H q (.tup (V.int c :: (z.vals ++ []))) q = some (.tup (V.int c :: z.vals)) := by rw [enil]; exact upd_same
    refine ⟨q, rfl, ⟨_, SqT.of hq1⟩, fun D hD => ?_⟩
    refine lc_tup (K := K) (a := q) (xs := .int c :: z.vals) (fun i H2 => Same H H2 ∧ H2 q = some (.tup (.int c :: z.vals)) ∧ H2 D = some (.lst (((wordsS c z).take i).map V.str))) ⟨s1.trans (Same.new _ hD), by rw [upd_ne (ne_of_none hq1 hD)]; exact hq1, upd_same⟩ (fun i H2 _ p => SqT.of p.2.1) ?_ ?_
    · rintro i x H2 hx ⟨s2, hq2, hD2⟩
      refine ⟨rfl, _, rfl, ?_⟩
      have hD0 := s1.free hD
      have il : i < (wordsS c z).length := by
        have := (List.getElem?_eq_some_iff.mp hx).1
        unfold Lt.vals at this
        unfold wordsS
        simpa using this
      have ew : (wordsS c z)[i]? = some (strOf x) ∧ ((∃ n, x = .int n ∧ -20 ≤ n ∧ n ≤ 20) ∨ ∃ a, x = .str a) := by
        match i, hx with
        | 0, hx => obtain rfl := Option.some.inj hx; exact ⟨rfl, .inl ⟨c, rfl, by omega, by omega⟩⟩
        | 1, hx => obtain rfl := Option.some.inj hx; exact ⟨rfl, .inr ⟨_, rfl⟩⟩
        | i + 2, hx =>
          have hx : (z.nums.map V.int)[i]? = some x := hx
          rw [List.getElem?_map] at hx
          cases en : z.nums[i]? with
          | none => rw [en] at hx; cases hx
          | some n =>
            rw [en] at hx
            obtain rfl : V.int n = x := Option.some.inj hx
            refine ⟨?_, .inl ⟨n, rfl, hn n (List.mem_of_getElem? en)⟩⟩
            show (z.nums.map nS)[i]? = _
            rw [List.getElem?_map, en]; rfl
      have fin : ∃ acc, H2 D = some (.lst acc) ∧ acc.length < sizeLine ∧ (Same H (upd H2 D (.lst (acc ++ [.str (strOf x)]))) ∧ upd H2 D (.lst (acc ++ [.str (strOf x)])) q = some (.tup (.int c :: z.vals)) ∧ upd H2 D (.lst (acc ++ [.str (strOf x)])) D = some (.lst (((wordsS c z).take (i + 1)).map V.str))) := by
        refine ⟨_, hD2, ?_, Same.mut _ s2 hD0, ?_, ?_⟩
        · rw [List.length_map, List.length_take]
          unfold wordsS
          simp only [List.length_cons, List.length_map]
          exact small1000 (by omega)
        · rw [upd_ne (ne_of_none hq1 hD)]; exact hq2
        · rw [upd_same, List.take_add_one, ew.1, List.map_append]; rfl
      rcases ew.2 with ⟨n, rfl, na, nb⟩ | ⟨a, rfl⟩
      · exact .inl ⟨n, rfl, log41 na nb, fin⟩
      · exact .inr ⟨a, rfl, fin⟩
    · rintro H2 ⟨s2, hq2, hD2⟩
      have wl : (.int c :: z.vals : List V).length = (wordsS c z).length := by unfold wordsS Lt.vals; simp
      rw [wl, List.take_length] at hD2
      refine ⟨_, D, wordsS c z, rfl, rfl, .inl (SqL.of hD2), ?_, k H2 s2⟩
      have each : ∀ a ∈ wordsS c z, a.length ≤ 6 := by
        intro a ha
        unfold wordsS at ha
        rcases List.mem_cons.mp ha with rfl | ha
        · have := num_short (mem41 (n := c) (by omega) (by omega)); omega
        rcases List.mem_cons.mp ha with rfl | ha
        · cases z <;> exact of_decide_eq_true (by kernel_rfl)
        · obtain ⟨n, h1, rfl⟩ := List.mem_map.mp ha
          have := num_short (mem41 (hn n h1).1 (hn n h1).2); omega
      have hsum : ∀ l : List Str, (∀ a ∈ l, a.length ≤ 6) → (l.map (·.length)).sum ≤ 6 * l.length := by
        intro l
        induction l with
        | nil => intro _; exact Nat.le_refl _
        | cons a l ih =>
          intro h
          have h1 := h a List.mem_cons_self
          have h2 := ih fun b hb => h b (List.mem_cons_of_mem _ hb)
          simp only [List.map_cons, List.sum_cons, List.length_cons]
          omega
      have h1 := hsum _ each
      have h2 : (wordsS c z).length ≤ 8 := by unfold wordsS; simp only [List.length_cons, List.length_map]; omega
      have h3 : (" " : Str).length = 1 := by kernel_rfl
      rw [h3]; omega
end
end SH
set_option Elab.async false
set_option linter.all false
set_option maxRecDepth 100000
namespace SH
open PySem PySem.Spec PyProof.Rows L2 StX TL
abbrev sCheck : Stmt := top 17
abbrev sWr : Stmt := top 19
def BookAt (H : Hp) (c : Addr × List Addr) (zs : List Lt) : Prop := H c.1 = some (.lst (c.2.map V.ref)) ∧ RowAt H c.2 zs
def BooksAt (H : Hp) (ba : Addr) (cs : List (Addr × List Addr)) (zss : List (List Lt)) : Prop := H ba = some (.lst (cs.map fun c => V.ref c.1)) ∧ Paired (BookAt H) cs zss
def BooksOk (zss : List (List Lt)) : Prop := zss.length ≤ 5 ∧ ∀ zs ∈ zss, zs.length ≤ 900 ∧ ∀ z ∈ zs, z.ok
theorem BookAt.same {H H' : Hp} {c : Addr × List Addr} {zs : List Lt} (h : BookAt H c zs) (s : Same H H') : BookAt H' c zs := ⟨s _ _ h.1, h.2.same s⟩
theorem BooksAt.same {H H' : Hp} {ba : Addr} {cs : List (Addr × List Addr)} {zss : List (List Lt)} (h : BooksAt H ba cs zss) (s : Same H H') : BooksAt H' ba cs zss := ⟨s _ _ h.1, Paired.mapP h.2 fun _ _ e => e.same s⟩
theorem BooksAt.ix {H : Hp} {ba : Addr} {cs : List (Addr × List Addr)} {zss : List (List Lt)} (h : BooksAt H ba cs zss) {i : Nat} {v : V} (e : (cs.map fun c => V.ref c.1)[i]? = some v) : ∃ c zs, cs[i]? = some c ∧ zss[i]? = some zs ∧ v = .ref c.1 ∧ BookAt H c zs := by
  rw [List.getElem?_map] at e
  cases q : cs[i]? with
  | none => rw [q] at e; cases e
  | some c =>
    rw [q] at e
    have hl := paired_len h.2
    have hi := (List.getElem?_eq_some_iff.mp q).1
    have ez : zss[i]? = some zss[i] := List.getElem?_eq_getElem (by omega)
    exact ⟨c, _, rfl, ez, (Option.some.inj e).symm, paired_ix h.2 q ez⟩
theorem RowAt.ix {H : Hp} {ts : List Addr} {zs : List Lt} (h : RowAt H ts zs) {i : Nat} {v : V} (e : (ts.map V.ref)[i]? = some v) : ∃ t z, ts[i]? = some t ∧ zs[i]? = some z ∧ v = .ref t ∧ H t = some (.tup z.vals) := by
  rw [List.getElem?_map] at e
  cases q : ts[i]? with
  | none => rw [q] at e; cases e
  | some t =>
    rw [q] at e
    have hl := paired_len h
    have hi := (List.getElem?_eq_some_iff.mp q).1
    have ez : zs[i]? = some zs[i] := List.getElem?_eq_getElem (by omega)
    exact ⟨t, _, rfl, ez, (Option.some.inj e).symm, paired_ix (R := fun (t : Addr) (z : Lt) => H t = some (.tup z.vals)) h q ez⟩
def rowsFrom : Nat → List (List Lt) → List Str
  | _, [] => []
  | k, zs :: r => zs.map (rowS (k : Nat)) ++ rowsFrom (k + 1) r
theorem rowsFrom_app (k : Nat) (l : List (List Lt)) (zs : List Lt) : rowsFrom k (l ++ [zs]) = rowsFrom k l ++ zs.map (rowS ((k + l.length : Nat) : Int)) := by
  induction l generalizing k with
  | nil => simp [rowsFrom]
  | cons a l ih =>
    show a.map _ ++ rowsFrom (k + 1) (l ++ [zs]) = _
    rw [ih, List.length_cons, show k + 1 + l.length = k + (l.length + 1) by omega]
    simp [rowsFrom]
theorem rowsFrom_len {k : Nat} {l : List (List Lt)} (h : ∀ zs ∈ l, zs.length ≤ 900) : (rowsFrom k l).length ≤ 900 * l.length := by
  induction l generalizing k with
  | nil => simp [rowsFrom]
  | cons a l ih =>
    have h1 := h a List.mem_cons_self
    have h2 := ih (k := k + 1) fun b hb => h b (List.mem_cons_of_mem _ hb)
    simp only [rowsFrom, List.length_append, List.length_map, List.length_cons]
    omega
def textB (zss : List (List Lt)) : Str := Txt.join "\n" (rowsFrom 0 zss)
theorem word_short (z : Lt) : z.word.length ≤ 6 := by
  cases z <;> exact of_decide_eq_true (by kernel_rfl)
theorem words_short {c : Int} {z : Lt} (c0 : 0 ≤ c) (c4 : c ≤ 4) (hz : z.ok) : ∀ a ∈ wordsS c z, a.length ≤ 6 := by
  intro a ha
  unfold wordsS at ha
  rcases List.mem_cons.mp ha with rfl | ha
  · have := num_short (mem41 (n := c) (by omega) (by omega)); omega
  rcases List.mem_cons.mp ha with rfl | ha
  · exact word_short z
  · obtain ⟨n, h1, rfl⟩ := List.mem_map.mp ha
    have h2 := Lt.num41 hz n h1
    have := num_short (mem41 h2.1 h2.2); omega
theorem len_tl (x : Str) : (tl x).length = x.length := by
  show x.cps.toList.length = x.cps.size
  simp
theorem joinL_len {S : List Nat} {m : Nat} : ∀ (ps : List (List Nat)), (∀ p ∈ ps, p.length ≤ m) → (joinL S ps).length ≤ ps.length * (m + S.length)
  | [], _ => by simp [joinL]
  | [p], h => by
    have := h p List.mem_cons_self
    simp only [joinL, List.length_cons, List.length_nil]; omega
  | p :: q :: r, h => by
    have h1 := h p List.mem_cons_self
    have h2 := joinL_len (S := S) (q :: r) fun x hx => h x (List.mem_cons_of_mem _ hx)
    simp only [joinL, List.length_append, List.length_cons] at h2 ⊢
    have e : (r.length + 1 + 1) * (m + S.length) = (r.length + 1) * (m + S.length) + (m + S.length) := by rw [Nat.succ_mul]
    rw [e]; omega
theorem tl_joinT (y : Str) (ps : List Str) : tl (Txt.join y ps) = joinL (tl y) (ps.map tl) := by rw [join_eq, tl_join]
theorem row_short {c : Int} {z : Lt} (c0 : 0 ≤ c) (c4 : c ≤ 4) (hz : z.ok) : (rowS c z).length ≤ 56 := by
  rw [← len_tl]
  unfold rowS
  rw [tl_joinT]
  have h := joinL_len (S := tl " ") (m := 6) ((wordsS c z).map tl) fun p hp => by
    obtain ⟨a, ha, rfl⟩ := List.mem_map.mp hp
    rw [len_tl]; exact words_short c0 c4 hz a ha
  have h1 : (tl " ").length = 1 := by kernel_rfl
  rw [h1, List.length_map] at h
  have h2 : (wordsS c z).length ≤ 8 := by
    have := z.nlen
    unfold wordsS; simp only [List.length_cons, List.length_map]; omega
  have h3 := Nat.mul_le_mul_right (6 + 1) h2
  omega
theorem sum_short {m : Nat} : ∀ l : List Str, (∀ a ∈ l, a.length ≤ m) → (l.map (·.length)).sum ≤ l.length * m
  | [], _ => by simp
  | a :: l, h => by
    have h1 := h a List.mem_cons_self
    have h2 := sum_short l fun b hb => h b (List.mem_cons_of_mem _ hb)
    simp only [List.map_cons, List.sum_cons, List.length_cons, Nat.succ_mul]
    omega
theorem rows_short {l : List (List Lt)} {k : Nat} (hl : k + l.length ≤ 5) (h : ∀ zs ∈ l, ∀ z ∈ zs, z.ok) : ∀ a ∈ rowsFrom k l, a.length ≤ 56 := by
  induction l generalizing k with
  | nil => intro a ha; cases ha
  | cons zs l ih =>
    intro a ha
    simp only [List.length_cons] at hl
    rcases List.mem_append.mp ha with ha | ha
    · obtain ⟨z, hz, rfl⟩ := List.mem_map.mp ha
      exact row_short (by omega) (by omega) (h zs List.mem_cons_self z hz)
    · exact ih (k := k + 1) (by omega) (fun y hy => h y (List.mem_cons_of_mem _ hy)) a ha
section
variable {P : Program} {w : World} {K : PySem.W.Frag} {mg : Str → Option Value} {base : Heap}
abbrev nCheck : List Str := ["books", "letters", "letter"]
theorem scCheck : FnScope nCheck ["books"] (defScope sCheck) := ⟨rfl, rfl, rfl, by decide +kernel, rfl, by decide +kernel, by decide +kernel⟩
def spCheck : Sp := fun vs H Q _ => ∃ (ba : Addr) (cs : List (Addr × List Addr)) (zss : List (List Lt)), vs = [.ref ba] ∧ BooksAt H ba cs zss ∧ BooksOk zss ∧ ∀ H', Same H H' → Q .non H'
theorem ok_check {f fI : Addr} {fd fdI : FuncData} (F : Fun K "check_books" "check_books" sCheck f fd) (T : TxtP mg)
    (GI : FnOk P w K mg base CX0 3 fI fdI ["letter"] spIsLet) (bI : Binds K fdI ["letter"] []) (gI : mg "is_letter" = some (.ref fI)) (kI : PySem.W.keepIn K (.ref fI) = true) :
    FnOk P w K mg base CX0 4 f fd ["books"] spCheck := by
  obtain ⟨tk, hmost⟩ := T.most
  refine F.ok scCheck (fun vs H Q E h => ?_) (fun cdv A0 outer s0 H vs Q E hr h => ?_)
  · obtain ⟨ba, cs, zss, rfl, _⟩ := h
    rfl
  · obtain ⟨ba, cs, zss, rfl, hb, bo, k⟩ := h
    refine ⟨_, (pss_cons (ps_if (pt_cmpR op_gt (pe_callB call_len_seq (by rfl) T.len PySem.boot_len (pa_cons (pv 0) pa_nil)) (pe_glob rfl hmost (v := .int 5) ⟨tk, rfl⟩) (nomark _)) pss_never pss_nil) (pss_one (ps_for PassesOwn.never rfl (pi_list (pv 0)) (pg_name (i := 1) scCheck.nd rfl (Or.inl rfl)) (pss_one (ps_for PassesOwn.never rfl (pi_list (pv 1)) (pg_name (i := 2) scCheck.nd rfl (Or.inl rfl)) (pss_one (ps_if (pt_not (pt_val (pe_call GI hr rfl gI kI bI .nil pass0 (pa_cons (pv 2) pa_nil)))) pss_never pss_nil))))))), ?_⟩
    have hcl : cs.length ≤ 5 := by rw [paired_len hb.2]; exact bo.1
    refine ⟨_, rfl, ba, _, rfl, .inl (SqL.of hb.1), _, _, rfl, rfl, _, rfl, ?_⟩
    rw [List.length_map, decide_eq_false (by omega)]
    refine iteF ?_
    refine ⟨_, rfl, ba, rfl, ⟨_, SqL.of hb.1⟩, for_list (K := K) (a := ba) (xs := cs.map fun c => V.ref c.1) (fun i σ H2 => ∃ v1 v2, σ = [some (.ref ba), v1, v2] ∧ Same H H2) ⟨none, none, rfl, Same.refl H⟩ (fun i σ H2 _ ⟨_, _, _, s⟩ => SqL.of (s _ _ hb.1)) ?_ ?_⟩
    · rintro i x σ H2 hx ⟨v1, v2, rfl, s2⟩
      obtain ⟨c, zs, ec, ez, rfl, bat⟩ := hb.ix hx
      have bat2 := bat.same s2
      have hzs := bo.2 zs (List.mem_of_getElem? ez)
      refine ⟨_, rfl, c.1, rfl, ⟨_, SqL.of bat2.1⟩, for_list (K := K) (a := c.1) (xs := c.2.map V.ref) (fun i σ H3 => ∃ v2, σ = [some (.ref ba), some (.ref c.1), v2] ∧ Same H H3) ⟨_, rfl, s2⟩ (fun i σ H3 _ ⟨_, _, s⟩ => SqL.of (bat.same s).1) ?_ ?_⟩
      · rintro j y σ H3 hy ⟨v2, rfl, s3⟩
        obtain ⟨t, z, et, ez2, rfl, ht⟩ := (bat.same s3).2.ix hy
        refine ⟨_, rfl, t, z, rfl, ht, hzs.2 z (List.mem_of_getElem? ez2), fun H4 s4 => ⟨_, rfl, iteF ?_⟩⟩
        exact ⟨_, rfl, s3.trans s4⟩
      · rintro σ H3 ⟨v2, rfl, s3⟩
        exact ⟨_, _, rfl, s3⟩
    · rintro σ H2 ⟨v1, v2, rfl, s2⟩
      exact k H2 s2
abbrev nWr : List Str := ["books", "client", "letters", "letter"]
theorem scWr : FnScope nWr ["books"] (defScope sWr) := ⟨rfl, rfl, rfl, by decide +kernel, rfl, by decide +kernel, by decide +kernel⟩
def spWr : Sp := fun vs H Q _ => ∃ (ba : Addr) (cs : List (Addr × List Addr)) (zss : List (List Lt)), vs = [.ref ba] ∧ BooksAt H ba cs zss ∧ BooksOk zss ∧ ∀ H', Same H H' → Q (.str (textB zss)) H'
theorem ok_written {f fC fR : Addr} {fd fdC fdR : FuncData} (F : Fun K "written" "written" sWr f fd) (T : TxtP mg)
    (GC : FnOk P w K mg base CX0 4 fC fdC ["books"] spCheck) (bC : Binds K fdC ["books"] []) (gC : mg "check_books" = some (.ref fC)) (kC : PySem.W.keepIn K (.ref fC) = true)
    (GR : FnOk P w K mg base CX0 1 fR fdR ["client", "letter"] spRowOf) (bR : Binds K fdR ["client", "letter"] []) (gR : mg "row_of" = some (.ref fR)) (kR : PySem.W.keepIn K (.ref fR) = true) :
    FnOk P w K mg base CX0 5 f fd ["books"] spWr := by
  refine F.ok scWr (fun vs H Q E h => ?_) (fun cdv A0 outer s0 H vs Q E hr h => ?_)
  · obtain ⟨ba, cs, zss, rfl, _⟩ := h
    rfl
  · obtain ⟨ba, cs, zss, rfl, hb, bo, k⟩ := h
    refine ⟨_, (pss_cons (ps_expr (pe_call GC hr rfl gC kC bC .nil pass0 (pa_cons (pv 0) pa_nil))) (pss_one (ps_ret (pe_join pe_str (pe_lc2 (own := [("client", 1), ("letters", 2), ("letter", 3)]) (vs1 := [3]) (g := gTup K 2 (gCons (gName 1) (gCons (gName 2) gNil))) (g1 := gName 3) (tt := tYes) (wi1 := iList K (tVar 2)) (tt1 := tYes) (te := tCall spRowOf [] E0 (tCons (tVar 1) (tCons (tVar 3) tNil))) (by rfl) scWr.nd (pi_enum (by rfl) T.enumerate (pa_cons (pv 0) pa_nil)) (blkOk_by (own := [("client", 1), ("letters", 2), ("letter", 3)]) (N := nWr) (sc := defScope sWr) (by decide +kernel)) (by decide) (fun _ _ _ _ _ => (pg_tup rfl (pgs_cons (pg_name (i := 1) scWr.nd rfl (Or.inl rfl)) (pgs_cons (pg_name (i := 2) scWr.nd rfl (Or.inl rfl)) pgs_nil)))) (fun _ _ _ _ _ => pts_nil) (fun _ _ _ _ _ => pi_list (pv 2)) (fun _ _ _ _ _ => (pg_name (i := 3) scWr.nd rfl (Or.inl rfl))) (fun _ _ _ _ _ => pts_nil) (fun _ _ _ _ _ => (pe_call GR (hr.mono (by decide)) rfl gR kR bR .nil pass0 (pa_cons (pv 1) (pa_cons (pv 3) pa_nil))))))))), ?_⟩
    have hcl := paired_len hb.2
    refine ⟨_, rfl, ba, cs, zss, rfl, hb, bo, fun H1 s1 => ?_⟩
    have hb1 := hb.same s1
    refine ⟨⟨_, rfl⟩, _, rfl, ba, _, rfl, SqL.of hb1.1, fun D hD => ?_⟩
    have hD0 := s1.free hD
    refine out_it (w := walk_enum (K := K) (a := ba) (xs := cs.map fun c => V.ref c.1)) (fun i H2 => Same H H2 ∧ H2 D = some (.lst ((rowsFrom 0 (zss.take i)).map V.str))) ⟨s1.trans (Same.new _ hD), upd_same⟩ (fun i H2 _ p => SqL.of (p.1 _ _ hb.1)) ?_ ?_
    · rintro i x H2 H3 hi ⟨s2, hD2⟩ ⟨Tp, x1, x2, rfl, hT, rfl, e1, e2⟩
      obtain rfl : V.int (i : Nat) = x1 := Option.some.inj e1
      obtain ⟨c, zs, ec, ez, rfl, bat⟩ := hb.ix e2
      have hzs := bo.2 zs (List.mem_of_getElem? ez)
      have hi5 : i ≤ 4 := by have := (List.getElem?_eq_some_iff.mp ez).1; have := bo.1; omega
      have s3 := s2.trans (Same.new (HO.tup [V.int (i : Nat), V.ref c.1]) hT)
      have hD3 : upd H2 Tp (.tup [V.int (i : Nat), V.ref c.1]) D = some (.lst ((rowsFrom 0 (zss.take i)).map V.str)) := by rw [upd_ne (ne_of_none hD2 hT)]; exact hD2
      refine ⟨Tp, _, rfl, SqT.of upd_same, rfl, _, _, rfl, _, _, rfl, rfl, rfl, ?_⟩
      refine ⟨_, rfl, c.1, rfl, ⟨_, SqL.of (bat.same s3).1⟩, ?_⟩
      refine out_it (w := walk_list (K := K) (a := c.1) (xs := c.2.map V.ref)) (fun j H4 => Same H H4 ∧ H4 D = some (.lst ((rowsFrom 0 (zss.take i) ++ (zs.take j).map (rowS (i : Nat))).map V.str))) ⟨s3, by rw [List.take_zero, List.map_nil, List.append_nil]; exact hD3⟩ (fun j H4 _ p => SqL.of (bat.same p.1).1) ?_ ?_
      · rintro j y H4 H5 hj ⟨s4, hD4⟩ ⟨rfl, ey⟩
        obtain ⟨t, z, et, ez2, rfl, ht⟩ := (bat.same s4).2.ix ey
        have htk : zss.take i ++ [zs] = zss.take (i + 1) := by rw [List.take_add_one, ez]; rfl
        refine ⟨rfl, _, rfl, _, rfl, (i : Nat), t, z, rfl, by omega, by omega, ht, hzs.2 z (List.mem_of_getElem? ez2), fun H6 s6 => ⟨_, s6 _ _ hD4, ?_, Same.mut _ (s4.trans s6) hD0, ?_⟩⟩
        · rw [List.length_map, List.length_append, List.length_map]
          have h1 := rowsFrom_len (k := 0) (l := zss.take i) fun y hy => (bo.2 y (List.mem_of_mem_take hy)).1
          have h2 : (zs.take j).length ≤ 900 := by rw [List.length_take]; omega
          have h3 : (zss.take i).length ≤ 4 := by rw [List.length_take]; omega
          have h4 := Nat.mul_le_mul_left 900 h3
          rw [sizeLine_eq]; omega
        · rw [upd_same, List.take_add_one (l := zs), ez2]
          simp
      · rintro H4 ⟨s4, hD4⟩
        refine ⟨s4, ?_⟩
        have hl := paired_len bat.2
        rw [List.length_map, hl, List.take_length] at hD4
        rw [hD4, List.take_add_one, ez]
        have := rowsFrom_app 0 (zss.take i) zs
        rw [show (some zs).toList = [zs] from rfl, this]
        have hlt : (zss.take i).length = i := by
          have := (List.getElem?_eq_some_iff.mp ez).1
          rw [List.length_take]; omega
        rw [hlt, Nat.zero_add]
    · rintro H2 ⟨s2, hD2⟩
      rw [List.length_map, hcl, List.take_length] at hD2
      refine ⟨_, D, _, rfl, rfl, .inl (SqL.of hD2), ?_, k H2 s2⟩
      have h0 := rows_short (k := 0) (l := zss) (by have := bo.1; omega) fun y hy => (bo.2 y hy).2
      have h1 := sum_short _ h0
      have h2 := rowsFrom_len (k := 0) (l := zss) fun y hy => (bo.2 y hy).1
      have h3 := Nat.mul_le_mul_left 900 bo.1
      have h4 : ("\n" : Str).length = 1 := by kernel_rfl
      rw [h4]; omega
end
end SH
set_option Elab.async false
set_option linter.all false
set_option maxRecDepth 100000
namespace SH
open PySem PySem.Spec PyProof.Rows L2 StX TL
/-! letters by client, in turn -/
def flat : Nat → List (List Lt) → List (Nat × Lt)
  | _, [] => []
  | k, zs :: r => zs.map (fun z => (k, z)) ++ flat (k + 1) r
theorem rowsFrom_flat (k : Nat) (l : List (List Lt)) : rowsFrom k l = (flat k l).map fun p => rowS (p.1 : Nat) p.2 := by
  induction l generalizing k with
  | nil => rfl
  | cons zs l ih =>
    show zs.map _ ++ rowsFrom (k + 1) l = (zs.map _ ++ flat (k + 1) l).map _
    rw [List.map_append, ih, List.map_map]; rfl
theorem flat_app (k : Nat) (l : List (List Lt)) (zs : List Lt) : flat k (l ++ [zs]) = flat k l ++ zs.map fun z => (k + l.length, z) := by
  induction l generalizing k with
  | nil => simp [flat]
  | cons a l ih =>
    show a.map _ ++ flat (k + 1) (l ++ [zs]) = _
    rw [ih, List.length_cons, show k + 1 + l.length = k + (l.length + 1) by omega]
    simp [flat]
theorem flat_mem {k : Nat} {l : List (List Lt)} {p : Nat × Lt} (h : p ∈ flat k l) : k ≤ p.1 ∧ p.1 < k + l.length ∧ ∃ zs ∈ l, p.2 ∈ zs := by
  induction l generalizing k with
  | nil => cases h
  | cons zs l ih =>
    rcases List.mem_append.mp h with h | h
    · obtain ⟨z, hz, rfl⟩ := List.mem_map.mp h
      exact ⟨Nat.le_refl _, by simp only [List.length_cons]; omega, zs, List.mem_cons_self, hz⟩
    · obtain ⟨h1, h2, y, hy, h3⟩ := ih h
      exact ⟨by omega, by simp only [List.length_cons]; omega, y, List.mem_cons_of_mem _ hy, h3⟩
theorem pw_all {α : Type} {R : α → α → Prop} (h : ∀ a b, R a b) : ∀ l : List α, l.Pairwise R
  | [] => .nil
  | a :: l => .cons (fun b _ => h a b) (pw_all h l)
theorem flat_pw (k : Nat) (l : List (List Lt)) : (flat k l).Pairwise fun a b => a.1 ≤ b.1 := by
  induction l generalizing k with
  | nil => exact .nil
  | cons zs l ih =>
    refine List.pairwise_append.mpr ⟨?_, ih (k + 1), fun a ha b hb => ?_⟩
    · rw [List.pairwise_map]
      exact pw_all (fun _ _ => Nat.le_refl _) _
    · obtain ⟨z, _, rfl⟩ := List.mem_map.mp ha
      have := (flat_mem hb).1
      show k ≤ b.1
      omega
theorem pw_take {α : Type} {R : α → α → Prop} {l : List α} (h : l.Pairwise R) {i : Nat} {x : α} (e : l[i]? = some x) : ∀ y ∈ l.take i, R y x := by
  intro y hy
  have hi := (List.getElem?_eq_some_iff.mp e)
  have : l = l.take i ++ x :: l.drop (i + 1) := by
    rw [← hi.2, List.getElem_cons_drop, List.take_append_drop]
  rw [this] at h
  exact (List.pairwise_append.mp h).2.2 y hy x List.mem_cons_self
def padB (bs : List (List Lt)) (n : Nat) : List (List Lt) := bs ++ List.replicate (n - bs.length) []
def stepB (bs : List (List Lt)) (p : Nat × Lt) : List (List Lt) := (padB bs (p.1 + 1)).set p.1 ((padB bs (p.1 + 1)).getD p.1 [] ++ [p.2])
def bk (L : List (Nat × Lt)) : List (List Lt) := L.foldl stepB []
theorem padB_len (bs : List (List Lt)) (n : Nat) : (padB bs n).length = max bs.length n := by
  unfold padB
  rw [List.length_append, List.length_replicate]; omega
theorem padB_id {bs : List (List Lt)} {n : Nat} (h : n ≤ bs.length) : padB bs n = bs := by
  unfold padB
  rw [Nat.sub_eq_zero_of_le h]; simp
theorem padB_succ {bs : List (List Lt)} {n : Nat} (h : bs.length ≤ n) : padB bs (n + 1) = padB bs n ++ [[]] := by
  unfold padB
  rw [show n + 1 - bs.length = (n - bs.length) + 1 by omega, List.replicate_succ', List.append_assoc]
theorem stepB_len (bs : List (List Lt)) (p : Nat × Lt) : (stepB bs p).length = max bs.length (p.1 + 1) := by
  unfold stepB
  rw [List.length_set, padB_len]
theorem step_last (l : List (List Lt)) (ys : List Lt) (z : Lt) : stepB (l ++ [ys]) (l.length, z) = l ++ [ys ++ [z]] := by
  unfold stepB
  rw [padB_id (by simp)]
  simp
theorem fold_last (l : List (List Lt)) (ys zs : List Lt) : (zs.map fun z => (l.length, z)).foldl stepB (l ++ [ys]) = l ++ [ys ++ zs] := by
  induction zs generalizing ys with
  | nil => simp
  | cons z zs ih =>
    show (zs.map _).foldl stepB (stepB (l ++ [ys]) (l.length, z)) = _
    rw [step_last, ih]
    simp
theorem fold_new {b l : List (List Lt)} (hp : padB b l.length = l) (hb : b.length ≤ l.length) (z : Lt) (zs : List Lt) : ((z :: zs).map fun z => (l.length, z)).foldl stepB b = l ++ [z :: zs] := by
  show (zs.map _).foldl stepB (stepB b (l.length, z)) = _
  have e : stepB b (l.length, z) = l ++ [[z]] := by
    unfold stepB
    rw [padB_succ hb, hp]
    simp
  rw [e, fold_last]; rfl
theorem bk_pad : ∀ (n : Nat) (l : List (List Lt)), l.length = n → padB (bk (flat 0 l)) l.length = l ∧ (bk (flat 0 l)).length ≤ l.length
  | 0, l, h => by
    have : l = [] := List.eq_nil_of_length_eq_zero h
    subst this
    exact ⟨rfl, Nat.le_refl _⟩
  | n + 1, l, h => by
    rcases List.eq_nil_or_concat l with e | ⟨l', zs, e⟩
    · subst e; cases h
    · subst e
      rw [List.concat_eq_append] at h ⊢
      obtain ⟨h1, h2⟩ := bk_pad n l' (by simpa using h)
      rw [flat_app, Nat.zero_add]
      have eb : bk (flat 0 l' ++ zs.map fun z => (l'.length, z)) = (zs.map fun z => (l'.length, z)).foldl stepB (bk (flat 0 l')) := by unfold bk; rw [List.foldl_append]
      rw [eb, List.length_append, List.length_singleton]
      cases zs with
      | nil =>
        rw [List.map_nil, List.foldl_nil]
        exact ⟨by rw [padB_succ h2, h1], by omega⟩
      | cons z zs =>
        rw [fold_new h1 h2]
        exact ⟨padB_id (by simp), by simp⟩
theorem bk_last (l : List (List Lt)) {zs : List Lt} (h : zs ≠ []) : bk (flat 0 (l ++ [zs])) = l ++ [zs] := by
  obtain ⟨h1, h2⟩ := bk_pad _ l rfl
  rw [flat_app, Nat.zero_add]
  unfold bk
  rw [List.foldl_append]
  cases zs with
  | nil => exact absurd rfl h
  | cons z zs => exact fold_new h1 h2 z zs
theorem bk_le {P : List (Nat × Lt)} {k : Nat} (h : ∀ p ∈ P, p.1 ≤ k) : (bk P).length ≤ k + 1 := by
  have gen : ∀ (P : List (Nat × Lt)) (b : List (List Lt)), (∀ p ∈ P, p.1 ≤ k) → b.length ≤ k + 1 → (P.foldl stepB b).length ≤ k + 1 := by
    intro P
    induction P with
    | nil => intro b _ hb; exact hb
    | cons p P ih =>
      intro b hp hb
      refine ih (stepB b p) (fun q hq => hp q (List.mem_cons_of_mem _ hq)) ?_
      have := hp p List.mem_cons_self
      rw [stepB_len]; omega
  exact gen P [] h (by simp)
/-- up to the last one that has some -/
def IsTrim (zss : List (List Lt)) (m : Nat) : Prop := m ≤ zss.length ∧ (∀ i zs, m ≤ i → zss[i]? = some zs → zs = []) ∧ (m = 0 ∨ ∃ zs, zss[m - 1]? = some zs ∧ zs ≠ [])
theorem flat_nils {l : List (List Lt)} (h : ∀ zs ∈ l, zs = []) (k : Nat) : flat k l = [] := by
  induction l generalizing k with
  | nil => rfl
  | cons zs l ih =>
    show zs.map _ ++ flat (k + 1) l = []
    rw [h zs List.mem_cons_self, ih fun y hy => h y (List.mem_cons_of_mem _ hy)]; rfl
theorem flat_split (k : Nat) (l r : List (List Lt)) : flat k (l ++ r) = flat k l ++ flat (k + l.length) r := by
  induction l generalizing k with
  | nil => simp [flat]
  | cons a l ih =>
    show a.map _ ++ flat (k + 1) (l ++ r) = _
    rw [ih, List.length_cons, show k + 1 + l.length = k + (l.length + 1) by omega]
    simp [flat]
theorem bk_trim {zss : List (List Lt)} {m : Nat} (h : IsTrim zss m) : bk (flat 0 zss) = zss.take m := by
  obtain ⟨h1, h2, h3⟩ := h
  have e : flat 0 zss = flat 0 (zss.take m) := by
    have := flat_split 0 (zss.take m) (zss.drop m)
    rw [List.take_append_drop] at this
    rw [this, flat_nils (l := zss.drop m), List.append_nil]
    intro zs hz
    obtain ⟨j, hj, q⟩ := List.getElem_of_mem hz
    rw [List.getElem_drop] at q
    rw [List.length_drop] at hj
    exact h2 (m + j) zs (by omega) (by rw [List.getElem?_eq_getElem (by omega), q])
  rw [e]
  rcases h3 with rfl | ⟨zs, h4, h5⟩
  · rfl
  · have hm : m - 1 < zss.length := (List.getElem?_eq_some_iff.mp h4).1
    cases m with
    | zero => rfl
    | succ m =>
      have h4 : zss[m]? = some zs := h4
      rw [List.take_add_one, h4]
      exact bk_last _ h5
/-! the texts -/
theorem joinL_mem {S : List Nat} {c : Nat} : ∀ {ps : List (List Nat)}, c ∈ joinL S ps → c ∈ S ∨ ∃ p ∈ ps, c ∈ p
  | [], h => by cases h
  | [p], h => .inr ⟨p, List.mem_cons_self, h⟩
  | p :: q :: r, h => by
    rcases List.mem_append.mp h with h | h
    · exact .inr ⟨p, List.mem_cons_self, h⟩
    · rcases List.mem_append.mp h with h | h
      · exact .inl h
      · rcases joinL_mem h with h | ⟨x, hx, h⟩
        · exact .inl h
        · exact .inr ⟨x, List.mem_cons_of_mem _ hx, h⟩
theorem word_sep (z : Lt) : ∀ c ∈ tl z.word, c ≠ 32 ∧ c ≠ 10 := by
  have g : ∀ s : Str, ((tl s).all fun c => decide (c ≠ 32 ∧ c ≠ 10)) = true → ∀ c ∈ tl s, c ≠ 32 ∧ c ≠ 10 := fun s h c hc => of_decide_eq_true (List.all_eq_true.mp h c hc)
  cases z <;> exact g _ (by kernel_rfl)
theorem words_sep {c : Int} {z : Lt} (c0 : 0 ≤ c) (c4 : c ≤ 4) (hz : z.ok) : ∀ a ∈ wordsS c z, ∀ x ∈ tl a, x ≠ 32 ∧ x ≠ 10 := by
  intro a ha
  unfold wordsS at ha
  rcases List.mem_cons.mp ha with rfl | ha
  · exact num_sep (mem41 (n := c) (by omega) (by omega))
  rcases List.mem_cons.mp ha with rfl | ha
  · exact word_sep z
  · obtain ⟨n, h1, rfl⟩ := List.mem_map.mp ha
    have h2 := Lt.num41 hz n h1
    exact num_sep (mem41 h2.1 h2.2)
theorem tl_sp : tl (" " : Str) = [32] := by kernel_rfl
theorem tl_nl : tl ("\n" : Str) = [10] := by kernel_rfl
theorem row_nl {c : Int} {z : Lt} (c0 : 0 ≤ c) (c4 : c ≤ 4) (hz : z.ok) : 10 ∉ tl (rowS c z) := by
  intro h
  unfold rowS at h
  rw [tl_joinT, tl_sp] at h
  rcases joinL_mem h with h | ⟨p, hp, h⟩
  · have := List.mem_singleton.mp h; omega
  · obtain ⟨a, ha, rfl⟩ := List.mem_map.mp hp
    exact (words_sep c0 c4 hz a ha 10 h).2 rfl
theorem row_split {c : Int} {z : Lt} (c0 : 0 ≤ c) (c4 : c ≤ 4) (hz : z.ok) : Txt.split (rowS c z) " " = wordsS c z :=
  split_join tl_sp (by kernel_rfl) (by unfold wordsS; simp) fun p hp h => (words_sep c0 c4 hz p hp 32 h).1 rfl
theorem rows_nl {zss : List (List Lt)} (bo : BooksOk zss) : ∀ a ∈ rowsFrom 0 zss, 10 ∉ tl a := by
  intro a ha
  rw [rowsFrom_flat] at ha
  obtain ⟨p, hp, rfl⟩ := List.mem_map.mp ha
  obtain ⟨_, h2, zs, h3, h4⟩ := flat_mem hp
  have := bo.1
  exact row_nl (by omega) (by omega) ((bo.2 zs h3).2 _ h4)
theorem text_split {zss : List (List Lt)} (bo : BooksOk zss) (h : rowsFrom 0 zss ≠ []) : Txt.split (textB zss) "\n" = rowsFrom 0 zss :=
  split_join tl_nl (by kernel_rfl) h (rows_nl bo)
theorem text_len {zss : List (List Lt)} (bo : BooksOk zss) : (textB zss).length ≤ 300000 := by
  rw [← len_tl]
  unfold textB
  rw [tl_joinT, tl_nl]
  have h0 := rows_short (k := 0) (l := zss) (by have := bo.1; omega) fun y hy => (bo.2 y hy).2
  have h1 := joinL_len (S := [10]) (m := 56) ((rowsFrom 0 zss).map tl) fun p hp => by
    obtain ⟨a, ha, rfl⟩ := List.mem_map.mp hp
    rw [len_tl]; exact h0 a ha
  rw [List.length_map] at h1
  have h2 := rowsFrom_len (k := 0) (l := zss) fun y hy => (bo.2 y hy).1
  have h3 := Nat.mul_le_mul_left 900 bo.1
  have h4 : (rowsFrom 0 zss).length ≤ 4500 := by omega
  have h5 := Nat.mul_le_mul_right (56 + [10].length) h4
  have : [10].length = 1 := rfl
  omega
theorem text_empty {zss : List (List Lt)} : textB zss = "" ↔ rowsFrom 0 zss = [] := by
  constructor
  · intro h
    cases e : rowsFrom 0 zss with
    | nil => rfl
    | cons a r =>
      exfalso
      have ha : a ∈ rowsFrom 0 zss := by rw [e]; exact List.mem_cons_self
      rw [rowsFrom_flat] at ha
      obtain ⟨p, hp, rfl⟩ := List.mem_map.mp ha
      have ht : tl (textB zss) = [] := by rw [h]; rfl
      unfold textB at ht
      rw [tl_joinT, e] at ht
      have hrow : tl (rowS (p.1 : Nat) p.2) ≠ [] := by
        unfold rowS wordsS
        rw [tl_joinT, tl_sp]
        show tl (nS _) ++ ([32] ++ _) ≠ []
        simp
      cases r with
      | nil => exact hrow ht
      | cons b r =>
        have : tl (rowS (p.1 : Nat) p.2) ++ (tl "\n" ++ joinL (tl "\n") (((b :: r)).map tl)) = [] := ht
        rw [tl_nl] at this
        simp at this
  · intro h
    unfold textB
    rw [h]; kernel_rfl
end SH
set_option Elab.async false
set_option linter.all false
set_option maxRecDepth 100000
namespace SH
open PySem PySem.Spec PyProof.Rows L2 StX TL
abbrev sRead : Stmt := top 21
def bkCells (bl : Addr) (cs : List (Addr × List Addr)) : Cells := (bl, .lst (cs.map fun c => V.ref c.1)) :: cs.map fun c => (c.1, HO.lst (c.2.map V.ref))
structure RI (H0 H : Hp) (X : Addr × HO) (bl : Addr) (cs : List (Addr × List Addr)) (bs : List (List Lt)) : Prop where
  has : Has H (X :: bkCells bl cs)
  row : Paired (fun (c : Addr × List Addr) (zs : List Lt) => RowAt H c.2 zs) cs bs
  same : Same H0 H
  fb : H0 bl = none
  fc : ∀ c ∈ cs, H0 c.1 = none
theorem RI.sm {H0 H H' : Hp} {X : Addr × HO} {bl : Addr} {cs : List (Addr × List Addr)} {bs : List (List Lt)} (h : RI H0 H X bl cs bs) (s : Same H H') : RI H0 H' X bl cs bs :=
  ⟨h.has.same s, Paired.mapP h.row fun _ _ e => e.same s, h.same.trans s, h.fb, h.fc⟩
theorem RI.bl {H0 H : Hp} {X : Addr × HO} {bl : Addr} {cs : List (Addr × List Addr)} {bs : List (List Lt)} (h : RI H0 H X bl cs bs) : H bl = some (.lst (cs.map fun c => V.ref c.1)) := Has.get (A := []) h.has 1 rfl
theorem RI.len {H0 H : Hp} {X : Addr × HO} {bl : Addr} {cs : List (Addr × List Addr)} {bs : List (List Lt)} (h : RI H0 H X bl cs bs) : cs.length = bs.length := paired_len h.row
theorem RI.more {H0 H : Hp} {X : Addr × HO} {bl nl : Addr} {cs : List (Addr × List Addr)} {bs : List (List Lt)} (h : RI H0 H X bl cs bs) (hn : H nl = none) :
    RI H0 (upd (upd H nl (.lst [])) bl (.lst (cs.map (fun c => V.ref c.1) ++ [V.ref nl]))) X bl (cs ++ [(nl, [])]) (bs ++ [[]]) := by
  have g1 : Has (upd H nl (.lst [])) ((X :: bkCells bl cs) ++ [(nl, HO.lst [])]) := Has.new (T := []) (by rw [List.append_nil]; exact h.has) hn _
  have g2 := Has.set (A := []) g1 1 (o := .lst (cs.map fun c => V.ref c.1)) rfl (.lst (cs.map (fun c => V.ref c.1) ++ [V.ref nl]))
  have s1 := Same.new (HO.lst []) hn
  have kt : KeepT (upd H nl (.lst [])) (upd (upd H nl (.lst [])) bl (.lst (cs.map (fun c => V.ref c.1) ++ [V.ref nl]))) := upd_tup fun xs e => by rw [s1 _ _ h.bl] at e; cases e
  refine ⟨g2.re ?_, paired_snoc (Paired.mapP h.row fun _ _ e => (e.same s1).keep kt) .nil, Same.mut _ (h.same.trans s1) h.fb, h.fb, fun c hc => ?_⟩
  · show X :: (bl, _) :: (cs.map _ ++ [(nl, HO.lst [])]) = _
    unfold bkCells
    rw [List.map_append, List.map_append]; rfl
  · rcases List.mem_append.mp hc with hc | hc
    · exact h.fc c hc
    · rw [List.mem_singleton.mp hc]; exact h.same.free hn
theorem RI.put {H0 H : Hp} {X : Addr × HO} {bl t : Addr} {cs : List (Addr × List Addr)} {bs : List (List Lt)} {k : Nat} {c : Addr × List Addr} {zs : List Lt} {z : Lt} (h : RI H0 H X bl cs bs) (hc : cs[k]? = some c) (hz : bs[k]? = some zs) (ht : H t = some (.tup z.vals)) :
    RI H0 (upd H c.1 (.lst (c.2.map V.ref ++ [V.ref t]))) X bl (cs.set k (c.1, c.2 ++ [t])) (bs.set k (zs ++ [z])) := by
  have hk := (List.getElem?_eq_some_iff.mp hc).1
  have e1 : (X :: bkCells bl cs)[k + 2]? = some (c.1, HO.lst (c.2.map V.ref)) := by
    show (cs.map fun c => (c.1, HO.lst (c.2.map V.ref)))[k]? = _
    rw [List.getElem?_map, hc]; rfl
  have hold := h.has.mem (List.mem_of_getElem? e1)
  have g2 := h.has.set0 (k + 2) e1 (.lst (c.2.map V.ref ++ [V.ref t]))
  have kt : KeepT H (upd H c.1 (.lst (c.2.map V.ref ++ [V.ref t]))) := upd_tup fun xs e => by rw [hold] at e; cases e
  refine ⟨g2.re ?_, ?_, Same.mut _ h.same (h.fc c (List.mem_of_getElem? hc)), h.fb, fun c' hc' => ?_⟩
  · have h1 : (cs.map fun c => V.ref c.1).set k (V.ref c.1) = cs.map fun c => V.ref c.1 := by
      refine List.ext_getElem? fun j => ?_
      by_cases q : k = j
      · subst q
        rw [List.getElem?_set_self (by rw [List.length_map]; exact hk), List.getElem?_map, hc]; rfl
      · rw [List.getElem?_set_ne q]
    refine congrArg (X :: ·) ?_
    refine congr (congrArg List.cons (congrArg (Prod.mk bl) (congrArg HO.lst ?_))) ?_
    · rw [List.map_set]; exact h1.symm
    · rw [List.map_set]
      show List.set _ _ _ = List.set _ _ _
      refine congrArg (List.set _ k) ?_
      show (c.1, HO.lst (c.2.map V.ref ++ [V.ref t])) = (c.1, HO.lst ((c.2 ++ [t]).map V.ref))
      rw [List.map_append]; rfl
  · have go : ∀ {cs : List (Addr × List Addr)} {bs : List (List Lt)} {k : Nat}, Paired (fun (d : Addr × List Addr) (zs : List Lt) => RowAt H d.2 zs) cs bs → cs[k]? = some c → bs[k]? = some zs →
        Paired (fun (d : Addr × List Addr) (zs : List Lt) => RowAt (upd H c.1 (.lst (c.2.map V.ref ++ [V.ref t]))) d.2 zs) (cs.set k (c.1, c.2 ++ [t])) (bs.set k (zs ++ [z])) := by
      intro cs bs k p
      induction p generalizing k with
      | nil => intro q _; simp at q
      | @cons a b as bs r rest ih =>
        intro q1 q2
        cases k with
        | zero =>
          obtain rfl : a = c := Option.some.inj q1
          obtain rfl : b = zs := Option.some.inj q2
          exact .cons (paired_snoc (RowAt.keep r kt) (kt _ _ ht)) (Paired.mapP rest fun _ _ e => RowAt.keep e kt)
        | succ k => exact .cons (RowAt.keep r kt) (ih q1 q2)
    exact go h.row hc hz
  · rcases List.mem_or_eq_of_mem_set hc' with q | q
    · exact h.fc c' q
    · rw [q]; exact h.fc c (List.mem_of_getElem? hc)
theorem cut12 (a b : V) (r : List V) : cutV (a :: b :: r) (some 1) (some 2) = [b] := by
  unfold cutV
  rw [show (1 : Int) = ((1 : Nat) : Int) from rfl, show (2 : Int) = ((2 : Nat) : Int) from rfl, HT.sIx_nat, HT.sIx_nat]
  have h1 : min 1 (a :: b :: r).length = 1 := by simp only [List.length_cons]; omega
  have h2 : min 2 (a :: b :: r).length = 2 := by simp only [List.length_cons]; omega
  rw [h1, h2]; rfl
section
variable {P : Program} {w : World} {K : PySem.W.Frag} {mg : Str → Option Value} {base : Heap}
abbrev nRead : List Str := ["text", "books", "line", "row", "words", "client", "letter", "word"]
theorem scRead : FnScope nRead ["text"] (defScope sRead) := ⟨rfl, rfl, rfl, by decide +kernel, rfl, by decide +kernel, by decide +kernel⟩
def spRead : Sp := fun vs H Q _ => ∃ (zss : List (List Lt)), vs = [.str (textB zss)] ∧ BooksOk zss ∧ ∀ ba cs H', Same H H' → H ba = none → BooksAt H' ba cs (bk (flat 0 zss)) → Q (.ref ba) H'
set_option maxHeartbeats 0 in
theorem ok_read {f fN fW fI : Addr} {fd fdN fdW fdI : FuncData} (F : Fun K "read" "read" sRead f fd) (T : TxtP mg)
    (GN : FnOk P w K mg base CX0 1 fN fdN ["word"] spNum) (bN : Binds K fdN ["word"] []) (gN : mg "number_of" = some (.ref fN)) (kN : PySem.W.keepIn K (.ref fN) = true)
    (GW : FnOk P w K mg base CX0 1 fW fdW ["value", "least", "greatest"] spWithin) (bW : Binds K fdW ["value", "least", "greatest"] []) (gW : mg "is_within" = some (.ref fW)) (kW : PySem.W.keepIn K (.ref fW) = true)
    (GI : FnOk P w K mg base CX0 3 fI fdI ["letter"] spIsLet) (bI : Binds K fdI ["letter"] []) (gI : mg "is_letter" = some (.ref fI)) (kI : PySem.W.keepIn K (.ref fI) = true) :
    FnOk P w K mg base CX0 4 f fd ["text"] spRead := by
  obtain ⟨tk, hmost⟩ := T.most
  refine F.ok scRead (fun vs H Q E h => ?_) (fun cdv A0 outer s0 H vs Q E hr h => ?_)
  · obtain ⟨zss, rfl, _⟩ := h
    rfl
  · obtain ⟨zss, rfl, bo, k⟩ := h
    refine ⟨_, (pss_cons (ps_set (i := 1) scRead.nd rfl (Or.inl rfl) (pe_lst pa_nil)) (pss_cons (ps_if (pt_cmpR op_eq (pv 0) pe_str (nomark _)) (pss_one (ps_ret (pv 1))) pss_nil) (pss_cons (ps_for PassesOwn.never rfl (pi_enum (by rfl) T.enumerate (pa_cons (pe_split (pv 0) pe_str) pa_nil)) (pg_tup (by rfl) (pgs_cons (pg_name (i := 2) scRead.nd rfl (Or.inl rfl)) (pgs_cons (pg_name (i := 3) scRead.nd rfl (Or.inl rfl)) pgs_nil))) (pss_cons (ps_set (i := 4) scRead.nd rfl (Or.inl rfl) (pe_split (pv 3) pe_str)) (pss_cons (ps_set (i := 5) scRead.nd rfl (Or.inl rfl) (pe_call GN (hr.mono (by decide)) rfl gN kN bN .nil pass0 (pa_cons (pe_ix ix_list (pv 4) pe_int (fun _ _ => rfl)) pa_nil))) (pss_cons (ps_set (i := 6) scRead.nd rfl (Or.inl rfl) (pe_callTy call_tuple_of (by rfl) T.tuple (show bootBuiltins "tuple" = some (.type "tuple") by decide +kernel) (pa_cons (pe_op op_cat (pe_slice sl_list (pv 4) (po_some pe_int) (po_some pe_int)) (pe_lc (own := [("word", 7)]) (g := gName 7) (te := tCall spNum [] E0 (tCons (tVar 7) tNil)) (by rfl) scRead.nd (pi_list (pe_slice sl_list (pv 4) (po_some pe_int) po_none)) (blkOk_by (own := [("word", 7)]) (N := nRead) (sc := defScope sRead) (by decide +kernel)) (fun _ _ _ _ _ => (pg_name (i := 7) scRead.nd rfl (Or.inl rfl))) (fun _ _ _ _ _ => pts_nil) (fun _ _ _ _ _ => (pe_call GN (hr.mono (by decide)) rfl gN kN bN .nil pass0 (pa_cons (pv 7) pa_nil))))) pa_nil))) (pss_cons (ps_if (PW.pt (pw_or (pt_not (pt_val (pe_call GW (hr.mono (by decide)) rfl gW kW bW .nil pass0 (pa_cons (pv 5) (pa_cons (pe_callB (call_max2 rfl) (by rfl) T.max (by decide +kernel) (pa_cons pe_int (pa_cons (pe_op op_sub (pe_callB call_len_seq (by rfl) T.len PySem.boot_len (pa_cons (pv 1) pa_nil)) pe_int) pa_nil))) (pa_cons (pe_op op_sub (pe_glob rfl hmost (v := .int 5) ⟨tk, rfl⟩) pe_int) pa_nil)))))) (pw_or1 (pt_not (pt_val (pe_call GI hr rfl gI kI bI .nil pass0 (pa_cons (pv 6) pa_nil))))))) pss_never pss_nil) (pss_cons (ps_while PassesOwn.never (pt_cmpR op_le (pe_callB call_len_seq (by rfl) T.len PySem.boot_len (pa_cons (pv 1) pa_nil)) (pv 5) (nomark _)) (pss_one (ps_expr (pe_bm PySem.F.plainAttrs_list PySem.F.slot_list_append PySem.F.type_list_append mt_append (pv 1) (pa_cons (pe_lst pa_nil) pa_nil))))) (pss_one (ps_expr (pe_bm PySem.F.plainAttrs_list PySem.F.slot_list_append PySem.F.type_list_append mt_append (pe_ix ix_list (pv 1) (pv 5) (fun _ _ => rfl)) (pa_cons (pv 6) pa_nil)))))))))) (pss_one (ps_ret (pv 1)))))), ?_⟩
    have sm : ∀ {n : Nat}, n ≤ 1000 → n ≤ sizeLine := small
    refine ⟨sm (by show 0 ≤ 1000; decide), fun bl hbl => ?_⟩
    refine ⟨_, rfl, rfl, _, rfl, ?_⟩
    by_cases he : rowsFrom 0 zss = []
    · rw [decide_eq_true (show V.str (textB zss) = V.str "" by rw [text_empty.mpr he])]
      refine iteT ?_
      refine ⟨_, rfl, k bl [] _ (Same.new _ hbl) hbl ?_⟩
      have : flat 0 zss = [] := by
        rw [rowsFrom_flat] at he
        exact List.map_eq_nil_iff.mp he
      rw [this]
      exact ⟨upd_same, .nil⟩
    rw [decide_eq_false (fun z => he (text_empty.mp (V.str.inj z)))]
    refine iteF ?_
    have hlen := text_len bo
    refine ⟨_, rfl, ⟨_, rfl⟩, _, _, rfl, rfl, by kernel_rfl, by rw [sizeLine_eq]; omega, fun rl hrl => ?_⟩
    rw [text_split bo he]
    have hbl0 := hbl
    have nbr : bl ≠ rl := ne_of_none (upd_same : upd H bl (.lst []) bl = _) hrl
    have r0 : RI H (upd (upd H bl (.lst [])) rl (.lst ((rowsFrom 0 zss).map V.str))) (rl, .lst ((rowsFrom 0 zss).map V.str)) bl [] [] := by
      refine ⟨?_, .nil, (Same.new _ hbl).trans (Same.new _ hrl), hbl, fun _ h => (by cases h)⟩
      exact Has.cons (L := bkCells bl []) ⟨fun c hc => by rw [List.mem_singleton.mp hc]; exact upd_same, by simp [bkCells]⟩ hrl _
    have eL := rowsFrom_flat 0 zss
    have hmem := fun p hp => flat_mem (p := p) (k := 0) (l := zss) hp
    have hpw := flat_pw 0 zss
    refine ⟨rl, _, rfl, SqL.of upd_same, ?_⟩
    refine for_it (w := walk_enum (K := K) (a := rl) (xs := (rowsFrom 0 zss).map V.str)) (fun i σ H2 => ∃ v2 v3 v4 v5 v6 cs, σ = [some (.str (textB zss)), some (.ref bl), v2, v3, v4, v5, v6, none] ∧ RI H H2 (rl, .lst ((rowsFrom 0 zss).map V.str)) bl cs (bk ((flat 0 zss).take i)))
      ⟨none, none, none, none, none, [], rfl, r0⟩ (fun i σ H2 _ ⟨_, _, _, _, _, _, _, r⟩ => SqL.of (Has.get (A := []) r.has 0 rfl)) ?_ ?_
    · rintro i x σ H2 H3 hi ⟨v2, v3, v4, v5, v6, cs, rfl, r2⟩ ⟨Tp, x1, x2, rfl, hT, rfl, e1, e2⟩
      obtain rfl : V.int (i : Nat) = x1 := Option.some.inj e1
      have hi : i < (flat 0 zss).length := by rw [eL] at hi; simpa using hi
      have ep : (flat 0 zss)[i]? = some (flat 0 zss)[i] := List.getElem?_eq_getElem hi
      have hm := hmem _ (List.getElem_mem hi)
      have hbefore := pw_take hpw ep
      have e2 : ((rowsFrom 0 zss).map V.str)[i]? = some x2 := e2
      rw [eL, List.getElem?_map, List.getElem?_map, ep] at e2
      have etk : (flat 0 zss).take (i + 1) = (flat 0 zss).take i ++ [(flat 0 zss)[i]] := by rw [List.take_add_one, ep]; rfl
      rw [etk]
      generalize (flat 0 zss)[i] = p at ep hm hbefore e2
      obtain ⟨kk, z⟩ := p
      obtain rfl : V.str (rowS (kk : Nat) z) = x2 := Option.some.inj e2
      obtain ⟨_, hk5, zs0, hz1, hz2⟩ := hm
      have hk4 : kk ≤ 4 := by have := bo.1; omega
      have hz := (bo.2 zs0 hz1).2 z hz2
      have hble := bk_le (k := kk) hbefore
      have hrow := row_short (c := (kk : Nat)) (z := z) (by omega) (by omega) hz
      refine ⟨Tp, _, rfl, SqT.of upd_same, rfl, _, _, rfl, _, _, rfl, rfl, ?_⟩
      have r3 := r2.sm (Same.new (HO.tup [V.int (i : Nat), V.str (rowS (kk : Nat) z)]) hT)
      generalize upd H2 Tp (.tup [V.int (i : Nat), V.str (rowS (kk : Nat) z)]) = H3 at r3
      refine ⟨_, rfl, ⟨_, rfl⟩, _, _, rfl, rfl, by kernel_rfl, sm (by omega), fun wl hwl => ?_⟩
      rw [row_split (by omega) (by omega) hz]
      have r4 := r3.sm (Same.new (HO.lst ((wordsS (kk : Nat) z).map V.str)) hwl)
      have hw4 : upd H3 wl (.lst ((wordsS (kk : Nat) z).map V.str)) wl = some (.lst ((wordsS (kk : Nat) z).map V.str)) := upd_same
      generalize upd H3 wl (.lst ((wordsS (kk : Nat) z).map V.str)) = H4 at r4 hw4
      refine ⟨_, rfl, _, _, _, V.str (nS (kk : Nat)), rfl, rfl, SqL.of hw4, at_of (j := 0) rfl rfl, (kk : Nat), rfl, by omega, by omega, fun H5 s5 => ?_⟩
      have r5 := r4.sm s5
      have hw5 := s5 _ _ hw4
      refine ⟨_, rfl, _, rfl, _, rfl, wl, _, rfl, SqL.of hw5, fun q1 hq1 => ?_⟩
      have ec1 : cutV ((wordsS (kk : Nat) z).map V.str) (some 1) (some 2) = [V.str z.word] := cut12 _ _ _
      rw [ec1]
      have s6 := Same.new (HO.lst [V.str z.word]) hq1
      have h61 : upd H5 q1 (.lst [V.str z.word]) q1 = some (.lst [V.str z.word]) := upd_same
      have r6 := r5.sm s6
      have hw6 := s6 _ _ hw5
      generalize upd H5 q1 (.lst [V.str z.word]) = H6 at r6 hw6 h61
      refine ⟨_, rfl, _, rfl, wl, _, rfl, SqL.of hw6, fun q2 hq2 => ?_⟩
      have ec2 : cutV ((wordsS (kk : Nat) z).map V.str) (some 2) none = (z.nums.map nS).map V.str := by
        rw [show (2 : Int) = ((2 : Nat) : Int) from rfl, cut_drop]; rfl
      rw [ec2]
      have s7 := Same.new (HO.lst ((z.nums.map nS).map V.str)) hq2
      have h72 : upd H6 q2 (.lst ((z.nums.map nS).map V.str)) q2 = some (.lst ((z.nums.map nS).map V.str)) := upd_same
      have r7 := r6.sm s7
      have h71 := s7 _ _ h61
      generalize upd H6 q2 (.lst ((z.nums.map nS).map V.str)) = H7 at r7 h71 h72
      refine ⟨q2, rfl, ⟨_, SqL.of h72⟩, fun D hD => ?_⟩
      have hzn := z.nlen
      refine lc_list (K := K) (a := q2) (xs := (z.nums.map nS).map V.str) (fun j H8 => Same H7 H8 ∧ H8 D = some (.lst ((z.nums.take j).map V.int))) ⟨Same.new _ hD, upd_same⟩ (fun j H8 _ p => SqL.of (p.1 _ _ h72)) ?_ ?_
      · rintro j y H8 hy ⟨s8, hD8⟩
        rw [List.getElem?_map, List.getElem?_map] at hy
        cases en : z.nums[j]? with
        | none => rw [en] at hy; cases hy
        | some n =>
          rw [en] at hy
          obtain rfl : V.str (nS n) = y := Option.some.inj hy
          have hn := Lt.num41 hz n (List.mem_of_getElem? en)
          refine ⟨rfl, _, rfl, n, rfl, hn.1, hn.2, fun H9 s9 => ⟨_, s9 _ _ hD8, ?_, Same.mut _ (s8.trans s9) hD, ?_⟩⟩
          · rw [List.length_map, List.length_take]; exact small1000 (by omega)
          · rw [upd_same, List.take_add_one, en, List.map_append]; rfl
      · rintro H8 ⟨s8, hD8⟩
        rw [List.length_map, List.length_map, List.take_length] at hD8
        have r8 := r7.sm s8
        refine ⟨q1, D, _, _, rfl, rfl, s8 _ _ h71, hD8, sm (by simp only [List.length_cons, List.length_nil, List.length_map]; omega), fun q3 hq3 => ?_⟩
        have s9 := Same.new (HO.lst ([V.str z.word] ++ z.nums.map V.int)) hq3
        have r9 := r8.sm s9
        refine ⟨q3, _, rfl, .inl ⟨SqL.of upd_same, fun t ht => ?_⟩⟩
        have s10 := Same.new (HO.tup ([V.str z.word] ++ z.nums.map V.int)) ht
        have r10 := r9.sm s10
        have ht10 : upd (upd H8 q3 (.lst ([V.str z.word] ++ z.nums.map V.int))) t (.tup ([V.str z.word] ++ z.nums.map V.int)) t = some (.tup z.vals) := upd_same
        generalize upd (upd H8 q3 (.lst ([V.str z.word] ++ z.nums.map V.int))) t (.tup ([V.str z.word] ++ z.nums.map V.int)) = H10 at r10 ht10
        have hl10 := r10.len
        refine ⟨_, rfl, _, rfl, bl, _, rfl, .inl (SqL.of r10.bl), _, _, rfl, rfl, _, _, rfl, _, _, rfl, rfl, (kk : Nat), _, _, rfl, ?_⟩
        rw [List.length_map, hl10]
        have hb1 : decide ((if (((bk ((flat 0 zss).take i)).length : Nat) : Int) - 1 > 0 then (((bk ((flat 0 zss).take i)).length : Nat) : Int) - 1 else 0) ≤ ((kk : Nat) : Int)) = true := decide_eq_true (by split <;> omega)
        have hb2 : decide (((kk : Nat) : Int) ≤ 5 - 1) = true := decide_eq_true (by omega)
        refine ⟨_, rfl, ?_⟩
        rw [hb1, hb2]
        refine iteF ?_
        refine ⟨_, rfl, t, z, rfl, ht10, hz, fun H11 s11 => ⟨_, rfl, iteF ?_⟩⟩
        have r11 := r10.sm s11
        have ht11 := s11 _ _ ht10
        refine while_by (fun σ H12 => ∃ cs m, σ = [some (.str (textB zss)), some (.ref bl), some (.int (i : Nat)), some (.str (rowS (kk : Nat) z)), some (.ref wl), some (.int (kk : Nat)), some (.ref t), none] ∧ H12 t = some (.tup z.vals) ∧
          RI H H12 (rl, .lst ((rowsFrom 0 zss).map V.str)) bl cs (bk ((flat 0 zss).take i) ++ List.replicate m []) ∧ (m = 0 ∨ (bk ((flat 0 zss).take i)).length + m ≤ kk + 1))
          (fun _ H12 => kk + 1 - (match H12 bl with | some (.lst xs) => xs.length | _ => 0)) ⟨cs, 0, rfl, ht11, by simpa using r11, .inl rfl⟩ ?_ ?_
        · rintro σ H12 ⟨cs, m, rfl, ht12, r12, hm⟩
          have hl12 := r12.len
          rw [List.length_append, List.length_replicate] at hl12
          refine ⟨_, rfl, bl, _, rfl, .inl (SqL.of r12.bl), _, rfl, _, _, rfl, rfl, _, rfl, ?_⟩
          rw [List.length_map, hl12]
          refine ite2 (fun c => ?_) (fun c => ?_)
          · have c := of_decide_eq_true c
            refine ⟨_, rfl, .inl ⟨rfl, _, SqL.of r12.bl⟩, sm (by show 0 ≤ 1000; decide), fun nl hnl => ?_⟩
            have s13 := Same.new (HO.lst []) hnl
            have r13 := r12.more hnl
            refine ⟨bl, _, _, rfl, rfl, s13 _ _ r12.bl, by rw [List.length_map, hl12]; exact small1000 (by omega), ?_⟩
            refine ⟨⟨cs ++ [(nl, [])], m + 1, rfl, ?_, ?_, .inr (by omega)⟩, ?_⟩
            · rw [upd_ne (by intro q; have := s13 _ _ r12.bl; rw [← q, s13 _ _ ht12] at this; cases this)]
              exact s13 _ _ ht12
            · rw [List.replicate_succ', ← List.append_assoc]
              exact r13
            · have e1 := r13.bl
              have e2 := r12.bl
              show kk + 1 - (match (upd (upd H12 nl (.lst [])) bl (.lst (cs.map (fun c => V.ref c.1) ++ [V.ref nl]))) bl with | some (.lst xs) => xs.length | _ => 0) < kk + 1 - (match H12 bl with | some (.lst xs) => xs.length | _ => 0)
              rw [e1, e2]
              simp only [List.length_map, List.length_append, List.length_cons, List.length_nil]
              omega
          · have c : ¬ (((bk ((flat 0 zss).take i)).length + m : Nat) : Int) ≤ (kk : Nat) := fun q => c (decide_eq_true q)
            have epad : bk ((flat 0 zss).take i) ++ List.replicate m [] = padB (bk ((flat 0 zss).take i)) (kk + 1) := by
              unfold padB
              congr 2
              rcases hm with rfl | hm <;> omega
            rw [epad] at r12
            have hpl := padB_len (bk ((flat 0 zss).take i)) (kk + 1)
            have hl13 := r12.len
            have ecs : cs[kk]? = some cs[kk] := List.getElem?_eq_getElem (by omega)
            have ebs : (padB (bk ((flat 0 zss).take i)) (kk + 1))[kk]? = some ((padB (bk ((flat 0 zss).take i)) (kk + 1)).getD kk []) := by
              rw [List.getD_eq_getElem?_getD]
              have : (padB (bk ((flat 0 zss).take i)) (kk + 1))[kk]? = some (padB (bk ((flat 0 zss).take i)) (kk + 1))[kk] := List.getElem?_eq_getElem (by omega)
              rw [this]; rfl
            generalize cs[kk] = c at ecs
            have hcell : H12 c.1 = some (.lst (c.2.map V.ref)) := r12.has.mem (by
              refine List.mem_cons_of_mem _ (List.mem_cons_of_mem _ (List.mem_map.mpr ⟨c, List.mem_of_getElem? ecs, rfl⟩)))
            have hcl : c.2.length ≤ 4500 := by
              have h1 := paired_ix r12.row ecs ebs
              have h2 := paired_len h1
              have gen : ∀ (P : List (Nat × Lt)) (j : Nat) (zs : List Lt), (bk P)[j]? = some zs → zs.length ≤ P.length := by
                intro P
                have : ∀ (P : List (Nat × Lt)) (b : List (List Lt)) (n : Nat), (∀ (j : Nat) (zs : List Lt), b[j]? = some zs → zs.length ≤ n) → ∀ (j : Nat) (zs : List Lt), (P.foldl stepB b)[j]? = some zs → zs.length ≤ n + P.length := by
                  intro P
                  induction P with
                  | nil => intro b n hb j zs h; exact hb j zs h
                  | cons p P ih =>
                    intro b n hb j zs h
                    have hpad : ∀ (j : Nat) (zs : List Lt), (padB b (p.1 + 1))[j]? = some zs → zs.length ≤ n := by
                      intro j zs h
                      unfold padB at h
                      rw [List.getElem?_append] at h
                      split at h
                      · exact hb j zs h
                      · have := List.mem_of_getElem? h
                        rw [(List.mem_replicate.mp this).2]; exact Nat.zero_le _
                    have := ih (stepB b p) (n + 1) (fun j zs h => by
                      unfold stepB at h
                      by_cases e : p.1 = j
                      · subst e
                        rw [List.getElem?_set_self (by rw [padB_len]; omega)] at h
                        have h := Option.some.inj h
                        rw [← h, List.length_append, List.getD_eq_getElem?_getD]
                        cases q : (padB b (p.1 + 1))[p.1]? with
                        | none => simp
                        | some y => have := hpad _ _ q; simp; omega
                      · rw [List.getElem?_set_ne e] at h
                        have := hpad j zs h; omega) j zs h
                    simp only [List.length_cons]; omega
                intro j zs h
                have := this P [] 0 (fun j zs h => by simp at h) j zs h
                omega
              have hfl : ((flat 0 zss).take i).length ≤ 4500 := by
                have h3 := rowsFrom_len (k := 0) (l := zss) fun y hy => (bo.2 y hy).1
                rw [rowsFrom_flat, List.length_map] at h3
                have h4 := Nat.mul_le_mul_left 900 bo.1
                rw [List.length_take]; omega
              have : ((padB (bk ((flat 0 zss).take i)) (kk + 1)).getD kk []).length ≤ 4500 := by
                have e := ebs
                generalize (padB (bk ((flat 0 zss).take i)) (kk + 1)).getD kk [] = y at e
                unfold padB at e
                rw [List.getElem?_append] at e
                split at e
                · exact Nat.le_trans (gen _ _ _ e) hfl
                · have := List.mem_of_getElem? e
                  rw [(List.mem_replicate.mp this).2]; exact Nat.zero_le _
              omega
            refine ⟨_, rfl, _, rfl, _, _, _, V.ref c.1, rfl, rfl, SqL.of r12.bl, at_of (j := kk) rfl (by rw [List.getElem?_map, ecs]; rfl), .inl ⟨rfl, _, SqL.of hcell⟩, _, rfl, c.1, _, _, rfl, rfl, hcell, by rw [List.length_map, sizeLine_eq]; omega, ?_⟩
            refine ⟨_, _, _, _, _, cs.set kk (c.1, c.2 ++ [t]), rfl, ?_⟩
            have r13 := r12.put ecs ebs ht12
            have ebk : bk ((flat 0 zss).take i ++ [(kk, z)]) = (padB (bk ((flat 0 zss).take i)) (kk + 1)).set kk ((padB (bk ((flat 0 zss).take i)) (kk + 1)).getD kk [] ++ [z]) := by
              unfold bk
              rw [List.foldl_append]; rfl
            rw [ebk]
            exact r13
        · intro σ H Q1 Q2 imp hq
          obtain ⟨v, e1, p, ys, e2, h, v5, e5, i, j, e6, e7, b, e8, q⟩ := hq
          exact ⟨v, e1, p, ys, e2, h, v5, e5, i, j, e6, e7, b, e8, imp _ _ q⟩
    · rintro σ H2 ⟨v2, v3, v4, v5, v6, cs, rfl, r2⟩
      rw [List.length_map, eL, List.length_map, List.take_length] at r2
      refine ⟨_, rfl, k bl cs H2 r2.same r2.fb ⟨r2.bl, ?_⟩⟩
      have hcell : ∀ c ∈ cs, H2 c.1 = some (.lst (c.2.map V.ref)) := fun c hc => r2.has.mem (List.mem_cons_of_mem _ (List.mem_cons_of_mem _ (List.mem_map.mpr ⟨c, hc, rfl⟩)))
      have gen : ∀ {cs : List (Addr × List Addr)} {bs : List (List Lt)}, (∀ c ∈ cs, H2 c.1 = some (.lst (c.2.map V.ref))) → Paired (fun (c : Addr × List Addr) (zs : List Lt) => RowAt H2 c.2 zs) cs bs → Paired (BookAt H2) cs bs := by
        intro cs bs hc p
        induction p with
        | nil => exact .nil
        | cons r _ ih => exact .cons ⟨hc _ List.mem_cons_self, r⟩ (ih fun c h => hc c (List.mem_cons_of_mem _ h))
      exact gen hcell r2.row
end
end SH
set_option Elab.async false
set_option linter.all false
set_option maxRecDepth 100000
namespace SH
open PySem PySem.Spec PyProof.Rows L2 StX TL
abbrev sAlike : Stmt := top 25
/-- the same data, d deep -/
def R0 (v u : V) : Prop := (∃ i, v = .int i ∧ u = .int i) ∨ ∃ a, v = .str a ∧ u = .str a
def RD (H : Hp) : Nat → V → V → Prop
  | 0, v, u => R0 v u
  | d + 1, v, u => R0 v u ∨ ∃ (a b : Addr) (xs ys : List V), v = .ref a ∧ u = .ref b ∧ ((H a = some (.tup xs) ∧ H b = some (.tup ys)) ∨ (H a = some (.lst xs) ∧ H b = some (.lst ys))) ∧ xs.length = ys.length ∧ ys.length ≤ 100000 ∧ ∀ (i : Nat) x y, xs[i]? = some x → ys[i]? = some y → RD H d x y
theorem RD.same {H H' : Hp} (s : Same H H') : ∀ {d : Nat} {v u : V}, RD H d v u → RD H' d v u
  | 0, _, _, h => h
  | d + 1, _, _, h => by
    rcases h with h | ⟨a, b, xs, ys, e1, e2, h1, h2, h3, h4⟩
    · exact .inl h
    · refine .inr ⟨a, b, xs, ys, e1, e2, ?_, h2, h3, fun i x y q1 q2 => (h4 i x y q1 q2).same s⟩
      rcases h1 with ⟨p, q⟩ | ⟨p, q⟩
      · exact .inl ⟨s _ _ p, s _ _ q⟩
      · exact .inr ⟨s _ _ p, s _ _ q⟩
theorem kit2 {K : PySem.W.Frag} {a b c : String} {r1 r2 : Bool} (h1 : kitB a b = some r1) (h2 : kitB a c = some r2) : PySem.W.kitAny K (.type a) [.type b, .type c] = some (r1 || r2) := by
  refine kitAny_cons (kit_ty h1) (fun e => ?_) (fun e => by rw [e]; rfl)
  rw [e, Bool.false_or]
  refine kitAny_cons (kit_ty h2) (fun e => by rw [e]; rfl) (fun e => e)
section
variable {P : Program} {w : World} {K : PySem.W.Frag} {mg : Str → Option Value} {base : Heap}
abbrev nAlike : List Str := ["_law_found", "_law_due_here", "_law_k"]
theorem scAlike : FnScope nAlike ["_law_found", "_law_due_here"] (defScope sAlike) := ⟨rfl, rfl, rfl, by decide +kernel, rfl, by decide +kernel, by decide +kernel⟩
def spAlike (d : Nat) : Sp := fun vs H Q _ => ∃ v u, vs = [v, u] ∧ RD H d v u ∧ ∀ H', Same H H' → Q (.bl true) H'
theorem ok_alike {f : Addr} {fd : FuncData} (F : Fun K "_law_alike" "_law_alike" sAlike f fd) (bF : Binds K fd ["_law_found", "_law_due_here"] []) (gF : mg "_law_alike" = some (.ref f)) (T : TxtP mg) :
    ∀ d, FnOk P w K mg base CX0 (d + 1) f fd ["_law_found", "_law_due_here"] (spAlike d)
  | 0 => by
    refine F.ok scAlike (fun vs H Q E h => ?_) (fun cdv A0 outer s0 H vs Q E hr h => ?_)
    · obtain ⟨v, u, rfl, _⟩ := h
      rfl
    · obtain ⟨v, u, rfl, hR, k⟩ := h
      have sm : ∀ {n : Nat}, n ≤ 1000 → n ≤ sizeLine := small
      refine ⟨_, (pss_cons (ps_if (pt_val (pe_callB call_isiT (by rfl) T.isinst (by decide +kernel) (pa_cons (pv 1) (pa_cons (pe_tup (pa_cons (pe_bltn (v := .ty "tuple") (by rfl) T.tuple (by decide +kernel) rfl) (pa_cons (pe_bltn (v := .ty "list") (by rfl) T.list (by decide +kernel) rfl) pa_nil))) pa_nil)))) pss_never pss_nil) (pss_cons (ps_if (pt_cmpR op_isN (pv 1) pe_non (nomark _)) (pss_one (ps_ret (pe_cmpR op_isN (pv 0) pe_non (nomark _)))) pss_nil) (pss_cons (ps_if (pt_val (pe_callB call_isi (by rfl) T.isinst (by decide +kernel) (pa_cons (pv 1) (pa_cons (pe_bltn (v := .ty "str") (by rfl) T.str (by decide +kernel) rfl) pa_nil)))) (pss_one (ps_ret (pe_and (pe_callB call_isi (by rfl) T.isinst (by decide +kernel) (pa_cons (pv 0) (pa_cons (pe_bltn (v := .ty "str") (by rfl) T.str (by decide +kernel) rfl) pa_nil))) (pe_one (pe_cmpR op_eq (pv 0) (pv 1) (nomark _)))))) pss_nil) (pss_cons (ps_if (PW.pt (pw_or (pt_val (pe_callB call_isi (by rfl) T.isinst (by decide +kernel) (pa_cons (pv 1) (pa_cons (pe_bltn (v := .ty "bool") (by rfl) T.bool (by decide +kernel) rfl) pa_nil)))) (pw_or1 (pt_val (pe_callB call_isi (by rfl) T.isinst (by decide +kernel) (pa_cons (pv 0) (pa_cons (pe_bltn (v := .ty "bool") (by rfl) T.bool (by decide +kernel) rfl) pa_nil))))))) pss_never pss_nil) (pss_one (ps_ret (pe_and (pe_callB call_isi (by rfl) T.isinst (by decide +kernel) (pa_cons (pv 0) (pa_cons (pe_bltn (v := .ty "int") (by rfl) T.int (by decide +kernel) rfl) pa_nil))) (pe_one (pe_cmpR op_eq (pv 0) (pv 1) (nomark _)))))))))), ?_⟩
      rcases hR with ⟨i, rfl, rfl⟩ | ⟨a, rfl, rfl⟩
      · refine ⟨_, rfl, sm (by show 2 ≤ 1000; decide), fun q hq => ?_⟩
        refine ⟨V.int i, q, _, _, _, false, rfl, upd_same, .cons (.ty _) (.cons (.ty _) .nil), tyInt, kit2 (a := "int") (b := "tuple") (c := "list") (r1 := false) (r2 := false) (by decide +kernel) (by decide +kernel), _, rfl, iteF ?_⟩
        have s1 := Same.new (HO.tup [V.ty "tuple", V.ty "list"]) hq
        refine ⟨_, rfl, rfl, _, rfl, iteF ?_⟩
        refine ⟨_, rfl, _, _, _, _, false, rfl, by first | exact .ty _ | constructor, tyInt, kit_ty (by decide +kernel), _, rfl, iteF ?_⟩
        refine ⟨_, rfl, _, _, _, _, false, rfl, by first | exact .ty _ | constructor, tyInt, kit_ty (by decide +kernel), _, rfl, iteF ?_⟩
        refine ⟨_, rfl, _, _, _, _, false, rfl, by first | exact .ty _ | constructor, tyInt, kit_ty (by decide +kernel), _, rfl, iteF ?_⟩
        refine ⟨_, rfl, _, _, _, _, true, rfl, by first | exact .ty _ | constructor, tyInt, kit_ty (by decide +kernel), _, rfl, iteT ?_⟩
        refine ⟨_, rfl, _, rfl, rfl, ?_⟩
        rw [decide_eq_true (show V.int i = V.int i from rfl)]
        exact k _ s1
      · refine ⟨_, rfl, sm (by show 2 ≤ 1000; decide), fun q hq => ?_⟩
        refine ⟨V.str a, q, _, _, _, false, rfl, upd_same, .cons (.ty _) (.cons (.ty _) .nil), .base (.str a), kit2 (a := "str") (b := "tuple") (c := "list") (r1 := false) (r2 := false) (by decide +kernel) (by decide +kernel), _, rfl, iteF ?_⟩
        have s1 := Same.new (HO.tup [V.ty "tuple", V.ty "list"]) hq
        refine ⟨_, rfl, rfl, _, rfl, iteF ?_⟩
        refine ⟨_, rfl, _, _, _, _, true, rfl, by first | exact .ty _ | constructor, .base (.str a), kit_ty (by decide +kernel), _, rfl, iteT ?_⟩
        refine ⟨_, rfl, _, _, _, _, true, rfl, by first | exact .ty _ | constructor, .base (.str a), kit_ty (by decide +kernel), _, rfl, iteT ?_⟩
        refine ⟨_, rfl, _, rfl, rfl, ?_⟩
        rw [decide_eq_true (show V.str a = V.str a from rfl)]
        exact k _ s1
  | d + 1 => by
    have GF := ok_alike F bF gF T d
    refine F.ok scAlike (fun vs H Q E h => ?_) (fun cdv A0 outer s0 H vs Q E hr h => ?_)
    · obtain ⟨v, u, rfl, _⟩ := h
      rfl
    · obtain ⟨v, u, rfl, hR, k⟩ := h
      have sm : ∀ {n : Nat}, n ≤ 1000 → n ≤ sizeLine := small
      refine ⟨_, (pss_cons (ps_if (pt_val (pe_callB call_isiT (by rfl) T.isinst (by decide +kernel) (pa_cons (pv 1) (pa_cons (pe_tup (pa_cons (pe_bltn (v := .ty "tuple") (by rfl) T.tuple (by decide +kernel) rfl) (pa_cons (pe_bltn (v := .ty "list") (by rfl) T.list (by decide +kernel) rfl) pa_nil))) pa_nil)))) (pss_cons (ps_if (PW.pt (pw_or (pt_not (pt_val (pe_callB call_isiT (by rfl) T.isinst (by decide +kernel) (pa_cons (pv 0) (pa_cons (pe_tup (pa_cons (pe_bltn (v := .ty "tuple") (by rfl) T.tuple (by decide +kernel) rfl) (pa_cons (pe_bltn (v := .ty "list") (by rfl) T.list (by decide +kernel) rfl) pa_nil))) pa_nil))))) (pw_or1 (pt_cmpR op_ne (pe_callB call_isi (by rfl) T.isinst (by decide +kernel) (pa_cons (pv 0) (pa_cons (pe_bltn (v := .ty "list") (by rfl) T.list (by decide +kernel) rfl) pa_nil))) (pe_callB call_isi (by rfl) T.isinst (by decide +kernel) (pa_cons (pv 1) (pa_cons (pe_bltn (v := .ty "list") (by rfl) T.list (by decide +kernel) rfl) pa_nil))) (nomark _))))) (pss_one (ps_ret pe_bl)) pss_nil) (pss_cons (ps_if (pt_cmpR op_ne (pe_callB call_len_seq (by rfl) T.len PySem.boot_len (pa_cons (pv 0) pa_nil)) (pe_callB call_len_seq (by rfl) T.len PySem.boot_len (pa_cons (pv 1) pa_nil)) (nomark _)) (pss_one (ps_ret pe_bl)) pss_nil) (pss_one (ps_ret (pe_cmpR (op_eqD hr.units) (pe_lc (own := [("_law_k", 2)]) (g := gName 2) (te := tVar 2) (tt := tNot (tB (tCall (spAlike d) [] E0 (tCons (tOp (rIx K) (tVar 0) (tVar 2)) (tCons (tOp (rIx K) (tVar 1) (tVar 2)) tNil))))) (by rfl) scAlike.nd (pi_range1 rfl T.range (pa_cons (pe_callB call_len_seq (by rfl) T.len PySem.boot_len (pa_cons (pv 1) pa_nil)) pa_nil)) (blkOk_by (own := [("_law_k", 2)]) (N := nAlike) (sc := defScope sAlike) (by decide +kernel)) (fun _ _ _ _ _ => (pg_name (i := 2) scAlike.nd rfl (Or.inl rfl))) (fun _ _ _ _ _ => pts_one (pt_not (pt_val (pe_call GF hr rfl gF F.kp bF .nil pass0 (pa_cons (pe_ix ix_seq (pv 0) (pv 2) (fun _ _ => rfl)) (pa_cons (pe_ix ix_seq (pv 1) (pv 2) (fun _ _ => rfl)) pa_nil)))))) (fun _ _ _ _ _ => pv 2)) (pe_lst pa_nil) (nomark _)))))) pss_nil) (pss_cons (ps_if (pt_cmpR op_isN (pv 1) pe_non (nomark _)) (pss_one (ps_ret (pe_cmpR op_isN (pv 0) pe_non (nomark _)))) pss_nil) (pss_cons (ps_if (pt_val (pe_callB call_isi (by rfl) T.isinst (by decide +kernel) (pa_cons (pv 1) (pa_cons (pe_bltn (v := .ty "str") (by rfl) T.str (by decide +kernel) rfl) pa_nil)))) (pss_one (ps_ret (pe_and (pe_callB call_isi (by rfl) T.isinst (by decide +kernel) (pa_cons (pv 0) (pa_cons (pe_bltn (v := .ty "str") (by rfl) T.str (by decide +kernel) rfl) pa_nil))) (pe_one (pe_cmpR op_eq (pv 0) (pv 1) (nomark _)))))) pss_nil) (pss_cons (ps_if (PW.pt (pw_or (pt_val (pe_callB call_isi (by rfl) T.isinst (by decide +kernel) (pa_cons (pv 1) (pa_cons (pe_bltn (v := .ty "bool") (by rfl) T.bool (by decide +kernel) rfl) pa_nil)))) (pw_or1 (pt_val (pe_callB call_isi (by rfl) T.isinst (by decide +kernel) (pa_cons (pv 0) (pa_cons (pe_bltn (v := .ty "bool") (by rfl) T.bool (by decide +kernel) rfl) pa_nil))))))) pss_never pss_nil) (pss_one (ps_ret (pe_and (pe_callB call_isi (by rfl) T.isinst (by decide +kernel) (pa_cons (pv 0) (pa_cons (pe_bltn (v := .ty "int") (by rfl) T.int (by decide +kernel) rfl) pa_nil))) (pe_one (pe_cmpR op_eq (pv 0) (pv 1) (nomark _)))))))))), ?_⟩
      rcases hR with (⟨i, rfl, rfl⟩ | ⟨a, rfl, rfl⟩) | ⟨a, b, xs, ys, rfl, rfl, hab, hl, hl2, hR⟩
      · refine ⟨_, rfl, sm (by show 2 ≤ 1000; decide), fun q hq => ?_⟩
        refine ⟨V.int i, q, _, _, _, false, rfl, upd_same, .cons (.ty _) (.cons (.ty _) .nil), tyInt, kit2 (a := "int") (b := "tuple") (c := "list") (r1 := false) (r2 := false) (by decide +kernel) (by decide +kernel), _, rfl, iteF ?_⟩
        have s1 := Same.new (HO.tup [V.ty "tuple", V.ty "list"]) hq
        refine ⟨_, rfl, rfl, _, rfl, iteF ?_⟩
        refine ⟨_, rfl, _, _, _, _, false, rfl, by first | exact .ty _ | constructor, tyInt, kit_ty (by decide +kernel), _, rfl, iteF ?_⟩
        refine ⟨_, rfl, _, _, _, _, false, rfl, by first | exact .ty _ | constructor, tyInt, kit_ty (by decide +kernel), _, rfl, iteF ?_⟩
        refine ⟨_, rfl, _, _, _, _, false, rfl, by first | exact .ty _ | constructor, tyInt, kit_ty (by decide +kernel), _, rfl, iteF ?_⟩
        refine ⟨_, rfl, _, _, _, _, true, rfl, by first | exact .ty _ | constructor, tyInt, kit_ty (by decide +kernel), _, rfl, iteT ?_⟩
        refine ⟨_, rfl, _, rfl, rfl, ?_⟩
        rw [decide_eq_true (show V.int i = V.int i from rfl)]
        exact k _ s1
      · refine ⟨_, rfl, sm (by show 2 ≤ 1000; decide), fun q hq => ?_⟩
        refine ⟨V.str a, q, _, _, _, false, rfl, upd_same, .cons (.ty _) (.cons (.ty _) .nil), .base (.str a), kit2 (a := "str") (b := "tuple") (c := "list") (r1 := false) (r2 := false) (by decide +kernel) (by decide +kernel), _, rfl, iteF ?_⟩
        have s1 := Same.new (HO.tup [V.ty "tuple", V.ty "list"]) hq
        refine ⟨_, rfl, rfl, _, rfl, iteF ?_⟩
        refine ⟨_, rfl, _, _, _, _, true, rfl, by first | exact .ty _ | constructor, .base (.str a), kit_ty (by decide +kernel), _, rfl, iteT ?_⟩
        refine ⟨_, rfl, _, _, _, _, true, rfl, by first | exact .ty _ | constructor, .base (.str a), kit_ty (by decide +kernel), _, rfl, iteT ?_⟩
        refine ⟨_, rfl, _, rfl, rfl, ?_⟩
        rw [decide_eq_true (show V.str a = V.str a from rfl)]
        exact k _ s1
      · refine ⟨_, rfl, sm (by show 2 ≤ 1000; decide), fun q hq => ?_⟩
        have s1 := Same.new (HO.tup [V.ty "tuple", V.ty "list"]) hq
        have hq1 : upd H q (.tup [V.ty "tuple", V.ty "list"]) q = some (.tup [V.ty "tuple", V.ty "list"]) := upd_same
        generalize upd H q (.tup [V.ty "tuple", V.ty "list"]) = H1 at s1 hq1
        obtain ⟨tn, tb, kb, h1⟩ : ∃ (tn : String) (tb : Bool), PySem.W.kitAny K (.type tn) [.type "tuple", .type "list"] = some true ∧ (PySem.W.kitOne K (.type tn) (.type "list") = some tb ∧ ∀ H2, Same H H2 → TyX K H2 (.ref a) (.type tn) ∧ TyX K H2 (.ref b) (.type tn)) := by
          rcases hab with ⟨ha, hb⟩ | ⟨ha, hb⟩
          · exact ⟨"tuple", false, kit2 (r1 := true) (r2 := false) (by decide +kernel) (by decide +kernel), kit_ty (by decide +kernel), fun H2 s => ⟨.base (.tup (s _ _ ha)), .base (.tup (s _ _ hb))⟩⟩
          · exact ⟨"list", true, kit2 (r1 := false) (r2 := true) (by decide +kernel) (by decide +kernel), kit_ty (by decide +kernel), fun H2 s => ⟨.base (.lst (s _ _ ha)), .base (.lst (s _ _ hb))⟩⟩
        have sq : ∀ H2, Same H H2 → (SqL K H2 a xs ∨ SqT K H2 a xs) ∧ (SqL K H2 b ys ∨ SqT K H2 b ys) := fun H2 s => by
          rcases hab with ⟨ha, hb⟩ | ⟨ha, hb⟩
          · exact ⟨.inr (SqT.of (s _ _ ha)), .inr (SqT.of (s _ _ hb))⟩
          · exact ⟨.inl (SqL.of (s _ _ ha)), .inl (SqL.of (s _ _ hb))⟩
        refine ⟨V.ref b, q, _, _, _, true, rfl, hq1, .cons (.ty _) (.cons (.ty _) .nil), (h1.2 H1 s1).2, kb, _, rfl, iteT ?_⟩
        refine ⟨_, rfl, sm (by show 2 ≤ 1000; decide), fun q2 hq2 => ?_⟩
        have s2 := s1.trans (Same.new (HO.tup [V.ty "tuple", V.ty "list"]) hq2)
        have hq22 : upd H1 q2 (.tup [V.ty "tuple", V.ty "list"]) q2 = some (.tup [V.ty "tuple", V.ty "list"]) := upd_same
        generalize upd H1 q2 (.tup [V.ty "tuple", V.ty "list"]) = H2 at s2 hq22
        refine ⟨V.ref a, q2, _, _, _, true, rfl, hq22, .cons (.ty _) (.cons (.ty _) .nil), (h1.2 H2 s2).1, kb, _, rfl, iteF ?_⟩
        refine ⟨_, rfl, _, _, _, _, tb, rfl, by first | exact .ty _ | constructor, (h1.2 H2 s2).1, h1.1, _, rfl, _, _, _, _, tb, rfl, by first | exact .ty _ | constructor, (h1.2 H2 s2).2, h1.1, rfl, _, rfl, ?_⟩
        rw [decide_eq_true (show V.bl tb = V.bl tb from rfl)]
        refine iteF ?_
        refine ⟨_, rfl, a, xs, rfl, (sq H2 s2).1, _, rfl, b, ys, rfl, (sq H2 s2).2, rfl, _, rfl, ?_⟩
        rw [hl, decide_eq_true (show V.int (ys.length : Nat) = V.int (ys.length : Nat) from rfl)]
        refine iteF ?_
        refine ⟨_, rfl, b, ys, rfl, (sq H2 s2).2, (ys.length : Nat), rfl, by omega, by omega, fun D hD => ?_⟩
        have hD0 := s2.free hD
        refine lc_range (lo := 0) (n := ((ys.length : Nat) : Int).toNat) (fun j H3 => Same H H3 ∧ H3 D = some (.lst (([] : List Int).map V.int))) ⟨s2.trans (Same.new _ hD), upd_same⟩ ?_ ?_
        · rintro j H3 hj ⟨s3, hD3⟩
          rw [Int.zero_add]
          have hj : j < ys.length := by simpa using hj
          have ey : ys[j]? = some ys[j] := List.getElem?_eq_getElem hj
          have ex : xs[j]? = some xs[j] := List.getElem?_eq_getElem (by omega)
          have hr := hR j _ _ ex ey
          refine ⟨rfl, ?_⟩
          have fin : ∀ H4, Same H3 H4 → ∃ kk, V.bl true = .bl kk ∧ (if (!kk) = true then tVar 2 (wipe ([some (V.ref a), some (V.ref b), none] : L2.St) [2] |>.set 2 (some (V.int (j : Nat)))) H4 (fun y H5 => ∃ acc, H5 D = some (.lst acc) ∧ acc.length < sizeLine ∧ (Same H (upd H5 D (.lst (acc ++ [y]))) ∧ (upd H5 D (.lst (acc ++ [y]))) D = some (.lst (([] : List Int).map V.int)))) else (Same H H4 ∧ H4 D = some (.lst (([] : List Int).map V.int)))) := fun H4 s4 =>
            ⟨true, rfl, iteF ⟨s3.trans s4, s4 _ _ hD3⟩⟩
          have ia : ∀ {Q : VK}, Q xs[j] H3 → rIx K (.ref a) (.int (j : Nat)) H3 Q := fun {Q} hQ => by
            rcases (sq H3 s3).1 with h | h
            · exact .inl ⟨_, _, _, _, rfl, rfl, h, at_of (j := j) rfl ex, hQ⟩
            · exact .inr (.inl ⟨_, _, _, _, rfl, rfl, h, at_of (j := j) rfl ex, hQ⟩)
          have ib : ∀ {Q : VK}, Q ys[j] H3 → rIx K (.ref b) (.int (j : Nat)) H3 Q := fun {Q} hQ => by
            rcases (sq H3 s3).2 with h | h
            · exact .inl ⟨_, _, _, _, rfl, rfl, h, at_of (j := j) rfl ey, hQ⟩
            · exact .inr (.inl ⟨_, _, _, _, rfl, rfl, h, at_of (j := j) rfl ey, hQ⟩)
          refine ⟨_, rfl, _, rfl, ia ⟨_, rfl, _, rfl, ib ?_⟩⟩
          exact ⟨xs[j], ys[j], rfl, hr.same s3, fin⟩
        · rintro H3 ⟨s3, hD3⟩
          refine ⟨sm (by show 0 ≤ 1000; decide), fun q4 hq4 => ?_⟩
          have s4 := Same.new (HO.lst []) hq4
          refine eqNil (s4 _ _ hD3) upd_same ?_
          exact k _ (s3.trans s4)
end
end SH
set_option Elab.async false
set_option linter.all false
set_option maxRecDepth 100000
namespace SH
open PySem PySem.Spec PyProof.Rows L2 StX TL
/-! letters as data -/
def ltD (z : Lt) : PyData := .tuple (.str z.word :: z.nums.map PyData.int)
def bkD (zs : List Lt) : PyData := .list (zs.map ltD)
def bsD (zss : List (List Lt)) : PyData := .list (zss.map bkD)
theorem can_ints : ∀ ns : List Int, PyData.canLayAll0 (ns.map PyData.int) = true
  | [] => by simp [PyData.canLayAll0]
  | n :: ns => by simp [PyData.canLayAll0, PyData.canLay0, can_ints ns]
theorem dep_ints : ∀ ns : List Int, PyData.depthAll (ns.map PyData.int) = 0
  | [] => by simp [PyData.depthAll]
  | n :: ns => by simp [PyData.depthAll, PyData.depth, dep_ints ns]
theorem can_all {α : Type} {f : α → PyData} (h : ∀ a, (f a).canLay0 = true) : ∀ l : List α, PyData.canLayAll0 (l.map f) = true
  | [] => by simp [PyData.canLayAll0]
  | a :: l => by simp [PyData.canLayAll0, h a, can_all h l]
theorem dep_all {α : Type} {f : α → PyData} {n : Nat} (h : ∀ a, (f a).depth ≤ n) : ∀ l : List α, PyData.depthAll (l.map f) ≤ n
  | [] => by simp [PyData.depthAll]
  | a :: l => by
    have h1 := h a
    have h2 := dep_all h l
    rw [List.map_cons, PyData.depthAll]
    omega
theorem word_ok (z : Lt) : PyData.strOk z.word = true := by cases z <;> kernel_rfl
theorem lt_can (z : Lt) : (ltD z).canLay0 = true := by
  unfold ltD
  simp [PyData.canLay0, PyData.canLayAll0, word_ok z, can_ints]
theorem lt_dep (z : Lt) : (ltD z).depth ≤ 1 := by
  unfold ltD
  simp [PyData.depth, PyData.depthAll, dep_ints]
theorem bk_can (zs : List Lt) : (bkD zs).canLay0 = true := by
  unfold bkD
  rw [PyData.canLay0]; exact can_all lt_can zs
theorem bk_dep (zs : List Lt) : (bkD zs).depth ≤ 2 := by
  unfold bkD
  rw [PyData.depth]; have := dep_all lt_dep zs; omega
theorem bs_can (zss : List (List Lt)) : (bsD zss).canLay0 = true := by
  unfold bsD
  rw [PyData.canLay0]; exact can_all bk_can zss
theorem bs_dep (zss : List (List Lt)) : (bsD zss).depth ≤ 3 := by
  unfold bsD
  rw [PyData.depth]; have := dep_all bk_dep zss; omega
theorem bk_shaped (zs : List Lt) : SeqAt.shaped (bkD zs) = true := by
  unfold SeqAt.shaped
  rw [bk_can, decide_eq_true (by have := bk_dep zs; omega)]; rfl
theorem bs_shaped (zss : List (List Lt)) : SeqAt.shaped (bsD zss) = true := by
  unfold SeqAt.shaped
  rw [bs_can, decide_eq_true (by have := bs_dep zss; omega)]; rfl
theorem eqv_bkNil (zs : List Lt) : PyData.eqv (bkD zs) (.list []) = decide (zs = []) := by
  cases zs with
  | nil => rfl
  | cons z zs => rfl
theorem dp_row {K : PySem.W.Frag} {H : Hp} : ∀ {ts : List Addr} {zs : List Lt}, RowAt H ts zs → DpAll K H (ts.map V.ref) (zs.map ltD) := by
  intro ts zs h
  unfold RowAt at h
  induction h with
  | nil => exact .nil
  | cons a _ ih => exact .cons (.tup (SqT.of a) (.cons (.str _) (dp_ints _))) ih
theorem dp_books {K : PySem.W.Frag} {H : Hp} {cs : List (Addr × List Addr)} {zss : List (List Lt)} (h : Paired (BookAt H) cs zss) : DpAll K H (cs.map fun c => V.ref c.1) (zss.map bkD) := by
  induction h with
  | nil => exact .nil
  | cons a _ ih => exact .cons (.lst (SqL.of a.1) (dp_row a.2)) ih
/-! a row, word by word -/
def rowAcc (k : Nat) (z : Lt) (j : Nat) : Str := (z.nums.take j).foldl (fun s n => s ++ " " ++ nS n) (nS (k : Nat) ++ " " ++ z.word)
theorem tl_fold (ws : List Str) (s : Str) : tl (ws.foldl (fun (s w : Str) => s ++ " " ++ w) s) = tl s ++ (ws.map fun w => 32 :: tl w).flatten := by
  induction ws generalizing s with
  | nil => simp
  | cons w ws ih =>
    rw [List.foldl_cons, ih, tl_append, tl_append, tl_sp]
    simp
theorem joinL_fold (a : List Nat) (ps : List (List Nat)) : joinL [32] (a :: ps) = a ++ (ps.map fun p => 32 :: p).flatten := by
  induction ps generalizing a with
  | nil => simp [joinL]
  | cons p ps ih =>
    rw [joinL, ih]
    simp
theorem rowAcc_eq (k : Nat) (z : Lt) : rowAcc k z z.nums.length = rowS (k : Nat) z := by
  refine ext_tl ?_
  unfold rowAcc rowS wordsS
  rw [List.take_length, tl_joinT, tl_sp]
  have e : z.nums.foldl (fun s n => s ++ " " ++ nS n) (nS (k : Nat) ++ " " ++ z.word) = (z.word :: z.nums.map nS).foldl (fun (s w : Str) => s ++ " " ++ w) (nS (k : Nat)) := by
    rw [List.foldl_cons, List.foldl_map]
  rw [e, tl_fold]
  show _ = joinL [32] (tl (nS (k : Nat)) :: (z.word :: z.nums.map nS).map tl)
  rw [joinL_fold]
  refine congrArg (fun x => tl (nS (k : Nat)) ++ List.flatten x) ?_
  rw [List.map_map]; rfl
theorem rowAcc_succ {k : Nat} {z : Lt} {j : Nat} {n : Int} (h : z.nums[j]? = some n) : rowAcc k z (j + 1) = rowAcc k z j ++ " " ++ nS n := by
  unfold rowAcc
  rw [List.take_add_one, h, List.foldl_append]; rfl
theorem len_app (x y : Str) : (x ++ y).length = x.length + y.length := by
  rw [← len_tl, tl_append, List.length_append, len_tl, len_tl]
theorem sp_len : (" " : Str).length = 1 := by kernel_rfl
theorem rowAcc_len {k : Nat} {z : Lt} (hk : k ≤ 4) (hz : z.ok) : ∀ j, (rowAcc k z j).length ≤ 10 + 4 * j
  | 0 => by
    unfold rowAcc
    have h1 := num_short (mem41 (n := (k : Nat)) (by omega) (by omega))
    have h2 := word_short z
    show (nS (k : Nat) ++ " " ++ z.word).length ≤ _
    rw [len_app, len_app, sp_len]; omega
  | j + 1 => by
    have ih := rowAcc_len hk hz j
    cases e : z.nums[j]? with
    | none =>
      have hl := List.getElem?_eq_none_iff.mp e
      have : rowAcc k z (j + 1) = rowAcc k z j := by
        unfold rowAcc
        rw [List.take_of_length_le (by omega), List.take_of_length_le hl]
      rw [this]; omega
    | some n =>
      rw [rowAcc_succ e, len_app, len_app, sp_len]
      have h2 := Lt.num41 hz n (List.mem_of_getElem? e)
      have := num_short (mem41 h2.1 h2.2)
      omega
/-! the last client that told some -/
def manyL (zss : List (List Lt)) (j : Nat) : List Int := ((List.range j).filter fun k => !decide (zss.getD k [] = [])).map fun (k : Nat) => ((k : Nat) : Int) + 1
theorem many_trim {zss : List (List Lt)} {m : Int} (hm : m ∈ manyL zss zss.length ++ [0]) (hle : ∀ y ∈ manyL zss zss.length ++ [0], y ≤ m) : 0 ≤ m ∧ IsTrim zss m.toNat := by
  have h0 : (0 : Int) ≤ m := hle 0 (by simp)
  refine ⟨h0, ?_, fun i zs hi e => ?_, ?_⟩
  · rcases List.mem_append.mp hm with h | h
    · obtain ⟨k, hk, rfl⟩ := List.mem_map.mp h
      have := List.mem_range.mp (List.mem_filter.mp hk).1
      omega
    · rw [List.mem_singleton.mp h]; exact Nat.zero_le _
  · by_cases c : zs = []
    · exact c
    · exfalso
      have hil := (List.getElem?_eq_some_iff.mp e).1
      have : ((i : Nat) : Int) + 1 ∈ manyL zss zss.length ++ [0] := List.mem_append_left _ (List.mem_map.mpr ⟨i, List.mem_filter.mpr ⟨List.mem_range.mpr hil, by
        rw [List.getD_eq_getElem?_getD, e]; show (!decide (zs = [])) = true; rw [decide_eq_false c]; rfl⟩, rfl⟩)
      have := hle _ this
      omega
  · rcases List.mem_append.mp hm with h | h
    · obtain ⟨k, hk, rfl⟩ := List.mem_map.mp h
      obtain ⟨h1, h2⟩ := List.mem_filter.mp hk
      have h1 := List.mem_range.mp h1
      refine .inr ⟨zss[k], ?_, ?_⟩
      · have : (((k : Nat) : Int) + 1).toNat - 1 = k := by omega
        rw [this]; exact List.getElem?_eq_getElem h1
      · intro z
        rw [List.getD_eq_getElem?_getD, List.getElem?_eq_getElem h1] at h2
        have h2 : (!decide (zss[k] = [])) = true := h2
        rw [decide_eq_true z] at h2; cases h2
    · rw [List.mem_singleton.mp h]; exact .inl rfl
theorem rd_books {H : Hp} {a b : Addr} {cs cs' : List (Addr × List Addr)} {zss : List (List Lt)} (h : BooksAt H a cs zss) (h' : BooksAt H b cs' zss) (bo : BooksOk zss) : RD H 3 (.ref a) (.ref b) := by
  have l1 := paired_len h.2
  have l2 := paired_len h'.2
  have b1 := bo.1
  refine .inr ⟨a, b, _, _, rfl, rfl, .inr ⟨h.1, h'.1⟩, by rw [List.length_map, List.length_map, l1, l2], by rw [List.length_map, l2]; omega, fun i x y e1 e2 => ?_⟩
  obtain ⟨c, zs, ec, ez, rfl, bat⟩ := h.ix e1
  obtain ⟨c', zs', ec', ez', rfl, bat'⟩ := h'.ix e2
  rw [ez] at ez'
  obtain rfl := Option.some.inj ez'
  have m1 := paired_len bat.2
  have m2 := paired_len bat'.2
  have hz := bo.2 zs (List.mem_of_getElem? ez)
  refine .inr ⟨c.1, c'.1, _, _, rfl, rfl, .inr ⟨bat.1, bat'.1⟩, by rw [List.length_map, List.length_map, m1, m2], by rw [List.length_map, m2]; omega, fun j x y e1 e2 => ?_⟩
  obtain ⟨t, z, et, ez1, rfl, ht⟩ := bat.2.ix e1
  obtain ⟨t', z', et', ez2, rfl, ht'⟩ := bat'.2.ix e2
  rw [ez1] at ez2
  obtain rfl := Option.some.inj ez2
  refine .inr ⟨t, t', _, _, rfl, rfl, .inl ⟨ht, ht'⟩, rfl, ?_, fun q x y e1 e2 => ?_⟩
  · have := z.nlen
    unfold Lt.vals
    simp only [List.length_cons, List.length_map]; omega
  · rw [e1] at e2
    obtain rfl := Option.some.inj e2
    match q, e1 with
    | 0, e1 => exact .inr ⟨_, (Option.some.inj e1).symm, (Option.some.inj e1).symm⟩
    | q + 1, e1 =>
      have e1 : (z.nums.map V.int)[q]? = some x := e1
      rw [List.getElem?_map] at e1
      cases en : z.nums[q]? with
      | none => rw [en] at e1; cases e1
      | some n => rw [en] at e1; exact .inl ⟨n, (Option.some.inj e1).symm, (Option.some.inj e1).symm⟩
def kp (sp : Sp) : Sp := fun vs H Q E => sp vs H (fun v H' => KeepT H H' → Q v H') E
theorem books_of {H : Hp} {L : Cells} {D : Addr} {cs : List (Addr × List Addr)} {zss : List (List Lt)} (g : Has H (L ++ bkCells D cs)) (p : Paired (fun (c : Addr × List Addr) (zs : List Lt) => RowAt H c.2 zs) cs zss) : BooksAt H D cs zss := by
  refine ⟨g.get 0 rfl, ?_⟩
  have hc : ∀ c ∈ cs, H c.1 = some (.lst (c.2.map V.ref)) := fun c hc => g.mem (List.mem_append_right _ (List.mem_cons_of_mem _ (List.mem_map.mpr ⟨c, hc, rfl⟩)))
  clear g
  induction p with
  | nil => exact .nil
  | cons r _ ih => exact .cons ⟨hc _ List.mem_cons_self, r⟩ (ih fun c h => hc c (List.mem_cons_of_mem _ h))
end SH
set_option Elab.async false
set_option linter.all false
set_option maxRecDepth 100000
set_option maxHeartbeats 0
/-! k18: BadText(line): what is made -/
namespace PySem
namespace BTX
open PySem.W PySem.Calls PyProof.Rows PySem.HandSPX
abbrev sBT : Stmt := L2.inClass (SH.top 8) 0
abbrev btFn (cc cda : Addr) (doc pm ct : Value) (an : Option Addr) : FuncData := fnX "__init__" "BadText.__init__" (L2.defArgs sBT) (L2.defBody sBT) (L2.defScope sBT) [("__class__", cc)] .none .none doc pm an (.ref cda) ct
/-- what the written part says of BadText, at C, and of its __init__, at fI -/
structure BtTxt (prog : Program) (K : Frag) (mg : Str → Option Value) (C fI : Addr) : Prop where
  gC : mg "BadText" = some (.ref C)
  cls : ∃ nm q N bs bm sn sub ab col dd k0 k1 k2 k3 k5, K.lookup C = some (excClassObj nm q C N bs bm true sn sub ab col dd k0 k1 k2 k3 k5 "ValueError.__new__") ∧ refsVE bm = true ∧ alongIn K "__init__" bm = some (some (.builtin "ValueError.__init__"))
  sa : findIn K (.ref C) "__setattr__" = some (some (.builtin "object.__setattr__"))
  ga : findIn K (.ref C) "__getattribute__" = some (some (.builtin "BaseException.__getattribute__"))
  gg : findIn K (.ref C) "__getattr__" = some none
  noN : findIn K (.ref C) "line" = some none
  iC : findIn K (.ref C) "__init__" = some (some (.ref fI))
  tC : typeIn K (.ref fI) = some (.type "function")
  kC : keepIn K (.ref C) = true
  exC : subIn K (.ref C) (.type "BaseException") = some true
  veC : subIn K (.ref C) (.type "ValueError") = some true
  meC : mroIn K C (.ref C) = some true
  tyC : typeIn K (.ref C) = some (.type "type")
  hdC : hasDictIn K C = true
  sup : mg "super" = none
  st : nsIn K cStatics "thirdparty.any" = some none
  top : (prog.main.scope.names.lookup ("super" : Str)).isSome = false
  fn : ∃ (oc ccl cl : Value) (od cdd cld an : Option Addr) (doc pm ct : Value) (osl ccs csl : Array (Option Value)) (cc cda : Addr) (vs : Array Value) (file : Str) (tf : Tok),
    K.lookup fI = some ⟨oc, od, .func (btFn cc cda doc pm ct an), osl⟩ ∧ codeIn K (.ref cda) "BadText.__init__" = true ∧ K.lookup cda = some ⟨ccl, cdd, .fields vs, ccs⟩ ∧ vs[2]? = some (.str file tf) ∧ ((prog.main.file : Str) == file) = true ∧ K.lookup cc = some ⟨cl, cld, .cell (some (.ref C)), csl⟩
def mBT (x v : Value) : Str → Option Value := fun y => List.lookup y [(("self" : Str), x), (("line" : Str), v)].reverse
/-- what __init__ leaves of a fresh exception at x -/
structure InitEnd (h h' : Heap) (x C dx t1 : Addr) (v : Value) : Prop where
  keep : ∀ b o, b ≠ x → h.get? b = some o → h'.get? b = some o
  obj : h'.get? x = some { cls := .ref C, dict := some dx, data := .fields #[.ref t1, .none, .none, .none, .bool false, .none] }
  dbig : h.objs.size ≤ dx
  dne : dx ≠ x
  ns : h'.Ns1 dx (fun y => if y = "line" then some v else none)
section
variable {prog : Program} {w : World} {M : Model} {A : Around} {E : Value → Shared → Prop} {h : Heap} {g : Array GenState} {d : Drawn} {t : Nat} {os : OsState}
variable {nm q : Str} {C N : Addr} {bs bm : List Value} {hdct : Bool} {sn : List Str} {sub : List Value} {ab : Bool} {col : Option Bool} {dd : Option Addr} {k0 k1 k2 k3 k5 : Option Value}
/-- the wrapper of ValueError.__init__, called -/
theorem call_mw {u e t0 : Addr} {rest : List Value} {Q : Value → Shared → Prop}
    (hC : h.get? C = some (excClassObj nm q C N bs bm hdct sn sub ab col dd k0 k1 k2 k3 k5 "ValueError.__new__")) (he : h.get? e = some (excO C t0)) (hu : h.get? u = some (kxs_mw "ValueError.__init__" e)) (hrest : rest.length ≤ sizeLine)
    (hq : ∀ h' t1, (∀ b o, b ≠ e → h.get? b = some o → h'.get? b = some o) → h'.get? e = some (excO C t1) → Q .none ⟨h', g, d, t, os⟩) :
    wpAny (model prog w) A (call (.ref u) rest) Q E ⟨h, g, d, t, os⟩ := by
  refine wpAny_call (codeAny_of_tree ?_)
  show wpAny _ A.in1 (callAny (.ref u) ⟨rest, []⟩) _ _ _
  simp only [callAny]
  refine wpAny_bind (wpAny_load hu ?_)
  simp only [kxs_mw, show (Value.type "method-wrapper" == Value.type "method" || Value.type "method-wrapper" == Value.type "builtin_function_or_method" || Value.type "method-wrapper" == Value.type "method-wrapper") = true by decide, if_true]
  refine KFB.if_so (by decide) ?_
  refine wpAny_bind (check_bound_init F.excBase_ValueError.toExcCallFacts hC he rfl ?_)
  refine wpAny_bind (wpAny_pure (wpAny_pure ?_))
  refine ⟨plainId_quiet F.excBase_ValueError.init.plain _, codeAny_builtin F.excBase_ValueError.initEntry ?_⟩
  exact exc_init_tree (cls := .ref C) (t0 := t0) (dv := none) (c2 := .none) (c3 := .none) (b4 := .bool false) he hrest fun h' k e' _ => hq h' _ k e'
end
theorem z2_of {a b : Str} (ha : a.length ≤ 1000) (hb : b.length ≤ 1000) : (a ++ b).length ≤ sizeLine := by
  rw [strLen_append, sizeLine_eq]; omega
theorem z3_of {a b c : Str} (ha : a.length ≤ 1000) (hb : b.length ≤ 1000) (hc : c.length ≤ 1000) : (a ++ b ++ c).length ≤ sizeLine := by
  rw [strLen_append, strLen_append, sizeLine_eq]; omega
theorem z4_of {a b c d : Str} (ha : a.length ≤ 1000) (hb : b.length ≤ 1000) (hc : c.length ≤ 1000) (hd : d.length ≤ 1000) : (a ++ b ++ c ++ d).length ≤ sizeLine := by
  rw [strLen_append, strLen_append, strLen_append, sizeLine_eq]; omega
theorem kSup : (L2.defScope sBT).names.lookup ("super" : Str) = some NameKind.globalImplicit := by decide +kernel
theorem kCls : (L2.defScope sBT).names.lookup ("__class__" : Str) = some NameKind.free := by decide +kernel
theorem kSelf : (L2.defScope sBT).names.lookup ("self" : Str) = some NameKind.local := by decide +kernel
theorem kLine : (L2.defScope sBT).names.lookup ("line" : Str) = some NameKind.local := by decide +kernel
section
variable {prog : Program} {w : World} {A : Around} {E : Value → Shared → Prop} {R : Result → Shared → Prop} {s : Shared} {K : Frag} {mg : Str → Option Value} {C fI : Addr}
theorem bt_init {mb : Str → Option Value} (T : BtTxt prog K mg C fI) {x t0 : Addr} {i : Int} {tk0 : Tok} (X : K.In s.heap) (hG : s.heap.Ns mainGlobals mg) (hB : s.heap.Ns builtinsNs mb) (hmb : mb "super" = some (.type "super")) (hlim : s.heap.NoLimit) (hx : s.heap.get? x = some (excO C t0)) (hnx : K.lookup x = none) (hroom : A.depth < recursionLimit) (hi : i.natAbs.log2 < 1920) (hil : (Str.ofString (toString i)).length ≤ 1000)
    (hq : ∀ h' tk dx t1, InitEnd s.heap h' x C dx t1 (.int i tk0) → R (.ok (.ret .none)) { s with heap := h', toks := tk }) :
    codeAny (model prog w) A (.call (.ref fI) ⟨[.ref x, .int i tk0], []⟩) R s := by
  obtain ⟨oc, ccl, cl, od, cdd, cld, an, doc, pm, ct, osl, ccs, csl, cc, cda, vs, file, tf, ho, hcd, hcode, hvs, hfile, hcell⟩ := T.fn
  obtain ⟨nm, q, N, bs, bm, sn, sub, ab, col, dd, k0, k1, k2, k3, k5, hC, hbm, hal⟩ := T.cls
  have hcl : clsIn K C = some { name := nm, bases := bs, mro := .ref C :: bm, ns := N, qualname := q, hasDict := true, slotNames := sn, subclasses := sub, abstract := ab, collection := col, hasDel := false } := by unfold clsIn; rw [hC] <;> rfl
  refine ks_codeAny_call_defAt (fd := btFn cc cda doc pm ct an) (body := L2.defBody sBT) (binds := [("self", .ref x), ("line", .int i tk0)]) hroom (X _ _ ho) rfl hlim (codeRec_of X hcd) rfl (BindsTo.of_eq (by first | rfl | with_unfolding_all rfl)) (show ∀ x ∈ (L2.defScope sBT).names, x.2 ≠ .cell by decide +kernel) (fun y hy => ?_) (fun h₁ hn k => ?_)
  · rcases List.mem_cons.mp hy with rfl | hy
    · exact (by decide +kernel : (L2.defScope sBT).names.lookup ("self" : Str) = some NameKind.local)
    · rw [List.mem_singleton.mp hy]
      exact (by decide +kernel : (L2.defScope sBT).names.lookup ("line" : Str) = some NameKind.local)
  obtain ⟨hp, gs, dr, tk, os⟩ := s
  have hxL : hp.objs.size ≠ x := Nat.ne_of_gt (Heap.lt_size hx)
  have X₁ : K.In h₁ := X.keeps k
  have hx₁ := k _ _ hx
  have hC₁ := X₁ _ _ hC
  have hxC : x ≠ C := fun z => by
    have hC' : K.lookup C = some _ := hC
    rw [← z, hnx] at hC'; cases hC'
  have hn : h₁.Ns hp.objs.size (mBT (.ref x) (.int i tk0)) := hn
  have ms : mBT (.ref x) (.int i tk0) "self" = some (.ref x) := by kernel_rfl
  have ml : mBT (.ref x) (.int i tk0) "line" = some (.int i tk0) := by kernel_rfl
  generalize mBT (.ref x) (.int i tk0) = m at hn ms ml
  -- super().__init__(f"..")
  refine ks_wpAt_execs_cons (ks_wpAt_Expr_any (ks_wpAt_MethodCall ?_))
  refine ks_wpAt_super_base (env := callEnv (btFn cc cda doc pm ct an) hp.objs.size fI) kSup kCls (by decide +kernel) rfl (k _ _ (X _ _ ho)) rfl rfl rfl (X₁ _ _ hcode) rfl hvs hfile T.top ?_
  refine ks_loadName_global rfl kSup (loadGlobal_builtin (hG.keeps k) T.sup (hB.keeps k) hmb ⟨rfl, ?_⟩)
  refine wpAny_loadName_free rfl kCls rfl ⟨_, X₁ _ _ hcell, rfl⟩ ?_
  refine wpAny_loadName_local rfl kSelf hn ms ?_
  refine ks_wpAny_isType_cls hC₁ rfl ⟨rfl, ?_⟩
  refine ks_wpAny_call_super hC₁ rfl hx₁ rfl (fun c e => by cases e) (looks_mroIn X₁ T.meC) (fun h₂ hso k₂ => ?_)
  have X₂ : K.In h₂ := X₁.keeps k₂
  have hx₂ := k₂ _ _ hx₁
  have I₂ : InstAt h₂ x (excO C t0) C none := ⟨hx₂, rfl, rfl, trivial⟩
  refine kxs_getMethod kxs_ValueError hso (looks_opaque X₂ T.st) (l₀ := .ref C :: bm) (l := bm) (fun A Q E s k q => wpAny_bind ((looks_clsIn X₂ hcl) A _ E s k (wpAny_pure q))) (by simp [List.dropWhile_cons]) X₂ hal (I₂.type.andThen (looks_subIn X₂ T.veC)) hxC (by decide +kernel) ?_
  have hmw : (h₂.push (kxs_mw "ValueError.__init__" x)).get? h₂.objs.size = some (kxs_mw "ValueError.__init__" x) := Heap.get?_push_at rfl rfl
  have k₃ : ∀ b o, h₂.get? b = some o → (h₂.push (kxs_mw "ValueError.__init__" x)).get? b = some o := fun b o e => Heap.get?_push_of_some _ e
  generalize h₂.push (kxs_mw "ValueError.__init__" x) = h₃ at hmw k₃ ⊢
  refine kxs_callWith (i := "ValueError.__init__") (x := x) rfl ?_
  refine evalArgs_plain (spliced_cons ?_)
  rw [if_neg (by decide)]
  refine JoinedStr_many (joinParts_cons ?_)
  have l0 : Str.empty.length ≤ 1000 := by decide +kernel
  have l1 : (Str.ofString "row ").length ≤ 1000 := by decide +kernel
  have l2 : (Str.ofString " is no client's letter").length ≤ 1000 := by decide +kernel
  have z1 := z2_of l0 l1
  have z2 := z3_of l0 l1 hil
  have z3 := z4_of l0 l1 hil l2
  refine Constant_str ⟨z1, joinParts_cons (FormattedValue_plain (wpAny_Name (wpAny_loadName_local rfl kLine ((hn.keeps k₂).keeps k₃) ml ?_)))⟩
  refine formatField_int_small hi ⟨z3_of l0 l1 hil, joinParts_cons (Constant_str ⟨?_, joinParts_nil ?_ ?_⟩)⟩
  · exact z4_of l0 l1 hil l2
  rotate_left
  · exact z4_of l0 l1 hil l2
  refine spliced_nil ⟨hmw, ?_⟩
  refine call_mw (k₃ _ _ (k₂ _ _ hC₁)) (k₃ _ _ hx₂) hmw (by rw [sizeLine_eq]; exact (by decide : 1 ≤ 16777216)) (fun h₄ t1 k₄ hx₄ => ?_)
  -- self.line = line
  have kk : ∀ b o, b ≠ x → hp.get? b = some o → h₄.get? b = some o := fun b o hb e => k₄ b o hb (k₃ _ _ (k₂ _ _ (k _ _ e)))
  have X₄ : K.In h₄ := fun a o e => kk a o (fun z => by rw [z, hnx] at e; cases e) (X a o e)
  have hn₄ : h₄.Ns hp.objs.size m := by
    refine Heap.Ns.at ((hn.keeps k₂).keeps k₃) (fun o e => k₄ _ o hxL e)
  refine ks_wpAt_execs_cons (wpAt_of_wpAny (plainObj_wpAny_Assign_Attribute ?_))
  refine wpAny_Name (wpAny_loadName_local rfl kLine hn₄ ml ?_)
  refine wpAny_Name (wpAny_loadName_local rfl kSelf hn₄ ms ?_)
  refine set_plain X₄ (ox := excO C t1) (od := none) ⟨hx₄, rfl, rfl, trivial⟩ T.sa ?_
  have szl : hp.objs.size ≤ h₄.objs.size := Nat.le_of_lt hn₄.lt
  refine exc_osa X₄ hx₄ hcl (show refsVE (.ref C :: bm) = true from hbm) rfl T.noN (fun h₅ tk₅ dx k₅ dn dne hx₅ hn₅ => ?_)
  refine wpAt_of_wpAny (wpAny_execs_nil ?_)
  exact hq h₅ tk₅ dx t1 ⟨fun b o hb e => k₅ b o hb (kk b o hb e), hx₅, Nat.le_trans szl dn, dne, hn₅⟩
/-- a made BadText -/
structure BtMade (h h' : Heap) (e C d : Addr) (v : Value) : Prop where
  keep : ∀ b o, h.get? b = some o → h'.get? b = some o
  new : h.objs.size ≤ e
  obj : ∃ oe vs, h'.get? e = some oe ∧ oe.cls = .ref C ∧ oe.dict = some d ∧ oe.data = .fields vs ∧ vs[1]? = some .none
  dbig : h.objs.size ≤ d
  dne : d ≠ e
  ns : h'.Ns1 d (fun y => if y = "line" then some v else none)
theorem bt_made {mb : Str → Option Value} (T : BtTxt prog K mg C fI) {i : Int} {tk0 : Tok} (X : K.In s.heap) (hG : s.heap.Ns mainGlobals mg) (hB : s.heap.Ns builtinsNs mb) (hmb : mb "super" = some (.type "super")) (hlim : s.heap.NoLimit) (hroom : A.depth + 1 < recursionLimit) (hi : i.natAbs.log2 < 1920) (hil : (Str.ofString (toString i)).length ≤ 1000)
    (hq : ∀ h' tk e d, BtMade s.heap h' e C d (.int i tk0) → R (.ok (.ret (.ref e))) { s with heap := h', toks := tk }) :
    codeAny (model prog w) A (.call (.ref C) ⟨[.int i tk0], []⟩) R s := by
  obtain ⟨nm, q, N, bs, bm, sn, sub, ab, col, dd, k0, k1, k2, k3, k5, hC, hbm, hal⟩ := T.cls
  obtain ⟨hp, g, dr, tk, os⟩ := s
  have k : ∀ b o, hp.get? b = some o → ((hp.push (kdv_tup [.int i tk0])).push (excO C hp.objs.size)).get? b = some o := fun b o e => Heap.get?_push_of_some _ (Heap.get?_push_of_some _ e)
  have hget : ((hp.push (kdv_tup [.int i tk0])).push (excO C hp.objs.size)).get? (hp.objs.size + 1) = some (excO C hp.objs.size) := by heap_get
  have hnx : K.lookup (hp.objs.size + 1) = none := by
    cases e : K.lookup (hp.objs.size + 1) with
    | none => rfl
    | some o =>
      have z : hp.get? (hp.objs.size + 1) = some o := X _ _ e
      exact absurd (Nat.lt_of_succ_lt (Heap.lt_size z)) (Nat.lt_irrefl _)
  have h1s : [Value.int i tk0].length ≤ sizeLine := by rw [sizeLine_eq]; exact (by decide : 1 ≤ 16777216)
  refine call_own F.excBase_ValueError (fun X => refsVE_contains X bm hbm) (X _ _ hC) (looks_findIn X T.iC) (fun self => bind_fn X self T.tC) h1s ?_
  refine bt_init (s := ⟨(hp.push (kdv_tup [.int i tk0])).push (excO C hp.objs.size), g, dr, tk, os⟩) T (X.keeps k) (hG.keeps k) (hB.keeps k) hmb (hlim.keeps k) hget hnx ?_ hi hil fun h' tk' dx t1 ⟨k', hx, dn, dne, hns⟩ => ?_
  · show A.depth + 1 < recursionLimit
    exact hroom
  · have old : ∀ b o, hp.get? b = some o → h'.get? b = some o := fun b o e => k' b o (Nat.ne_of_lt (Nat.lt_succ_of_lt (Heap.lt_size e))) (k b o e)
    have z : hp.objs.size + 1 + 1 ≤ dx := by
      first
        | (simpa only [Heap.size_push] using dn)
        | exact dn
        | (have q := dn; rw [Heap.size_push, Heap.size_push] at q; exact q)
    exact ⟨rfl, hq h' tk' (hp.objs.size + 1) dx ⟨old, Nat.le_succ _, ⟨_, _, hx, rfl, rfl, rfl, rfl⟩, Nat.le_trans (Nat.le_trans (Nat.le_succ _) (Nat.le_succ _)) z, dne, hns⟩⟩
end
end BTX
end PySem
set_option Elab.async false
set_option linter.all false
set_option maxRecDepth 100000
set_option maxHeartbeats 0
/-! k18: raise BadText(line); e.line -/
namespace L2
open PySem PySem.Spec PyProof.Rows
theorem relO_line {v : V} {v' : Value} (r : RelV v v') (f : Str) : RelO (List.lookup f [(("line" : Str), v)]) (if f = "line" then some v' else none) := by
  by_cases hw : f = "line"
  · subst hw
    rw [if_pos rfl]
    have q : List.lookup ("line" : Str) [(("line" : Str), v)] = some v := by simp [List.lookup]
    rw [q]
    exact r
  · rw [if_neg hw]
    have qw : (f == ("line" : Str)) = false := by simpa using hw
    have q2 : List.lookup f [(("line" : Str), v)] = none := by simp [List.lookup, qw]
    rw [q2]
    trivial
section
variable {X : Cx} {C fI : Addr}
/-- BadText(e), e a small int -/
def tMkBT (C : Addr) (ta : TA) : St → Hp → XK → Prop := fun σ H Q => ta σ H fun vs H1 => ∃ i : Int, vs = [.int i] ∧ 0 ≤ i ∧ i < 100000 ∧ ∀ d, H1 d = none → Q (.ref C) (some d) (upd H1 d (.xd [(("line" : Str), .int i)]))
theorem small_txt {i : Int} (h0 : 0 ≤ i) (h1 : i < 100000) : i.natAbs.log2 < 1920 ∧ (Str.ofString (toString i)).length ≤ 1000 := by
  have h2 : i.natAbs < 2 ^ 17 := by omega
  have hl : i.natAbs.log2 < 17 := by
    by_cases c : i.natAbs = 0
    · rw [c]; decide
    · exact (Nat.log2_lt c).mpr h2
  refine ⟨by omega, ?_⟩
  have := int_text_length_le (a := i) (k := 17) (by decide) hl
  rw [PySem.ofString_length]; omega
theorem pmk_bt {a : Expr} {ta : TA} {p pos : Pos} {k : Nat} (T : PySem.BTX.BtTxt X.prog X.K X.mg C fI) (hr : Room k X.A) (ha : PA X [a] ta) (hg : Gl X "BadText" := by rfl)
    (he : starEach (a :: []) X.env = (false, eval a X.env) :: starEach [] X.env := by rfl) (hpl : (backTo pos (starEach [] X.env)).any (·.1) = false := by rfl) :
    PMk X (.Call (.Name "BadText" p) [a] [] pos) (tMkBT C ta) := by
  intro pins s σ H Q I h
  refine wpAny_Call_Name_kw (ld_glob I hg T.gC ?_)
  refine PySem.W.callWith_K (h₀ := X.base) I.ok.mod.kin T.kC (thn (ha.run pos pins s σ H _ I h) fun us s1 hh => ?_) he hpl
  obtain ⟨vs, H1, I1, r1, i, ev, i0, i1, q1⟩ := hh
  subst ev
  refine ⟨I1.kIn, ?_⟩
  cases r1 with
  | cons rv rn =>
    rename_i v' us'
    cases rn
    obtain ⟨tv, rfl⟩ := rv
    show wpAny _ _ (call (.ref C) [.int i tv]) _ _ _
    have hlim := I1.nolimit
    have hG := I1.mod.glob.keeps I1.bk
    obtain ⟨mb, b1, b2⟩ := I1.mod.blt
    have hB := b1.keeps I1.bk
    obtain ⟨sl, sz⟩ := small_txt i0 i1
    have hmb : mb "super" = some (.type "super") := (b2 "super" (by decide)).trans (by decide +kernel)
    obtain ⟨hp, g, dr, tk, os⟩ := s1
    refine wpAny_call (PySem.BTX.bt_made T I1.kIn hG hB hmb hlim (by have := hr.dp; omega) sl sz fun h' tk' e d M => ?_)
    show MkP X pins σ Q (.ref e) ⟨h', g, dr, tk', os⟩
    obtain ⟨oe, fv, hoe, hc, hd, hdat, h1⟩ := M.obj
    have hns := M.ns
    obtain ⟨G', g1, g2⟩ := restrict h' fun b => decide (b ≠ e)
    have gk : ∀ b, b ≠ e → G'.get? b = h'.get? b := fun b hb => g1 b (decide_eq_true hb)
    have ge : G'.get? e = none := g2 e (by simp)
    have old : ∀ b o, hp.get? b = some o → G'.get? b = some o := fun b o q => (gk b (Nat.ne_of_lt (Nat.lt_of_lt_of_le (Heap.lt_size q) M.new))).trans (M.keep b o q)
    have ob : ObjOk X.prog X.w (upd H1 d (.xd [(("line" : Str), .int i)])) G' d (.xd [(("line" : Str), .int i)]) :=
      ⟨_, hns.at (fun o q => (gk d M.dne).trans q), fun f => relO_line (v := .int i) ⟨tv, rfl⟩ f⟩
    have J : Inv X pins σ (upd H1 d (.xd [(("line" : Str), .int i)])) ⟨G', g, dr, tk', os⟩ := I1.laid (t' := tk') old M.dbig ob
    refine ⟨e, oe, fv, ⟨G', g, dr, tk', os⟩, _, .ref C, some d, rfl, J, fun b o q => ?_, ge, hoe, ⟨hc, hd⟩, hdat, h1, ?_, rfl, I1.bare, raises_own T.exC T.tyC, q1 d (I1.hok.fresh M.dbig)⟩
    · by_cases hb : b = e
      · have q' : G'.get? b = some o := q
        rw [hb, ge] at q'; cases q'
      · exact (gk b hb).symm.trans q
    · rw [upd_ne (Ne.symm M.dne)]
      exact I1.hok.fresh M.new
def tRaiseBT (C : Addr) (W : WX) (ta : TA) : TS := fun _ σ H => tMkBT C ta σ H fun cls d H' => W cls d σ H'
theorem ps_raiseBT {a : Expr} {ta : TA} {W : WX} {p pos pos2 : Pos} {k : Nat} (hc : X.calm = true) (T : PySem.BTX.BtTxt X.prog X.K X.mg C fI) (hr : Room k X.A) (tk : Takes X W) (ha : PA X [a] ta) (hg : Gl X "BadText" := by rfl)
    (he : starEach (a :: []) X.env = (false, eval a X.env) :: starEach [] X.env := by rfl) (hpl : (backTo pos (starEach [] X.env)).any (·.1) = false := by rfl) :
    PS X (.Raise (some (.Call (.Name "BadText" p) [a] [] pos)) none pos2) (tRaiseBT C W ta) := ps_raise hc tk (pmk_bt T hr ha hg he hpl)
/-- e.line, e the exception that the suite holds (at a; its class cls, its dict d) -/
def tLineBT (C : Addr) (a : Addr) (cls : Value) (d : Option Addr) (te : TE) : TE := fun σ H Q => te σ H fun x H1 => x = .ref a ∧ cls = .ref C ∧ ∃ (dd : Addr) (v : V), d = some dd ∧ H1 dd = some (.xd [(("line" : Str), v)]) ∧ Q v H1
theorem pe_lineBT {a : Addr} {oe : Obj} {cls : Value} {d : Option Addr} {pn : List (Addr × Obj)} {e : Expr} {te : TE} {pos : Pos} (T : PySem.BTX.BtTxt X.prog X.K X.mg C fI) (hz : Zc cls d oe) (hf : ∃ vs, oe.data = .fields vs) (he : PE (X.suite a ((a, oe) :: pn)) e te)
    (hb : attributeBase e "line" X.env (eval e X.env) = eval e X.env := by rfl) :
    PE (X.suite a ((a, oe) :: pn)) (.Attribute e "line" pos) (tLineBT C a cls d te) := by
  refine ⟨fun pins s σ H Q I h => ?_⟩
  refine attr_of hb (thn (he.run pins s σ H _ I h) fun u s1 hh => ?_)
  obtain ⟨x, H1, I1, rx, ex, ec, dd, v, ed, ea, q⟩ := hh
  subst ex
  obtain rfl : u = Value.ref a := rx
  subst ec
  subst ed
  obtain ⟨ha, _⟩ := I1.pin (a, oe) (List.mem_append_left _ List.mem_cons_self)
  obtain ⟨vs, hd⟩ := hf
  have hx : ObjOk X.prog X.w H1 s1.heap dd (.xd [(("line" : Str), v)]) := I1.hok dd _ ea
  obtain ⟨mA, hns, hr⟩ := hx
  obtain ⟨od, ho, hl⟩ := lookIn_ns hns
  have l : List.lookup ("line" : Str) [(("line" : Str), v)] = some v := by simp [List.lookup]
  obtain ⟨u, hu, ru⟩ := RelO.some_of (v := v) (o := mA "line") (by rw [← l]; exact hr "line")
  have J : PySem.W.InstAt s1.heap a oe C (some od) := ⟨ha, hz.1, by unfold PySem.W.notCls; rw [hd] <;> rfl, by rw [hz.2]; exact ho⟩
  exact HandSPX.exc_get I1.kIn J T.ga T.gg T.exC (PySem.W.findObj_own T.hdC T.noN rfl (by rw [hl, hu])) (handed_of ru) ⟨v, H1, I1.tok _, ru, q⟩
end
end L2
set_option Elab.async false
set_option linter.all false
set_option maxRecDepth 100000
set_option maxHeartbeats 0
/-! k18: small readings -/
namespace SH
open PySem PySem.Spec PyProof.Rows L2
theorem gname_in {i : Nat} {v : V} {σ : L2.St} {H : Hp} {Q : L2.St → Hp → Prop} (h : Q (σ.set i (some v)) H) : gName i v σ H Q := h
theorem seq_join {a b : TS} {D : Ends} {σ : L2.St} {H : Hp} (Pv : L2.St → Hp → Prop) (hN : ∀ σ' H', Pv σ' H' → b D σ' H') (ha : (∀ σ' H', Pv σ' H' → b D σ' H') → a { D with nx := b D } σ H) : tSeq a b D σ H := ha hN
theorem if_teR {tt : TT} {a b : TE} {σ : L2.St} {H : Hp} {Q : VK} (c : Bool) (R : V → Hp → Prop) (ht : ∀ Q' : Bool → Hp → Prop, Q' c H → tt σ H Q') (h1 : c = true → ∀ Q' : VK, (∀ v H', R v H' → Q' v H') → a σ H Q') (h2 : c = false → ∀ Q' : VK, (∀ v H', R v H' → Q' v H') → b σ H Q') (k : ∀ v H', R v H' → Q v H') : tIf tt a b σ H Q := by
  refine ht _ ?_
  cases c with
  | true => exact iteT (h1 rfl _ k)
  | false => exact iteF (h2 rfl _ k)
theorem seq_setifB {tt : TT} {a b : TE} {i : Nat} {r : TS} {D : Ends} {σ : L2.St} {H : Hp} (RT : Bool → Hp → Prop) (R : V → Hp → Prop) (ht : ∀ Q' : Bool → Hp → Prop, (∀ c H1, RT c H1 → Q' c H1) → tt σ H Q') (h1 : ∀ H1, RT true H1 → ∀ Q' : VK, (∀ v H', R v H' → Q' v H') → a σ H1 Q') (h2 : ∀ H1, RT false H1 → ∀ Q' : VK, (∀ v H', R v H' → Q' v H') → b σ H1 Q') (k : ∀ v H', R v H' → r D (σ.set i (some v)) H') : tSeq (tAsg (tIf tt a b) (gName i)) r D σ H := by
  refine ht _ fun c H1 x => ?_
  cases c with
  | true => exact iteT (h1 H1 x _ k)
  | false => exact iteF (h2 H1 x _ k)
theorem ifs_teB {tt : TT} {a b : TS} {D : Ends} {σ : L2.St} {H : Hp} (R : Bool → Hp → Prop) (ht : ∀ Q' : Bool → Hp → Prop, (∀ c H1, R c H1 → Q' c H1) → tt σ H Q') (h1 : ∀ H1, R true H1 → a D σ H1) (h2 : ∀ H1, R false H1 → b D σ H1) : tIfS tt a b D σ H := by
  refine ht _ fun c H1 r => ?_
  cases c with
  | true => exact iteT (h1 H1 r)
  | false => exact iteF (h2 H1 r)

/-- a list of words is empty or not -/
theorem dp_strs {K : PySem.W.Frag} {H : Hp} : ∀ xs : List Str, DpAll K H (xs.map V.str) (xs.map PyData.str)
  | [] => .nil
  | x :: r => .cons (.str x) (dp_strs r)
theorem eqv_snil (xs : List Str) : PyData.eqv (.list (xs.map PyData.str)) (.list []) = decide (xs = []) := by
  cases xs with
  | nil => rfl
  | cons x r => simp [PyData.eqv, PyData.eqvAll]
def Asc (z : Str) : Prop := ∀ c ∈ z.cps.toList, c < 128
theorem Asc.ok {z : Str} (h : Asc z) : PyData.strOk z = true := by
  unfold PyData.strOk
  rw [← Array.all_toList]
  refine List.all_eq_true.mpr fun c hc => decide_eq_true ?_
  have := h c hc
  omega
theorem can_strs {xs : List Str} (h : ∀ x ∈ xs, Asc x) : PyData.canLayAll0 (xs.map PyData.str) = true := by
  induction xs with
  | nil => rfl
  | cons x r ih => simp [PyData.canLayAll0, PyData.canLay0, ih fun y hy => h y (List.mem_cons_of_mem _ hy), (h x List.mem_cons_self).ok]
theorem dep_strs (xs : List Str) : PyData.depthAll (xs.map PyData.str) ≤ 1 := by
  induction xs with
  | nil => simp [PyData.depthAll]
  | cons x r ih => simp [PyData.depthAll, PyData.depth]; omega
theorem shp_strs {xs : List Str} (h : ∀ x ∈ xs, Asc x) : SeqAt.shaped (.list (xs.map PyData.str)) = true := by
  unfold SeqAt.shaped
  have h1 : (PyData.list (xs.map PyData.str)).canLay0 = true := by simp [PyData.canLay0, can_strs h]
  have h2 : (PyData.list (xs.map PyData.str)).depth ≤ 64 := by
    have := dep_strs xs
    simp [PyData.depth]; omega
  rw [h1, Bool.true_and]; exact decide_eq_true h2
theorem neNilS {K : PySem.W.Frag} {H : Hp} {l q : Addr} {ks : List Str} {Q : VK} (ha : ∀ x ∈ ks, Asc x) (h : H l = some (.lst (ks.map V.str))) (e : H q = some (.lst [])) (k : Q (.bl (!decide (ks = []))) H) : rNeD K (.ref l) (.ref q) H Q := by
  refine ⟨.list (ks.map PyData.str), .list [], .lst (SqL.of h) (dp_strs ks), .lst (SqL.of e) .nil, shp_strs ha, shp_strs (xs := []) (fun x hx => by cases hx), ?_⟩
  rw [eqv_snil]; exact k
end SH
set_option Elab.async false
set_option linter.all false
set_option maxRecDepth 100000
set_option maxHeartbeats 0
/-! k18: d.update(d2); list.count of flat items; isinstance of an exception with a dict of its own -/
namespace L2
open PySem PySem.Spec PyProof.Rows
section
variable {X : Cx}
def rDUpd : V → List V → Hp → VK → Prop := fun x vs H Q => ∃ (a b : Addr) (kvs more : List (Key × V)), x = .ref a ∧ vs = [.ref b] ∧ a ≠ b ∧ H a = some (.dK kvs) ∧ H b = some (.dK more) ∧ kvs.length + more.length ≤ sizeLine ∧ Q .non (upd H a (.dK (mergeK kvs more)))
theorem mtd_update : MtR X "dict.update" rDUpd := by
  intro pins s σ H x vs v us Q I rx rv h
  obtain ⟨a, b, kvs, more, rfl, rfl, nab, ea, eb, hz, q⟩ := h
  cases rx
  obtain ⟨u, rfl, ru⟩ := rv.one
  cases ru
  obtain ⟨z, hd, vs, rel, dd⟩ := dk_of I.hok ea
  obtain ⟨z2, hd2, vs2, rel2, dd2⟩ := dk_of I.hok eb
  refine call_meetsIn PySem.F.slot_dict_update dd.typeIs PySem.F.entry_dict_update (PySem.F.args_dict_update_2 _ _) (meets_dict_update (mixKind X.prog X.w) a b nab hd2)
    ⟨vs, vs2, dd, dd2, by rw [← rel.length, ← rel2.length]; exact hz, fun h' dd' _ hs => ⟨.non, _, ?_, rfl, q⟩⟩
  have he : ∃ q, h'.get? a = some q := let ⟨q, _, _, hq, _⟩ := dd'; ⟨q, hq⟩
  exact d_write (t' := s.toks) I (by rw [ea]; exact True.intro) hs he (dk_new (by have := length_mergeK more kvs; omega) hd (rel2.merge rel) dd')
def rCntF (K : PySem.W.Frag) : V → List V → Hp → VK → Prop := fun x xs H Q => ∃ (p : Addr) (ys : List V) (y : V), x = .ref p ∧ xs = [y] ∧ SqL K H p ys ∧ flatV y = true ∧ ys.all flatV = true ∧ Q (.int (ys.countP fun z => eqV z y : Nat)) H
theorem cnt_eqU {x : V} : ∀ {ys : List V} {us : List Value}, Vals ys us → ys.all flatV = true → us.countP (eqU x) = ys.countP fun z => eqV z x
  | _, _, .nil, _ => rfl
  | y :: ys, u :: us, .cons r t, f => by
    rw [List.all_cons, Bool.and_eq_true] at f
    rw [List.countP_cons, List.countP_cons, cnt_eqU t f.2, eqU_of r f.1]
theorem mt_lcountF : MtR X "list.count" (rCntF X.K) := by
  intro pins s σ H x xs v us Q I rx rxs h
  obtain ⟨p, ys, y, rfl, rfl, hs, fy, fys, q⟩ := h
  cases rx
  obtain ⟨u, rfl, ru⟩ := rxs.one
  obtain ⟨its, rv, ⟨⟨cls, dd, data, sl⟩, n, ho, hc, hdn, hd⟩, hlen⟩ := I.list hs
  simp only at hc hd
  subst hc hd
  refine call_meets PySem.F.slot_list_count ⟨_, ho, rfl⟩ PySem.F.entry_list_count (PySem.F.args_list_count_2 _ _)
    (SeqAt.list_countAt p its.toArray n dd sl u (eqU y)) ⟨ho, fun w hw => mem_eqAt ru fy rv fys w (by simpa using hw), ?_⟩
  refine ⟨.int (ys.countP fun z => eqV z y : Nat), H, I.tok _, ⟨s.toks, ?_⟩, q⟩
  show Value.int ((its.toArray.toList.countP (eqU y) : Nat) : Int) s.toks = _
  rw [show its.toArray.toList = its from rfl, cnt_eqU rv fys]
end
/-- what the class D must say, so that isinstance asks its instances rightly -/
structure ExcD (K : PySem.W.Frag) (D : Addr) : Prop where
  hc : (PySem.W.clsIn K D).isSome = true
  hg : PySem.W.findIn K (.ref D) "__getattribute__" = some (some (.builtin "BaseException.__getattribute__"))
  hk : PySem.W.findIn K (.ref D) "__getattr__" = some none
  hs : PySem.W.subIn K (.ref D) (.type "BaseException") = some true
  ha : PySem.W.findIn K (.ref D) "__class__" = some (some (.builtin "object.__class__"))
  hn : PySem.W.specialIn K (.builtin "object.__class__") "__get__" = some (some (.builtin "getset_descriptor.__get__"))
  ht : PySem.W.takesIn K (.builtin "object.__class__") = some true
  hm : PySem.W.mroIn K D (.type "object") = some true
theorem call_isD {X : Cx} {a D dd : Addr} {oe : Obj} {pn : List (Addr × Obj)} (C : ExcD X.K D) (hz : Zc (.ref D) (some dd) oe) (hf : ∃ vs, oe.data = .fields vs) :
    CallR (X.suite a ((a, oe) :: pn)) (.builtin "isinstance") (fun xs H Q => (∃ v, H dd = some (.xd [(("line" : Str), v)])) ∧ rIsE X.K D a xs H Q) := by
  intro pins s σ H xs us Q I r h
  obtain ⟨⟨v, ea⟩, c, cv, b, rfl, hcv, e, q⟩ := h
  cases r with
  | cons rx rr =>
    cases rr with
    | cons rt rr =>
      cases rr
      cases rx
      have ec := hcv _ rt
      subst ec
      obtain ⟨hget, _⟩ := I.pin (a, oe) (List.mem_append.mpr (.inl List.mem_cons_self))
      obtain ⟨vs, hv⟩ := hf
      have hx : ObjOk X.prog X.w H s.heap dd (.xd [(("line" : Str), v)]) := I.hok dd _ ea
      obtain ⟨mA, hns, hr⟩ := hx
      obtain ⟨od, ho, hl⟩ := lookIn_ns hns
      have J : PySem.W.InstAt s.heap a oe D (some od) := ⟨hget, hz.1, by unfold PySem.W.notCls; rw [hv] <;> rfl, by rw [hz.2]; exact ho⟩
      exact PySem.W.kia_one (PySem.W.kitx_exc C.hc C.hg C.hk C.hs C.ha C.hn C.ht C.hm) I.kIn J e (fun z => nomatch z) fun tk => ⟨.bl b, H, I.kept (t' := tk) fun _ _ z => z, rfl, q⟩
end L2
set_option Elab.async false
set_option linter.all false
set_option maxRecDepth 100000
set_option maxHeartbeats 0
/-! k18: zip of a list and a text -/
namespace RZ
open PySem PySem.Spec PyProof.Rows L2
/-- the list at a as it stands at each turn, and the signs of z, in new pairs -/
def ItzS (K : PySem.W.Frag) (a : Addr) (z : Str) : It :=
  ⟨fun i H => ∃ (xs : List V) (x : V) (c : Nat), SqL K H a xs ∧ xs[i]? = some x ∧ z.cps[i]? = some c,
    fun i H v H' => ∃ (T : Addr) (x : V) (c : Nat), v = .ref T ∧ H T = none ∧ H' = upd H T (.tup [x, .str ⟨#[c]⟩]) ∧ (∀ xs, SqL K H a xs → xs[i]? = some x) ∧ z.cps[i]? = some c,
    fun i H => ∃ xs : List V, SqL K H a xs ∧ i ≤ xs.length ∧ i ≤ z.cps.size ∧ (i = xs.length ∨ i = z.cps.size)⟩
theorem turn_zipS {P : Program} {w : World} {K : PySem.W.Frag} {elts : List Expr} {kk : Nat} {tpos : Pos} {a z TI TO i1 i2 : Addr} {x : Str} {t : Tok} (S : ZipSep2 z TI TO i1 i2 [i1, a] [i2]) :
    Turn P w K (.Tuple elts kk tpos) (ItzS K a x) [z, TI, TO, i1, i2] z (fun i h => IsZip h z TI TO .none ∧ IsTupOf2 h TI (.ref i1) (.ref i2) ∧ (∃ p q, IsTupOf2 h TO p q) ∧ h.IsListIter i1 a i ∧ h.IsStrIter i2 (strIterType x) x t i) where
  mem := by simp
  obj := fun i h st c hc => by
    obtain ⟨hz, hTI, ⟨p, q, hTO⟩, ⟨o1, e1, _, d1⟩, ⟨o2, e2, _, d2⟩⟩ := st
    have e' : c = z ∨ c = TI ∨ c = TO ∨ c = i1 ∨ c = i2 := by simpa using hc
    rcases e' with q | q | q | q | q
    · rw [q]; exact ⟨_, hz, fun v q => nomatch q⟩
    · rw [q]; exact ⟨_, hTI, fun v q => nomatch q⟩
    · rw [q]; exact ⟨_, hTO, fun v q => nomatch q⟩
    · rw [q]; exact ⟨o1, e1, fun v q => by rw [d1] at q; cases q⟩
    · rw [q]; exact ⟨o2, e2, fun v q => by rw [d2] at q; cases q⟩
  keep := fun i h h' st k => by
    obtain ⟨hz, hTI, ⟨p, q, hTO⟩, h1, ⟨o2, e2, r2⟩⟩ := st
    exact ⟨k z (by simp) _ hz, k TI (by simp) _ hTI, ⟨p, q, k TO (by simp) _ hTO⟩, h1.at fun o q => k i1 (by simp) o q, ⟨o2, k i2 (by simp) _ e2, r2⟩⟩
  item := by
    intro X hP hw hK hc i pins s σ H E I hf st hg
    subst hP hw hK
    obtain ⟨hz, hTI, ⟨x0, y0, hTO⟩, h1, h2⟩ := st
    obtain ⟨xs, y, c, hqx, hx, hy⟩ := hg
    obtain ⟨its, rv, p, _⟩ := I.list hqx
    obtain ⟨u, hu, ru⟩ := rv.get hx
    have hu' := (List.getElem?_eq_some_iff.mp hu).1
    have hzl : z < s.heap.objs.size := Heap.lt_size hz
    have hh : X.A.in1.handled = none := I.ok.hd hc
    have nai : a ≠ i1 := fun q => by
      obtain ⟨o, ho, hc1, _⟩ := id h1
      obtain ⟨o', ho', hc2, _⟩ := id p.isList
      rw [q, ho] at ho'
      have e := Option.some.inj ho'
      rw [← e, hc1] at hc2
      injection hc2 with hc2
      exact absurd hc2 (by decide)
    refine wpAny_pyNext_zipD2_item S (Draws.list hh i1 a nai its.toArray) (Draws.text hh i2 x t) hz hTI hTO ⟨h1, p.isList⟩ h2 (by simpa using hu') ((Array.getElem?_eq_some_iff.mp hy).1) fun x1 x2 h' tk hP1 hP2 z' TO' n1 n2 hT hsz hk => ?_
    obtain ⟨c', tu, hc', rfl⟩ := hP2
    obtain rfl : c = c' := by rw [hy] at hc'; exact Option.some.inj hc'
    obtain rfl : u = x1 := by
      have e : its.toArray[i]? = some x1 := hP1
      rw [List.getElem?_toArray, hu] at e
      exact Option.some.inj e
    refine ⟨_, rfl, wpAny_letOwnedTupleGo_zip (s := { s with heap := h', toks := tk }) z' fun h'' z'' sb => ?_⟩
    have hT2 : h''.get? s.heap.objs.size = some { cls := .type "tuple", data := .seq #[u, .str ⟨#[c]⟩ tu] } := (sb.2 _ (Nat.ne_of_gt hzl)).trans hT
    have new : ObjOk X.prog X.w (upd H s.heap.objs.size (.tup [y, .str ⟨#[c]⟩])) h'' s.heap.objs.size (.tup [y, .str ⟨#[c]⟩]) :=
      ⟨by show 2 ≤ sizeLine; decide, [u, .str ⟨#[c]⟩ tu], .cons ru (.cons ⟨tu, rfl⟩ .nil), ⟨_, hT2, rfl, _, rfl⟩⟩
    have I1 : Inv X pins σ (upd H s.heap.objs.size (.tup [y, .str ⟨#[c]⟩])) { s with heap := h'', toks := tk } :=
      I.turnedNew (t' := tk) (ch := [z, TI, TO, i1, i2]) (fun c o hb q => (sb.2 c (fun q' => hb (by simp [q']))).trans (hk c o (fun q' => hb (by simp [q'])) (fun q' => hb (by simp [q'])) (fun q' => hb (by simp [q'])) (fun q' => hb (by simp [q'])) q)) hf (Nat.le_refl _) new
    refine ⟨.ref s.heap.objs.size, _, I1, rfl, ⟨_, y, c, rfl, I.hok.fresh (Nat.le_refl _), rfl, fun l hl => by rw [I.list_inj hl hqx]; exact hx, hy⟩, ⟨z'', ?_, ⟨u, .str ⟨#[c]⟩ tu, ?_⟩, ?_, ?_⟩, fun c hcm => ?_⟩
    · exact (sb.2 _ S.TIz).trans (hk _ _ S.TIz S.TITO S.TIi1 S.TIi2 hTI)
    · exact (sb.2 _ S.TOz).trans TO'
    · exact n1.1.at fun o q => (sb.2 _ (Ne.symm S.zi1)).trans q
    · obtain ⟨o2, e2, r2⟩ := n2
      exact ⟨o2, (sb.2 _ (Ne.symm S.zi2)).trans e2, r2⟩
    · have hlt : c < s.heap.objs.size := by
        have e' : c = z ∨ c = TI ∨ c = TO ∨ c = i1 ∨ c = i2 := by simpa using hcm
        rcases e' with q | q | q | q | q
        · rw [q]; exact hzl
        · rw [q]; exact Heap.lt_size hTI
        · rw [q]; exact Heap.lt_size hTO
        · rw [q]; obtain ⟨_, e1, _⟩ := h1; exact Heap.lt_size e1
        · rw [q]; obtain ⟨_, e2, _⟩ := h2; exact Heap.lt_size e2
      rw [upd_ne (Nat.ne_of_lt hlt)]
      exact (hf c hcm).1
  done := by
    intro X hP hw hK hc i pins s σ H E I hf st hg
    subst hP hw hK
    obtain ⟨hz, hTI, ⟨x0, y0, hTO⟩, h1, h2⟩ := st
    obtain ⟨xs, hqx, hl1, hl2, hend⟩ := hg
    obtain ⟨its, rv, p, _⟩ := I.list hqx
    have l1 := rv.length
    have hh : X.A.in1.handled = none := I.ok.hd hc
    have nai : a ≠ i1 := fun q => by
      obtain ⟨o, ho, hc1, _⟩ := id h1
      obtain ⟨o', ho', hc2, _⟩ := id p.isList
      rw [q, ho] at ho'
      have e := Option.some.inj ho'
      rw [← e, hc1] at hc2
      injection hc2 with hc2
      exact absurd hc2 (by decide)
    have el : its.toArray.size = xs.length := by simp; omega
    exact wpAny_pyNext_zipD2_end S (Draws.list hh i1 a nai its.toArray) (Draws.text hh i2 x t) hz hTI hTO ⟨h1, p.isList⟩ h2 (by rw [el]; exact hl1) hl2 (by rw [el]; exact hend) fun h' tk hk => ⟨rfl, I.turnedL (t' := tk) (ch := [z, TI, TO, i1, i2]) (fun c o hb q =>
      hk c o (fun q' => hb (by simp [q'])) (fun q' => hb (by simp [q'])) (fun q' => hb (by simp [q'])) (fun q' => hb (by simp [q'])) q) hf⟩
  self := fun A i s Q E st h => wpAny_pyIter_zip st.1 h
def iZipS (K : PySem.W.Frag) (ta : TA) : TI := fun σ H R => ta σ H fun vs H1 => ∃ (a : Addr) (x : Str) (xs : List V), vs = [.ref a, .str x] ∧ SqL K H1 a xs ∧ R (ItzS K a x) H1
theorem pi_zipS {X : Cx} {e e2 : Expr} {ta : TA} {p pos tpos : Pos} {elts : List Expr} {kk : Nat} (hg : Gl X "zip") (hm : X.mg "zip" = none) (ha : PA X [e, e2] ta)
    (hs : starEach [e, e2] X.env = (false, eval e X.env) :: starEach [e2] X.env := by rfl) (hpl : (backTo pos (starEach [e2] X.env)).any (·.1) = false := by rfl) :
    PI X (.Tuple elts kk tpos) (.Call (.Name "zip" p) [e, e2] [] pos) (iZipS X.K ta) := by
  refine ⟨fun pins s σ H R I h => ?_⟩
  refine Call_ (ld_blt I hg hm PyProof.Rows.boot_zip (PyProof.Rows.callWith_type1 (thn (ha.run pos pins s σ H _ I h) fun us s1 ⟨vs, H1, I1, r1, q1⟩ => ?_) hs hpl))
  obtain ⟨a, x, xs, ex, hqx, q⟩ := q1
  subst ex
  cases r1 with
  | cons r rr =>
    cases rr with
    | cons r' rr =>
      cases rr
      cases r
      obtain ⟨t, rfl⟩ := r'
      obtain ⟨its, rv, p1, _⟩ := I1.list hqx
      have fresh5 : ∀ c, c ∈ [s1.heap.objs.size + 4, s1.heap.objs.size + 2, s1.heap.objs.size + 3, s1.heap.objs.size, s1.heap.objs.size + 1] → FpOk X pins H1 c := fun c hcm => by
        have hle : s1.heap.objs.size ≤ c := by
          have e' : c = s1.heap.objs.size + 4 ∨ c = s1.heap.objs.size + 2 ∨ c = s1.heap.objs.size + 3 ∨ c = s1.heap.objs.size ∨ c = s1.heap.objs.size + 1 := by simpa using hcm
          rcases e' with z | z | z | z | z
          · rw [z]; exact Nat.le_add_right _ _
          · rw [z]; exact Nat.le_add_right _ _
          · rw [z]; exact Nat.le_add_right _ _
          · rw [z]; exact Nat.le_refl _
          · rw [z]; exact Nat.le_add_right _ _
        exact I1.fpOk hle (I1.hok.fresh hle)
      refine zip_begins2 (begins_list a its.toArray) (begins_text x t) p1.isList trivial fun h' hz hTI hTO h1 h2 hsz hk => wpAny_pyIter_zip hz ?_
      have I2 : Inv X pins σ H1 { s1 with heap := h' } := I1.kept (t' := s1.toks) hk
      exact ⟨s1.heap.objs.size + 4, [s1.heap.objs.size + 4, s1.heap.objs.size + 2, s1.heap.objs.size + 3, s1.heap.objs.size, s1.heap.objs.size + 1], _, _, H1, rfl, I2, turn_zipS (t := t) (zip_sep2 (fp1 := [a]) (fp2 := []) (fun b hb => by rw [List.mem_singleton.mp hb]; exact p1.lt) (fun b hb => by cases hb)), ⟨hz, hTI, ⟨_, _, hTO⟩, ⟨_, h1, rfl, rfl⟩, ⟨_, h2, rfl, rfl⟩⟩, fresh5, q⟩
end RZ
set_option Elab.async false
set_option linter.all false
set_option maxRecDepth 100000
set_option maxHeartbeats 0
/-! k18: words of figures -/
namespace SH
open PySem PySem.Spec PyProof.Rows L2 StX
def mkS (l : List Nat) : Str := ⟨l.toArray⟩
theorem mkS_cps (z : Str) : mkS z.cps.toList = z := by cases z; simp [mkS]
theorem mkS_list (l : List Nat) : (mkS l).cps.toList = l := by simp [mkS]
theorem mkS_len (l : List Nat) : (mkS l).length = l.length := by simp [mkS, Str.length]
def figL : List Nat → List Nat
  | 45 :: r => r
  | l => l
theorem figL_of {c : Nat} {r : List Nat} (h : c ≠ 45) : figL (c :: r) = c :: r := by
  unfold figL
  split
  · rename_i e; exact absurd (List.cons.inj e).1 h
  · rfl
theorem rmp (l : List Nat) : Txt.removeprefix (mkS l) "-" = mkS (figL l) := by
  rw [StrLaws.removeprefix_eq]
  have hy : ("-" : Str).length = 1 := by decide +kernel
  have hc : ("-" : Str).cps = #[45] := by decide +kernel
  rw [hy, mkS_len]
  unfold Builtin.Str.subAt
  rw [hy, hc]
  cases l with
  | nil => rfl
  | cons c r =>
    have e0 : (mkS (c :: r)).cps.extract 0 (0 + 1) = #[c] := by
      apply Array.ext'
      simp [mkS]
    rw [e0]
    by_cases h : c = 45
    · subst h
      rw [if_pos (by simp)]
      show mkS _ = mkS r
      congr 1
      rw [mkS_list]
      simp
    · rw [if_neg (by simp [h]), figL_of h]
def digB (c : Nat) : Bool := decide (48 ≤ c) && decide (c ≤ 57)
def goodL (l : List Nat) : Bool := (decide ((figL l).length = 1) || decide ((figL l).length = 2)) && (figL l).all digB
def canL (l : List Nat) : Bool := decide (l = [48]) || decide ((figL l).head? ≠ some 48)
def digs : List Nat := [48, 49, 50, 51, 52, 53, 54, 55, 56, 57]
def all110 : List (List Nat) := digs.map (fun a => [a]) ++ digs.flatMap fun a => digs.map fun b => [a, b]
def all220 : List (List Nat) := all110 ++ all110.map fun l => 45 :: l
theorem dig_mem {c : Nat} (h : digB c = true) : c ∈ digs := by
  unfold digB at h
  obtain ⟨h1, h2⟩ := Bool.and_eq_true_iff.mp h
  have h1 := of_decide_eq_true h1
  have h2 := of_decide_eq_true h2
  have : c = 48 ∨ c = 49 ∨ c = 50 ∨ c = 51 ∨ c = 52 ∨ c = 53 ∨ c = 54 ∨ c = 55 ∨ c = 56 ∨ c = 57 := by omega
  simp [digs]; omega
theorem mem110 {l : List Nat} (h : l.length = 1 ∨ l.length = 2) (hd : l.all digB = true) : l ∈ all110 := by
  unfold all110
  match l, h, hd with
  | [a], _, hd =>
    refine List.mem_append_left _ (List.mem_map.mpr ⟨a, dig_mem (List.all_eq_true.mp hd a (by simp)), rfl⟩)
  | [a, b], _, hd =>
    refine List.mem_append_right _ (List.mem_flatMap.mpr ⟨a, dig_mem (List.all_eq_true.mp hd a (by simp)), List.mem_map.mpr ⟨b, dig_mem (List.all_eq_true.mp hd b (by simp)), rfl⟩⟩)
  | [], h, _ => rcases h with h | h <;> cases h
  | _ :: _ :: _ :: r, h, _ => rcases h with h | h <;> simp at h
theorem mem220 {l : List Nat} (h : goodL l = true) : l ∈ all220 := by
  unfold goodL at h
  obtain ⟨h1, h2⟩ := Bool.and_eq_true_iff.mp h
  have h1 : (figL l).length = 1 ∨ (figL l).length = 2 := by
    rcases Bool.or_eq_true_iff.mp h1 with x | x
    · exact .inl (of_decide_eq_true x)
    · exact .inr (of_decide_eq_true x)
  have hm := mem110 h1 h2
  unfold all220
  cases l with
  | nil => rcases h1 with h1 | h1 <;> cases h1
  | cons c r =>
    by_cases hc : c = 45
    · subst hc
      exact List.mem_append_right _ (List.mem_map.mpr ⟨r, hm, rfl⟩)
    · rw [figL_of hc] at hm
      exact List.mem_append_left _ hm
def valL (l : List Nat) : Int := (PySem.intText? (mkS l)).getD 0
def fact220 (l : List Nat) : Bool := decide (PySem.intText? (mkS l) = some (valL l)) && (decide (-99 ≤ valL l) && (decide (valL l ≤ 99) && decide (decide (nS (valL l) = mkS l) = canL l)))
theorem all_fact : all220.all fact220 = true := by decide +kernel
theorem good_fact {l : List Nat} (h : goodL l = true) : PySem.intText? (mkS l) = some (valL l) ∧ -99 ≤ valL l ∧ valL l ≤ 99 ∧ decide (nS (valL l) = mkS l) = canL l := by
  have := List.all_eq_true.mp all_fact l (mem220 h)
  unfold fact220 at this
  obtain ⟨h1, h2⟩ := Bool.and_eq_true_iff.mp this
  obtain ⟨h2, h3⟩ := Bool.and_eq_true_iff.mp h2
  obtain ⟨h3, h4⟩ := Bool.and_eq_true_iff.mp h3
  exact ⟨of_decide_eq_true h1, of_decide_eq_true h2, of_decide_eq_true h3, of_decide_eq_true h4⟩
/-- the number that a word says, if it says one -/
def numW (z : Str) : Option Int := if goodL z.cps.toList = true then (if canL z.cps.toList = true then some (valL z.cps.toList) else none) else none
def optV : Option Int → V
  | none => .non
  | some n => .int n
section
variable {P : Program} {w : World} {K : PySem.W.Frag} {mg : Str → Option Value} {base : Heap}
def spNumF : Sp := fun vs H Q _ => ∃ z : Str, vs = [.str z] ∧ z.length ≤ 1000000 ∧ Asc z ∧ ∀ H', Same H H' → Q (optV (numW z)) H'
def spNumA : Sp := fun vs H Q _ => ∃ z : Str, vs = [.str z] ∧ z.length ≤ 1000000 ∧ ∀ H', Same H H' → Q (optV (numW z)) H'
theorem log99 {n : Int} (h0 : -99 ≤ n) (h1 : n ≤ 99) : n.natAbs.log2 < 1920 := by
  have h2 : n.natAbs < 2 ^ 7 := by omega
  by_cases c : n.natAbs = 0
  · rw [c]; decide
  · have := (Nat.log2_lt c).mpr h2
    omega
theorem figs_cps : ("0123456789" : Str).cps.toList = digs := by decide +kernel
theorem dig_iff (c : Nat) : decide (c ∈ ("0123456789" : Str).cps.toList) = digB c := by
  rw [figs_cps]
  by_cases h : digB c = true
  · rw [h]; exact decide_eq_true (dig_mem h)
  · have hf : digB c = false := by simpa using h
    rw [hf]
    refine decide_eq_false fun hm => h ?_
    have : ∀ c ∈ digs, digB c = true := by decide +kernel
    exact this c hm
theorem ok_numA {f : Addr} {fd : FuncData} (F : Fun K "number_of" "number_of" sNum f fd) (T : TxtP mg) : FnOk P w K mg base CX0 1 f fd ["word"] spNumA := by
  obtain ⟨tF, hF⟩ := T.figures
  refine F.ok scNum (fun vs H Q E h => ?_) (fun cdv A0 outer s0 H vs Q E hr h => ?_)
  · obtain ⟨n, rfl, _⟩ := h
    rfl
  · obtain ⟨z, rfl, hz, k⟩ := h
    refine ⟨_, (pss_cons (ps_set (i := 1) scNum.nd rfl (Or.inl rfl) (pe_m1 PySem.F.slot_str_removeprefix PySem.F.type_str_removeprefix mt_removeprefix (pv 0) pe_str)) (pss_cons (ps_if (PW.pt (pw_or (pt_cmpR op_notIn_seq (pe_callB call_len_str (by rfl) T.len PySem.boot_len (pa_cons (pv 1) pa_nil)) (pe_tup (pa_cons pe_int (pa_cons pe_int pa_nil))) (by rfl)) (pw_or1 (pt_not (pt_val (pe_callB (cr_all rfl) (by rfl) T.all (by decide +kernel) (pa_cons (pe_lc (own := [("sign", 3)]) (g := gName 3) (te := tOp (fun x y H Q => ∃ (c : Nat) (z : Str), x = .str ⟨#[c]⟩ ∧ y = .str z ∧ Q (.bl (decide (c ∈ z.cps.toList))) H) (tVar 3) (tC (.str "0123456789"))) (by rfl) scNum.nd (pi_str (pv 1)) (blkOk_by (own := [("sign", 3)]) (N := nNum) (sc := defScope sNum) (by decide +kernel)) (fun _ _ _ _ _ => (pg_name (i := 3) scNum.nd rfl (Or.inl rfl))) (fun _ _ _ _ _ => pts_nil) (fun _ _ _ _ _ => pe_cmpR op_in_sign (pv 3) (pe_glob rfl hF ⟨_, rfl⟩) rfl)) pa_nil))))))) (pss_one (ps_ret pe_non)) pss_nil) (pss_cons (ps_set (i := 2) scNum.nd rfl (Or.inl rfl) (pe_callTy call_int_str (by rfl) T.int (by decide +kernel) (pa_cons (pv 0) pa_nil))) (pss_cons (ps_if (pt_cmpR op_ne (pe_callTy call_strA (by rfl) T.str (by decide +kernel) (pa_cons (pv 2) pa_nil)) (pv 0) (nomark _)) (pss_one (ps_ret pe_non)) pss_nil) (pss_one (ps_ret (pv 2))))))), ?_⟩
    have sm : ∀ {n : Nat}, n ≤ 1000000 → n ≤ sizeLine := fun h => by rw [sizeLine_eq]; omega
    obtain ⟨l, rfl⟩ : ∃ l, z = mkS l := ⟨_, (mkS_cps z).symm⟩
    unfold numW at k
    rw [mkS_list] at k
    rw [mkS_len] at hz
    refine ⟨_, rfl, ⟨_, rfl⟩, _, _, rfl, rfl, sm (by rw [mkS_len]; exact hz), ?_⟩
    rw [rmp]
    have hfl : (mkS (figL l)).length = (figL l).length := mkS_len _
    have hfz : (figL l).length ≤ l.length := by
      unfold figL
      split
      · simp
      · exact Nat.le_refl _
    refine ⟨_, rfl, _, rfl, sm (by omega), sm (by show 2 ≤ 1000000; decide), fun q hq => ?_⟩
    have s1 := Same.new (HO.tup [.int 1, .int 2]) hq
    refine ⟨q, _, rfl, .inr (SqT.of upd_same), rfl, rfl, _, rfl, ?_⟩
    have hin : inV (V.int ((mkS (figL l)).length : Nat)) [.int 1, .int 2] = (decide ((figL l).length = 1) || decide ((figL l).length = 2)) := by
      rw [hfl]
      show (((1 : Int) == (((figL l).length : Nat) : Int)) || (((2 : Int) == (((figL l).length : Nat) : Int)) || false)) = _
      by_cases h1 : (figL l).length = 1
      · rw [h1]; rfl
      · by_cases h2 : (figL l).length = 2
        · rw [h2]; rfl
        · rw [decide_eq_false h1, decide_eq_false h2]
          have e1 : ((1 : Int) == (((figL l).length : Nat) : Int)) = false := by simp; omega
          have e2 : ((2 : Int) == (((figL l).length : Nat) : Int)) = false := by simp; omega
          rw [e1, e2]; rfl
    rw [hin]
    cases hg : (decide ((figL l).length = 1) || decide ((figL l).length = 2)) with
    | false =>
      refine iteT ?_
      have : goodL l = false := by unfold goodL; rw [hg]; rfl
      rw [this] at k
      exact k _ s1
    | true =>
      refine iteF ?_
      refine ⟨_, rfl, _, rfl, fun D hD => ?_⟩
      have hszc : (mkS (figL l)).cps.size = (figL l).length := hfl
      have hl2 : (figL l).length ≤ 2 := by
        rcases Bool.or_eq_true_iff.mp hg with x | x
        · have := of_decide_eq_true x; omega
        · have := of_decide_eq_true x; omega
      refine lc_it (walk_str (z := mkS (figL l))) (fun i H2 => Same H H2 ∧ H2 D = some (.lst ((((figL l).take i).map digB).map V.bl))) ⟨s1.trans (Same.new _ hD), upd_same⟩ (fun _ _ _ _ => trivial) ?_ ?_
      · rintro i x H2 H3 hi ⟨s2, hD2⟩ ⟨rfl, c, hc, rfl⟩
        have hc' : (figL l)[i]? = some c := by
          rw [← Array.getElem?_toList, mkS_list] at hc
          exact hc
        refine ⟨rfl, _, rfl, c, _, rfl, rfl, ?_⟩
        rw [dig_iff]
        refine ⟨_, hD2, ?_, Same.mut _ s2 (s1.free hD), ?_⟩
        · rw [List.length_map, List.length_map, List.length_take]
          exact small1000 (by omega)
        · rw [upd_same, List.take_add_one, hc', List.map_append, List.map_append]; rfl
      · rintro H2 ⟨s2, hD2⟩
        rw [hszc, List.take_length] at hD2
        refine ⟨D, _, rfl, SqL.of hD2, ?_⟩
        have ha : ((figL l).map digB).all id = (figL l).all digB := by rw [List.all_map]; rfl
        rw [ha]
        cases hall : (figL l).all digB with
        | false =>
          have : goodL l = false := by unfold goodL; rw [hg, hall]; rfl
          rw [this] at k
          exact ⟨_, rfl, iteT (k _ s2)⟩
        | true =>
          have hgd : goodL l = true := by unfold goodL; rw [hg, hall]; rfl
          obtain ⟨v1, v2, v3, v4⟩ := good_fact hgd
          rw [hgd] at k
          have hll : l.length ≤ 3 := by
            cases l with
            | nil => simp
            | cons c r =>
              by_cases hc : c = 45
              · subst hc
                have : (figL (45 :: r)) = r := rfl
                rw [this] at hl2
                simp; omega
              · rw [figL_of hc] at hl2; omega
          refine ⟨_, rfl, iteF ?_⟩
          refine ⟨_, rfl, _, valL l, rfl, v1, by rw [mkS_len]; omega, ?_⟩
          refine ⟨_, rfl, .inl ⟨valL l, rfl, log99 v2 v3, _, rfl, rfl, _, rfl, ?_⟩⟩
          have e : decide (V.str (toString (valL l)) = V.str (mkS l)) = canL l := by
            rw [← v4]
            by_cases c : nS (valL l) = mkS l
            · rw [decide_eq_true c]; exact decide_eq_true (by show V.str (nS (valL l)) = _; rw [c])
            · rw [decide_eq_false c]; exact decide_eq_false fun z => c (V.str.inj z)
          rw [e]
          cases hc : canL l with
          | true =>
            rw [hc] at k
            exact iteF ⟨_, rfl, k H2 s2⟩
          | false =>
            rw [hc] at k
            exact iteT (k H2 s2)
end
end SH
set_option Elab.async false
set_option linter.all false
set_option maxRecDepth 100000
set_option maxHeartbeats 0
/-! k18: is_within, are_within, is_letter, whatever the numbers -/
namespace SH
open PySem PySem.Spec PyProof.Rows L2 RZ StX
def inO (v : Option Int) (lo hi : Int) : Bool := match v with
  | none => false
  | some v => decide (lo ≤ v) && decide (v ≤ hi)
def inBO (ns : List (Option Int)) (bs : List (Int × Int)) : Bool := decide (ns.length = bs.length) && (ns.zip bs).all fun p => inO p.1 p.2.1 p.2.2
section
variable {P : Program} {w : World} {K : PySem.W.Frag} {mg : Str → Option Value} {base : Heap}
def spWithinO : Sp := fun vs H Q _ => ∃ (v : Option Int) (lo hi : Int), vs = [optV v, .int lo, .int hi] ∧ Q (.bl (inO v lo hi)) H
theorem ok_withinO {f : Addr} {fd : FuncData} (F : Fun K "is_within" "is_within" sWithin f fd) (T : TxtF K w mg) : FnOk P w K mg base CX0 1 f fd ["value", "least", "greatest"] spWithinO := by
  refine F.ok scWithin (fun vs H Q E h => ?_) (fun cdv A0 outer s0 H vs Q E hr h => ?_)
  · obtain ⟨v, lo, hi, rfl, _⟩ := h
    rfl
  · obtain ⟨v, lo, hi, rfl, k⟩ := h
    refine ⟨_, pss_cons (ps_if (PW.pt (pw_or (pt_val (pe_callB call_isi (by rfl) T.isinst (by decide +kernel) (pa_cons (pv 0) (pa_cons (pe_bltn (v := .ty "bool") (by rfl) T.bool (by decide +kernel) rfl) pa_nil))))
      (pw_or1 (pt_not (pt_val (pe_callB call_isi (by rfl) T.isinst (by decide +kernel) (pa_cons (pv 0) (pa_cons (pe_bltn (v := .ty "int") (by rfl) T.int (by decide +kernel) rfl) pa_nil)))))))) (pss_one (ps_ret pe_bl)) pss_nil)
      (pss_one (ps_ret (pe_chain op_le op_le (pv 1) (pv 0) (pv 2)))), ?_⟩
    cases v with
    | none =>
      have tyN : TyX K H .non (.type "NoneType") := .base (by first | exact TyOf.non | constructor)
      refine ⟨_, rfl, _, _, _, _, false, rfl, by first | exact .ty _ | constructor, tyN, kit_ty (by decide +kernel), _, rfl, iteF ?_⟩
      refine ⟨_, rfl, _, _, _, _, false, rfl, by first | exact .ty _ | constructor, tyN, kit_ty (by decide +kernel), _, rfl, iteT ?_⟩
      exact k
    | some v =>
      refine ⟨_, rfl, _, _, _, _, false, rfl, by first | exact .ty _ | constructor, tyInt, kit_ty (by decide +kernel), _, rfl, iteF ?_⟩
      refine ⟨_, rfl, _, _, _, _, true, rfl, by first | exact .ty _ | constructor, tyInt, kit_ty (by decide +kernel), _, rfl, iteF ?_⟩
      refine ⟨_, rfl, _, rfl, _, _, rfl, rfl, _, rfl, ?_⟩
      have k : Q (.bl (decide (lo ≤ v) && decide (v ≤ hi))) H := k
      refine ite2 (fun c => ?_) (fun c => ?_)
      · rw [of_decide_eq_true c |> decide_eq_true] at k
        refine ⟨_, rfl, _, _, rfl, rfl, ?_⟩
        simpa using k
      · have c' : decide (lo ≤ v) = false := by simpa using c
        rw [c'] at k
        exact k
def spAreO (K : PySem.W.Frag) : Sp := fun vs H Q _ => ∃ (tn tb : Addr) (ns : List (Option Int)) (bs : List (Int × Int)), vs = [.ref tn, .ref tb] ∧ H tn = some (.tup (ns.map optV)) ∧ bs.length ≤ 20 ∧ KB K tb bs ∧ ∀ H', Same H H' → Q (.bl (inBO ns bs)) H'
theorem ok_areO {f fW : Addr} {fd fdW : FuncData} (F : Fun K "are_within" "are_within" sAre f fd) (T : TxtF K w mg) (FW : Fun K "is_within" "is_within" sWithin fW fdW) (bW : Binds K fdW ["value", "least", "greatest"] []) (gW : mg "is_within" = some (.ref fW)) :
    FnOk P w K mg base CX0 2 f fd ["numbers", "bounds"] (spAreO K) := by
  have GW := ok_withinO (P := P) (w := w) (mg := mg) (base := base) FW T
  refine F.ok scAre (fun vs H Q E h => ?_) (fun cdv A0 outer s0 H vs Q E hr h => ?_)
  · obtain ⟨tn, tb, ns, bs, rfl, _⟩ := h
    rfl
  · obtain ⟨tn, tb, ns, bs, rfl, hn, hnl, ⟨ts, hts, hp⟩, k⟩ := h
    have hpl := paired_len hp
    refine ⟨_, pss_cons (ps_if (pt_cmpR op_ne (pe_callB call_len_seq (by rfl) T.len PySem.boot_len (pa_cons (pv 0) pa_nil)) (pe_callB call_len_seq (by rfl) T.len PySem.boot_len (pa_cons (pv 1) pa_nil)) (nomark _)) (pss_one (ps_ret pe_bl)) pss_nil)
      (pss_one (ps_ret (pe_callB (cr_all rfl) (by rfl) T.all (by decide +kernel) (pa_cons (pe_lc (own := [("number", 2), ("least", 3), ("greatest", 4)])
        (g := gTup K 2 (gCons (gName 2) (gCons (gTup K 2 (gCons (gName 3) (gCons (gName 4) gNil))) gNil))) (te := tCall spWithinO [] E0 (tCons (tVar 2) (tCons (tVar 3) (tCons (tVar 4) tNil))))
        (by rfl) scAre.nd (pi_zipA (by rfl) T.zip (pa_cons (pv 0) (pa_cons (pv 1) pa_nil))) (blkOk_by (own := [("number", 2), ("least", 3), ("greatest", 4)]) (N := nAre) (sc := defScope sAre) (by decide +kernel))
        (fun _ _ _ _ _ => pg_tup rfl (pgs_cons (pg_name (i := 2) scAre.nd rfl (Or.inl rfl)) (pgs_cons (pg_tup rfl (pgs_cons (pg_name (i := 3) scAre.nd rfl (Or.inl rfl)) (pgs_cons (pg_name (i := 4) scAre.nd rfl (Or.inl rfl)) pgs_nil))) pgs_nil)))
        (fun _ _ _ _ _ => pts_nil) (fun _ _ _ _ _ => pe_call GW (hr.mono (by decide)) rfl gW FW.kp bW .nil pass0 (pa_cons (pv 2) (pa_cons (pv 3) (pa_cons (pv 4) pa_nil))))) pa_nil)))), ?_⟩
    refine ⟨_, rfl, tn, _, rfl, .inr (SqT.of hn), _, rfl, tb, _, rfl, .inr (hts.sq H), rfl, _, rfl, ?_⟩
    rw [List.length_map, List.length_map, hpl]
    by_cases hl : ns.length = bs.length
    · rw [decide_eq_true (show V.int (ns.length : Int) = V.int (bs.length : Int) by rw [hl])]
      refine iteF ?_
      refine ⟨_, rfl, _, rfl, tn, tb, _, _, rfl, .inr ⟨SqT.of hn, hts.sq H, fun D hD => ?_⟩⟩
      refine lc_it (walk_zipT (xs := ns.map optV) (ys := ts.map V.ref) (n := ns.length) (by rw [List.length_map, List.length_map, hpl, ← hl]; simp)) (fun i H2 => Same H H2 ∧ H2 D = some (.lst (((ns.zip bs).take i).map fun p => V.bl (inO p.1 p.2.1 p.2.2)))) ?_ ?_ ?_ ?_
      · exact ⟨Same.new _ hD, upd_same⟩
      · rintro i H2 _ ⟨s2, _⟩
        exact ⟨SqT.of (s2 _ _ hn), hts.sq H2⟩
      · rintro i x H2 H3 hi ⟨s2, hD2⟩ ⟨Tp, x1, x2, rfl, hT, rfl, e1, e2⟩
        simp only [List.getElem?_map] at e1 e2
        have hib : i < bs.length := by omega
        have hit : i < ts.length := by omega
        rw [List.getElem?_eq_getElem hi] at e1
        rw [List.getElem?_eq_getElem hit] at e2
        obtain rfl : optV ns[i] = x1 := Option.some.inj e1
        obtain rfl : V.ref ts[i] = x2 := Option.some.inj e2
        have hk := paired_ix hp (List.getElem?_eq_getElem hit) (List.getElem?_eq_getElem hib)
        refine ⟨Tp, _, rfl, SqT.of upd_same, rfl, _, _, rfl, _, _, rfl, ⟨ts[i], _, rfl, hk.sq _, rfl, _, _, rfl, _, _, rfl, rfl, ?_⟩⟩
        refine ⟨rfl, rfl, ?_⟩
        refine ⟨_, rfl, _, rfl, _, rfl, ns[i], bs[i].1, bs[i].2, rfl, ?_⟩
        have hD3 : upd H2 Tp (.tup [optV ns[i], V.ref ts[i]]) D = some (.lst (((ns.zip bs).take i).map fun p => V.bl (inO p.1 p.2.1 p.2.2))) := by
          rw [upd_ne (ne_of_none hD2 hT)]; exact hD2
        refine ⟨_, hD3, ?_, ?_, ?_⟩
        · rw [List.length_map, List.length_take]; exact small1000 (by omega)
        · exact Same.mut _ (Same.mut _ s2 (s2.free hT)) hD
        · rw [upd_same, List.take_add_one]
          have e3 : (ns.zip bs)[i]? = some (ns[i], bs[i]) := by rw [List.getElem?_zip_eq_some (z := (ns[i], bs[i])) |>.mpr ⟨List.getElem?_eq_getElem hi, (List.getElem?_eq_getElem hib : bs[i]? = some bs[i])⟩]
          rw [e3, List.map_append]; rfl
      · rintro H2 ⟨s2, hD2⟩
        have e4 : (ns.zip bs).take ns.length = ns.zip bs := List.take_of_length_le (by rw [List.length_zip]; omega)
        rw [e4] at hD2
        refine ⟨D, (ns.zip bs).map fun p => inO p.1 p.2.1 p.2.2, rfl, SqL.of (by rw [hD2, List.map_map]; rfl), ?_⟩
        have e5 : inBO ns bs = ((ns.zip bs).map fun p => inO p.1 p.2.1 p.2.2).all id := by
          unfold inBO
          rw [decide_eq_true hl, List.all_map]; rfl
        have k := k H2 s2
        rw [e5] at k
        exact k
    · rw [decide_eq_false (show ¬ V.int (ns.length : Int) = V.int (bs.length : Int) from fun z => hl (by have := V.int.inj z; omega))]
      have e5 : inBO ns bs = false := by unfold inBO; rw [decide_eq_false hl]; rfl
      have k := k H (Same.refl H)
      rw [e5] at k
      exact k
end
end SH
set_option Elab.async false
set_option linter.all false
set_option maxRecDepth 100000
set_option maxHeartbeats 0
/-! k18: is_letter, whatever the tuple of a word and numbers -/
namespace SH
open PySem PySem.Spec PyProof.Rows L2 StX
def sampW : List Lt := [.make 0, .drop 0, .size 0 0 0, .paint 0 0 0 0 0 0, .place 0 0 0, .rank 0 0, .veil 0, .unveil 0, .tie 0 0, .show 0, .hold 0, .let_]
def bndW (x : Str) : Option (List (Int × Int)) := (sampW.find? fun z => decide (z.word = x)).map Lt.bnds
theorem bndW_some {x : Str} {bs : List (Int × Int)} (h : bndW x = some bs) : ∃ z : Lt, z.word = x ∧ z.bnds = bs := by
  unfold bndW at h
  cases e : sampW.find? (fun z : Lt => decide (z.word = x)) with
  | none => rw [e] at h; cases h
  | some z =>
    rw [e] at h
    exact ⟨z, of_decide_eq_true (List.find?_some (p := fun z : Lt => decide (z.word = x)) e), Option.some.inj h⟩
/-- a tuple of a word and numbers, or none at all -/
abbrev Lw := Option (Str × List (Option Int))
def lwV : Lw → List V
  | none => []
  | some (x, ns) => .str x :: ns.map optV
def okLw : Lw → Bool
  | none => false
  | some (x, ns) => match bndW x with
    | none => false
    | some bs => inBO ns bs
structure TxtU (K : PySem.W.Frag) (mg : Str → Option Value) : Prop where
  un : ∀ (d : Addr) (x : Str), mg "LETTERS" = some (.ref d) → bndW x = none → PySem.W.nsIn K d x = some none
section
variable {P : Program} {w : World} {K : PySem.W.Frag} {mg : Str → Option Value} {base : Heap}
def spIsLetO : Sp := fun vs H Q _ => ∃ (t : Addr) (l : Lw), vs = [.ref t] ∧ H t = some (.tup (lwV l)) ∧ (lwV l).length ≤ 100000 ∧ ∀ H', Same H H' → Q (.bl (okLw l)) H'
theorem ok_isLetO {f fA : Addr} {fd fdA : FuncData} (F : Fun K "is_letter" "is_letter" sIsLet f fd) (T : TxtF K w mg) (TU : TxtU K mg)
    (GA : FnOk P w K mg base CX0 2 fA fdA ["numbers", "bounds"] (spAreO K)) (bA : Binds K fdA ["numbers", "bounds"] []) (gA : mg "are_within" = some (.ref fA)) (kA : PySem.W.keepIn K (.ref fA) = true) :
    FnOk P w K mg base CX0 3 f fd ["letter"] spIsLetO := by
  obtain ⟨d, es, n, gL, KD, hL⟩ := T.lets
  refine F.ok scIsLet (fun vs H Q E h => ?_) (fun cdv A0 outer s0 H vs Q E hr h => ?_)
  · obtain ⟨t, z, rfl, _⟩ := h
    rfl
  · obtain ⟨t, l, rfl, ht, hlen, k⟩ := h
    refine ⟨_, pss_cons (ps_if (PW.pt (pw_or (pt_not (pt_val (pe_callB call_isi (by rfl) T.isinst (by decide +kernel) (pa_cons (pv 0) (pa_cons (pe_bltn (v := .ty "tuple") (by rfl) T.tuple (by decide +kernel) rfl) pa_nil)))))
        (pw_or1 (pt_cmpR op_eq (pe_callB call_len_seq (by rfl) T.len PySem.boot_len (pa_cons (pv 0) pa_nil)) pe_int (nomark _))))) (pss_one (ps_ret pe_bl)) pss_nil)
      (pss_cons (ps_set (i := 1) scIsLet.nd rfl (Or.inl rfl) (pe_kget (pe_glob rfl gL (v := .ref d) rfl) (pe_ix ix_tup (pv 0) pe_int (fun _ _ => rfl)) ⟨rfl, rfl, rfl, rfl⟩))
      (pss_one (ps_ret (pe_and (pe_cmpR op_notN (pv 1) pe_non (nomark _)) (pe_one (pe_call GA hr rfl gA kA bA .nil pass0 (pa_cons (pe_slice sl_tup (pv 0) (po_some pe_int) po_none) (pa_cons (pv 1) pa_nil)))))))), ?_⟩
    refine ⟨_, rfl, _, _, _, _, true, rfl, by first | exact .ty _ | constructor, .base (.tup ht), kit_ty (by decide +kernel), _, rfl, iteF ?_⟩
    refine ⟨_, rfl, t, _, rfl, .inr (SqT.of ht), rfl, _, rfl, ?_⟩
    cases l with
    | none =>
      refine iteT ?_
      exact k H (Same.refl H)
    | some l =>
      obtain ⟨x, ns⟩ := l
      have e0 : decide (V.int (((lwV (some (x, ns))).length : Nat) : Int) = V.int 0) = false := decide_eq_false (fun q => by have := V.int.inj q; unfold lwV at this; simp at this; omega)
      rw [e0]
      refine iteF ?_
      cases hb : bndW x with
      | none =>
        have k : ∀ H', Same H H' → Q (.bl false) H' := fun H' s => by
          have := k H' s
          have e : okLw (some (x, ns)) = false := by
            show (match bndW x with | none => false | some bs => inBO ns bs) = false
            rw [hb]
          rw [e] at this
          exact this
        refine ⟨d, es, n, rfl, KD, _, rfl, _, _, _, V.str x, rfl, rfl, SqT.of ht, at_of (j := 0) rfl rfl, x, _, V.non, rfl, TU.un d x gL hb, rfl, ?_⟩
        refine ⟨_, rfl, rfl, _, rfl, ?_⟩
        exact iteF (k H (Same.refl H))
      | some bs =>
        have k : ∀ H', Same H H' → Q (.bl (inBO ns bs)) H' := fun H' s => by
          have := k H' s
          have e : okLw (some (x, ns)) = inBO ns bs := by
            show (match bndW x with | none => false | some bs => inBO ns bs) = _
            rw [hb]
          rw [e] at this
          exact this
        obtain ⟨z, rfl, rfl⟩ := bndW_some hb
        obtain ⟨tb, h1, h2⟩ := hL z
        refine ⟨d, es, n, rfl, KD, _, rfl, _, _, _, V.str z.word, rfl, rfl, SqT.of ht, at_of (j := 0) rfl rfl, z.word, _, V.ref tb, rfl, h1, rfl, ?_⟩
        refine ⟨_, rfl, rfl, _, rfl, ?_⟩
        refine iteT ?_
        refine ⟨_, rfl, _, rfl, t, _, rfl, SqT.of ht, ?_, fun p hp => ?_⟩
        · intro q
          have := q.1
          revert this
          unfold lwV
          simp [HT.sIx]
        · refine ⟨_, rfl, p, tb, ns, z.bnds, rfl, ?_, by rw [← z.len]; exact Nat.le_trans z.nlen (by decide), h2, fun H' s => ?_⟩
          · rw [upd_same]
            congr 2
            simp [lwV, HT.sIx, cutV]
            exact List.take_of_length_le (by rw [List.length_map]; exact Nat.le_refl _)
          · exact k H' ((Same.new _ hp).trans s)
end
end SH
set_option Elab.async false
set_option linter.all false
set_option maxRecDepth 100000
set_option maxHeartbeats 0
/-! k18: books of whatever letters; read of any text -/
namespace SH
open PySem PySem.Spec PyProof.Rows L2 StX TL
def RowW (H : Hp) (ts : List Addr) (ls : List Lw) : Prop := Paired (fun (t : Addr) (l : Lw) => H t = some (.tup (lwV l))) ts ls
theorem RowW.keep {H H' : Hp} {ts : List Addr} {ls : List Lw} (h : RowW H ts ls) (k : KeepT H H') : RowW H' ts ls := Paired.mapP h fun _ _ e => k _ _ e
theorem RowW.same {H H' : Hp} {ts : List Addr} {ls : List Lw} (h : RowW H ts ls) (s : Same H H') : RowW H' ts ls := h.keep (KeepT.same s)
structure RJ (H0 H : Hp) (X : Addr × HO) (bl : Addr) (cs : List (Addr × List Addr)) (bs : List (List Lw)) : Prop where
  has : Has H (X :: bkCells bl cs)
  row : Paired (fun (c : Addr × List Addr) (zs : List Lw) => RowW H c.2 zs) cs bs
  same : Same H0 H
  fb : H0 bl = none
  fc : ∀ c ∈ cs, H0 c.1 = none
theorem RJ.sm {H0 H H' : Hp} {X : Addr × HO} {bl : Addr} {cs : List (Addr × List Addr)} {bs : List (List Lw)} (h : RJ H0 H X bl cs bs) (s : Same H H') : RJ H0 H' X bl cs bs :=
  ⟨h.has.same s, Paired.mapP h.row fun _ _ e => e.same s, h.same.trans s, h.fb, h.fc⟩
theorem RJ.bl {H0 H : Hp} {X : Addr × HO} {bl : Addr} {cs : List (Addr × List Addr)} {bs : List (List Lw)} (h : RJ H0 H X bl cs bs) : H bl = some (.lst (cs.map fun c => V.ref c.1)) := Has.get (A := []) h.has 1 rfl
theorem RJ.len {H0 H : Hp} {X : Addr × HO} {bl : Addr} {cs : List (Addr × List Addr)} {bs : List (List Lw)} (h : RJ H0 H X bl cs bs) : cs.length = bs.length := paired_len h.row
theorem RJ.more {H0 H : Hp} {X : Addr × HO} {bl nl : Addr} {cs : List (Addr × List Addr)} {bs : List (List Lw)} (h : RJ H0 H X bl cs bs) (hn : H nl = none) :
    RJ H0 (upd (upd H nl (.lst [])) bl (.lst (cs.map (fun c => V.ref c.1) ++ [V.ref nl]))) X bl (cs ++ [(nl, [])]) (bs ++ [[]]) := by
  have g1 : Has (upd H nl (.lst [])) ((X :: bkCells bl cs) ++ [(nl, HO.lst [])]) := Has.new (T := []) (by rw [List.append_nil]; exact h.has) hn _
  have g2 := Has.set (A := []) g1 1 (o := .lst (cs.map fun c => V.ref c.1)) rfl (.lst (cs.map (fun c => V.ref c.1) ++ [V.ref nl]))
  have s1 := Same.new (HO.lst []) hn
  have kt : KeepT (upd H nl (.lst [])) (upd (upd H nl (.lst [])) bl (.lst (cs.map (fun c => V.ref c.1) ++ [V.ref nl]))) := upd_tup fun xs e => by rw [s1 _ _ h.bl] at e; cases e
  refine ⟨g2.re ?_, paired_snoc (Paired.mapP h.row fun _ _ e => (e.same s1).keep kt) .nil, Same.mut _ (h.same.trans s1) h.fb, h.fb, fun c hc => ?_⟩
  · show X :: (bl, _) :: (cs.map _ ++ [(nl, HO.lst [])]) = _
    unfold bkCells
    rw [List.map_append, List.map_append]; rfl
  · rcases List.mem_append.mp hc with hc | hc
    · exact h.fc c hc
    · rw [List.mem_singleton.mp hc]; exact h.same.free hn
theorem RJ.put {H0 H : Hp} {X : Addr × HO} {bl t : Addr} {cs : List (Addr × List Addr)} {bs : List (List Lw)} {k : Nat} {c : Addr × List Addr} {zs : List Lw} {z : Lw} (h : RJ H0 H X bl cs bs) (hc : cs[k]? = some c) (hz : bs[k]? = some zs) (ht : H t = some (.tup (lwV z))) :
    RJ H0 (upd H c.1 (.lst (c.2.map V.ref ++ [V.ref t]))) X bl (cs.set k (c.1, c.2 ++ [t])) (bs.set k (zs ++ [z])) := by
  have hk := (List.getElem?_eq_some_iff.mp hc).1
  have e1 : (X :: bkCells bl cs)[k + 2]? = some (c.1, HO.lst (c.2.map V.ref)) := by
    show (cs.map fun c => (c.1, HO.lst (c.2.map V.ref)))[k]? = _
    rw [List.getElem?_map, hc]; rfl
  have hold := h.has.mem (List.mem_of_getElem? e1)
  have g2 := h.has.set0 (k + 2) e1 (.lst (c.2.map V.ref ++ [V.ref t]))
  have kt : KeepT H (upd H c.1 (.lst (c.2.map V.ref ++ [V.ref t]))) := upd_tup fun xs e => by rw [hold] at e; cases e
  refine ⟨g2.re ?_, ?_, Same.mut _ h.same (h.fc c (List.mem_of_getElem? hc)), h.fb, fun c' hc' => ?_⟩
  · have h1 : (cs.map fun c => V.ref c.1).set k (V.ref c.1) = cs.map fun c => V.ref c.1 := by
      refine List.ext_getElem? fun j => ?_
      by_cases q : k = j
      · subst q
        rw [List.getElem?_set_self (by rw [List.length_map]; exact hk), List.getElem?_map, hc]; rfl
      · rw [List.getElem?_set_ne q]
    refine congrArg (X :: ·) ?_
    refine congr (congrArg List.cons (congrArg (Prod.mk bl) (congrArg HO.lst ?_))) ?_
    · rw [List.map_set]; exact h1.symm
    · rw [List.map_set]
      show List.set _ _ _ = List.set _ _ _
      refine congrArg (List.set _ k) ?_
      show (c.1, HO.lst (c.2.map V.ref ++ [V.ref t])) = (c.1, HO.lst ((c.2 ++ [t]).map V.ref))
      rw [List.map_append]; rfl
  · have go : ∀ {cs : List (Addr × List Addr)} {bs : List (List Lw)} {k : Nat}, Paired (fun (d : Addr × List Addr) (zs : List Lw) => RowW H d.2 zs) cs bs → cs[k]? = some c → bs[k]? = some zs →
        Paired (fun (d : Addr × List Addr) (zs : List Lw) => RowW (upd H c.1 (.lst (c.2.map V.ref ++ [V.ref t]))) d.2 zs) (cs.set k (c.1, c.2 ++ [t])) (bs.set k (zs ++ [z])) := by
      intro cs bs k p
      induction p generalizing k with
      | nil => intro q _; simp at q
      | @cons a b as bs r rest ih =>
        intro q1 q2
        cases k with
        | zero =>
          obtain rfl : a = c := Option.some.inj q1
          obtain rfl : b = zs := Option.some.inj q2
          exact .cons (paired_snoc (RowW.keep r kt) (kt _ _ ht)) (Paired.mapP rest fun _ _ e => RowW.keep e kt)
        | succ k => exact .cons (RowW.keep r kt) (ih q1 q2)
    exact go h.row hc hz
  · rcases List.mem_or_eq_of_mem_set hc' with q | q
    · exact h.fc c' q
    · rw [q]; exact h.fc c (List.mem_of_getElem? hc)

/-! what a row says -/
def wordsR (row : Str) : List Str := Txt.split row " "
def cliR (row : Str) : Option Int := match wordsR row with
  | [] => none
  | x :: _ => numW x
def lwR (row : Str) : Lw := match wordsR row with
  | _ :: x :: r => some (x, r.map numW)
  | _ => none
def fineR (row : Str) (nb : Nat) : Bool := inO (cliR row) (if (nb : Int) - 1 > 0 then (nb : Int) - 1 else 0) (5 - 1) && okLw (lwR row)
def padW (bs : List (List Lw)) (n : Nat) : List (List Lw) := bs ++ List.replicate (n - bs.length) []
def addW (bs : List (List Lw)) (c : Nat) (l : Lw) : List (List Lw) := (padW bs (c + 1)).set c ((padW bs (c + 1)).getD c [] ++ [l])
def readR : List Str → Nat → List (List Lw) → Except Nat (List (List Lw))
  | [], _, bs => .ok bs
  | row :: r, k, bs => if fineR row bs.length = true then readR r (k + 1) (addW bs ((cliR row).getD 0).toNat (lwR row)) else .error k
def rowsT (t : Str) : List Str := if t = "" then [] else Txt.split t "\n"
def readT (t : Str) : Except Nat (List (List Lw)) := readR (rowsT t) 0 []
end SH
set_option Elab.async false
set_option linter.all false
set_option maxRecDepth 100000
set_option maxHeartbeats 0
/-! k18: texts split at one sign -/
namespace SH
open PySem PySem.Spec PyProof.Rows L2 StX TL
def splL (s : Nat) : List Nat → List Nat → List (List Nat)
  | acc, [] => [acc]
  | acc, c :: r => if c = s then acc :: splL s [] r else splL s (acc ++ [c]) r
theorem spl_L (s : Nat) : ∀ (l acc : List Nat), spl [s] 0 acc l = splL s acc l
  | [], acc => spl_nil _ _ _
  | c :: r, acc => by
    unfold splL
    by_cases h : c = s
    · rw [if_pos h, spl_hit (by subst h; simp [pre])]
      exact congrArg (acc :: ·) (spl_L s r [])
    · rw [if_neg h, spl_miss (by simp [pre]; exact h), spl_L s r]
theorem split1 (l : List Nat) (s : Nat) (hs : s < 256) : Txt.split (mkS l) (mkS [s]) = (splL s [] l).map mkS := by
  have h := SX.split_S (a := l) (b := [s]) (by simp) (by simp; exact hs)
  rw [spl_L] at h
  exact h
theorem splL_ne (s : Nat) : ∀ (l acc : List Nat), splL s acc l ≠ []
  | [], acc => by simp [splL]
  | c :: r, acc => by
    unfold splL
    split
    · simp
    · exact splL_ne s r _
theorem splL_len (s : Nat) : ∀ (l acc : List Nat), (splL s acc l).length ≤ l.length + 1
  | [], acc => by simp [splL]
  | c :: r, acc => by
    unfold splL
    have h1 := splL_len s r []
    have h2 := splL_len s r (acc ++ [c])
    split
    · simp only [List.length_cons]; omega
    · simp only [List.length_cons]; omega
theorem splL_mem (s : Nat) : ∀ (l acc p : List Nat), p ∈ splL s acc l → p.length ≤ acc.length + l.length ∧ ∀ c ∈ p, c ∈ acc ∨ c ∈ l
  | [], acc, p, h => by
    rw [List.mem_singleton.mp (show p ∈ [acc] from h)]
    exact ⟨by simp, fun c hc => .inl hc⟩
  | c :: r, acc, p, h => by
    unfold splL at h
    split at h
    · rcases List.mem_cons.mp h with rfl | h
      · exact ⟨by simp, fun d hd => .inl hd⟩
      · obtain ⟨h1, h2⟩ := splL_mem s r [] p h
        refine ⟨by simp at h1 ⊢; omega, fun d hd => ?_⟩
        rcases h2 d hd with x | x
        · cases x
        · exact .inr (List.mem_cons_of_mem _ x)
    · obtain ⟨h1, h2⟩ := splL_mem s r (acc ++ [c]) p h
      refine ⟨by simp at h1 ⊢; omega, fun d hd => ?_⟩
      rcases h2 d hd with x | x
      · rcases List.mem_append.mp x with x | x
        · exact .inl x
        · rw [List.mem_singleton.mp x]; exact .inr List.mem_cons_self
      · exact .inr (List.mem_cons_of_mem _ x)
/-- what is known of the parts -/
structure Parts (z : Str) (ps : List Str) : Prop where
  ne : ps ≠ []
  few : ps.length ≤ z.length + 1
  len : ∀ p ∈ ps, p.length ≤ z.length
  asc : Asc z → ∀ p ∈ ps, Asc p
theorem parts1 (z : Str) (s : Nat) (hs : s < 256) : Parts z (Txt.split z (mkS [s])) := by
  obtain ⟨l, rfl⟩ : ∃ l, z = mkS l := ⟨_, (mkS_cps z).symm⟩
  rw [split1 l s hs]
  refine ⟨fun h => splL_ne s l [] (List.map_eq_nil_iff.mp h), by rw [List.length_map, mkS_len]; exact splL_len s l [], fun p hp => ?_, fun ha p hp => ?_⟩
  · obtain ⟨q, hq, rfl⟩ := List.mem_map.mp hp
    have := (splL_mem s l [] q hq).1
    rw [mkS_len, mkS_len]; simp at this; exact this
  · obtain ⟨q, hq, rfl⟩ := List.mem_map.mp hp
    intro c hc
    rw [mkS_list] at hc
    have ha' : ∀ c ∈ l, c < 128 := by have := ha; unfold Asc at this; rw [mkS_list] at this; exact this
    rcases (splL_mem s l [] q hq).2 c hc with x | x
    · cases x
    · exact ha' c x
theorem sp_is : (" " : Str) = mkS [32] := by decide +kernel
theorem nl_is : ("\n" : Str) = mkS [10] := by decide +kernel
theorem parts_sp (z : Str) : Parts z (Txt.split z " ") := by rw [sp_is]; exact parts1 z 32 (by decide)
theorem parts_nl (z : Str) : Parts z (Txt.split z "\n") := by rw [nl_is]; exact parts1 z 10 (by decide)
end SH
set_option Elab.async false
set_option linter.all false
set_option maxRecDepth 100000
set_option maxHeartbeats 0
/-! k18: the words and the bounds, as tables -/
namespace SH
open PySem PySem.Spec PyProof.Rows L2 StX
def tabW : List (Str × Str × List (Int × Int)) := [("make", "n", [(0, 9)]), ("drop", "n", [(0, 9)]), ("size", "nWH", [(0, 9), (1, 12), (1, 8)]), ("paint", "nxyWHm", [(0, 9), (0, 11), (0, 7), (1, 12), (1, 8), (0, 9)]), ("place", "npp", [(0, 9), (-20, 20), (-20, 20)]), ("rank", "nm", [(0, 9), (0, 9)]), ("veil", "n", [(0, 9)]),
  ("unveil", "n", [(0, 9)]), ("tie", "nn", [(0, 9), (0, 9)]), ("show", "n", [(0, 9)]), ("hold", "n", [(0, 9)]), ("let", "", [])]
def sortT : List (Str × (Int × Int)) := [("n", (0, 9)), ("m", (0, 9)), ("W", (1, 12)), ("H", (1, 8)), ("x", (0, 11)), ("y", (0, 7)), ("p", (-20, 20))]
def rowW (x : Str) : Option (Str × Str × List (Int × Int)) := tabW.find? fun r => decide (r.1 = x)
theorem samp_tab : (sampW.map fun z => (z.word, z.bnds)) = tabW.map fun r => (r.1, r.2.2) := by decide +kernel
theorem find_map {α β γ : Type} (f : α → β × γ) [DecidableEq β] (x : β) : ∀ l : List α, (l.find? fun a => decide ((f a).1 = x)).map (fun a => (f a).2) = ((l.map f).find? fun p => decide (p.1 = x)).map (·.2)
  | [] => rfl
  | a :: l => by
    rw [List.map_cons, List.find?_cons, List.find?_cons]
    by_cases h : (f a).1 = x
    · simp [h]
    · simp only [decide_eq_false h]; exact find_map f x l
theorem bnd_row (x : Str) : bndW x = (rowW x).map fun r => r.2.2 := by
  unfold bndW rowW
  rw [find_map (fun z : Lt => (z.word, z.bnds)) x, samp_tab]
  exact (find_map (fun r : Str × Str × List (Int × Int) => (r.1, r.2.2)) x tabW).symm
def formsA : List (Key × V) := [(.inr "make", .str "n"), (.inr "drop", .str "n"), (.inr "size", .str "nWH"), (.inr "paint", .str "nxyWHm"), (.inr "place", .str "npp"), (.inr "rank", .str "nm"), (.inr "veil", .str "n")]
def formsB : List (Key × V) := [(.inr "unveil", .str "n"), (.inr "tie", .str "nn"), (.inr "show", .str "n"), (.inr "hold", .str "n"), (.inr "let", .str "")]
theorem forms_tab : mergeK (mergeK [] formsA) (mergeK [] formsB) = tabW.map fun r => (.inr r.1, .str r.2.1) := by rfl
theorem valV_tab (x : Str) : ∀ l : List (Str × Str × List (Int × Int)), valV (l.map fun r => ((.inr r.1 : Key), V.str r.2.1)) (.inr x) = (l.find? fun r => decide (r.1 = x)).map fun r => V.str r.2.1
  | [] => rfl
  | a :: l => by
    rw [List.map_cons, List.find?_cons]
    by_cases h : a.1 = x
    · rw [valV_pos (by rw [h])]; simp [h]
    · rw [valV_neg (fun q => h (Sum.inr.inj q)), decide_eq_false h]; exact valV_tab x l
theorem form_val (x : Str) : valV (mergeK (mergeK [] formsA) (mergeK [] formsB)) (.inr x) = (rowW x).map fun r => V.str r.2.1 := by
  rw [forms_tab]; exact valV_tab x tabW
def goodRow (r : Str × Str × List (Int × Int)) : Bool := decide (r.2.1.cps.size = r.2.2.length) && ((List.range r.2.2.length).all fun i => (List.range 7).any fun j => decide (sortT[j]? = some (⟨#[r.2.1.cps.getD i 0]⟩, r.2.2.getD i (0, 0))))
theorem all_good : tabW.all goodRow = true := by decide +kernel
theorem row_mem {x : Str} {r : Str × Str × List (Int × Int)} (h : rowW x = some r) : r ∈ tabW := List.mem_of_find?_eq_some h
theorem row_len {r : Str × Str × List (Int × Int)} (h : r ∈ tabW) : r.2.1.cps.size = r.2.2.length := of_decide_eq_true (Bool.and_eq_true_iff.mp (List.all_eq_true.mp all_good r h)).1
theorem row_sort {r : Str × Str × List (Int × Int)} (h : r ∈ tabW) {i c : Nat} (hc : r.2.1.cps[i]? = some c) : ∃ (j : Nat) (b : Int × Int), j < 7 ∧ sortT[j]? = some (⟨#[c]⟩, b) ∧ r.2.2[i]? = some b := by
  have hl := row_len h
  have hi := (Array.getElem?_eq_some_iff.mp hc).1
  have h2 := (Bool.and_eq_true_iff.mp (List.all_eq_true.mp all_good r h)).2
  have h3 := List.all_eq_true.mp h2 i (List.mem_range.mpr (by omega))
  obtain ⟨j, hj, h4⟩ := List.any_eq_true.mp h3
  have h5 := of_decide_eq_true h4
  have e1 : r.2.1.cps.getD i 0 = c := by
    rw [Array.getD_eq_getD_getElem?, hc]; rfl
  rw [e1] at h5
  refine ⟨j, r.2.2.getD i (0, 0), List.mem_range.mp hj, h5, ?_⟩
  rw [List.getD_eq_getElem?_getD, List.getElem?_eq_getElem (by omega)]; rfl
theorem few_form {r : Str × Str × List (Int × Int)} (h : r ∈ tabW) : r.2.2.length ≤ 6 := by
  have : tabW.all (fun r => decide (r.2.2.length ≤ 6)) = true := by decide +kernel
  exact of_decide_eq_true (List.all_eq_true.mp this r h)
theorem no_empty : rowW "" = none := by decide +kernel
def sortV (ts : List Addr) : List (Key × V) := (sortT.zip ts).map fun p => (.inr p.1.1, .ref p.2)
theorem sort_val {t1 t2 t3 t4 t5 t6 t7 : Addr} {j : Nat} {s : Str} {b : Int × Int} (h : sortT[j]? = some (s, b)) : ∃ t, [t1, t2, t3, t4, t5, t6, t7][j]? = some t ∧ valV (sortV [t1, t2, t3, t4, t5, t6, t7]) (.inr s) = some (.ref t) := by
  match j, h with
  | 0, h => cases h; exact ⟨_, rfl, rfl⟩
  | 1, h => cases h; exact ⟨_, rfl, rfl⟩
  | 2, h => cases h; exact ⟨_, rfl, rfl⟩
  | 3, h => cases h; exact ⟨_, rfl, rfl⟩
  | 4, h => cases h; exact ⟨_, rfl, rfl⟩
  | 5, h => cases h; exact ⟨_, rfl, rfl⟩
  | 6, h => cases h; exact ⟨_, rfl, rfl⟩
  | j + 7, h => cases h
theorem sort_merge (t1 t2 t3 t4 t5 t6 t7 : Addr) : mergeK [] (sortV [t1, t2, t3, t4, t5, t6, t7]) = sortV [t1, t2, t3, t4, t5, t6, t7] := by rfl
/-- what a row is held to be -/
def fineL (row : Str) : Bool := inO (cliR row) 0 4 && okLw (lwR row)
end SH
set_option Elab.async false
set_option linter.all false
set_option maxRecDepth 100000
set_option maxHeartbeats 0
/-! k18: _law_figures -/
namespace SH
open PySem PySem.Spec PyProof.Rows L2 StX
abbrev sFg : Stmt := top 35
abbrev nFg : List Str := ["_law_word", "_law_figures_here", "_law_sign"]
theorem scFg : FnScope nFg ["_law_word"] (defScope sFg) := ⟨rfl, rfl, rfl, by decide +kernel, rfl, by decide +kernel, by decide +kernel⟩
theorem cut1 (l : List Nat) : cutS (mkS l) none (some 1) = mkS (l.take 1) := by
  unfold cutS
  rw [mkS_list, mkS_len]
  cases l with
  | nil => rfl
  | cons c r => simp [HT.sIx, mkS]
theorem cut0 (l : List Nat) : cutS (mkS l) (some 0) none = mkS l := by
  unfold cutS
  rw [mkS_list, mkS_len]
  simp [HT.sIx, mkS]
theorem cutr (c : Nat) (r : List Nat) : cutS (mkS (c :: r)) (some 1) none = mkS r := by
  unfold cutS
  rw [mkS_list, mkS_len]
  simp [HT.sIx, mkS]
theorem mkS_inj {a b : List Nat} (h : mkS a = mkS b) : a = b := by rw [← mkS_list a, h, mkS_list]
theorem dash : ("-" : Str) = mkS [45] := by decide +kernel
theorem cutf (l : List Nat) : cutS (mkS l) (some (if decide (V.str (mkS (l.take 1)) = V.str ("-" : Str)) = true then 1 else 0)) none = mkS (figL l) := by
  cases l with
  | nil => rw [if_neg (by rw [decide_eq_true_eq, dash]; exact fun z => by have := mkS_inj (V.str.inj z); cases this), cut0]; rfl
  | cons c r =>
    by_cases hc : c = 45
    · subst hc
      rw [if_pos (by rw [decide_eq_true_eq, dash]; rfl), cutr]; rfl
    · rw [if_neg (by rw [decide_eq_true_eq, dash]; exact fun z => hc (List.cons.inj (mkS_inj (V.str.inj z))).1), cut0, figL_of hc]
section
variable {P : Program} {w : World} {K : PySem.W.Frag} {mg : Str → Option Value} {base : Heap}
theorem ok_fg {f : Addr} {fd : FuncData} (F : Fun K "_law_figures" "_law_figures" sFg f fd) (T : TxtP mg) : FnOk P w K mg base CX0 1 f fd ["_law_word"] spNumF := by
  refine F.ok scFg (fun vs H Q E h => ?_) (fun cdv A0 outer s0 H vs Q E hr h => ?_)
  · obtain ⟨n, rfl, _⟩ := h
    rfl
  · obtain ⟨z, rfl, hz, hasc, k⟩ := h
    have hu := hu_of hr
    refine ⟨_, (pss_cons (ps_set (i := 1) scFg.nd rfl (Or.inl rfl) (pe_slice sl_str (pv 0) (po_some (pe_callTy call_int1 (by rfl) T.int (show bootBuiltins "int" = some (.type "int") by decide +kernel) (pa_cons (pe_cmpR op_eq (pe_slice sl_str (pv 0) po_none (po_some pe_int)) pe_str (nomark _)) pa_nil))) po_none)) (pss_cons (ps_if (PW.pt (pw_or (pt_not (pt_chain op_lt op_lt pe_int (pe_callB call_len_str (by rfl) T.len PySem.boot_len (pa_cons (pv 1) pa_nil)) pe_int)) (pw_or1 (pt_cmpR (op_neD hr.units) (pe_lc (own := [("_law_sign", 2)]) (g := gName 2) (te := tVar 2) (tt := tTest (tOp (fun x y H Q => ∃ (c : Nat) (z : Str), x = .str ⟨#[c]⟩ ∧ y = .str z ∧ Q (.bl (!decide (c ∈ z.cps.toList))) H) (tVar 2) (tC (.str "0123456789")))) (by rfl) scFg.nd (pi_str (pv 1)) (blkOk_by (own := [("_law_sign", 2)]) (N := nFg) (sc := defScope sFg) (by decide +kernel)) (fun _ _ _ _ _ => (pg_name (i := 2) scFg.nd rfl (Or.inl rfl))) (fun _ _ _ _ _ => (pts_one (pt_cmpR op_notIn_sign (pv 2) pe_str rfl))) (fun _ _ _ _ _ => (pv 2))) (pe_lst pa_nil) (nomark _))))) (pss_one (ps_ret pe_non)) pss_nil) (pss_one (ps_ret (pe_ifExp (PW.pt (pw_or (pt_cmpR op_eq (pv 0) pe_str (nomark _)) (pw_or1 (pt_cmpR op_ne (pe_ix ix_str (pv 1) pe_int (fun _ _ => rfl)) pe_str (nomark _))))) (pe_callTy call_int_str (by rfl) T.int (by decide +kernel) (pa_cons (pv 0) pa_nil)) pe_non))))), ?_⟩
    have sm : ∀ {n : Nat}, n ≤ 1000000 → n ≤ sizeLine := fun h => by rw [sizeLine_eq]; omega
    obtain ⟨l, rfl⟩ : ∃ l, z = mkS l := ⟨_, (mkS_cps z).symm⟩
    unfold numW at k
    rw [mkS_list] at k
    rw [mkS_len] at hz
    have hasc : ∀ c ∈ l, c < 128 := by have := hasc; unfold Asc at this; rw [mkS_list] at this; exact this
    have hfz : (figL l).length ≤ l.length := by
      unfold figL
      split
      · simp
      · exact Nat.le_refl _
    have sl : (mkS l).length ≤ sizeLine := sm (by rw [mkS_len]; exact hz)
    refine ⟨_, rfl, _, rfl, _, rfl, _, rfl, sl, ?_⟩
    rw [cut1]
    refine ⟨rfl, .inr ⟨_, rfl, _, rfl, _, rfl, sl, ?_⟩⟩
    rw [cutf]
    refine gname_in ?_
    dsimp only
    have hfl : (mkS (figL l)).length = (figL l).length := mkS_len _
    refine ⟨_, rfl, _, rfl, sm (by omega), ?_⟩
    rw [hfl]
    have hfa : ∀ c ∈ figL l, c < 128 := fun c hc => hasc c (by
      unfold figL at hc
      split at hc
      · exact List.mem_cons_of_mem _ hc
      · exact hc)
    have key : ∀ (H' : Hp), Same H H' → goodL l = false → Q .non H' := fun H' s hb => by
      have := k H' s
      rw [hb] at this
      exact this
    refine ⟨_, _, rfl, rfl, _, rfl, ?_⟩
    by_cases h0 : (0 : Int) < (((figL l).length : Nat) : Int)
    rotate_left
    · have hb : goodL l = false := by
        have : (figL l).length = 0 := by omega
        unfold goodL
        rw [this]; rfl
      rw [decide_eq_false h0]
      exact iteF ⟨_, rfl, iteT (key _ (Same.refl _) hb)⟩
    rw [decide_eq_true h0]
    refine iteT ⟨_, _, rfl, rfl, _, rfl, ?_⟩
    by_cases h3 : (((figL l).length : Nat) : Int) < 3
    rotate_left
    · have hb : goodL l = false := by
        have e1 : ¬ (figL l).length = 1 := by omega
        have e2 : ¬ (figL l).length = 2 := by omega
        unfold goodL
        rw [decide_eq_false e1, decide_eq_false e2]; rfl
      rw [decide_eq_false h3]
      exact iteT (key _ (Same.refl _) hb)
    rw [decide_eq_true h3]
    refine iteF ?_
    have h12 : (decide ((figL l).length = 1) || decide ((figL l).length = 2)) = true := by
      have : (figL l).length = 1 ∨ (figL l).length = 2 := by omega
      rcases this with e | e <;> rw [e] <;> rfl
    refine ⟨_, rfl, _, rfl, fun D hD => ?_⟩
    have hszc : (mkS (figL l)).cps.size = (figL l).length := hfl
    have hl2 : (figL l).length ≤ 2 := by omega
    refine lc_it (walk_str (z := mkS (figL l))) (fun i H2 => Same H H2 ∧ H2 D = some (.lst (((((figL l).take i).filter fun c => !digB c).map fun c => (⟨#[c]⟩ : Str)).map V.str))) ⟨Same.new _ hD, upd_same⟩ (fun _ _ _ _ => trivial) ?_ ?_
    · rintro i x H2 H3 hi ⟨s2, hD2⟩ ⟨rfl, c, hc, rfl⟩
      have hc' : (figL l)[i]? = some c := by
        rw [← Array.getElem?_toList, mkS_list] at hc
        exact hc
      refine ⟨rfl, _, rfl, c, _, rfl, rfl, ?_⟩
      rw [dig_iff]
      have hlen : (((figL l).take i).filter fun c => !digB c).length ≤ 2 := by
        refine Nat.le_trans (List.length_filter_le _ _) ?_
        rw [List.length_take]; omega
      cases hd : digB c with
      | true =>
        refine ⟨_, rfl, iteF ⟨s2, ?_⟩⟩
        rw [List.take_add_one, hc', List.filter_append]
        have : List.filter (fun c => !digB c) (some c).toList = [] := by
          show List.filter _ [c] = []
          rw [List.filter_cons, if_neg (by rw [hd]; decide)]; rfl
        rw [this, List.append_nil]
        exact hD2
      | false =>
        refine ⟨_, rfl, iteT ?_⟩
        refine ⟨_, rfl, _, hD2, ?_, Same.mut _ s2 hD, ?_⟩
        · rw [List.length_map, List.length_map]
          exact small1000 (by omega)
        · have : List.filter (fun c => !digB c) (some c).toList = [c] := by
            show List.filter _ [c] = [c]
            rw [List.filter_cons, if_pos (by rw [hd]; rfl)]; rfl
          rw [upd_same, List.take_add_one, hc', List.filter_append, this, List.map_append, List.map_append]; rfl
    · rintro H2 ⟨s2, hD2⟩
      rw [hszc, List.take_length] at hD2
      refine ⟨small (by show 0 ≤ 1000; decide), fun e0 he0 => ?_⟩
      have sN := Same.new (.lst ([] : List V)) he0
      have s3 := s2.trans sN
      refine neNilS (fun x hx => ?_) (sN _ _ hD2) upd_same ?_
      · obtain ⟨c, hc, rfl⟩ := List.mem_map.mp hx
        intro d hd
        have : d = c := by simpa using hd
        rw [this]
        exact hfa c ((List.mem_filter.mp hc).1)
      cases hall : (figL l).all digB with
      | false =>
        have hb : goodL l = false := by unfold goodL; rw [h12, hall]; rfl
        have hne : List.map (fun c => (⟨#[c]⟩ : Str)) (List.filter (fun c => !digB c) (figL l)) ≠ [] := fun z => by
          have z := List.map_eq_nil_iff.mp z
          have : (figL l).all digB = true := List.all_eq_true.mpr fun c hc => by
            cases hd : digB c with
            | true => rfl
            | false =>
              have : c ∈ List.filter (fun c => !digB c) (figL l) := List.mem_filter.mpr ⟨hc, by rw [hd]; rfl⟩
              rw [z] at this; cases this
          rw [this] at hall; cases hall
        rw [decide_eq_false hne]
        exact ⟨_, rfl, iteT (key _ s3 hb)⟩
      | true =>
        have hgd : goodL l = true := by unfold goodL; rw [h12, hall]; rfl
        have he : List.map (fun c => (⟨#[c]⟩ : Str)) (List.filter (fun c => !digB c) (figL l)) = [] := by
          rw [List.map_eq_nil_iff]
          refine List.filter_eq_nil_iff.mpr fun c hc => ?_
          rw [List.all_eq_true.mp hall c hc]; decide
        rw [decide_eq_true he]
        obtain ⟨v1, v2, v3, v4⟩ := good_fact hgd
        rw [hgd] at k
        have hll : l.length ≤ 3 := by
          cases l with
          | nil => simp
          | cons c r =>
            by_cases hc : c = 45
            · subst hc
              have : (figL (45 :: r)) = r := rfl
              rw [this] at hl2
              simp; omega
            · rw [figL_of hc] at hl2; omega
        generalize upd H2 e0 (.lst []) = H3 at s3 ⊢
        have kv : canL l = true → Q (.int (valL l)) H3 := fun hc => by
          have := k H3 s3
          rw [hc] at this
          exact this
        have kn : canL l = false → Q .non H3 := fun hc => by
          have := k H3 s3
          rw [hc] at this
          exact this
        refine ⟨_, rfl, iteF ?_⟩
        dsimp only [tNext]
        have d48 : ("0" : Str) = mkS [48] := by decide +kernel
        refine ⟨_, rfl, rfl, _, rfl, ?_⟩
        by_cases e0 : l = [48]
        · rw [decide_eq_true (show V.str (mkS l) = V.str ("0" : Str) by rw [e0, d48])]
          refine iteT (iteT ?_)
          exact ⟨_, rfl, _, valL l, rfl, v1, by rw [mkS_len]; omega, kv (by unfold canL; rw [decide_eq_true e0]; rfl)⟩
        rw [decide_eq_false (show ¬ V.str (mkS l) = V.str ("0" : Str) from fun z => e0 (mkS_inj ((V.str.inj z).trans d48)))]
        refine iteF ?_
        obtain ⟨c, r, ecr⟩ : ∃ c r, figL l = c :: r := by
          cases hh : figL l with
          | nil => rw [hh] at h0; simp at h0
          | cons c r => exact ⟨c, r, rfl⟩
        refine ⟨_, rfl, _, _, c, rfl, rfl, sm (by omega), ?_, ?_⟩
        · rw [mkS_list, ecr]
          exact atI_nat (xs := c :: r) (j := 0) (v := c) rfl
        refine ⟨rfl, _, rfl, ?_⟩
        have hcan : canL l = decide (c ≠ 48) := by
          unfold canL
          rw [decide_eq_false e0, ecr, Bool.false_or]
          by_cases h : c = 48
          · rw [h]; rfl
          · rw [decide_eq_true h]
            exact decide_eq_true (fun z => h (Option.some.inj z))
        by_cases hc : c = 48
        · rw [decide_eq_true (show V.str (⟨#[c]⟩ : Str) = V.str ("0" : Str) by rw [hc, d48]; rfl)]
          refine iteF ?_
          exact kn (by rw [hcan]; exact decide_eq_false (fun z => z hc))
        · rw [decide_eq_false (show ¬ V.str (⟨#[c]⟩ : Str) = V.str ("0" : Str) from fun z => hc (by
            have := V.str.inj z
            rw [d48] at this
            have := mkS_inj (show mkS [c] = mkS [48] from this)
            exact (List.cons.inj this).1))]
          refine iteT ?_
          exact ⟨_, rfl, _, valL l, rfl, v1, by rw [mkS_len]; omega, kv (by rw [hcan]; exact decide_eq_true hc)⟩
end
end SH
set_option Elab.async false
set_option linter.all false
set_option maxRecDepth 100000
set_option maxHeartbeats 0
/-! k18: read of any text -/
namespace SH
open PySem PySem.Spec PyProof.Rows L2 StX TL
def BooksW (H : Hp) (ba : Addr) (bs : List (List Lw)) : Prop := ∃ cs : List (Addr × List Addr), H ba = some (.lst (cs.map fun c => V.ref c.1)) ∧ Paired (fun (c : Addr × List Addr) (zs : List Lw) => H c.1 = some (.lst (c.2.map V.ref)) ∧ RowW H c.2 zs) cs bs
def spReadA (C : Addr) : Sp := fun vs H Q E => ∃ t : Str, vs = [.str t] ∧ t.length ≤ 90000 ∧
  (∀ bs, readT t = .ok bs → ∀ ba H', Same H H' → H ba = none → BooksW H' ba bs → Q (.ref ba) H') ∧
  (∀ k, readT t = .error k → ∀ d H', Same H H' → H' d = some (.xd [(("line" : Str), .int (k : Nat))]) → E (.ref C) (some d) H')
section
variable {P : Program} {w : World} {K : PySem.W.Frag} {mg : Str → Option Value} {base : Heap}
theorem ok_readA {C fI0 f fN fW fI : Addr} {fd fdN fdW fdI : FuncData} (F : Fun K "read" "read" sRead f fd) (T : TxtP mg) (TB : PySem.BTX.BtTxt P K mg C fI0)
    (GN : FnOk P w K mg base CX0 1 fN fdN ["word"] spNumA) (bN : Binds K fdN ["word"] []) (gN : mg "number_of" = some (.ref fN)) (kN : PySem.W.keepIn K (.ref fN) = true)
    (GW : FnOk P w K mg base CX0 1 fW fdW ["value", "least", "greatest"] spWithinO) (bW : Binds K fdW ["value", "least", "greatest"] []) (gW : mg "is_within" = some (.ref fW)) (kW : PySem.W.keepIn K (.ref fW) = true)
    (GI : FnOk P w K mg base CX0 3 fI fdI ["letter"] spIsLetO) (bI : Binds K fdI ["letter"] []) (gI : mg "is_letter" = some (.ref fI)) (kI : PySem.W.keepIn K (.ref fI) = true) :
    FnOk P w K mg base (L2.CX P w) 4 f fd ["text"] (spReadA C) := by
  obtain ⟨tk, hmost⟩ := T.most
  refine F.okX scRead (fun vs H Q E h => ?_) (fun cdv A0 outer s0 H vs Q E hr h => ?_)
  · obtain ⟨t, rfl, _⟩ := h
    rfl
  · obtain ⟨t, rfl, ht, kO, kE⟩ := h
    refine ⟨_, (pss_cons (ps_set (i := 1) scRead.nd rfl (Or.inl rfl) (pe_lst pa_nil)) (pss_cons (ps_if (pt_cmpR op_eq (pv 0) pe_str (nomark _)) (pss_one (ps_ret (pv 1))) pss_nil) (pss_cons (ps_for PassesOwn.leaving rfl (pi_enum (by rfl) T.enumerate (pa_cons (pe_split (pv 0) pe_str) pa_nil)) (pg_tup (by rfl) (pgs_cons (pg_name (i := 2) scRead.nd rfl (Or.inl rfl)) (pgs_cons (pg_name (i := 3) scRead.nd rfl (Or.inl rfl)) pgs_nil))) (pss_cons (ps_set (i := 4) scRead.nd rfl (Or.inl rfl) (pe_split (pv 3) pe_str)) (pss_cons (ps_set (i := 5) scRead.nd rfl (Or.inl rfl) (pe_call GN (hr.mono (by decide)) rfl gN kN bN .nil pass0 (pa_cons (pe_ix ix_list (pv 4) pe_int (fun _ _ => rfl)) pa_nil))) (pss_cons (ps_set (i := 6) scRead.nd rfl (Or.inl rfl) (pe_callTy call_tuple_of (by rfl) T.tuple (show bootBuiltins "tuple" = some (.type "tuple") by decide +kernel) (pa_cons (pe_op op_cat (pe_slice sl_list (pv 4) (po_some pe_int) (po_some pe_int)) (pe_lc (own := [("word", 7)]) (g := gName 7) (te := tCall spNumA [] E0 (tCons (tVar 7) tNil)) (by rfl) scRead.nd (pi_list (pe_slice sl_list (pv 4) (po_some pe_int) po_none)) (blkOk_by (own := [("word", 7)]) (N := nRead) (sc := defScope sRead) (by decide +kernel)) (fun _ _ _ _ _ => (pg_name (i := 7) scRead.nd rfl (Or.inl rfl))) (fun _ _ _ _ _ => pts_nil) (fun _ _ _ _ _ => (pe_call GN (hr.mono (by decide)) rfl gN kN bN .nil pass0 (pa_cons (pv 7) pa_nil))))) pa_nil))) (pss_cons (ps_if (PW.pt (pw_or (pt_not (pt_val (pe_call GW (hr.mono (by decide)) rfl gW kW bW .nil pass0 (pa_cons (pv 5) (pa_cons (pe_callB (call_max2 rfl) (by rfl) T.max (by decide +kernel) (pa_cons pe_int (pa_cons (pe_op op_sub (pe_callB call_len_seq (by rfl) T.len PySem.boot_len (pa_cons (pv 1) pa_nil)) pe_int) pa_nil))) (pa_cons (pe_op op_sub (pe_glob rfl hmost (v := .int 5) ⟨tk, rfl⟩) pe_int) pa_nil)))))) (pw_or1 (pt_not (pt_val (pe_call GI (hr.mono (by decide)) rfl gI kI bI .nil pass0 (pa_cons (pv 6) pa_nil))))))) (pss_one (ps_raiseBT rfl TB hr (takes_of rfl rfl rfl rfl) (by exact (pa_cons (pv 2) pa_nil)))) pss_nil) (pss_cons (ps_while PassesOwn.leaving (pt_cmpR op_le (pe_callB call_len_seq (by rfl) T.len PySem.boot_len (pa_cons (pv 1) pa_nil)) (pv 5) (nomark _)) (pss_one (ps_expr (pe_bm PySem.F.plainAttrs_list PySem.F.slot_list_append PySem.F.type_list_append mt_append (pv 1) (pa_cons (pe_lst pa_nil) pa_nil))))) (pss_one (ps_expr (pe_bm PySem.F.plainAttrs_list PySem.F.slot_list_append PySem.F.type_list_append mt_append (pe_ix ix_list (pv 1) (pv 5) (fun _ _ => rfl)) (pa_cons (pv 6) pa_nil)))))))))) (pss_one (ps_ret (pv 1)))))), ?_⟩
    have sm : ∀ {n : Nat}, n ≤ 1000 → n ≤ sizeLine := small
    have bg : ∀ {n : Nat}, n ≤ 100000 → n ≤ sizeLine := fun h => by rw [sizeLine_eq]; omega
    refine ⟨sm (by show 0 ≤ 1000; decide), fun bl hbl => ?_⟩
    refine ⟨_, rfl, rfl, _, rfl, ?_⟩
    by_cases he : t = ""
    · rw [decide_eq_true (show V.str t = V.str "" by rw [he])]
      refine iteT ?_
      refine ⟨_, rfl, kO [] (by unfold readT rowsT; rw [if_pos he]; rfl) bl _ (Same.new _ hbl) hbl ⟨[], upd_same, .nil⟩⟩
    rw [decide_eq_false (fun z => he (V.str.inj z))]
    refine iteF ?_
    have hP := parts_nl t
    have erow : readT t = readR (Txt.split t "\n") 0 [] := by unfold readT rowsT; rw [if_neg he]
    rw [erow] at kO kE
    clear erow
    refine ⟨_, rfl, ⟨_, rfl⟩, _, _, rfl, rfl, by kernel_rfl, bg (by have := hP.few; omega), fun rl hrl => ?_⟩
    generalize Txt.split t "\n" = rows at hP kO kE
    have r0 : RJ H (upd (upd H bl (.lst [])) rl (.lst (rows.map V.str))) (rl, .lst (rows.map V.str)) bl [] [] := by
      refine ⟨?_, .nil, (Same.new _ hbl).trans (Same.new _ hrl), hbl, fun _ h => (by cases h)⟩
      exact Has.cons (L := bkCells bl []) ⟨fun c hc => by rw [List.mem_singleton.mp hc]; exact upd_same, by simp [bkCells]⟩ hrl _
    refine ⟨rl, _, rfl, SqL.of upd_same, ?_⟩
    refine for_it (w := walk_enum (K := K) (a := rl) (xs := rows.map V.str)) (fun i σ H2 => ∃ v2 v3 v4 v5 v6 cs bs, σ = [some (.str t), some (.ref bl), v2, v3, v4, v5, v6, none] ∧ RJ H H2 (rl, .lst (rows.map V.str)) bl cs bs ∧ bs.length ≤ 5 ∧ (∀ zs ∈ bs, zs.length ≤ i) ∧ readR rows 0 [] = readR (rows.drop i) i bs)
      ⟨none, none, none, none, none, [], [], rfl, r0, by decide, fun _ h => (by cases h), rfl⟩ (fun i σ H2 _ ⟨_, _, _, _, _, _, _, _, r, _⟩ => SqL.of (Has.get (A := []) r.has 0 rfl)) ?_ ?_
    · rintro i x σ H2 H3 hi ⟨v2, v3, v4, v5, v6, cs, bs, rfl, r2, hb5, hbi, hrd⟩ ⟨Tp, x1, x2, rfl, hT, rfl, e1, e2⟩
      obtain rfl : V.int (i : Nat) = x1 := Option.some.inj e1
      have hi : i < rows.length := by simpa using hi
      have hil : i ≤ 90000 := by have := hP.few; omega
      have ep : rows[i]? = some rows[i] := List.getElem?_eq_getElem hi
      have e2 : (rows.map V.str)[i]? = some x2 := e2
      rw [List.getElem?_map, ep] at e2
      have edr : rows.drop i = rows[i] :: rows.drop (i + 1) := List.drop_eq_getElem_cons hi
      rw [edr] at hrd
      have hrl9 : (rows[i]).length ≤ 90000 := Nat.le_trans (hP.len _ (List.getElem_mem hi)) ht
      generalize rows[i] = row at e2 hrd hrl9
      obtain rfl : V.str row = x2 := Option.some.inj e2
      have hrd : readR rows 0 [] = if (inO (cliR row) (if (bs.length : Int) - 1 > 0 then (bs.length : Int) - 1 else 0) (5 - 1) && okLw (lwR row)) = true then readR (rows.drop (i + 1)) (i + 1) (addW bs ((cliR row).getD 0).toNat (lwR row)) else .error i := hrd
      refine ⟨Tp, _, rfl, SqT.of upd_same, rfl, _, _, rfl, _, _, rfl, rfl, ?_⟩
      have r3 := r2.sm (Same.new (HO.tup [V.int (i : Nat), V.str row]) hT)
      generalize upd H2 Tp (.tup [V.int (i : Nat), V.str row]) = H3 at r3
      have hW := parts_sp row
      have ew : wordsR row = Txt.split row " " := rfl
      have ec : cliR row = match Txt.split row " " with | [] => none | x :: _ => numW x := rfl
      have el : lwR row = match Txt.split row " " with | _ :: x :: r => some (x, r.map numW) | _ => none := rfl
      refine ⟨_, rfl, ⟨_, rfl⟩, _, _, rfl, rfl, by kernel_rfl, bg (by have := hW.few; omega), fun wl hwl => ?_⟩
      generalize Txt.split row " " = ws at hW ew ec el hwl
      obtain ⟨w0, wr, rfl⟩ : ∃ w0 wr, ws = w0 :: wr := by
        cases ws with
        | nil => exact absurd rfl hW.ne
        | cons a b => exact ⟨a, b, rfl⟩
      have ec : cliR row = numW w0 := ec
      have hwl1 : ∀ p ∈ w0 :: wr, p.length ≤ 1000000 := fun p hp => by have := hW.len p hp; omega
      have hwf : (w0 :: wr).length ≤ 90001 := by have := hW.few; omega
      have r4 := r3.sm (Same.new (HO.lst ((w0 :: wr).map V.str)) hwl)
      have hw4 : upd H3 wl (.lst ((w0 :: wr).map V.str)) wl = some (.lst ((w0 :: wr).map V.str)) := upd_same
      generalize upd H3 wl (.lst ((w0 :: wr).map V.str)) = H4 at r4 hw4
      refine ⟨_, rfl, _, _, _, V.str w0, rfl, rfl, SqL.of hw4, at_of (j := 0) rfl rfl, w0, rfl, hwl1 w0 List.mem_cons_self, fun H5 s5 => ?_⟩
      rw [← ec]
      have r5 := r4.sm s5
      have hw5 := s5 _ _ hw4
      refine ⟨_, rfl, _, rfl, _, rfl, wl, _, rfl, SqL.of hw5, fun q1 hq1 => ?_⟩
      have ec1 : cutV ((w0 :: wr).map V.str) (some 1) (some 2) = (wr.take 1).map V.str := by
        cases wr with
        | nil => rfl
        | cons a b => exact cut12 _ _ _
      rw [ec1]
      have s6 := Same.new (HO.lst ((wr.take 1).map V.str)) hq1
      have h61 : upd H5 q1 (.lst ((wr.take 1).map V.str)) q1 = some (.lst ((wr.take 1).map V.str)) := upd_same
      have r6 := r5.sm s6
      have hw6 := s6 _ _ hw5
      generalize upd H5 q1 (.lst ((wr.take 1).map V.str)) = H6 at r6 hw6 h61
      refine ⟨_, rfl, _, rfl, wl, _, rfl, SqL.of hw6, fun q2 hq2 => ?_⟩
      have ec2 : cutV ((w0 :: wr).map V.str) (some 2) none = (wr.drop 1).map V.str := by
        rw [show (2 : Int) = ((2 : Nat) : Int) from rfl, cut_drop, ← List.map_drop]; rfl
      rw [ec2]
      have s7 := Same.new (HO.lst ((wr.drop 1).map V.str)) hq2
      have h72 : upd H6 q2 (.lst ((wr.drop 1).map V.str)) q2 = some (.lst ((wr.drop 1).map V.str)) := upd_same
      have r7 := r6.sm s7
      have h71 := s7 _ _ h61
      generalize upd H6 q2 (.lst ((wr.drop 1).map V.str)) = H7 at r7 h71 h72
      refine ⟨q2, rfl, ⟨_, SqL.of h72⟩, fun D hD => ?_⟩
      refine lc_list (K := K) (a := q2) (xs := (wr.drop 1).map V.str) (fun j H8 => Same H7 H8 ∧ H8 D = some (.lst (((wr.drop 1).take j).map fun x => optV (numW x)))) ⟨Same.new _ hD, upd_same⟩ (fun j H8 _ p => SqL.of (p.1 _ _ h72)) ?_ ?_
      · rintro j y H8 hy ⟨s8, hD8⟩
        rw [List.getElem?_map] at hy
        cases en : (wr.drop 1)[j]? with
        | none => rw [en] at hy; cases hy
        | some n =>
          rw [en] at hy
          obtain rfl : V.str n = y := Option.some.inj hy
          have hn := hwl1 n (List.mem_cons_of_mem _ (List.mem_of_mem_drop (List.mem_of_getElem? en)))
          have hj := (List.getElem?_eq_some_iff.mp en).1
          refine ⟨rfl, _, rfl, n, rfl, hn, fun H9 s9 => ⟨_, s9 _ _ hD8, ?_, Same.mut _ (s8.trans s9) hD, ?_⟩⟩
          · rw [List.length_map, List.length_take]
            rw [List.length_drop] at hj
            simp only [List.length_cons] at hwf
            rw [sizeLine_eq]; omega
          · rw [upd_same, List.take_add_one, en, List.map_append]; rfl
      · rintro H8 ⟨s8, hD8⟩
        rw [List.length_map, List.take_length] at hD8
        have r8 := r7.sm s8
        have elv : (wr.take 1).map V.str ++ (wr.drop 1).map (fun x => optV (numW x)) = lwV (lwR row) := by
          rw [el]
          cases wr with
          | nil => rfl
          | cons a b => show V.str a :: b.map _ = V.str a :: (b.map numW).map optV; rw [List.map_map]; rfl
        have elv' : (lwV (lwR row)).length ≤ 90001 := by
          rw [← elv]
          simp only [List.length_append, List.length_map, List.length_take, List.length_drop, List.length_cons] at hwf ⊢
          omega
        refine ⟨q1, D, _, _, rfl, rfl, s8 _ _ h71, hD8, bg (by rw [← List.length_append, elv]; omega), fun q3 hq3 => ?_⟩
        rw [elv]
        generalize lwR row = l at elv elv' hrd
        have s9 := Same.new (HO.lst (lwV l)) hq3
        have r9 := r8.sm s9
        refine ⟨q3, _, rfl, .inl ⟨SqL.of upd_same, fun tp htp => ?_⟩⟩
        have s10 := Same.new (HO.tup (lwV l)) htp
        have r10 := r9.sm s10
        have ht10 : upd (upd H8 q3 (.lst (lwV l))) tp (.tup (lwV l)) tp = some (.tup (lwV l)) := upd_same
        generalize upd (upd H8 q3 (.lst (lwV l))) tp (.tup (lwV l)) = H10 at r10 ht10
        have hl10 := r10.len
        refine ⟨_, rfl, _, rfl, bl, _, rfl, .inl (SqL.of r10.bl), _, _, rfl, rfl, _, _, rfl, _, _, rfl, rfl, cliR row, _, _, rfl, ?_⟩
        rw [List.length_map, hl10]
        refine ⟨_, rfl, ?_⟩
        cases hin : inO (cliR row) (if (bs.length : Int) - 1 > 0 then (bs.length : Int) - 1 else 0) (5 - 1) with
        | false =>
          rw [hin, Bool.false_and, if_neg (by decide)] at hrd
          refine iteT (iteT ?_)
          exact ⟨_, rfl, (i : Nat), rfl, by omega, by omega, fun d hd => kE i hrd d _ (r10.same.trans (Same.new _ hd)) upd_same⟩
        | true =>
        rw [hin, Bool.true_and] at hrd
        refine iteF ?_
        refine ⟨_, rfl, tp, l, rfl, ht10, by omega, fun H11 s11 => ⟨_, rfl, ?_⟩⟩
        cases hok : okLw l with
        | false =>
          rw [hok, if_neg (by decide)] at hrd
          refine iteT ?_
          exact ⟨_, rfl, (i : Nat), rfl, by omega, by omega, fun d hd => kE i hrd d _ ((r10.sm s11).same.trans (Same.new _ hd)) upd_same⟩
        | true =>
        rw [hok, if_pos rfl] at hrd
        refine iteF ?_
        have r11 := r10.sm s11
        have ht11 := s11 _ _ ht10
        obtain ⟨kk, hck, hk5, hkb⟩ : ∃ kk : Nat, cliR row = some (kk : Int) ∧ kk ≤ 4 ∧ bs.length ≤ kk + 1 := by
          cases hc : cliR row with
          | none => rw [hc] at hin; cases hin
          | some n =>
            rw [hc] at hin
            have h2 := Bool.and_eq_true_iff.mp (show (decide ((if (bs.length : Int) - 1 > 0 then (bs.length : Int) - 1 else 0) ≤ n) && decide (n ≤ 5 - 1)) = true from hin)
            have h3 := of_decide_eq_true h2.1
            have h4 := of_decide_eq_true h2.2
            refine ⟨n.toNat, ?_, ?_, ?_⟩
            · congr 1; split at h3 <;> omega
            · omega
            · split at h3 <;> omega
        rw [hck] at hrd ⊢
        rw [show ((some (kk : Int)).getD 0).toNat = kk from by simp] at hrd
        clear hin hck ec
        refine while_by (fun σ H12 => ∃ cs m, σ = [some (.str t), some (.ref bl), some (.int (i : Nat)), some (.str row), some (.ref wl), some (.int (kk : Nat)), some (.ref tp), none] ∧ H12 tp = some (.tup (lwV l)) ∧
          RJ H H12 (rl, .lst (rows.map V.str)) bl cs (bs ++ List.replicate m []) ∧ (m = 0 ∨ bs.length + m ≤ kk + 1))
          (fun _ H12 => kk + 1 - (match H12 bl with | some (.lst xs) => xs.length | _ => 0)) ⟨cs, 0, rfl, ht11, by simpa using r11, .inl rfl⟩ ?_ ?_
        · rintro σ H12 ⟨cs, m, rfl, ht12, r12, hm⟩
          have hl12 := r12.len
          rw [List.length_append, List.length_replicate] at hl12
          refine ⟨_, rfl, bl, _, rfl, .inl (SqL.of r12.bl), _, rfl, _, _, rfl, rfl, _, rfl, ?_⟩
          rw [List.length_map, hl12]
          refine ite2 (fun c => ?_) (fun c => ?_)
          · have c := of_decide_eq_true c
            refine ⟨_, rfl, .inl ⟨rfl, _, SqL.of r12.bl⟩, sm (by show 0 ≤ 1000; decide), fun nl hnl => ?_⟩
            have s13 := Same.new (HO.lst []) hnl
            have r13 := r12.more hnl
            refine ⟨bl, _, _, rfl, rfl, s13 _ _ r12.bl, by rw [List.length_map, hl12]; exact small1000 (by omega), ?_⟩
            refine ⟨⟨cs ++ [(nl, [])], m + 1, rfl, ?_, ?_, .inr (by omega)⟩, ?_⟩
            · rw [upd_ne (by intro q; have := s13 _ _ r12.bl; rw [← q, s13 _ _ ht12] at this; cases this)]
              exact s13 _ _ ht12
            · rw [List.replicate_succ', ← List.append_assoc]
              exact r13
            · have e1 := r13.bl
              have e2 := r12.bl
              show kk + 1 - (match (upd (upd H12 nl (.lst [])) bl (.lst (cs.map (fun c => V.ref c.1) ++ [V.ref nl]))) bl with | some (.lst xs) => xs.length | _ => 0) < kk + 1 - (match H12 bl with | some (.lst xs) => xs.length | _ => 0)
              rw [e1, e2]
              simp only [List.length_map, List.length_append, List.length_cons, List.length_nil]
              omega
          · have c : ¬ ((bs.length + m : Nat) : Int) ≤ (kk : Nat) := fun q => c (decide_eq_true q)
            have epad : bs ++ List.replicate m [] = padW bs (kk + 1) := by
              unfold padW
              congr 2
              rcases hm with rfl | hm <;> omega
            rw [epad] at r12
            have hpl : (padW bs (kk + 1)).length = kk + 1 := by unfold padW; rw [List.length_append, List.length_replicate]; omega
            have hl13 := r12.len
            have ecs : cs[kk]? = some cs[kk] := List.getElem?_eq_getElem (by omega)
            have ebs : (padW bs (kk + 1))[kk]? = some ((padW bs (kk + 1)).getD kk []) := by
              rw [List.getD_eq_getElem?_getD]
              have : (padW bs (kk + 1))[kk]? = some (padW bs (kk + 1))[kk] := List.getElem?_eq_getElem (by omega)
              rw [this]; rfl
            generalize cs[kk] = c at ecs
            have hcell : H12 c.1 = some (.lst (c.2.map V.ref)) := r12.has.mem (by
              refine List.mem_cons_of_mem _ (List.mem_cons_of_mem _ (List.mem_map.mpr ⟨c, List.mem_of_getElem? ecs, rfl⟩)))
            have hpb : ∀ zs ∈ padW bs (kk + 1), zs.length ≤ i := fun zs hz => by
              rcases List.mem_append.mp hz with hz | hz
              · exact hbi _ hz
              · rw [(List.mem_replicate.mp hz).2]; exact Nat.zero_le _
            have hgl : ((padW bs (kk + 1)).getD kk []).length ≤ i := hpb _ (List.mem_of_getElem? ebs)
            have hcl : c.2.length ≤ i := by
              have h1 := paired_ix r12.row ecs ebs
              have h2 := paired_len h1
              omega
            refine ⟨_, rfl, _, rfl, _, _, _, V.ref c.1, rfl, rfl, SqL.of r12.bl, at_of (j := kk) rfl (by rw [List.getElem?_map, ecs]; rfl), .inl ⟨rfl, _, SqL.of hcell⟩, _, rfl, c.1, _, _, rfl, rfl, hcell, by rw [List.length_map, sizeLine_eq]; omega, ?_⟩
            refine ⟨_, _, _, _, _, cs.set kk (c.1, c.2 ++ [tp]), addW bs kk l, rfl, r12.put ecs ebs ht12, ?_, fun zs hz => ?_, hrd⟩
            · unfold addW; rw [List.length_set, hpl]; omega
            · rcases List.mem_or_eq_of_mem_set hz with q | rfl
              · exact Nat.le_succ_of_le (hpb _ q)
              · rw [List.length_append]; show _ + 1 ≤ i + 1; omega
        · intro σ H Q1 Q2 imp hq
          obtain ⟨v, e1, p, ys, e2, h, v5, e5, i, j, e6, e7, b, e8, q⟩ := hq
          exact ⟨v, e1, p, ys, e2, h, v5, e5, i, j, e6, e7, b, e8, imp _ _ q⟩
    · rintro σ H2 ⟨v2, v3, v4, v5, v6, cs, bs, rfl, r2, hb5, hbi, hrd⟩
      rw [List.length_map, List.drop_length] at hrd
      refine ⟨_, rfl, kO bs hrd bl H2 r2.same r2.fb ⟨cs, r2.bl, ?_⟩⟩
      have hcell : ∀ c ∈ cs, H2 c.1 = some (.lst (c.2.map V.ref)) := fun c hc => r2.has.mem (List.mem_cons_of_mem _ (List.mem_cons_of_mem _ (List.mem_map.mpr ⟨c, hc, rfl⟩)))
      have gen : ∀ {cs : List (Addr × List Addr)} {bs : List (List Lw)}, (∀ c ∈ cs, H2 c.1 = some (.lst (c.2.map V.ref))) → Paired (fun (c : Addr × List Addr) (zs : List Lw) => RowW H2 c.2 zs) cs bs → Paired (fun (c : Addr × List Addr) (zs : List Lw) => H2 c.1 = some (.lst (c.2.map V.ref)) ∧ RowW H2 c.2 zs) cs bs := by
        intro cs bs hc p
        induction p with
        | nil => exact .nil
        | cons r _ ih => exact .cons ⟨hc _ List.mem_cons_self, r⟩ (ih fun c h => hc c (List.mem_cons_of_mem _ h))
      exact gen hcell r2.row
end
end SH
set_option Elab.async false
set_option linter.all false
set_option maxRecDepth 100000
set_option maxHeartbeats 0
/-! k18: _law_line -/
namespace SH
open PySem PySem.Spec PyProof.Rows L2 StX TL RZ
abbrev sLn : Stmt := top 36
abbrev nLn : List Str := ["_law_row", "_law_forms", "_law_bounds", "_law_words", "_law_client", "_law_form", "_law_numbers", "_law_number", "_law_sort", "_law_word"]
theorem scLn : FnScope nLn ["_law_row"] (defScope sLn) := ⟨rfl, rfl, rfl, by decide +kernel, rfl, by decide +kernel, by decide +kernel⟩
def spLine : Sp := fun vs H Q _ => ∃ row : Str, vs = [.str row] ∧ row.length ≤ 90000 ∧ Asc row ∧ (fineL row = false → ∀ H', Same H H' → Q .non H') ∧
  (fineL row = true → ∀ (c : Nat) (t p : Addr) (H' : Hp), cliR row = some (c : Int) → c ≤ 4 → Same H H' → H t = none → H p = none → H' t = some (.tup (lwV (lwR row))) → H' p = some (.tup [.int (c : Nat), .ref t]) → Q (.ref p) H')
theorem walk_zipS {K : PySem.W.Frag} {a : Addr} {xs : List V} {z : Str} (hn : xs.length = z.cps.size) : Walk (ItzS K a z) xs.length (fun H => SqL K H a xs) (YPair (fun i => xs[i]?) (fun i => (z.cps[i]?).map fun c => V.str ⟨#[c]⟩)) := by
  refine ⟨fun i H hi q => ?_, fun H q => ⟨xs, q, Nat.le_refl _, by omega, .inl rfl⟩, fun i H v H' _ q y => ?_⟩
  · have h2 : i < z.cps.size := by omega
    exact ⟨xs, xs[i], z.cps[i], q, by simp [hi], by simp [h2]⟩
  · obtain ⟨T, x, c, h1, h2, h3, h4, h5⟩ := y
    exact ⟨T, x, .str ⟨#[c]⟩, h1, h2, h3, h4 xs q, by show Option.map _ (z.cps[i]?) = _; rw [h5]; rfl⟩
theorem inBO_at {ns : List (Option Int)} {bs : List (Int × Int)} (h : inBO ns bs = true) {i : Nat} {v : Option Int} {b : Int × Int} (hv : ns[i]? = some v) (hb : bs[i]? = some b) : inO v b.1 b.2 = true := by
  have h2 := (Bool.and_eq_true_iff.mp h).2
  refine List.all_eq_true.mp h2 (v, b) (List.mem_of_getElem? (i := i) ?_)
  rw [List.getElem?_zip_eq_some]; exact ⟨hv, hb⟩
theorem inBO_of {ns : List (Option Int)} {bs : List (Int × Int)} (hl : ns.length = bs.length) (h : ∀ (i : Nat) (v : Option Int) (b : Int × Int), ns[i]? = some v → bs[i]? = some b → inO v b.1 b.2 = true) : inBO ns bs = true := by
  unfold inBO
  rw [decide_eq_true hl, Bool.true_and]
  refine List.all_eq_true.mpr fun p hp => ?_
  obtain ⟨i, hi⟩ := List.mem_iff_getElem?.mp hp
  rw [List.getElem?_zip_eq_some] at hi
  exact h i _ _ hi.1 hi.2
theorem sort_tup {H : Hp} {t1 t2 t3 t4 t5 t6 t7 : Addr} (e1 : H t1 = some (.tup [.int 0, .int 9])) (e2 : H t2 = some (.tup [.int 0, .int 9])) (e3 : H t3 = some (.tup [.int 1, .int 12])) (e4 : H t4 = some (.tup [.int 1, .int 8]))
    (e5 : H t5 = some (.tup [.int 0, .int 11])) (e6 : H t6 = some (.tup [.int 0, .int 7])) (e7 : H t7 = some (.tup [.int (-20), .int 20])) {j : Nat} {s : Str} {b : Int × Int} (h : sortT[j]? = some (s, b)) :
    ∃ t, valV (sortV [t1, t2, t3, t4, t5, t6, t7]) (.inr s) = some (.ref t) ∧ H t = some (.tup [.int b.1, .int b.2]) := by
  match j, h with
  | 0, h => cases h; exact ⟨_, rfl, e1⟩
  | 1, h => cases h; exact ⟨_, rfl, e2⟩
  | 2, h => cases h; exact ⟨_, rfl, e3⟩
  | 3, h => cases h; exact ⟨_, rfl, e4⟩
  | 4, h => cases h; exact ⟨_, rfl, e5⟩
  | 5, h => cases h; exact ⟨_, rfl, e6⟩
  | 6, h => cases h; exact ⟨_, rfl, e7⟩
  | j + 7, h => cases h
section
variable {P : Program} {w : World} {K : PySem.W.Frag} {mg : Str → Option Value} {base : Heap}
theorem ok_line {f fG : Addr} {fd fdG : FuncData} (F : Fun K "_law_line" "_law_line" sLn f fd) (T : TxtF K w mg)
    (GG : FnOk P w K mg base CX0 1 fG fdG ["_law_word"] spNumF) (bG : Binds K fdG ["_law_word"] []) (gG : mg "_law_figures" = some (.ref fG)) (kG : PySem.W.keepIn K (.ref fG) = true) :
    FnOk P w K mg base CX0 2 f fd ["_law_row"] spLine := by
  refine F.ok scLn (fun vs H Q E h => ?_) (fun cdv A0 outer s0 H vs Q E hr h => ?_)
  · obtain ⟨n, rfl, _⟩ := h
    rfl
  · obtain ⟨row, rfl, hrl, hasc, kN, kT⟩ := h
    have hu := hu_of hr
    refine ⟨_, (pss_cons (ps_set (i := 1) scLn.nd rfl (Or.inl rfl) (pe_disp (pps_cons pe_str pe_str (pps_cons pe_str pe_str (pps_cons pe_str pe_str (pps_cons pe_str pe_str (pps_cons pe_str pe_str (pps_cons pe_str pe_str (pps_cons pe_str pe_str pps_nil))))))) (by rfl) (by rfl) (fun z => by cases z) (by decide))) (pss_cons (ps_expr (pe_bm PySem.F.plainAttrs_dict PySem.F.slot_dict_update PySem.F.type_dict_update mtd_update (pv 1) (pa_cons (pe_disp (pps_cons pe_str pe_str (pps_cons pe_str pe_str (pps_cons pe_str pe_str (pps_cons pe_str pe_str (pps_cons pe_str pe_str pps_nil))))) (by rfl) (by rfl) (fun z => by cases z) (by decide)) pa_nil))) (pss_cons (ps_set (i := 2) scLn.nd rfl (Or.inl rfl) (pe_disp (pps_cons pe_str (pe_tup (pa_cons pe_int (pa_cons pe_int pa_nil))) (pps_cons pe_str (pe_tup (pa_cons pe_int (pa_cons pe_int pa_nil))) (pps_cons pe_str (pe_tup (pa_cons pe_int (pa_cons pe_int pa_nil))) (pps_cons pe_str (pe_tup (pa_cons pe_int (pa_cons pe_int pa_nil))) (pps_cons pe_str (pe_tup (pa_cons pe_int (pa_cons pe_int pa_nil))) (pps_cons pe_str (pe_tup (pa_cons pe_int (pa_cons pe_int pa_nil))) (pps_cons pe_str (pe_tup (pa_cons (pe_un un_neg pe_int) (pa_cons pe_int pa_nil))) pps_nil))))))) (by rfl) (by rfl) (fun z => by cases z) (by decide))) (pss_cons (ps_set (i := 3) scLn.nd rfl (Or.inl rfl) (pe_split (pv 0) pe_str)) (pss_cons (ps_set (i := 4) scLn.nd rfl (Or.inl rfl) (pe_call GG hr rfl gG kG bG .nil pass0 (pa_cons (pe_ix ix_list (pv 3) pe_int (fun _ _ => rfl)) pa_nil))) (pss_cons (ps_set (i := 5) scLn.nd rfl (Or.inl rfl) (pe_dget1 hu (pv 1) (pe_ix ix_list (pe_op op_cat (pv 3) (pe_lst (pa_cons pe_str pa_nil))) pe_int (fun _ _ => rfl)) ⟨rfl, rfl, rfl, rfl⟩)) (pss_cons (ps_if (PW.pt (pw_or (pt_cmpR op_isN (pv 4) pe_non (nomark _)) (pw_or (pt_not (pt_chain op_le op_lt pe_int (pv 4) pe_int)) (pw_or (pt_cmpR op_isN (pv 5) pe_non (nomark _)) (pw_or1 (pt_cmpR op_ne (pe_callB call_len_seq (by rfl) T.len PySem.boot_len (pa_cons (pv 3) pa_nil)) (pe_op op_add (pe_callB call_len_str (by rfl) T.len PySem.boot_len (pa_cons (pv 5) pa_nil)) pe_int) (nomark _))))))) (pss_one (ps_ret pe_non)) pss_nil) (pss_cons (ps_setLc (i := 6) (own := [("_law_word", 9)]) (g := gName 9) (te := tCall spNumF [] E0 (tCons (tVar 9) tNil)) (by rfl) scLn.nd rfl rfl (sw_true rfl rfl rfl (by decide +kernel)) (pi_list (pe_slice sl_list (pv 3) (po_some pe_int) po_none)) (blkOk_by (own := [("_law_word", 9)]) (N := nLn) (sc := defScope sLn) (by decide +kernel)) (fun _ _ _ _ _ => (pg_name (i := 9) scLn.nd rfl (Or.inl rfl))) (fun _ _ _ _ _ => pts_nil) (fun _ _ _ _ _ => (pe_call GG hr rfl gG kG bG .nil pass0 (pa_cons (pv 9) pa_nil)))) (pss_cons (ps_for PassesOwn.never rfl (RZ.pi_zipS (by rfl) T.zip (pa_cons (pv 6) (pa_cons (pv 5) pa_nil))) (pg_tup (by rfl) (pgs_cons (pg_name (i := 7) scLn.nd rfl (Or.inl rfl)) (pgs_cons (pg_name (i := 8) scLn.nd rfl (Or.inl rfl)) pgs_nil))) (pss_one (ps_if (PW.pt (pw_or (pt_cmpR op_isN (pv 7) pe_non (nomark _)) (pw_or1 (pt_not (pt_chain op_le op_le (pe_ix ix_tup (pe_dget hu (pv 2) (pv 8) (fun _ _ => rfl)) pe_int (fun _ _ => rfl)) (pv 7) (pe_ix ix_tup (pe_dget hu (pv 2) (pv 8) (fun _ _ => rfl)) pe_int (fun _ _ => rfl))))))) (pss_one (ps_ret pe_non)) pss_nil))) (pss_one (ps_ret (pe_tup (pa_cons (pv 4) (pa_cons (pe_callTy call_tuple_of (by rfl) T.tuple (show bootBuiltins "tuple" = some (.type "tuple") by decide +kernel) (pa_cons (pe_op op_cat (pe_slice sl_list (pv 3) (po_some pe_int) (po_some pe_int)) (pv 6)) pa_nil)) pa_nil)))))))))))))), ?_⟩
    have sm : ∀ {n : Nat}, n ≤ 1000 → n ≤ sizeLine := small
    have bg : ∀ {n : Nat}, n ≤ 100000 → n ≤ sizeLine := fun h => by rw [sizeLine_eq]; omega
    refine fun df hdf => ⟨upd_same, formsA, rfl, by decide, ?_⟩
    have q1 : upd (upd H df (.dK [])) df (.dK (mergeK [] formsA)) df = some (.dK (mergeK [] formsA)) := upd_same
    have s1 : Same H (upd (upd H df (.dK [])) df (.dK (mergeK [] formsA))) := Same.mut _ (Same.new _ hdf) hdf
    generalize upd (upd H df (.dK [])) df (.dK (mergeK [] formsA)) = H1 at q1 s1
    refine ⟨_, rfl, ?_, fun dg hdg => ⟨upd_same, formsB, rfl, by decide, ?_⟩⟩
    · exact .inr (.inr (.inl ⟨rfl, .inl ⟨_, q1⟩⟩))
    have ndg : df ≠ dg := ne_of_none q1 hdg
    have q2 : upd (upd H1 dg (.dK [])) dg (.dK (mergeK [] formsB)) dg = some (.dK (mergeK [] formsB)) := upd_same
    have s2 : Same H1 (upd (upd H1 dg (.dK [])) dg (.dK (mergeK [] formsB))) := Same.mut _ (Same.new _ hdg) hdg
    generalize upd (upd H1 dg (.dK [])) dg (.dK (mergeK [] formsB)) = H2 at q2 s2
    refine ⟨df, dg, _, _, rfl, rfl, ndg, s2 _ _ q1, q2, sm (by decide), ?_⟩
    have s3 : Same H (upd H2 df (.dK (mergeK (mergeK [] formsA) (mergeK [] formsB)))) := Same.mut _ (s1.trans s2) hdf
    have qf : upd H2 df (.dK (mergeK (mergeK [] formsA) (mergeK [] formsB))) df = some (.dK (mergeK (mergeK [] formsA) (mergeK [] formsB))) := upd_same
    generalize upd H2 df (.dK (mergeK (mergeK [] formsA) (mergeK [] formsB))) = H3 at s3 qf
    clear s1 s2 q1 q2 ndg hdg
    refine fun db hdb3 => ?_
    have hdb : H db = none := s3.free hdb3
    have qb : upd H3 db (.dK []) db = some (.dK []) := upd_same
    have qf := (Same.new (HO.dK []) hdb3) _ _ qf
    have s4 : Same H (upd H3 db (.dK [])) := s3.trans (Same.new _ hdb3)
    generalize upd H3 db (.dK []) = G0 at qb s4 qf
    refine ⟨by decide, fun t1 h1 => ?_⟩
    have u := Same.new (HO.tup [.int 0, .int 9]) h1
    have e1 : upd G0 t1 (.tup [.int 0, .int 9]) t1 = some (.tup [.int 0, .int 9]) := upd_same
    have qb := u _ _ qb
    have qf := u _ _ qf
    have s4 := s4.trans u
    clear u
    generalize upd G0 t1 (.tup [.int 0, .int 9]) = G1 at qb qf s4 e1
    refine ⟨by decide, fun t2 h2 => ?_⟩
    have u := Same.new (HO.tup [.int 0, .int 9]) h2
    have e2 : upd G1 t2 (.tup [.int 0, .int 9]) t2 = some (.tup [.int 0, .int 9]) := upd_same
    have e1 := u _ _ e1
    have qb := u _ _ qb
    have qf := u _ _ qf
    have s4 := s4.trans u
    clear u
    generalize upd G1 t2 (.tup [.int 0, .int 9]) = G2 at qb qf s4 e1 e2
    refine ⟨by decide, fun t3 h3 => ?_⟩
    have u := Same.new (HO.tup [.int 1, .int 12]) h3
    have e3 : upd G2 t3 (.tup [.int 1, .int 12]) t3 = some (.tup [.int 1, .int 12]) := upd_same
    have e1 := u _ _ e1
    have e2 := u _ _ e2
    have qb := u _ _ qb
    have qf := u _ _ qf
    have s4 := s4.trans u
    clear u
    generalize upd G2 t3 (.tup [.int 1, .int 12]) = G3 at qb qf s4 e1 e2 e3
    refine ⟨by decide, fun t4 h4 => ?_⟩
    have u := Same.new (HO.tup [.int 1, .int 8]) h4
    have e4 : upd G3 t4 (.tup [.int 1, .int 8]) t4 = some (.tup [.int 1, .int 8]) := upd_same
    have e1 := u _ _ e1
    have e2 := u _ _ e2
    have e3 := u _ _ e3
    have qb := u _ _ qb
    have qf := u _ _ qf
    have s4 := s4.trans u
    clear u
    generalize upd G3 t4 (.tup [.int 1, .int 8]) = G4 at qb qf s4 e1 e2 e3 e4
    refine ⟨by decide, fun t5 h5 => ?_⟩
    have u := Same.new (HO.tup [.int 0, .int 11]) h5
    have e5 : upd G4 t5 (.tup [.int 0, .int 11]) t5 = some (.tup [.int 0, .int 11]) := upd_same
    have e1 := u _ _ e1
    have e2 := u _ _ e2
    have e3 := u _ _ e3
    have e4 := u _ _ e4
    have qb := u _ _ qb
    have qf := u _ _ qf
    have s4 := s4.trans u
    clear u
    generalize upd G4 t5 (.tup [.int 0, .int 11]) = G5 at qb qf s4 e1 e2 e3 e4 e5
    refine ⟨by decide, fun t6 h6 => ?_⟩
    have u := Same.new (HO.tup [.int 0, .int 7]) h6
    have e6 : upd G5 t6 (.tup [.int 0, .int 7]) t6 = some (.tup [.int 0, .int 7]) := upd_same
    have e1 := u _ _ e1
    have e2 := u _ _ e2
    have e3 := u _ _ e3
    have e4 := u _ _ e4
    have e5 := u _ _ e5
    have qb := u _ _ qb
    have qf := u _ _ qf
    have s4 := s4.trans u
    clear u
    generalize upd G5 t6 (.tup [.int 0, .int 7]) = G6 at qb qf s4 e1 e2 e3 e4 e5 e6
    refine ⟨_, rfl, by decide, fun t7 h7 => ?_⟩
    have u := Same.new (HO.tup [.int (-20), .int 20]) h7
    have e7 : upd G6 t7 (.tup [.int (-20), .int 20]) t7 = some (.tup [.int (-20), .int 20]) := upd_same
    have e1 := u _ _ e1
    have e2 := u _ _ e2
    have e3 := u _ _ e3
    have e4 := u _ _ e4
    have e5 := u _ _ e5
    have e6 := u _ _ e6
    have qb := u _ _ qb
    have qf := u _ _ qf
    have s4 := s4.trans u
    clear u
    generalize upd G6 t7 (.tup [.int (-20), .int 20]) = G7 at qb qf s4 e1 e2 e3 e4 e5 e6 e7
    refine ⟨qb, sortV [t1, t2, t3, t4, t5, t6, t7], rfl, by show 7 ≤ 15; decide, ?_⟩
    rw [sort_merge]
    have qb2 : upd G7 db (.dK (sortV [t1, t2, t3, t4, t5, t6, t7])) db = some (.dK (sortV [t1, t2, t3, t4, t5, t6, t7])) := upd_same
    have kt : KeepT G7 (upd G7 db (.dK (sortV [t1, t2, t3, t4, t5, t6, t7]))) := upd_tup fun xs e => by rw [qb] at e; cases e
    have s5 : Same H (upd G7 db (.dK (sortV [t1, t2, t3, t4, t5, t6, t7]))) := Same.mut _ s4 hdb
    have nfb : df ≠ db := fun z => by rw [z, qb] at qf; cases qf
    have qf2 : upd G7 db (.dK (sortV [t1, t2, t3, t4, t5, t6, t7])) df = some (.dK (mergeK (mergeK [] formsA) (mergeK [] formsB))) := by rw [upd_ne nfb]; exact qf
    have hso := fun (j : Nat) (s : Str) (b : Int × Int) => sort_tup (j := j) (s := s) (b := b) (kt _ _ e1) (kt _ _ e2) (kt _ _ e3) (kt _ _ e4) (kt _ _ e5) (kt _ _ e6) (kt _ _ e7)
    generalize upd G7 db (.dK (sortV [t1, t2, t3, t4, t5, t6, t7])) = G8 at qb2 s5 qf2 hso
    clear kt e1 e2 e3 e4 e5 e6 e7 qf qb s4 h1 h2 h3 h4 h5 h6 h7 s3
    generalize sortV [t1, t2, t3, t4, t5, t6, t7] = sv at qb2 hso
    have hW := parts_sp row
    have ec : cliR row = match Txt.split row " " with | [] => none | x :: _ => numW x := rfl
    have el : lwR row = match Txt.split row " " with | _ :: x :: r => some (x, r.map numW) | _ => none := rfl
    refine ⟨_, rfl, ⟨_, rfl⟩, _, _, rfl, rfl, by kernel_rfl, bg (by have := hW.few; omega), fun wl hwl => ?_⟩
    generalize Txt.split row " " = ws at hW ec el hwl
    obtain ⟨w0, wr, rfl⟩ : ∃ w0 wr, ws = w0 :: wr := by
      cases ws with
      | nil => exact absurd rfl hW.ne
      | cons a b => exact ⟨a, b, rfl⟩
    have ec : cliR row = numW w0 := ec
    have hwl1 : ∀ p ∈ w0 :: wr, p.length ≤ 1000000 := fun p hp => by have := hW.len p hp; omega
    have hwa := hW.asc hasc
    have hwf : (w0 :: wr).length ≤ 90001 := by have := hW.few; omega
    have s6 := Same.new (HO.lst ((w0 :: wr).map V.str)) hwl
    have hw : upd G8 wl (.lst ((w0 :: wr).map V.str)) wl = some (.lst ((w0 :: wr).map V.str)) := upd_same
    have s5 := s5.trans s6
    have qf := s6 _ _ qf2
    have qb := s6 _ _ qb2
    have hso : ∀ (j : Nat) (s : Str) (b : Int × Int), sortT[j]? = some (s, b) → ∃ t, valV sv (.inr s) = some (.ref t) ∧ upd G8 wl (.lst ((w0 :: wr).map V.str)) t = some (.tup [.int b.1, .int b.2]) := fun j s b h => by
      obtain ⟨t, h1, h2⟩ := hso j s b h
      exact ⟨t, h1, s6 _ _ h2⟩
    clear qf2 qb2 s6
    generalize upd G8 wl (.lst ((w0 :: wr).map V.str)) = H4 at hw s5 qf qb hso
    refine ⟨_, rfl, _, _, _, V.str w0, rfl, rfl, SqL.of hw, at_of (j := 0) rfl rfl, w0, rfl, hwl1 w0 List.mem_cons_self, hwa w0 List.mem_cons_self, fun H5 s6 => ?_⟩
    rw [← ec]
    have hw := s6 _ _ hw
    have s5 := s5.trans s6
    have qf := s6 _ _ qf
    have qb := s6 _ _ qb
    have hso : ∀ (j : Nat) (s : Str) (b : Int × Int), sortT[j]? = some (s, b) → ∃ t, valV sv (.inr s) = some (.ref t) ∧ H5 t = some (.tup [.int b.1, .int b.2]) := fun j s b h => by
      obtain ⟨t, h1, h2⟩ := hso j s b h
      exact ⟨t, h1, s6 _ _ h2⟩
    clear s6
    refine ⟨_, rfl, df, rfl, .inl ⟨_, .inl qf⟩, ?_⟩
    refine ⟨_, rfl, sm (by decide), fun q0 hq0 => ?_⟩
    have s6 := Same.new (HO.lst [V.str ""]) hq0
    refine ⟨wl, q0, _, _, rfl, rfl, s6 _ _ hw, upd_same, bg (by rw [List.length_map]; simp only [List.length_cons, List.length_nil] at hwf ⊢; omega), fun q1 hq1 => ?_⟩
    have s7 := s6.trans (Same.new (HO.lst ((w0 :: wr).map V.str ++ [V.str ""])) hq1)
    have hq1' : upd (upd H5 q0 (.lst [V.str ""])) q1 (.lst ((w0 :: wr).map V.str ++ [V.str ""])) q1 = some (.lst ((w0 :: wr).map V.str ++ [V.str ""])) := upd_same
    have s5 := s5.trans s7
    have hw := s7 _ _ hw
    have qf := s7 _ _ qf
    have qb := s7 _ _ qb
    have hso : ∀ (j : Nat) (s : Str) (b : Int × Int), sortT[j]? = some (s, b) → ∃ t, valV sv (.inr s) = some (.ref t) ∧ upd (upd H5 q0 (.lst [V.str ""])) q1 (.lst ((w0 :: wr).map V.str ++ [V.str ""])) t = some (.tup [.int b.1, .int b.2]) := fun j s b h => by
      obtain ⟨t, h1, h2⟩ := hso j s b h
      exact ⟨t, h1, s7 _ _ h2⟩
    clear s6 s7
    generalize upd (upd H5 q0 (.lst [V.str ""])) q1 (.lst ((w0 :: wr).map V.str ++ [V.str ""])) = H6 at hw s5 qf qb hso hq1'
    refine ⟨_, _, _, V.str (wr.headD ""), rfl, rfl, SqL.of hq1', at_of (j := 1) rfl (by cases wr <;> rfl), ?_⟩
    refine ⟨_, DGet.k (k := .inr (wr.headD "")) qf, ?_⟩
    rw [form_val]
    have kn : (inO (cliR row) 0 4 = false ∨ okLw (lwR row) = false) → ∀ H', Same H H' → Q .non H' := fun h => kN (by
      unfold fineL
      rcases h with h | h
      · rw [h]; rfl
      · rw [h, Bool.and_false])
    refine ⟨_, rfl, rfl, ?_⟩
    cases hc : cliR row with
    | none =>
      rw [hc] at kn
      refine ⟨_, rfl, iteT ?_⟩
      exact kn (.inl rfl) _ s5
    | some n =>
    rw [hc] at kn
    refine ⟨_, rfl, iteF ?_⟩
    refine ⟨_, rfl, _, _, rfl, rfl, _, rfl, ?_⟩
    by_cases c0 : (0 : Int) ≤ n
    rotate_left
    · rw [decide_eq_false c0]
      refine iteF ⟨_, rfl, iteT (kn (.inl ?_) _ s5)⟩
      show (decide (0 ≤ n) && decide (n ≤ 4)) = false
      rw [decide_eq_false c0]; rfl
    rw [decide_eq_true c0]
    refine iteT ⟨_, _, rfl, rfl, _, rfl, ?_⟩
    by_cases c4 : n < 5
    rotate_left
    · rw [decide_eq_false c4]
      refine iteT (kn (.inl ?_) _ s5)
      show (decide (0 ≤ n) && decide (n ≤ 4)) = false
      rw [decide_eq_false (show ¬ n ≤ 4 by omega), Bool.and_false]
    rw [decide_eq_true c4]
    refine iteF ?_
    have hin : inO (some n) 0 4 = true := by
      show (decide (0 ≤ n) && decide (n ≤ 4)) = true
      rw [decide_eq_true c0, decide_eq_true (show n ≤ 4 by omega)]; rfl
    refine ⟨_, rfl, rfl, ?_⟩
    cases hr : rowW (wr.headD "") with
    | none =>
      have hno : okLw (lwR row) = false := by
        rw [el]
        cases wr with
        | nil => rfl
        | cons x r =>
          show (match bndW x with | none => false | some bs => inBO (r.map numW) bs) = false
          have hr : rowW x = none := hr
          rw [bnd_row, hr]; rfl
      refine ⟨_, rfl, iteT ?_⟩
      exact kn (.inr hno) _ s5
    | some fr =>
    refine ⟨_, rfl, iteF ?_⟩
    obtain ⟨x, r, rfl⟩ : ∃ x r, wr = x :: r := by
      cases wr with
      | nil => rw [show List.headD ([] : List Str) "" = "" from rfl, no_empty] at hr; cases hr
      | cons x r => exact ⟨x, r, rfl⟩
    have hr : rowW x = some fr := hr
    have el : lwR row = some (x, r.map numW) := el
    have hfm := row_mem hr
    have hfl := row_len hfm
    have hf6 := few_form hfm
    have hfz : fr.2.1.length = fr.2.2.length := hfl
    have hok : okLw (lwR row) = inBO (r.map numW) fr.2.2 := by
      rw [el]
      show (match bndW x with | none => false | some bs => inBO (r.map numW) bs) = _
      rw [bnd_row, hr]; rfl
    refine ⟨_, rfl, wl, _, rfl, .inl (SqL.of hw), ?_⟩
    refine ⟨_, rfl, fr.2.1, rfl, bg (by omega), _, _, rfl, rfl, rfl, _, rfl, ?_⟩
    have elw : ((w0 :: x :: r).map V.str).length = r.length + 2 := by rw [List.length_map]; rfl
    rw [elw, hfz]
    by_cases hlen : r.length = fr.2.2.length
    rotate_left
    · rw [decide_eq_false (show ¬ V.int ((r.length + 2 : Nat) : Int) = V.int (((fr.2.2.length : Nat) : Int) + 2) from fun z => hlen (by have := V.int.inj z; omega))]
      refine iteT (kn (.inr ?_) _ s5)
      rw [hok]
      unfold inBO
      rw [List.length_map, decide_eq_false hlen]; rfl
    rw [decide_eq_true (show V.int ((r.length + 2 : Nat) : Int) = V.int (((fr.2.2.length : Nat) : Int) + 2) from by rw [hlen]; push_cast; rfl)]
    refine iteF ?_
    refine ⟨_, rfl, _, rfl, wl, _, rfl, SqL.of hw, fun q2 hq2 => ?_⟩
    have ec2 : cutV ((w0 :: x :: r).map V.str) (some 2) none = r.map V.str := by
      rw [show (2 : Int) = ((2 : Nat) : Int) from rfl, cut_drop, ← List.map_drop]; rfl
    rw [ec2]
    have s6 := Same.new (HO.lst (r.map V.str)) hq2
    have h72 : upd H6 q2 (.lst (r.map V.str)) q2 = some (.lst (r.map V.str)) := upd_same
    have s5 := s5.trans s6
    have hw := s6 _ _ hw
    have qb := s6 _ _ qb
    have hso : ∀ (j : Nat) (s : Str) (b : Int × Int), sortT[j]? = some (s, b) → ∃ t, valV sv (.inr s) = some (.ref t) ∧ upd H6 q2 (.lst (r.map V.str)) t = some (.tup [.int b.1, .int b.2]) := fun j s b h => by
      obtain ⟨t, h1, h2⟩ := hso j s b h
      exact ⟨t, h1, s6 _ _ h2⟩
    clear s6 qf hq1'
    generalize upd H6 q2 (.lst (r.map V.str)) = H7 at hw s5 qb hso h72
    refine ⟨q2, rfl, ⟨_, SqL.of h72⟩, fun D hD => ?_⟩
    refine lc_list (K := K) (a := q2) (xs := r.map V.str) (fun j H8 => Same H7 H8 ∧ H8 D = some (.lst ((r.take j).map fun x => optV (numW x)))) ⟨Same.new _ hD, upd_same⟩ (fun j H8 _ p => SqL.of (p.1 _ _ h72)) ?_ ?_
    · rintro j y H8 hy ⟨s8, hD8⟩
      rw [List.getElem?_map] at hy
      cases en : r[j]? with
      | none => rw [en] at hy; cases hy
      | some z =>
        rw [en] at hy
        obtain rfl : V.str z = y := Option.some.inj hy
        have hm : z ∈ w0 :: x :: r := List.mem_cons_of_mem _ (List.mem_cons_of_mem _ (List.mem_of_getElem? en))
        have hj := (List.getElem?_eq_some_iff.mp en).1
        refine ⟨rfl, _, rfl, z, rfl, hwl1 z hm, hwa z hm, fun H9 s9 => ⟨_, s9 _ _ hD8, ?_, Same.mut _ (s8.trans s9) hD, ?_⟩⟩
        · rw [List.length_map, List.length_take]
          exact small1000 (by omega)
        · rw [upd_same, List.take_add_one, en, List.map_append]; rfl
    rintro H8 ⟨s8, hD8⟩
    rw [List.length_map, List.take_length, show (r.map fun x => optV (numW x)) = (r.map numW).map optV by rw [List.map_map]; rfl] at hD8
    have hlen' : (r.map numW).length = fr.2.2.length := by rw [List.length_map]; exact hlen
    have elv : lwV (lwR row) = V.str x :: (r.map numW).map optV := by rw [el]; rfl
    have hn6 : r.length ≤ 6 := by omega
    generalize r.map numW = ns at hD8 hok hlen' elv
    have s5 := s5.trans s8
    have hw := s8 _ _ hw
    have qb := s8 _ _ qb
    have hso : ∀ (j : Nat) (s : Str) (b : Int × Int), sortT[j]? = some (s, b) → ∃ t, valV sv (.inr s) = some (.ref t) ∧ H8 t = some (.tup [.int b.1, .int b.2]) := fun j s b h => by
      obtain ⟨t, h1, h2⟩ := hso j s b h
      exact ⟨t, h1, s8 _ _ h2⟩
    clear s8 h72
    have hzl : (ns.map optV).length = fr.2.1.cps.size := by rw [List.length_map, hlen', hfl]
    refine ⟨_, rfl, _, rfl, D, fr.2.1, _, rfl, SqL.of hD8, ?_⟩
    refine for_it (w := walk_zipS (K := K) (a := D) (xs := ns.map optV) (z := fr.2.1) hzl) (fun i σ H9 => ∃ v7 v8, σ = [some (.str row), some (.ref df), some (.ref db), some (.ref wl), some (.int n), some (.str fr.2.1), some (.ref D), v7, v8, none] ∧ Same H8 H9 ∧
      ∀ (j : Nat) (v : Option Int) (b : Int × Int), j < i → ns[j]? = some v → fr.2.2[j]? = some b → inO v b.1 b.2 = true) ⟨none, none, rfl, Same.refl _, fun j v b hj => absurd hj (Nat.not_lt_zero j)⟩ (fun i σ H9 _ ⟨_, _, _, s9, _⟩ => SqL.of (s9 _ _ hD8)) ?_ ?_
    · rintro i y σ H9 H10 hi ⟨v7, v8, rfl, s9, hall⟩ ⟨Tp, x1, x2, rfl, hT, rfl, e1, e2⟩
      have e1 : (ns.map optV)[i]? = some x1 := e1
      have e2 : Option.map (fun c => V.str ⟨#[c]⟩) (fr.2.1.cps[i]?) = some x2 := e2
      rw [List.getElem?_map] at e1
      cases en : ns[i]? with
      | none => rw [en] at e1; cases e1
      | some v =>
      rw [en] at e1
      obtain rfl : optV v = x1 := Option.some.inj e1
      cases ec : fr.2.1.cps[i]? with
      | none => rw [ec] at e2; cases e2
      | some c =>
      rw [ec] at e2
      obtain rfl : V.str ⟨#[c]⟩ = x2 := Option.some.inj e2
      obtain ⟨j, b, hj7, hjs, hjb⟩ := row_sort hfm ec
      obtain ⟨tb, hv1, hv2⟩ := hso j _ _ hjs
      have s10 := s9.trans (Same.new (HO.tup [optV v, V.str ⟨#[c]⟩]) hT)
      have hv2 := s10 _ _ hv2
      have qb := s10 _ _ qb
      refine ⟨Tp, _, rfl, SqT.of upd_same, rfl, _, _, rfl, _, _, rfl, rfl, ?_⟩
      generalize upd H9 Tp (.tup [optV v, V.str ⟨#[c]⟩]) = H11 at s10 hv2 qb
      refine ⟨_, rfl, rfl, ?_⟩
      have kf : inO v b.1 b.2 = false → Q .non H11 := fun hf => kn (.inr (by
        rw [hok]
        cases hb : inBO ns fr.2.2 with
        | false => rfl
        | true => rw [inBO_at hb en hjb] at hf; cases hf)) _ (s5.trans s10)
      cases v with
      | none => exact ⟨_, rfl, iteT (kf rfl)⟩
      | some v =>
      refine ⟨_, rfl, iteF ?_⟩
      have dg : DGet H11 db (V.str ⟨#[c]⟩) (some (.ref tb)) := hv1 ▸ DGet.k (k := .inr ⟨#[c]⟩) qb
      refine ⟨_, rfl, _, rfl, db, _, rfl, dg, _, _, _, V.int b.1, rfl, rfl, SqT.of hv2, at_of (j := 0) rfl rfl, _, rfl, _, _, rfl, rfl, _, rfl, ?_⟩
      by_cases c1 : b.1 ≤ v
      rotate_left
      · rw [decide_eq_false c1]
        refine iteF ⟨_, rfl, iteT (kf ?_)⟩
        show (decide (b.1 ≤ v) && decide (v ≤ b.2)) = false
        rw [decide_eq_false c1]; rfl
      rw [decide_eq_true c1]
      refine iteT ⟨_, rfl, _, rfl, db, _, rfl, dg, _, _, _, V.int b.2, rfl, rfl, SqT.of hv2, at_of (j := 1) rfl rfl, _, _, rfl, rfl, _, rfl, ?_⟩
      by_cases c2 : v ≤ b.2
      rotate_left
      · rw [decide_eq_false c2]
        refine iteT (kf ?_)
        show (decide (b.1 ≤ v) && decide (v ≤ b.2)) = false
        rw [decide_eq_false c2, Bool.and_false]
      rw [decide_eq_true c2]
      refine iteF ?_
      refine ⟨_, _, rfl, s10, fun k u a hk hu ha => ?_⟩
      by_cases e : k < i
      · exact hall k u a e hu ha
      · obtain rfl : k = i := by omega
        rw [en] at hu
        rw [hjb] at ha
        cases hu
        cases ha
        show (decide (b.1 ≤ v) && decide (v ≤ b.2)) = true
        rw [decide_eq_true c1, decide_eq_true c2]; rfl
    · rintro σ H9 ⟨v7, v8, rfl, s9, hall⟩
      have hfine : fineL row = true := by
        unfold fineL
        rw [hc, hin, hok, Bool.true_and]
        refine inBO_of hlen' fun j v b hv hb => hall j v b ?_ hv hb
        rw [List.length_map]
        exact (List.getElem?_eq_some_iff.mp hv).1
      have hD9 := s9 _ _ hD8
      have hw9 := s9 _ _ hw
      refine ⟨_, rfl, _, rfl, _, rfl, _, rfl, wl, _, rfl, SqL.of hw9, fun q3 hq3 => ?_⟩
      have ec1 : cutV ((w0 :: x :: r).map V.str) (some 1) (some 2) = [V.str x] := cut12 _ _ _
      rw [ec1]
      have s11 := Same.new (HO.lst [V.str x]) hq3
      refine ⟨_, rfl, q3, D, _, _, rfl, rfl, upd_same, s11 _ _ hD9, sm (by rw [List.length_map, hlen']; simp only [List.length_cons, List.length_nil]; omega), fun q4 hq4 => ?_⟩
      have s12 := s11.trans (Same.new (HO.lst ([V.str x] ++ ns.map optV)) hq4)
      refine ⟨q4, _, rfl, .inl ⟨SqL.of upd_same, fun t ht => ?_⟩⟩
      have s13 := Same.new (HO.tup ([V.str x] ++ ns.map optV)) ht
      refine ⟨sm (by show 2 ≤ 1000; decide), fun p hp => ?_⟩
      have s14 := Same.new (HO.tup [.int n, .ref t]) hp
      have sA := s5.trans (s9.trans (s12.trans s13))
      have hnn : ((n.toNat : Nat) : Int) = n := by omega
      refine kT hfine n.toNat t p _ (by rw [hnn]; exact hc) (by omega) (sA.trans s14) ?_ (sA.free hp) ?_ ?_
      · exact (s5.trans (s9.trans s12)).free ht
      · refine s14 _ _ ?_
        rw [elv]
        exact upd_same
      · rw [hnn]; exact upd_same
end
end SH
set_option Elab.async false
set_option linter.all false
set_option maxRecDepth 100000
set_option maxHeartbeats 0
/-! k18: how long texts get -/
namespace SH
open PySem PySem.Spec PyProof.Rows L2 StX TL
def wt (ps : List Str) : Nat := (ps.map fun p => p.length + 1).sum
theorem wt_app (a b : List Str) : wt (a ++ b) = wt a + wt b := by simp [wt]
theorem wt_one (p : Str) : wt [p] = p.length + 1 := by simp [wt]
theorem wt_nil : wt [] = 0 := rfl
theorem wt_cons (p : Str) (ps : List Str) : wt (p :: ps) = p.length + 1 + wt ps := by simp [wt]
theorem wt_td (k : Nat) (ps : List Str) : wt (ps.take k) + wt (ps.drop k) = wt ps := by rw [← wt_app, List.take_append_drop]
theorem wt_at {ps : List Str} {k : Nat} {p : Str} (h : ps[k]? = some p) : wt (ps.take k) + (p.length + 1) + wt (ps.drop (k + 1)) = wt ps := by
  obtain ⟨hk, e⟩ := List.getElem?_eq_some_iff.mp h
  have h1 := wt_td k ps
  rw [List.drop_eq_getElem_cons hk, wt_cons, e] at h1
  omega
theorem wt_len (ps : List Str) : ps.length ≤ wt ps := by
  induction ps with
  | nil => exact Nat.le_refl _
  | cons p ps ih => rw [wt_cons, List.length_cons]; omega
theorem wt_mem {ps : List Str} {p : Str} (h : p ∈ ps) : p.length + 1 ≤ wt ps := by
  induction ps with
  | nil => cases h
  | cons q ps ih =>
    rw [wt_cons]
    rcases List.mem_cons.mp h with rfl | h
    · omega
    · have := ih h; omega
theorem splL_wt (s : Nat) : ∀ (l acc : List Nat), ((splL s acc l).map fun p => p.length + 1).sum = acc.length + l.length + 1
  | [], acc => by simp [splL]
  | c :: r, acc => by
    unfold splL
    have h1 := splL_wt s r []
    have h2 := splL_wt s r (acc ++ [c])
    split
    · rw [List.map_cons, List.sum_cons, h1]; simp only [List.length_cons, List.length_nil]; omega
    · rw [h2]; simp only [List.length_cons, List.length_append, List.length_nil]; omega
theorem split_wt (z : Str) (s : Nat) (hs : s < 256) : wt (Txt.split z (mkS [s])) = z.length + 1 := by
  obtain ⟨l, rfl⟩ : ∃ l, z = mkS l := ⟨_, (mkS_cps z).symm⟩
  rw [split1 l s hs]
  unfold wt
  rw [List.map_map]
  have : ((fun p : Str => p.length + 1) ∘ mkS) = fun p : List Nat => p.length + 1 := funext fun p => by show (mkS p).length + 1 = _; rw [mkS_len]
  rw [this, splL_wt, mkS_len]; simp
theorem split_wt_nl (z : Str) : wt (Txt.split z "\n") = z.length + 1 := by rw [nl_is]; exact split_wt z 10 (by decide)
theorem split_wt_sp (z : Str) : wt (Txt.split z " ") = z.length + 1 := by rw [sp_is]; exact split_wt z 32 (by decide)
theorem joinL_wt {S : List Nat} (hS : S.length = 1) : ∀ ps : List (List Nat), (joinL S ps).length ≤ (ps.map fun p => p.length + 1).sum
  | [] => by simp [joinL]
  | [p] => by simp [joinL]
  | p :: q :: r => by
    have h := joinL_wt hS (q :: r)
    rw [List.map_cons, List.sum_cons]
    show (p ++ (S ++ joinL S (q :: r))).length ≤ _
    rw [List.length_append, List.length_append, hS]; omega
theorem join_wt {y : Str} (hy : y.length = 1) (ps : List Str) : (Txt.join y ps).length ≤ wt ps := by
  rw [← len_tl, tl_joinT]
  have h := joinL_wt (S := tl y) (by rw [len_tl]; exact hy) (ps.map tl)
  rw [List.map_map] at h
  have : ((fun p : List Nat => p.length + 1) ∘ tl) = fun p : Str => p.length + 1 := funext fun p => by show (tl p).length + 1 = _; rw [len_tl]
  rw [this] at h
  exact h
theorem Asc.app {a b : Str} (ha : Asc a) (hb : Asc b) : Asc (a ++ b) := by
  intro c hc
  have e : (a ++ b).cps.toList = a.cps.toList ++ b.cps.toList := tl_append a b
  rw [e] at hc
  rcases List.mem_append.mp hc with h | h
  · exact ha c h
  · exact hb c h
theorem Asc.join {y : Str} {ps : List Str} (hy : Asc y) (hp : ∀ p ∈ ps, Asc p) : Asc (Txt.join y ps) := by
  intro c hc
  have e : (Txt.join y ps).cps.toList = joinL (tl y) (ps.map tl) := tl_joinT y ps
  rw [e] at hc
  rcases joinL_mem hc with h | ⟨p, hp', h⟩
  · exact hy c h
  · obtain ⟨q, hq, rfl⟩ := List.mem_map.mp hp'
    exact hp q hq c h
theorem Asc.cut {z : Str} (h : Asc z) (lo hi : Option Int) : Asc (cutS z lo hi) := by
  intro c hc
  have e : (cutS z lo hi).cps.toList = (z.cps.toList.drop (HT.sIx z.length 0 lo)).take (HT.sIx z.length z.length hi - HT.sIx z.length 0 lo) := by unfold cutS; simp
  rw [e] at hc
  exact h c (List.mem_of_mem_drop (List.mem_of_mem_take hc))
theorem cut_len (z : Str) (lo hi : Option Int) : (cutS z lo hi).length ≤ z.length := by
  have e : (cutS z lo hi).length = ((z.cps.toList.drop (HT.sIx z.length 0 lo)).take (HT.sIx z.length z.length hi - HT.sIx z.length 0 lo)).length := by unfold cutS; simp [Str.length]
  rw [e, List.length_take, List.length_drop]
  show min _ (z.cps.toList.length - _) ≤ z.cps.size
  rw [Array.length_toList]; omega
def ascB (z : Str) : Bool := z.cps.toList.all fun c => decide (c < 128)
theorem asc_by {z : Str} (h : ascB z = true) : Asc z := fun c hc => of_decide_eq_true (List.all_eq_true.mp h c hc)
end SH
set_option Elab.async false
set_option linter.all false
set_option maxRecDepth 100000
set_option maxHeartbeats 0
/-! k18: _law_due -/
namespace SH
open PySem PySem.Spec PyProof.Rows L2 StX TL RZ
abbrev sDu : Stmt := top 37
abbrev nDu : List Str := ["_law_text", "_law_books", "_law_rows", "_law_k", "_law_found", "_law_more"]
theorem scDu : FnScope nDu ["_law_text"] (defScope sDu) := ⟨rfl, rfl, rfl, by decide +kernel, rfl, by decide +kernel, by decide +kernel⟩
theorem fine_split {row : Str} {nb : Nat} : fineR row nb = (fineL row && match cliR row with | none => false | some n => decide ((nb : Int) - 1 ≤ n)) := by
  unfold fineR fineL
  cases cliR row with
  | none => simp [inO]
  | some n =>
    simp only [inO]
    by_cases h0 : (0 : Int) ≤ n
    · by_cases h1 : (nb : Int) - 1 ≤ n
      · have e : decide ((if (nb : Int) - 1 > 0 then (nb : Int) - 1 else 0) ≤ n) = true := decide_eq_true (by split <;> omega)
        rw [e, decide_eq_true h0, decide_eq_true h1, show (5 : Int) - 1 = 4 by decide, Bool.and_true]
      · have e : decide ((if (nb : Int) - 1 > 0 then (nb : Int) - 1 else 0) ≤ n) = false := decide_eq_false (by split <;> omega)
        rw [e, decide_eq_false h1]; simp
    · have e : decide ((if (nb : Int) - 1 > 0 then (nb : Int) - 1 else 0) ≤ n) = false := decide_eq_false (by split <;> omega)
      rw [e, decide_eq_false h0]; simp
def spDue : Sp := fun vs H Q _ => ∃ t : Str, vs = [.str t] ∧ t.length ≤ 90000 ∧ Asc t ∧ (∀ bs, readT t = .ok bs → bs.length ≤ 5 → (∀ zs ∈ bs, zs.length ≤ 90001) → ∀ ba H', Same H H' → H ba = none → BooksW H' ba bs → Q (.ref ba) H') ∧
  (∀ k, readT t = .error k → k ≤ 90001 → ∀ p H', Same H H' → H p = none → H' p = some (.tup [.str "BadText", .int (k : Nat)]) → Q (.ref p) H')
abbrev cellB (c : Addr × List Addr) : Addr × HO := (c.1, HO.lst (c.2.map V.ref))
abbrev newB (d : Addr) : Addr × List Addr := (d, [])
structure RDu (H0 H : Hp) (X : Addr × HO) (bl D : Addr) (cs : List (Addr × List Addr)) (ds : List Addr) (bs : List (List Lw)) : Prop where
  has : Has H ((D, HO.lst (ds.map V.ref)) :: X :: (bl, HO.lst (cs.map fun c => V.ref c.1)) :: (cs ++ ds.map newB).map cellB)
  row : Paired (fun (c : Addr × List Addr) (zs : List Lw) => RowW H c.2 zs) cs bs
  same : Same H0 H
  fb : H0 bl = none
  fD : H0 D = none
  fc : ∀ c ∈ cs, H0 c.1 = none
  fd : ∀ d ∈ ds, H0 d = none
theorem RDu.new {H0 H : Hp} {X : Addr × HO} {bl D : Addr} {cs : List (Addr × List Addr)} {bs : List (List Lw)} (h : RJ H0 H X bl cs bs) (hD : H D = none) : RDu H0 (upd H D (.lst [])) X bl D cs [] bs := by
  have s := Same.new (HO.lst []) hD
  refine ⟨?_, Paired.mapP h.row fun _ _ e => e.same s, h.same.trans s, h.fb, h.same.free hD, h.fc, fun _ h => by cases h⟩
  simp only [List.map_nil, List.append_nil]
  exact Has.cons h.has hD _
theorem RDu.more {H0 H : Hp} {X : Addr × HO} {bl D nl : Addr} {cs : List (Addr × List Addr)} {ds : List Addr} {bs : List (List Lw)} (h : RDu H0 H X bl D cs ds bs) (hn : H nl = none) :
    RDu H0 (upd (upd H nl (.lst [])) D (.lst (ds.map V.ref ++ [V.ref nl]))) X bl D cs (ds ++ [nl]) bs := by
  have s := Same.new (HO.lst []) hn
  have g1 := Has.new (T := []) (by rw [List.append_nil]; exact h.has) hn (.lst [])
  have g2 := Has.set0 g1 0 rfl (.lst (ds.map V.ref ++ [V.ref nl]))
  have hDl : H D = some (.lst (ds.map V.ref)) := h.has.mem List.mem_cons_self
  have kt : KeepT (upd H nl (.lst [])) (upd (upd H nl (.lst [])) D (.lst (ds.map V.ref ++ [V.ref nl]))) := upd_tup fun xs e => by rw [s _ _ hDl] at e; cases e
  refine ⟨?_, Paired.mapP h.row fun _ _ e => (e.same s).keep kt, Same.mut _ (h.same.trans s) h.fD, h.fb, h.fD, h.fc, fun d hd => ?_⟩
  · have e : (cs ++ (ds ++ [nl]).map newB).map cellB = (cs ++ ds.map newB).map cellB ++ [(nl, HO.lst [])] := by simp [List.map_append]
    have e2 : (ds ++ [nl]).map V.ref = ds.map V.ref ++ [V.ref nl] := by simp
    rw [e, e2]
    exact g2
  · rcases List.mem_append.mp hd with hd | hd
    · exact h.fd d hd
    · rw [List.mem_singleton.mp hd]; exact h.same.free hn
theorem paired_news (H : Hp) : ∀ ds : List Addr, Paired (fun (c : Addr × List Addr) (zs : List Lw) => RowW H c.2 zs) (ds.map newB) (List.replicate ds.length [])
  | [] => .nil
  | d :: ds => .cons .nil (paired_news H ds)
theorem paired_app {α β : Type} {R : α → β → Prop} : ∀ {xs xs' : List α} {ys ys' : List β}, Paired R xs ys → Paired R xs' ys' → Paired R (xs ++ xs') (ys ++ ys')
  | _, _, _, _, .nil, q => q
  | _, _, _, _, .cons a p, q => .cons a (paired_app p q)
theorem RDu.cat {H0 H : Hp} {X : Addr × HO} {bl D q : Addr} {cs : List (Addr × List Addr)} {ds : List Addr} {bs : List (List Lw)} (h : RDu H0 H X bl D cs ds bs) (hq : H q = none) :
    RJ H0 (upd H q (.lst (cs.map (fun c => V.ref c.1) ++ ds.map V.ref))) X q (cs ++ ds.map newB) (bs ++ List.replicate ds.length []) := by
  have s := Same.new (HO.lst (cs.map (fun c => V.ref c.1) ++ ds.map V.ref)) hq
  have g1 : Has H (X :: (cs ++ ds.map newB).map cellB) := Has.sub h.has (List.Sublist.cons _ (List.Sublist.cons₂ _ (List.sublist_cons_self _ _)))
  have g2 := (Has.cons g1 hq (.lst (cs.map (fun c => V.ref c.1) ++ ds.map V.ref))).perm (List.Perm.swap _ _ _)
  refine ⟨?_, paired_app (Paired.mapP h.row fun _ _ e => e.same s) (paired_news _ ds), h.same.trans s, h.same.free hq, fun c hc => ?_⟩
  · unfold bkCells
    have e : (cs ++ ds.map newB).map (fun c => V.ref c.1) = cs.map (fun c => V.ref c.1) ++ ds.map V.ref := by rw [List.map_append, List.map_map]; rfl
    rw [e]
    exact g2
  · rcases List.mem_append.mp hc with hc | hc
    · exact h.fc c hc
    · obtain ⟨d, hd, rfl⟩ := List.mem_map.mp hc
      exact h.fd d hd
section
variable {P : Program} {w : World} {K : PySem.W.Frag} {mg : Str → Option Value} {base : Heap}
theorem ok_due {f fL : Addr} {fd fdL : FuncData} (F : Fun K "_law_due" "_law_due" sDu f fd) (T : TxtP mg)
    (GL : FnOk P w K mg base CX0 2 fL fdL ["_law_row"] spLine) (bL : Binds K fdL ["_law_row"] []) (gL : mg "_law_line" = some (.ref fL)) (kL : PySem.W.keepIn K (.ref fL) = true) :
    FnOk P w K mg base CX0 3 f fd ["_law_text"] spDue := by
  refine F.ok scDu (fun vs H Q E h => ?_) (fun cdv A0 outer s0 H vs Q E hr h => ?_)
  · obtain ⟨n, rfl, _⟩ := h
    rfl
  · obtain ⟨t, rfl, ht, hasc, kO, kE⟩ := h
    have hu := hu_of hr
    refine ⟨_, (pss_cons (ps_set (i := 1) scDu.nd rfl (Or.inl rfl) (pe_lst pa_nil)) (pss_cons (ps_set (i := 2) scDu.nd rfl (Or.inl rfl) (pe_ifExp (pt_cmpR op_ne (pv 0) pe_str (nomark _)) (pe_split (pv 0) pe_str) (pe_lst pa_nil))) (pss_cons (ps_for PassesOwn.never rfl (pi_range1 rfl T.range (pa_cons (pe_callB call_len_seq (by rfl) T.len PySem.boot_len (pa_cons (pv 2) pa_nil)) pa_nil)) (pg_name (i := 3) scDu.nd rfl (Or.inl rfl)) (pss_cons (ps_set (i := 4) scDu.nd rfl (Or.inl rfl) (pe_call GL hr rfl gL kL bL .nil pass0 (pa_cons (pe_ix ix_list (pv 2) (pv 3) (fun _ _ => rfl)) pa_nil))) (pss_cons (ps_if (PW.pt (pw_or (pt_cmpR op_isN (pv 4) pe_non (nomark _)) (pw_or1 (pt_cmpR op_lt (pe_ix ix_tup (pv 4) pe_int (fun _ _ => rfl)) (pe_op op_sub (pe_callB call_len_seq (by rfl) T.len PySem.boot_len (pa_cons (pv 1) pa_nil)) pe_int) (nomark _))))) (pss_one (ps_ret (pe_tup (pa_cons pe_str (pa_cons (pv 3) pa_nil))))) pss_nil) (pss_cons (ps_set (i := 1) scDu.nd rfl (Or.inl rfl) (pe_op op_cat (pv 1) (pe_lc (own := [("_law_more", 5)]) (g := gName 5) (te := tLst tNil) (by rfl) scDu.nd (pi_range1 rfl T.range (pa_cons (pe_op op_sub (pe_op op_add (pe_ix ix_tup (pv 4) pe_int (fun _ _ => rfl)) pe_int) (pe_callB call_len_seq (by rfl) T.len PySem.boot_len (pa_cons (pv 1) pa_nil))) pa_nil)) (blkOk_by (own := [("_law_more", 5)]) (N := nDu) (sc := defScope sDu) (by decide +kernel)) (fun _ _ _ _ _ => (pg_name (i := 5) scDu.nd rfl (Or.inl rfl))) (fun _ _ _ _ _ => pts_nil) (fun _ _ _ _ _ => (pe_lst pa_nil))))) (pss_one (ps_expr (pe_bm PySem.F.plainAttrs_list PySem.F.slot_list_append PySem.F.type_list_append mt_append (pe_ix ix_list (pv 1) (pe_ix ix_tup (pv 4) pe_int (fun _ _ => rfl)) (fun _ _ => rfl)) (pa_cons (pe_ix ix_tup (pv 4) pe_int (fun _ _ => rfl)) pa_nil)))))))) (pss_one (ps_ret (pv 1)))))), ?_⟩
    have sm : ∀ {n : Nat}, n ≤ 1000 → n ≤ sizeLine := small
    have bg : ∀ {n : Nat}, n ≤ 100000 → n ≤ sizeLine := fun h => by rw [sizeLine_eq]; omega
    refine ⟨sm (by show 0 ≤ 1000; decide), fun bl0 hbl0 => ?_⟩
    have hP := parts_nl t
    have erow : readT t = readR (rowsT t) 0 [] := rfl
    have hrN : (rowsT t).length ≤ 90001 ∧ ∀ row ∈ rowsT t, row.length ≤ 90000 ∧ Asc row := by
      unfold rowsT
      split
      · exact ⟨by decide, fun _ h => by cases h⟩
      · exact ⟨by have := hP.few; omega, fun row hrow => ⟨Nat.le_trans (hP.len _ hrow) ht, hP.asc hasc _ hrow⟩⟩
    refine gname_in ?_
    dsimp only
    refine seq_setifB (fun c H1 => H1 = upd H bl0 (.lst []) ∧ c = !decide (V.str t = V.str ("" : Str))) (fun v H' => ∃ rl, v = .ref rl ∧ upd H bl0 (.lst []) rl = none ∧ H' = upd (upd H bl0 (.lst [])) rl (.lst ((rowsT t).map V.str))) ?_ ?_ ?_ ?_
    · intro Q' q
      refine ⟨_, rfl, rfl, _, rfl, q _ _ ⟨rfl, rfl⟩⟩
    · rintro H1 ⟨rfl, hc⟩ Q' q
      have he : t ≠ "" := fun z => by rw [z] at hc; simp at hc
      refine ⟨_, rfl, ⟨_, rfl⟩, _, _, rfl, rfl, by kernel_rfl, bg (by omega), fun rl hrl => q _ _ ⟨rl, rfl, hrl, ?_⟩⟩
      have : rowsT t = Txt.split t "\n" := if_neg he
      rw [this]
    · rintro H1 ⟨rfl, hc⟩ Q' q
      have he : t = "" := by
        by_cases z : t = ""
        · exact z
        · have : decide (V.str t = V.str ("" : Str)) = false := decide_eq_false fun q => z (V.str.inj q)
          rw [this] at hc; cases hc
      refine ⟨sm (by show 0 ≤ 1000; decide), fun rl hrl => q _ _ ⟨rl, rfl, hrl, ?_⟩⟩
      have : rowsT t = [] := if_pos he
      rw [this]; rfl
    rintro v H1 ⟨rl, rfl, hrl, rfl⟩
    rw [erow] at kO kE
    generalize rowsT t = rows at hrN kO kE
    have r0 : RJ H (upd (upd H bl0 (.lst [])) rl (.lst (rows.map V.str))) (rl, .lst (rows.map V.str)) bl0 [] [] := by
      refine ⟨?_, .nil, (Same.new _ hbl0).trans (Same.new _ hrl), hbl0, fun _ h => (by cases h)⟩
      exact Has.cons (L := bkCells bl0 []) ⟨fun c hc => by rw [List.mem_singleton.mp hc]; exact upd_same, by simp [bkCells]⟩ hrl _
    generalize upd (upd H bl0 (.lst [])) rl (.lst (rows.map V.str)) = H2 at r0
    have qr0 : H2 rl = some (.lst (rows.map V.str)) := Has.get (A := []) r0.has 0 rfl
    refine ⟨_, rfl, rl, _, rfl, .inl (SqL.of qr0), ?_⟩
    rw [List.length_map]
    refine ⟨_, rfl, by omega, by omega, ?_⟩
    refine for_it (w := walk_range (lo := 0) (n := ((rows.length : Nat) : Int).toNat)) (fun i σ H3 => ∃ bl v3 v4 cs bs, σ = [some (.str t), some (.ref bl), some (.ref rl), v3, v4, none] ∧ RJ H H3 (rl, .lst (rows.map V.str)) bl cs bs ∧ bs.length ≤ 5 ∧ (∀ zs ∈ bs, zs.length ≤ i) ∧ readR rows 0 [] = readR (rows.drop i) i bs)
      ⟨bl0, none, none, [], [], rfl, r0, by decide, fun _ h => (by cases h), rfl⟩ (fun _ _ _ _ _ => trivial) ?_ ?_
    · rintro i x σ H4 H3 hi ⟨bl, v3, v4, cs, bs, rfl, r2, hb5, hbi, hrd⟩ ⟨rfl, hx⟩
      obtain rfl : x = V.int ((i : Nat) : Int) := by rw [hx]; show V.int (0 + (i : Int)) = _; rw [Int.zero_add]
      have hi : i < rows.length := by simpa using hi
      have hil : i ≤ 90001 := by omega
      have ep : rows[i]? = some rows[i] := List.getElem?_eq_getElem hi
      have edr : rows.drop i = rows[i] :: rows.drop (i + 1) := List.drop_eq_getElem_cons hi
      rw [edr] at hrd
      obtain ⟨hrl9, hra⟩ := hrN.2 _ (List.getElem_mem hi)
      generalize rows[i] = row at ep hrd hrl9 hra
      have hrd : readR rows 0 [] = if fineR row bs.length = true then readR (rows.drop (i + 1)) (i + 1) (addW bs ((cliR row).getD 0).toNat (lwR row)) else .error i := hrd
      rw [fine_split] at hrd
      have qr2 : H3 rl = some (.lst (rows.map V.str)) := Has.get (A := []) r2.has 0 rfl
      refine ⟨_, rfl, _, rfl, _, _, _, V.str row, rfl, rfl, SqL.of qr2, at_of (j := i) rfl (by rw [List.getElem?_map, ep]; rfl), row, rfl, hrl9, hra, fun hf H5 s5 => ?_, fun hf c t' p H5 hc hc4 s5 ht0 hp0 ht5 hp5 => ?_⟩
      · rw [hf, Bool.false_and, if_neg (by decide)] at hrd
        refine ⟨_, rfl, rfl, _, rfl, iteT ?_⟩
        exact ⟨_, rfl, sm (by show 2 ≤ 1000; decide), fun p hp => kE i hrd hil p _ ((r2.same.trans s5).trans (Same.new _ hp)) ((r2.same.trans s5).free hp) upd_same⟩
      · rw [hf, hc, Bool.true_and] at hrd
        have hrd : readR rows 0 [] = if decide ((bs.length : Int) - 1 ≤ (c : Int)) = true then readR (rows.drop (i + 1)) (i + 1) (addW bs c (lwR row)) else .error i := hrd
        have r5 := r2.sm s5
        have hl5 := r5.len
        refine ⟨_, rfl, rfl, _, rfl, iteF ?_⟩
        refine ⟨_, rfl, _, _, _, V.int c, rfl, rfl, SqT.of hp5, at_of (j := 0) rfl rfl, _, rfl, bl, _, rfl, .inl (SqL.of r5.bl), _, _, rfl, rfl, _, _, rfl, rfl, _, rfl, ?_⟩
        rw [List.length_map, hl5]
        by_cases hlt : (c : Int) < (bs.length : Int) - 1
        · rw [decide_eq_true hlt]
          refine iteT ?_
          rw [decide_eq_false (show ¬ (bs.length : Int) - 1 ≤ (c : Int) by omega), if_neg (by decide)] at hrd
          exact ⟨_, rfl, sm (by show 2 ≤ 1000; decide), fun p hp => kE i hrd hil p _ ((r2.same.trans s5).trans (Same.new _ hp)) ((r2.same.trans s5).free hp) upd_same⟩
        rw [decide_eq_false hlt]
        refine iteF ?_
        rw [decide_eq_true (show (bs.length : Int) - 1 ≤ (c : Int) by omega), if_pos rfl] at hrd
        refine ⟨_, rfl, _, rfl, _, _, _, V.int c, rfl, rfl, SqT.of hp5, at_of (j := 0) rfl rfl, _, _, rfl, rfl, _, rfl, bl, _, rfl, .inl (SqL.of r5.bl), _, _, rfl, rfl, _, rfl, by rw [List.length_map, hl5]; omega, by rw [List.length_map, hl5]; omega, fun D hD => ?_⟩
        rw [List.length_map, hl5]
        refine lc_range (lo := 0) (n := ((c : Int) + 1 - (bs.length : Int)).toNat) (fun j H6 => ∃ ds : List Addr, RDu H H6 (rl, .lst (rows.map V.str)) bl D cs ds bs ∧ ds.length = j ∧ KeepT H5 H6) ⟨[], RDu.new r5 hD, rfl, KeepT.same (Same.new _ hD)⟩ ?_ ?_
        · rintro j H6 hj ⟨ds, r6, hl6, k6⟩
          have hD6 : H6 D = some (.lst (ds.map V.ref)) := r6.has.mem List.mem_cons_self
          refine ⟨rfl, sm (by show 0 ≤ 1000; decide), fun nl hnl => ⟨_, (Same.new (HO.lst []) hnl) _ _ hD6, by rw [List.length_map]; exact small1000 (by omega), ds ++ [nl], r6.more hnl, by rw [List.length_append, hl6]; rfl, k6.trans ((KeepT.same (Same.new (HO.lst []) hnl)).trans (upd_tup fun xs e => ?_))⟩⟩
          rw [(Same.new (HO.lst []) hnl) _ _ hD6] at e; cases e
        · rintro H6 ⟨ds, r6, hl6, k6⟩
          have hD6 : H6 D = some (.lst (ds.map V.ref)) := r6.has.mem List.mem_cons_self
          have hb6 : H6 bl = some (.lst (cs.map fun c => V.ref c.1)) := r6.has.mem (List.mem_cons_of_mem _ (List.mem_cons_of_mem _ List.mem_cons_self))
          refine ⟨bl, D, _, _, rfl, rfl, hb6, hD6, by rw [List.length_map, List.length_map, hl5, hl6]; exact sm (by omega), fun q hq => ?_⟩
          have r7 := r6.cat hq
          have k7 := k6.trans (KeepT.same (Same.new (HO.lst (cs.map (fun c => V.ref c.1) ++ ds.map V.ref)) hq))
          have epad : bs ++ List.replicate ds.length [] = padW bs (c + 1) := by
            unfold padW
            congr 2
            omega
          rw [epad] at r7
          generalize cs ++ ds.map newB = cs7 at r7
          have hp7 := k7 _ _ hp5
          have ht7 := k7 _ _ ht5
          generalize upd H6 q (.lst (cs.map (fun c => V.ref c.1) ++ ds.map V.ref)) = H7 at r7 hp7 ht7
          have hpl : (padW bs (c + 1)).length = c + 1 := by unfold padW; rw [List.length_append, List.length_replicate]; omega
          have hl7 := r7.len
          have ecs : cs7[c]? = some cs7[c] := List.getElem?_eq_getElem (by omega)
          have ebs : (padW bs (c + 1))[c]? = some ((padW bs (c + 1)).getD c []) := by
            rw [List.getD_eq_getElem?_getD]
            have : (padW bs (c + 1))[c]? = some (padW bs (c + 1))[c] := List.getElem?_eq_getElem (by omega)
            rw [this]; rfl
          generalize cs7[c] = cc at ecs
          have hcell : H7 cc.1 = some (.lst (cc.2.map V.ref)) := r7.has.mem (List.mem_cons_of_mem _ (List.mem_cons_of_mem _ (List.mem_map.mpr ⟨cc, List.mem_of_getElem? ecs, rfl⟩)))
          have hpb : ∀ zs ∈ padW bs (c + 1), zs.length ≤ i := fun zs hz => by
            rcases List.mem_append.mp hz with hz | hz
            · exact hbi _ hz
            · rw [(List.mem_replicate.mp hz).2]; exact Nat.zero_le _
          have hcl : cc.2.length ≤ i := by
            have h1 := paired_ix r7.row ecs ebs
            have h2 := paired_len h1
            have h3 := hpb _ (List.mem_of_getElem? ebs)
            omega
          refine ⟨_, rfl, _, rfl, _, _, _, V.int c, rfl, rfl, SqT.of hp7, at_of (j := 0) rfl rfl, _, _, _, V.ref cc.1, rfl, rfl, SqL.of r7.bl, at_of (j := c) rfl (by rw [List.getElem?_map, ecs]; rfl), .inl ⟨rfl, _, SqL.of hcell⟩, _, rfl, _, _, _, V.ref t', rfl, rfl, SqT.of hp7, at_of (j := 1) rfl rfl, cc.1, _, _, rfl, rfl, hcell, by rw [List.length_map, sizeLine_eq]; omega, ?_⟩
          refine ⟨_, _, _, cs7.set c (cc.1, cc.2 ++ [t']), addW bs c (lwR row), rfl, r7.put ecs ebs ht7, ?_, fun zs hz => ?_, hrd⟩
          · unfold addW; rw [List.length_set, hpl]; omega
          · rcases List.mem_or_eq_of_mem_set hz with q | rfl
            · exact Nat.le_succ_of_le (hpb _ q)
            · rw [List.length_append]
              have := hpb _ (List.mem_of_getElem? ebs)
              show _ + 1 ≤ i + 1; omega
    · rintro σ H3 ⟨bl, v3, v4, cs, bs, rfl, r2, hb5, hbi, hrd⟩
      have e1 : ((rows.length : Nat) : Int).toNat = rows.length := by omega
      rw [e1, List.drop_length] at hrd
      rw [e1] at hbi
      have hcell : ∀ c ∈ cs, H3 c.1 = some (.lst (c.2.map V.ref)) := fun c hc => r2.has.mem (List.mem_cons_of_mem _ (List.mem_cons_of_mem _ (List.mem_map.mpr ⟨c, hc, rfl⟩)))
      have gen : ∀ {cs : List (Addr × List Addr)} {bs : List (List Lw)}, (∀ c ∈ cs, H3 c.1 = some (.lst (c.2.map V.ref))) → Paired (fun (c : Addr × List Addr) (zs : List Lw) => RowW H3 c.2 zs) cs bs → Paired (fun (c : Addr × List Addr) (zs : List Lw) => H3 c.1 = some (.lst (c.2.map V.ref)) ∧ RowW H3 c.2 zs) cs bs := by
        intro cs bs hc p
        induction p with
        | nil => exact .nil
        | cons r _ ih => exact .cons ⟨hc _ List.mem_cons_self, r⟩ (ih fun c h => hc c (List.mem_cons_of_mem _ h))
      refine ⟨_, rfl, kO bs hrd hb5 (fun zs hz => Nat.le_trans (hbi zs hz) hrN.1) bl H3 r2.same r2.fb ⟨cs, r2.bl, gen hcell r2.row⟩⟩
end
end SH
set_option Elab.async false
set_option linter.all false
set_option maxRecDepth 100000
set_option maxHeartbeats 0
/-! k18: _law_kind, given a lambda -/
namespace L2
open PySem PySem.Spec PyProof.Rows
/-- isinstance(e, c) in the suite, e of the class D with a dict of its own, as the reading says -/
def rIsD2 (K : PySem.W.Frag) (D a : Addr) (cls : Value) (d : Option Addr) : List V → Hp → VK → Prop := fun xs H Q => cls = .ref D ∧ (∃ (dd : Addr) (v : V), d = some dd ∧ H dd = some (.xd [(("line" : Str), v)])) ∧ rIsE K D a xs H Q
theorem call_isD2 {X : Cx} {a D : Addr} {cls : Value} {d : Option Addr} {oe : Obj} {pn : List (Addr × Obj)} (C : ExcD X.K D) (hz : Zc cls d oe) (hf : ∃ vs, oe.data = .fields vs) :
    CallR (X.suite a ((a, oe) :: pn)) (.builtin "isinstance") (rIsD2 X.K D a cls d) := by
  intro pins s σ H xs us Q I r h
  obtain ⟨rfl, ⟨dd, v, rfl, e⟩, h⟩ := h
  exact call_isD C hz hf pins s σ H xs us Q I r ⟨⟨v, e⟩, h⟩
theorem pss_len {X : Cx} {b : List Stmt} {t : TS} (n : Nat) (hn : X.N.length = n) (p : PSs X b t) : PSs X b (fun D σ H => σ.length = n → t D σ H) := ⟨fun pins s σ H D I h => p.run pins s σ H D I (h (I.len.trans hn))⟩
theorem ix_listK {X : Cx} (K : PySem.W.Frag) (hK : X.K = K := by rfl) : IxR X (rIxL K) := by subst hK; exact ix_list
theorem mt_cntK {X : Cx} (K : PySem.W.Frag) (hK : X.K = K := by rfl) : MtR X "list.count" (rCntF K) := by subst hK; exact mt_lcountF
theorem mt_idxK {X : Cx} (K : PySem.W.Frag) (hK : X.K = K := by rfl) : MtR X "list.index" (rIndex K) := by subst hK; exact mt_index
theorem pe_bmK {X : Cx} (K : PySem.W.Frag) {T name : String} {r : V → List V → Hp → VK → Prop} {o e : Expr} {es : List Expr} {apos cpos : Pos} {to : TE} {t : TA} (p : PE X (.Call (.Attribute o name apos) (e :: es) [] cpos) (tBM X.K T r to t)) (hK : X.K = K := by rfl) :
    PE X (.Call (.Attribute o name apos) (e :: es) [] cpos) (tBM K T r to t) := by subst hK; exact p
end L2
namespace SH
open PySem PySem.Spec PyProof.Rows L2 StX TL LamX
abbrev sKd : Stmt := top 34
abbrev nKd : List Str := ["_law_work", "e", "_law_kinds", "_law_words"]
theorem scKd : FnScope nKd ["_law_work"] (defScope sKd) := ⟨rfl, rfl, rfl, by decide +kernel, rfl, by decide +kernel, by decide +kernel⟩
/-- what _law_kind makes of what it is given -/
def TK (C : Addr) : (XK → Hp → VK → Prop) → Hp → VK → Prop := fun tl H Q =>
  tl (fun cls d H' => H' = H' ∧ cls = .ref C ∧ ∃ (dd : Addr) (v : V), d = some dd ∧ H' dd = some (.xd [(("line" : Str), v)]) ∧ ∀ p H'', Same H' H'' → H' p = none → H'' p = some (.tup [.str "BadText", v]) → Q (.ref p) H'') H (fun _ H' => Q (.str "") H')
structure TxtK (K : PySem.W.Frag) (mg : Str → Option Value) (C0 C1 C2 C3 C4 C5 C6 C7 : Addr) : Prop where
  g0 : mg "HallError" = some (.ref C0)
  g1 : mg "BadSize" = some (.ref C1)
  g2 : mg "TooMany" = some (.ref C2)
  g3 : mg "NoClient" = some (.ref C3)
  g4 : mg "BadLetter" = some (.ref C4)
  g5 : mg "BadTouch" = some (.ref C5)
  g6 : mg "BadKey" = some (.ref C6)
  g7 : mg "BadText" = some (.ref C7)
  k1 : PySem.W.kitOne K (.ref C7) (.ref C1) = some false
  k2 : PySem.W.kitOne K (.ref C7) (.ref C2) = some false
  k3 : PySem.W.kitOne K (.ref C7) (.ref C3) = some false
  k4 : PySem.W.kitOne K (.ref C7) (.ref C4) = some false
  k5 : PySem.W.kitOne K (.ref C7) (.ref C5) = some false
  k6 : PySem.W.kitOne K (.ref C7) (.ref C6) = some false
  k7 : PySem.W.kitOne K (.ref C7) (.ref C7) = some true
  kV : PySem.W.kitOne K (.ref C7) (.type "ValueError") = some true
  m0 : PySem.W.exmOne K (.ref C7) (.ref C0) = some true
  isinst : mg "isinstance" = none
  verr : mg "ValueError" = none
abbrev kdCx (X : Cx) (g : Addr) (cdg : Value) (s : Shared) (H : Hp) : Cx := (cxOf C8.CX0 X.prog X.w X.K X.mg X.base nKd "_law_kind" (defScope sKd) g cdg X.A X.stack s H C8.E0).nox
section
variable {X : Cx}
theorem kind_gives {C0 C1 C2 C3 C4 C5 C6 C7 fI g : Addr} {q : Str} {cdg : Value} (T : TxtK X.K X.mg C0 C1 C2 C3 C4 C5 C6 C7) (CD : ExcD X.K C7) (TB : PySem.BTX.BtTxt X.prog X.K X.mg C7 fI) :
    GivesTo X nKd "_law_kind" (defScope sKd) g cdg (defBody sKd) "_law_work" q (TK C7) := by
  intro f c' s H Q tl act hc h
  show ∃ t, PSs (cxOf C8.CX0 X.prog X.w X.K X.mg X.base nKd "_law_kind" (defScope sKd) g cdg X.A X.stack s H C8.E0).nox (defBody sKd) t ∧ t { nx := fun _ H' => Q .non H', rt := Q } (L2.start nKd [.ref f]) H
  refine Exists.intro _ (And.intro (pss_cons (ps_try_as (X := kdCx X g cdg s H) (i := 1) (c := .ref C0) (ts := ?ts)
      (tb := fun W D σ H => ∃ Ech : XK, (∀ cls d σ' H', Ech cls d H' → W cls d σ' H') ∧ σ[0]? = some (some (.ref f)) ∧ H c' = some (CodeO c' q) ∧ tl Ech H (fun _ H' => D.nx σ H'))
      (by rfl) (by rfl) scKd.nd (by rfl) (by rfl) ⟨by rfl, by decide, .inl T.g0⟩ LamX.takes0 (fun W pn xe tk _ => ?_) (fun a oe cls d pn hz hf => ?_)) (pss_one (ps_ret pe_str))) ?_)
  case refine_2 =>
    refine pss_len 4 (by rfl) (pss_cons (ps_set (i := 2) scKd.nd rfl (Or.inl rfl) (pe_lst (pa_cons (pe_callB (call_isD2 (X := kdCx X g cdg s H) CD hz hf) (by rfl) T.isinst (by decide +kernel) (pa_cons (pv 1) (pa_cons (pe_glob (by rfl) T.g1 (v := .ref C1) rfl) pa_nil))) (pa_cons (pe_callB (call_isD2 (X := kdCx X g cdg s H) CD hz hf) (by rfl) T.isinst (by decide +kernel) (pa_cons (pv 1) (pa_cons (pe_glob (by rfl) T.g2 (v := .ref C2) rfl) pa_nil))) (pa_cons (pe_callB (call_isD2 (X := kdCx X g cdg s H) CD hz hf) (by rfl) T.isinst (by decide +kernel) (pa_cons (pv 1) (pa_cons (pe_glob (by rfl) T.g3 (v := .ref C3) rfl) pa_nil))) (pa_cons (pe_callB (call_isD2 (X := kdCx X g cdg s H) CD hz hf) (by rfl) T.isinst (by decide +kernel) (pa_cons (pv 1) (pa_cons (pe_glob (by rfl) T.g4 (v := .ref C4) rfl) pa_nil))) pa_nil)))))) (pss_cons (ps_set (i := 2) scKd.nd rfl (Or.inl rfl) (pe_op op_cat (pv 2) (pe_lst (pa_cons (pe_callB (call_isD2 (X := kdCx X g cdg s H) CD hz hf) (by rfl) T.isinst (by decide +kernel) (pa_cons (pv 1) (pa_cons (pe_glob (by rfl) T.g5 (v := .ref C5) rfl) pa_nil))) (pa_cons (pe_callB (call_isD2 (X := kdCx X g cdg s H) CD hz hf) (by rfl) T.isinst (by decide +kernel) (pa_cons (pv 1) (pa_cons (pe_glob (by rfl) T.g6 (v := .ref C6) rfl) pa_nil))) (pa_cons (pe_callB (call_isD2 (X := kdCx X g cdg s H) CD hz hf) (by rfl) T.isinst (by decide +kernel) (pa_cons (pv 1) (pa_cons (pe_glob (by rfl) T.g7 (v := .ref C7) rfl) pa_nil))) pa_nil)))))) (pss_cons (ps_if (PW.pt (pw_or (pt_cmpR op_ne (show PE _ _ (tBM X.K "list" (rCntF X.K) (tVar 2) (tCons (tC (.bl true)) tNil)) from ?cnt) pe_int (nomark _)) (pw_or1 (pt_not (pt_val (pe_callB (call_isD2 (X := kdCx X g cdg s H) CD hz hf) (by rfl) T.isinst (by decide +kernel) (pa_cons (pv 1) (pa_cons (pe_bltn (v := .ty "ValueError") (by rfl) T.verr (by decide +kernel) rfl) pa_nil)))))))) (pss_one (ps_ret pe_str)) pss_nil) (pss_cons (ps_set (i := 3) scKd.nd rfl (Or.inl rfl) (pe_lst (pa_cons pe_str (pa_cons pe_str (pa_cons pe_str (pa_cons pe_str (pa_cons pe_str (pa_cons pe_str pa_nil)))))))) (pss_one (ps_ret (pe_ifExp (pt_val (pe_ix (ix_listK X.K) (pv 2) pe_int (fun _ _ => by rfl))) (pe_tup (pa_cons pe_str (pa_cons (pe_lineBT (X := kdCx X g cdg s H) TB hz hf (pv 1)) pa_nil))) (show PE _ _ (tOp (rIxL X.K) (tVar 3) (tBM X.K "list" (rIndex X.K) (tVar 2) (tCons (tC (.bl true)) tNil))) from ?idx))))))))
    case cnt => exact pe_bmK X.K (pe_bm PySem.F.plainAttrs_list PySem.F.slot_list_count PySem.F.type_list_count (mt_cntK X.K) (pv 2) (pa_cons pe_bl pa_nil))
    case idx => exact pe_ix (ix_listK X.K) (pv 3) (pe_bmK X.K (pe_bm PySem.F.plainAttrs_list PySem.F.slot_list_index PySem.F.type_list_index (mt_idxK X.K) (pv 2) (pa_cons pe_bl pa_nil))) (fun _ _ => rfl)
  case refine_1 =>
    refine ⟨fun pq sq σq Hq Dq Iq hq => ?_⟩
    obtain ⟨Ech, hW, h1, h2, h3⟩ := hq
    exact (pss_one (ps_expr (act W pn xe Ech _ _ tk hW))).run pq sq σq Hq Dq Iq ⟨h1, h2, h3⟩
  case refine_3 =>
    refine ⟨_, fun cls d σ' H' he => ?_, rfl, hc, h⟩
    obtain ⟨_, rfl, dd, v, rfl, hdd, hq⟩ := he
    refine ⟨true, T.m0, fun _ a ha hlen => ?_, fun q => nomatch q⟩
    obtain ⟨x0, x1, x2, x3, rfl⟩ : ∃ x0 x1 x2 x3, σ' = [x0, x1, x2, x3] := by
      rw [List.length_set] at hlen
      match σ', hlen with
      | [a, b, c, d], _ => exact ⟨a, b, c, d, rfl⟩
    have sm : ∀ {n : Nat}, n ≤ 1000 → n ≤ sizeLine := small
    refine ⟨_, rfl, rfl, ⟨dd, v, rfl, hdd⟩, _, _, _, rfl, fun u r => r, T.k1, ?_⟩
    refine ⟨_, rfl, rfl, ⟨dd, v, rfl, hdd⟩, _, _, _, rfl, fun u r => r, T.k2, ?_⟩
    refine ⟨_, rfl, rfl, ⟨dd, v, rfl, hdd⟩, _, _, _, rfl, fun u r => r, T.k3, ?_⟩
    refine ⟨_, rfl, rfl, ⟨dd, v, rfl, hdd⟩, _, _, _, rfl, fun u r => r, T.k4, ?_⟩
    refine ⟨sm (by show 4 ≤ 1000; decide), fun p1 hp1 => ?_⟩
    have s1 := Same.new (HO.lst [.bl false, .bl false, .bl false, .bl false]) hp1
    have e1 : upd H' p1 (.lst [.bl false, .bl false, .bl false, .bl false]) p1 = some (.lst [.bl false, .bl false, .bl false, .bl false]) := upd_same
    have hd1 := s1 _ _ hdd
    generalize upd H' p1 (.lst [.bl false, .bl false, .bl false, .bl false]) = H1 at s1 e1 hd1
    refine ⟨_, rfl, ?_⟩
    refine ⟨_, rfl, rfl, ⟨dd, v, rfl, hd1⟩, _, _, _, rfl, fun u r => r, T.k5, ?_⟩
    refine ⟨_, rfl, rfl, ⟨dd, v, rfl, hd1⟩, _, _, _, rfl, fun u r => r, T.k6, ?_⟩
    refine ⟨_, rfl, rfl, ⟨dd, v, rfl, hd1⟩, _, _, _, rfl, fun u r => r, T.k7, ?_⟩
    refine ⟨sm (by show 3 ≤ 1000; decide), fun p2 hp2 => ?_⟩
    have s2 := Same.new (HO.lst [.bl false, .bl false, .bl true]) hp2
    refine ⟨p1, p2, _, _, rfl, rfl, s2 _ _ e1, upd_same, sm (by show 7 ≤ 1000; decide), fun p3 hp3 => ?_⟩
    have s3 := s2.trans (Same.new (HO.lst ([.bl false, .bl false, .bl false, .bl false] ++ [.bl false, .bl false, .bl true])) hp3)
    have e3 : upd (upd H1 p2 (.lst [.bl false, .bl false, .bl true])) p3 (.lst ([.bl false, .bl false, .bl false, .bl false] ++ [.bl false, .bl false, .bl true])) p3 = some (.lst [.bl false, .bl false, .bl false, .bl false, .bl false, .bl false, .bl true]) := upd_same
    have hd3 := s3 _ _ hd1
    generalize upd (upd H1 p2 (.lst [.bl false, .bl false, .bl true])) p3 (.lst ([.bl false, .bl false, .bl false, .bl false] ++ [.bl false, .bl false, .bl true])) = H3 at s3 e3 hd3
    refine ⟨_, rfl, .inl ⟨rfl, _, SqL.of e3⟩, p3, _, _, rfl, rfl, SqL.of e3, rfl, rfl, ?_⟩
    refine ⟨rfl, _, rfl, ?_⟩
    refine iteF ?_
    refine ⟨_, rfl, rfl, ⟨dd, v, rfl, hd3⟩, _, _, _, rfl, fun u r => ?_, T.kV, _, rfl, ?_⟩
    · cases r; rfl
    refine iteF ?_
    refine ⟨sm (by show 6 ≤ 1000; decide), fun p4 hp4 => ?_⟩
    have s4 := Same.new (HO.lst [.str "BadSize", .str "TooMany", .str "NoClient", .str "BadLetter", .str "BadTouch", .str "BadKey"]) hp4
    have e4 := s4 _ _ e3
    have hd4 := s4 _ _ hd3
    generalize upd H3 p4 (.lst [.str "BadSize", .str "TooMany", .str "NoClient", .str "BadLetter", .str "BadTouch", .str "BadKey"]) = H4 at s4 e4 hd4
    refine ⟨_, rfl, _, _, _, .bl true, rfl, rfl, SqL.of e4, at_of (j := 6) rfl rfl, _, rfl, iteT ?_⟩
    refine ⟨_, rfl, rfl, rfl, dd, v, rfl, hd4, sm (by show 2 ≤ 1000; decide), fun p hp => ?_⟩
    have sA := s1.trans (s3.trans s4)
    exact hq p _ (sA.trans (Same.new _ hp)) (sA.free hp) upd_same
end
end SH
set_option Elab.async false
set_option linter.all false
set_option maxRecDepth 100000
set_option maxHeartbeats 0
/-! k18: _law_spoilt -/
namespace SH
open PySem PySem.Spec PyProof.Rows L2 StX TL
abbrev sSp : Stmt := top 38
abbrev nSp : List Str := ["_law_h", "_law_text", "_law_turn", "_law_at", "_law_signs", "_law_sign", "_law_rows", "_law_k", "_law_words", "_law_j", "_law_odd_here"]
theorem scSp : FnScope nSp ["_law_h", "_law_text"] (defScope sSp) := ⟨rfl, rfl, rfl, by decide +kernel, rfl, by decide +kernel, by decide +kernel⟩
/-- all the signs there are, as the def writes them -/
def sgLit : Str := match (defBody sSp).getD 2 (.Pass ⟨0, 0, 0, 0⟩) with
  | .Assign _ (.Constant (.str s) _ _) _ => s
  | _ => ""
theorem sg_len : sgLit.length = 92 := by decide +kernel
theorem sg_all : sgLit.cps.toList.all (fun c => decide (c < 128)) = true := by decide +kernel
theorem sg_at {r : Int} (h0 : 0 ≤ r) (h1 : r < 92) : ∃ c, atI sgLit.cps.toList r = some c ∧ c < 128 := by
  have hl : sgLit.cps.toList.length = 92 := by have := sg_len; unfold Str.length at this; simpa using this
  have hr : r.toNat < sgLit.cps.toList.length := by omega
  refine ⟨sgLit.cps.toList[r.toNat], ?_, of_decide_eq_true (List.all_eq_true.mp sg_all _ (List.getElem_mem hr))⟩
  have h := atI_nat (xs := sgLit.cps.toList) (j := r.toNat) (List.getElem?_eq_getElem hr)
  rw [Int.toNat_of_nonneg h0] at h
  exact h
theorem asc_one {c : Nat} (h : c < 128) : Asc ⟨#[c]⟩ := fun d hd => by
  have : d = c := by simpa using hd
  rw [this]; exact h
theorem asc_nil : Asc "" := fun d hd => by
  have e : ("" : Str).cps.toList = [] := by decide +kernel
  rw [e] at hd; cases hd
theorem len_nil : ("" : Str).length = 0 := by decide +kernel
theorem pick_sign {c : Nat} (hc : c < 128) {r : Int} (h0 : 0 ≤ r) (h1 : r < 3) : ∃ w : Str, ([V.str ⟨#[c]⟩, V.str "", V.str ⟨#[c]⟩] : List V)[r.toNat]? = some (.str w) ∧ w.length ≤ 1 ∧ Asc w := by
  have : r.toNat = 0 ∨ r.toNat = 1 ∨ r.toNat = 2 := by omega
  rcases this with e | e | e <;> rw [e]
  · exact ⟨_, rfl, Nat.le_refl 1, asc_one hc⟩
  · exact ⟨_, rfl, by rw [len_nil]; decide, asc_nil⟩
  · exact ⟨_, rfl, Nat.le_refl 1, asc_one hc⟩
theorem wt_eq (ys : List Str) : (ys.map fun x => x.length).sum + ys.length = wt ys := by
  induction ys with
  | nil => rfl
  | cons y ys ih => rw [wt_cons, List.map_cons, List.sum_cons, List.length_cons]; omega
theorem len_sep : ("\n" : Str).length = 1 ∧ (" " : Str).length = 1 := by decide +kernel
theorem asc_sep : Asc "\n" ∧ Asc " " := ⟨asc_by (by decide +kernel), asc_by (by decide +kernel)⟩
theorem cut_takeS (rows : List Str) (k : Nat) : cutV (rows.map V.str) none (some ((k : Nat) : Int)) = (rows.take k).map V.str := by rw [cut_take, List.map_take]
theorem cut_dropS (rows : List Str) (k : Nat) : cutV (rows.map V.str) (some ((k : Nat) : Int)) none = (rows.drop k).map V.str := by rw [cut_drop, List.map_drop]
def strsOf : Stmt → List Str
  | .Assign _ (.List es _) _ => es.filterMap fun e => match e with
    | .Constant (.str s) _ _ => some s
    | _ => none
  | .Assign _ (.BinOp _ _ (.List es _) _) _ => es.filterMap fun e => match e with
    | .Constant (.str s) _ _ => some s
    | _ => none
  | _ => []
def oddA : List Str := strsOf ((defBody sSp).getD 10 (.Pass ⟨0, 0, 0, 0⟩))
def oddB : List Str := strsOf ((defBody sSp).getD 11 (.Pass ⟨0, 0, 0, 0⟩))
theorem odd_all : (oddA ++ oddB).length = 24 ∧ (oddA ++ oddB).all (fun w => decide (w.length ≤ 4) && ascB w) = true := by decide +kernel
theorem odd_at {r : Int} (h0 : 0 ≤ r) (h1 : r < 24) : ∃ w : Str, (oddA.map V.str ++ oddB.map V.str)[r.toNat]? = some (.str w) ∧ w.length ≤ 4 ∧ Asc w := by
  have hr : r.toNat < (oddA ++ oddB).length := by rw [odd_all.1]; omega
  have hh := Bool.and_eq_true_iff.mp (List.all_eq_true.mp odd_all.2 _ (List.getElem_mem hr))
  refine ⟨(oddA ++ oddB)[r.toNat], ?_, of_decide_eq_true hh.1, asc_by hh.2⟩
  rw [← List.map_append, List.getElem?_map, List.getElem?_eq_getElem hr]; rfl
def spSpoil : Sp := fun vs H Q _ => ∃ (A B : Cells) (m : MixH) (z : Str), vs = [.ref m.a, .str z] ∧ Has H (A ++ (mixCells m ++ B)) ∧ MixOk m ∧ z.length ≤ 20000 ∧ Asc z ∧
  ∀ z' m' H', m'.a = m.a → MixOk m' → Has H' (A ++ (mixCells m' ++ B)) → z'.length ≤ 2 * z.length + 8 → Asc z' → Q (.str z') H'
section
variable {P : Program} {w : World} {K : PySem.W.Frag} {mg : Str → Option Value} {base : Heap}
theorem ok_spoil {f fN : Addr} {fd fdN : FuncData} (F : Fun K "_law_spoilt" "_law_spoilt" sSp f fd) (T : TxtP mg)
    (GN : FnOk P w K mg base CX0 1 fN fdN ["_law_h", "_law_many"] spNext) (bN : Binds K fdN ["_law_h", "_law_many"] []) (gN : mg "_law_next" = some (.ref fN)) (kN : PySem.W.keepIn K (.ref fN) = true) :
    FnOk P w K mg base CX0 2 f fd ["_law_h", "_law_text"] spSpoil := by
  refine F.ok scSp (fun vs H Q E h => ?_) (fun cdv A0 outer s0 H vs Q E hr h => ?_)
  · obtain ⟨A, B, m, z, rfl, _⟩ := h
    rfl
  · obtain ⟨A, B, m, z, rfl, hh, om, hz, hasc, k⟩ := h
    have hu := hu_of hr
    have sm : ∀ {n : Nat}, n ≤ 1000 → n ≤ sizeLine := small
    have bg : ∀ {n : Nat}, n ≤ 100000 → n ≤ sizeLine := fun h => by rw [sizeLine_eq]; omega
    refine ⟨_, (pss_cons (ps_set (i := 2) scSp.nd rfl (Or.inl rfl) (pe_call GN hr rfl gN kN bN .nil pass0 (pa_cons (pv 0) (pa_cons pe_int pa_nil)))) (pss_cons (ps_set (i := 3) scSp.nd rfl (Or.inl rfl) (pe_call GN hr rfl gN kN bN .nil pass0 (pa_cons (pv 0) (pa_cons (pe_op op_add (pe_callB call_len_str (by rfl) T.len PySem.boot_len (pa_cons (pv 1) pa_nil)) pe_int) pa_nil)))) (pss_cons (ps_set (i := 4) scSp.nd rfl (Or.inl rfl) pe_str) (pss_cons (ps_set (i := 5) scSp.nd rfl (Or.inl rfl) (pe_ix ix_str (pv 4) (pe_call GN hr rfl gN kN bN .nil pass0 (pa_cons (pv 0) (pa_cons (pe_ix ix_list (pe_lst (pa_cons pe_int (pa_cons (pe_callB call_len_str (by rfl) T.len PySem.boot_len (pa_cons (pv 4) pa_nil)) pa_nil))) (pe_call GN hr rfl gN kN bN .nil pass0 (pa_cons (pv 0) (pa_cons pe_int pa_nil))) (fun _ _ => rfl)) pa_nil))) (fun _ _ => rfl))) (pss_cons (ps_if (pt_cmpR op_lt (pv 2) pe_int (nomark _)) (pss_one (ps_ret (pe_op op_add_str (pe_op op_add_str (pe_slice sl_str (pv 1) po_none (po_some (pv 3))) (pe_ix ix_list (pe_lst (pa_cons (pv 5) (pa_cons pe_str (pa_cons (pv 5) pa_nil)))) (pv 2) (fun _ _ => rfl))) (pe_slice sl_str (pv 1) (po_some (pe_op op_add (pv 3) (pe_callTy call_int1 (by rfl) T.int (show bootBuiltins "int" = some (.type "int") by decide +kernel) (pa_cons (pe_cmpR op_gt (pv 2) pe_int (nomark _)) pa_nil)))) po_none)))) pss_nil) (pss_cons (ps_set (i := 6) scSp.nd rfl (Or.inl rfl) (pe_split (pv 1) pe_str)) (pss_cons (ps_set (i := 7) scSp.nd rfl (Or.inl rfl) (pe_call GN hr rfl gN kN bN .nil pass0 (pa_cons (pv 0) (pa_cons (pe_callB call_len_seq (by rfl) T.len PySem.boot_len (pa_cons (pv 6) pa_nil)) pa_nil)))) (pss_cons (ps_if (pt_cmpR op_lt (pv 2) pe_int (nomark _)) (pss_one (ps_ret (pe_join pe_str (pe_ix ix_list (pe_lst (pa_cons (pe_op op_cat (pe_slice sl_list (pv 6) po_none (po_some (pv 7))) (pe_slice sl_list (pv 6) (po_some (pe_op op_add (pv 7) pe_int)) po_none)) (pa_cons (pe_op op_cat (pe_slice sl_list (pv 6) po_none (po_some (pe_op op_add (pv 7) pe_int))) (pe_slice sl_list (pv 6) (po_some (pv 7)) po_none)) (pa_cons (pe_op op_cat (pe_slice sl_list (pv 6) (po_some (pv 7)) po_none) (pe_slice sl_list (pv 6) po_none (po_some (pv 7)))) pa_nil)))) (pe_op op_sub (pv 2) pe_int) (fun _ _ => rfl))))) pss_nil) (pss_cons (ps_set (i := 8) scSp.nd rfl (Or.inl rfl) (pe_split (pe_ix ix_list (pv 6) (pv 7) (fun _ _ => rfl)) pe_str)) (pss_cons (ps_set (i := 9) scSp.nd rfl (Or.inl rfl) (pe_call GN hr rfl gN kN bN .nil pass0 (pa_cons (pv 0) (pa_cons (pe_callB call_len_seq (by rfl) T.len PySem.boot_len (pa_cons (pv 8) pa_nil)) pa_nil)))) (pss_cons (ps_set (i := 10) scSp.nd rfl (Or.inl rfl) (pe_lst (pa_cons pe_str (pa_cons pe_str (pa_cons pe_str (pa_cons pe_str (pa_cons pe_str (pa_cons pe_str (pa_cons pe_str (pa_cons pe_str (pa_cons pe_str (pa_cons pe_str (pa_cons pe_str (pa_cons pe_str (pa_cons pe_str (pa_cons pe_str (pa_cons pe_str (pa_cons pe_str (pa_cons pe_str (pa_cons pe_str (pa_cons pe_str pa_nil))))))))))))))))))))) (pss_cons (ps_set (i := 10) scSp.nd rfl (Or.inl rfl) (pe_op op_cat (pv 10) (pe_lst (pa_cons pe_str (pa_cons pe_str (pa_cons pe_str (pa_cons pe_str (pa_cons pe_str pa_nil)))))))) (pss_cons (ps_set (i := 8) scSp.nd rfl (Or.inl rfl) (pe_op op_cat (pe_op op_cat (pe_slice sl_list (pv 8) po_none (po_some (pv 9))) (pe_ix ix_list (pe_lst (pa_cons (pe_lst pa_nil) (pa_cons (pe_op op_rep (pe_lst (pa_cons (pe_ix ix_list (pv 8) (pv 9) (fun _ _ => rfl)) pa_nil)) pe_int) (pa_cons (pe_lst (pa_cons (pe_ix ix_list (pv 10) (pe_call GN hr rfl gN kN bN .nil pass0 (pa_cons (pv 0) (pa_cons pe_int pa_nil))) (fun _ _ => rfl)) pa_nil)) pa_nil)))) (pe_op op_sub (pv 2) pe_int) (fun _ _ => rfl))) (pe_slice sl_list (pv 8) (po_some (pe_op op_add (pv 9) pe_int)) po_none))) (pss_one (ps_ret (pe_join pe_str (pe_op op_cat (pe_op op_cat (pe_slice sl_list (pv 6) po_none (po_some (pv 7))) (pe_lst (pa_cons (pe_join pe_str (pv 8)) pa_nil))) (pe_slice sl_list (pv 6) (po_some (pe_op op_add (pv 7) pe_int)) po_none)))))))))))))))))), ?_⟩
    refine ⟨_, rfl, A, B, m, 9, rfl, hh, om, by decide, by decide, fun r1 m1 H1 ra1 rb1 f1 om1 g1 => ?_⟩
    have zl : ((z.length : Nat) : Int) + 1 ≤ 100000 := by omega
    refine ⟨_, rfl, _, rfl, z, rfl, bg (by omega), _, _, rfl, rfl, A, B, m1, _, congrArg (fun x => [V.ref x, V.int (((z.length : Nat) : Int) + 1)]) f1.symm, g1, om1, by omega, zl, fun r2 m2 H2 ra2 rb2 f2 om2 g2 => ?_⟩
    have e2 := f2.trans f1
    have sl : sgLit.length ≤ sizeLine := by rw [sg_len]; exact sm (by decide)
    refine ⟨_, rfl, _, rfl, _, rfl, _, rfl, sl, sm (by show 2 ≤ 1000; decide), fun l hl => ?_⟩
    have g2 := Has.cons g2 hl (.lst [.int 13, .int ((sgLit.length : Nat) : Int)])
    refine ⟨_, rfl, (l, _) :: A, B, m2, 2, congrArg (fun x => [V.ref x, V.int 2]) e2.symm, g2, om2, by decide, by decide, fun r3 m3 H3 ra3 rb3 f3 om3 g3 => ?_⟩
    have e3 := f3.trans e2
    obtain ⟨v, hv, va, vb⟩ := pick2 (a := 13) (b := ((sgLit.length : Nat) : Int)) (lo := 1) (hi := 92) ra3 rb3 (by decide) (by rw [sg_len]; decide)
    refine ⟨l, _, _, V.int v, rfl, rfl, SqL.of (Has.get (A := []) g3 0 rfl), at_of (j := r3.toNat) (by omega) hv, ?_⟩
    have g3 := Has.tail g3
    refine ⟨A, B, m3, v, congrArg (fun x => [V.ref x, V.int v]) e3.symm, g3, om3, va, by omega, fun r4 m4 H4 ra4 rb4 f4 om4 g4 => ?_⟩
    have e4 := f4.trans e3
    obtain ⟨c, hc, hcl⟩ := sg_at (r := r4) ra4 (by omega)
    refine ⟨_, _, c, rfl, rfl, sl, hc, ?_⟩
    clear hv hc sl g3 g2 hl
    have hzs : z.length ≤ sizeLine := bg (by omega)
    refine ⟨_, rfl, _, _, rfl, rfl, _, rfl, ?_⟩
    refine ite2 (fun c1 => ?_) (fun c1 => ?_)
    · have c1 := of_decide_eq_true c1
      obtain ⟨w, hw, wl, wa⟩ := pick_sign hcl ra1 c1
      refine ⟨_, rfl, _, rfl, _, rfl, _, rfl, hzs, ?_⟩
      refine ⟨_, rfl, _, rfl, sm (by show 3 ≤ 1000; decide), fun l2 hl2 => ?_⟩
      have q1 := cut_len z none (some r2)
      refine ⟨_, rfl, l2, _, _, V.str w, rfl, rfl, SqL.of upd_same, at_of (j := r1.toNat) (by omega) hw, _, _, rfl, rfl, bg (by omega), ?_⟩
      have q3 : (cutS z none (some r2) ++ w).length ≤ 20001 := by rw [strLen_append]; omega
      refine ⟨_, rfl, _, rfl, _, rfl, _, _, rfl, rfl, .inr ⟨_, rfl, _, _, rfl, rfl, _, rfl, _, rfl, hzs, ?_⟩⟩
      generalize (r2 + if decide ((0 : Int) < r1) = true then (1 : Int) else 0) = jj
      have q2 := cut_len z (some jj) none
      refine ⟨_, _, rfl, rfl, bg (by omega), ?_⟩
      refine k _ m4 _ e4 om4 (Has.past g4 hl2 _) ?_ (((hasc.cut _ _).app wa).app (hasc.cut _ _))
      rw [strLen_append, strLen_append]; omega
    · have hP := parts_nl z
      have hw := split_wt_nl z
      refine ⟨_, rfl, ⟨_, rfl⟩, _, _, rfl, rfl, by kernel_rfl, bg (by omega), fun rl hrl => ?_⟩
      generalize Txt.split z "\n" = rows at hP hw hrl
      have hrn : 1 ≤ rows.length := by
        cases rows with
        | nil => exact absurd rfl hP.ne
        | cons a b => simp
      have hrf := hP.few
      have g5 := Has.cons g4 hrl (.lst (rows.map V.str))
      have hr5 : upd H4 rl (.lst (rows.map V.str)) rl = some (.lst (rows.map V.str)) := upd_same
      refine ⟨_, rfl, _, rfl, rl, _, rfl, .inl (SqL.of hr5), (rl, _) :: A, B, m4, _, congrArg (fun x => [V.ref x, V.int (((rows.map V.str).length : Nat) : Int)]) e4.symm, g5, om4, by rw [List.length_map]; omega, by rw [List.length_map]; omega, fun r5 m5 H5 ra5 rb5 f5 om5 g5 => ?_⟩
      have e5 := f5.trans e4
      rw [List.length_map] at rb5
      obtain ⟨kk, rfl⟩ : ∃ kk : Nat, r5 = (kk : Int) := ⟨r5.toNat, by omega⟩
      have hkk : kk < rows.length := by omega
      have hr5 : H5 rl = some (.lst (rows.map V.str)) := Has.get (A := []) g5 0 rfl
      have ga5 := Has.tail g5
      have c2 : cutV (rows.map V.str) (some ((kk : Int) + 1)) none = (rows.drop (kk + 1)).map V.str := cut_dropS rows (kk + 1)
      have c3 : cutV (rows.map V.str) none (some ((kk : Int) + 1)) = (rows.take (kk + 1)).map V.str := cut_takeS rows (kk + 1)
      have hwl : ∀ ys : List Str, wt ys ≤ 2 * wt rows + 6 → (ys.map fun x => x.length).sum + ys.length * ("\n" : Str).length ≤ 16777216 := fun ys h => by
        have := wt_eq ys
        rw [len_sep.1, Nat.mul_one]; omega
      have w1 := wt_td kk rows
      have w2 := wt_td (kk + 1) rows
      have hra := hP.asc hasc
      refine ⟨_, rfl, _, _, rfl, rfl, _, rfl, ?_⟩
      refine ite2 (fun c6 => ?_) (fun c6 => ?_)
      · have c6 := of_decide_eq_true c6
        have sz : ∀ {n : Nat}, n ≤ 2 * rows.length → n ≤ sizeLine := fun h => bg (by omega)
        refine ⟨⟨_, rfl⟩, _, rfl, _, rfl, _, rfl, rl, _, rfl, SqL.of hr5, fun p1 hp1 => ?_⟩
        rw [cut_takeS]
        have s1 := Same.new (HO.lst ((rows.take kk).map V.str)) hp1
        have h1 : upd H5 p1 (.lst ((rows.take kk).map V.str)) p1 = some (.lst ((rows.take kk).map V.str)) := upd_same
        generalize upd H5 p1 (.lst ((rows.take kk).map V.str)) = G1 at s1 h1
        refine ⟨_, rfl, _, rfl, _, _, rfl, rfl, _, rfl, rl, _, rfl, SqL.of (s1 _ _ hr5), fun p2 hp2 => ?_⟩
        rw [c2]
        have s2 := s1.trans (Same.new (HO.lst ((rows.drop (kk + 1)).map V.str)) hp2)
        refine ⟨p1, p2, _, _, rfl, rfl, (Same.new _ hp2) _ _ h1, upd_same, by simp only [List.length_map, List.length_take, List.length_drop]; exact bg (by omega), fun p3 hp3 => ?_⟩
        rw [← List.map_append]
        have s3 := s2.trans (Same.new (HO.lst ((rows.take kk ++ rows.drop (kk + 1)).map V.str)) hp3)
        have h3 : upd (upd G1 p2 (.lst ((rows.drop (kk + 1)).map V.str))) p3 (.lst ((rows.take kk ++ rows.drop (kk + 1)).map V.str)) p3 = some (.lst ((rows.take kk ++ rows.drop (kk + 1)).map V.str)) := upd_same
        generalize upd (upd G1 p2 (.lst ((rows.drop (kk + 1)).map V.str))) p3 (.lst ((rows.take kk ++ rows.drop (kk + 1)).map V.str)) = G3 at s3 h3
        clear s1 s2 h1
        refine ⟨_, rfl, _, rfl, _, _, rfl, rfl, _, rfl, rl, _, rfl, SqL.of (s3 _ _ hr5), fun p4 hp4 => ?_⟩
        rw [c3]
        have s4 := Same.new (HO.lst ((rows.take (kk + 1)).map V.str)) hp4
        have h4 : upd G3 p4 (.lst ((rows.take (kk + 1)).map V.str)) p4 = some (.lst ((rows.take (kk + 1)).map V.str)) := upd_same
        generalize upd G3 p4 (.lst ((rows.take (kk + 1)).map V.str)) = G4 at s4 h4
        refine ⟨_, rfl, _, rfl, _, rfl, rl, _, rfl, SqL.of (s4 _ _ (s3 _ _ hr5)), fun p5 hp5 => ?_⟩
        rw [cut_dropS]
        have s5 := s4.trans (Same.new (HO.lst ((rows.drop kk).map V.str)) hp5)
        refine ⟨p4, p5, _, _, rfl, rfl, (Same.new _ hp5) _ _ h4, upd_same, by simp only [List.length_map, List.length_take, List.length_drop]; exact bg (by omega), fun p6 hp6 => ?_⟩
        rw [← List.map_append]
        have s6 := s5.trans (Same.new (HO.lst ((rows.take (kk + 1) ++ rows.drop kk).map V.str)) hp6)
        have h6 : upd (upd G4 p5 (.lst ((rows.drop kk).map V.str))) p6 (.lst ((rows.take (kk + 1) ++ rows.drop kk).map V.str)) p6 = some (.lst ((rows.take (kk + 1) ++ rows.drop kk).map V.str)) := upd_same
        generalize upd (upd G4 p5 (.lst ((rows.drop kk).map V.str))) p6 (.lst ((rows.take (kk + 1) ++ rows.drop kk).map V.str)) = G6 at s6 h6
        have h3 := s6 _ _ h3
        have s3 := s3.trans s6
        clear s4 s5 s6 h4
        refine ⟨_, rfl, _, rfl, _, rfl, rl, _, rfl, SqL.of (s3 _ _ hr5), fun p7 hp7 => ?_⟩
        rw [cut_dropS]
        have s7 := Same.new (HO.lst ((rows.drop kk).map V.str)) hp7
        have h7 : upd G6 p7 (.lst ((rows.drop kk).map V.str)) p7 = some (.lst ((rows.drop kk).map V.str)) := upd_same
        generalize upd G6 p7 (.lst ((rows.drop kk).map V.str)) = G7 at s7 h7
        refine ⟨_, rfl, _, rfl, _, rfl, rl, _, rfl, SqL.of (s7 _ _ (s3 _ _ hr5)), fun p8 hp8 => ?_⟩
        rw [cut_takeS]
        have s8 := s7.trans (Same.new (HO.lst ((rows.take kk).map V.str)) hp8)
        refine ⟨p7, p8, _, _, rfl, rfl, (Same.new _ hp8) _ _ h7, upd_same, by simp only [List.length_map, List.length_take, List.length_drop]; exact bg (by omega), fun p9 hp9 => ?_⟩
        rw [← List.map_append]
        have s9 := s8.trans (Same.new (HO.lst ((rows.drop kk ++ rows.take kk).map V.str)) hp9)
        have h9 : upd (upd G7 p8 (.lst ((rows.take kk).map V.str))) p9 (.lst ((rows.drop kk ++ rows.take kk).map V.str)) p9 = some (.lst ((rows.drop kk ++ rows.take kk).map V.str)) := upd_same
        generalize upd (upd G7 p8 (.lst ((rows.take kk).map V.str))) p9 (.lst ((rows.drop kk ++ rows.take kk).map V.str)) = G9 at s9 h9
        have h3 := s9 _ _ h3
        have h6 := s9 _ _ h6
        have s3 := s3.trans s9
        clear s7 s8 s9 h7
        refine ⟨sm (by show 3 ≤ 1000; decide), fun pl hpl => ?_⟩
        have s10 := Same.new (HO.lst [.ref p3, .ref p6, .ref p9]) hpl
        obtain ⟨px, ys, hx1, hx2, hx3, hx4⟩ : ∃ (px : Addr) (ys : List Str), ([V.ref p3, .ref p6, .ref p9] : List V)[(r1 - 3).toNat]? = some (.ref px) ∧ G9 px = some (.lst (ys.map V.str)) ∧ wt ys ≤ 2 * wt rows ∧ ∀ y ∈ ys, y ∈ rows := by
          have : (r1 - 3).toNat = 0 ∨ (r1 - 3).toNat = 1 ∨ (r1 - 3).toNat = 2 := by omega
          have mt : ∀ {j : Nat} {y : Str}, y ∈ rows.take j → y ∈ rows := fun h => List.mem_of_mem_take h
          have md : ∀ {j : Nat} {y : Str}, y ∈ rows.drop j → y ∈ rows := fun h => List.mem_of_mem_drop h
          rcases this with e | e | e <;> rw [e]
          · exact ⟨p3, _, rfl, h3, by rw [wt_app]; omega, fun y hy => (List.mem_append.mp hy).elim mt md⟩
          · exact ⟨p6, _, rfl, h6, by rw [wt_app]; omega, fun y hy => (List.mem_append.mp hy).elim mt md⟩
          · exact ⟨p9, _, rfl, h9, by rw [wt_app]; omega, fun y hy => (List.mem_append.mp hy).elim md mt⟩
        have c1' : ¬ r1 < 3 := fun q => c1 (decide_eq_true q)
        refine ⟨_, rfl, _, _, rfl, rfl, pl, _, _, V.ref px, rfl, rfl, SqL.of upd_same, at_of (j := (r1 - 3).toNat) (by omega) hx1, _, px, ys, rfl, rfl, .inl (SqL.of (s10 _ _ hx2)), hwl ys (by omega), ?_⟩
        refine k _ m5 _ e5 om5 (ga5.same (s3.trans s10)) ?_ (asc_sep.1.join fun y hy => hra y (hx4 y hy))
        have := join_wt len_sep.1 ys
        omega
      · have c6' : ¬ r1 < 6 := fun q => c6 (decide_eq_true q)
        have ep : rows[kk]? = some rows[kk] := List.getElem?_eq_getElem hkk
        have hrl9 := hP.len _ (List.getElem_mem hkk)
        have hrowa := hra _ (List.getElem_mem hkk)
        have w3 := wt_at ep
        generalize rows[kk] = row at ep hrl9 hrowa w3
        have hP2 := parts_sp row
        have hw2 := split_wt_sp row
        refine ⟨_, rfl, _, rfl, _, _, _, V.str row, rfl, rfl, SqL.of hr5, at_of (j := kk) rfl (by rw [List.getElem?_map, ep]; rfl), ⟨_, rfl⟩, _, _, rfl, rfl, by kernel_rfl, bg (by omega), fun wl hwl2 => ?_⟩
        generalize Txt.split row " " = ws at hP2 hw2 hwl2
        have hwn : 1 ≤ ws.length := by
          cases ws with
          | nil => exact absurd rfl hP2.ne
          | cons a b => simp
        have hwf := hP2.few
        have g6 := Has.cons g5 hwl2 (.lst (ws.map V.str))
        have hw6 : upd H5 wl (.lst (ws.map V.str)) wl = some (.lst (ws.map V.str)) := upd_same
        refine ⟨_, rfl, _, rfl, wl, _, rfl, .inl (SqL.of hw6), (wl, _) :: (rl, _) :: A, B, m5, _, congrArg (fun x => [V.ref x, V.int (((ws.map V.str).length : Nat) : Int)]) e5.symm, g6, om5, by rw [List.length_map]; omega, by rw [List.length_map]; omega, fun r6 m6 H6 ra6 rb6 f6 om6 g6 => ?_⟩
        have e6 := f6.trans e5
        rw [List.length_map] at rb6
        obtain ⟨jj, rfl⟩ : ∃ jj : Nat, r6 = (jj : Int) := ⟨r6.toNat, by omega⟩
        have hjj : jj < ws.length := by omega
        have ew : ws[jj]? = some ws[jj] := List.getElem?_eq_getElem hjj
        have w4 := wt_at ew
        have hwa := hP2.asc hrowa _ (List.getElem_mem hjj)
        generalize ws[jj] = wj at ew w4 hwa
        refine ⟨sm (by show 19 ≤ 1000; decide), fun ol hol => ?_⟩
        refine ⟨_, rfl, sm (by show 5 ≤ 1000; decide), fun o2 ho2 => ⟨ol, o2, _, _, rfl, rfl, (Same.new _ ho2) _ _ upd_same, upd_same, sm (by show 24 ≤ 1000; decide), fun o3 ho3 => ?_⟩⟩
        obtain ⟨ox, hox, hod⟩ : ∃ ox : List V, ox = oddA.map V.str ++ oddB.map V.str ∧ ∀ r : Int, 0 ≤ r → r < 24 → ∃ w : Str, ox[r.toNat]? = some (.str w) ∧ w.length ≤ 4 ∧ Asc w := ⟨_, rfl, fun r a b => odd_at a b⟩
        generalize hX : upd _ o3 _ = X7
        have s7 : Same H6 X7 := by
          rw [← hX]
          exact (Same.new _ hol).trans ((Same.new _ ho2).trans (Same.new _ ho3))
        have h7 : X7 o3 = some (.lst ox) := by
          rw [← hX, hox]
          exact upd_same
        have g7 := Has.add g6 (((Same.new _ hol).trans (Same.new _ ho2)).free ho3) s7 h7
        have hw7 := s7 _ _ (Has.get (A := []) g6 0 rfl : H6 wl = some (.lst (ws.map V.str)))
        have hr7 := s7 _ _ (Has.get (A := []) g6 1 rfl : H6 rl = some (.lst (rows.map V.str)))
        clear hX ho2 ho3 s7 hol hox
        refine ⟨_, rfl, _, rfl, _, rfl, wl, _, rfl, SqL.of hw7, fun p1 hp1 => ?_⟩
        rw [cut_takeS]
        have g8 := Has.cons g7 hp1 (.lst ((ws.take jj).map V.str))
        generalize upd X7 p1 (.lst ((ws.take jj).map V.str)) = X8 at g8
        refine ⟨sm (by show 0 ≤ 1000; decide), fun x1 hx1 => ?_⟩
        have g9 := Has.cons g8 hx1 (.lst [])
        generalize upd X8 x1 (.lst []) = X9 at g9
        have hw9 : X9 wl = some (.lst (ws.map V.str)) := Has.get (A := []) g9 3 rfl
        refine ⟨_, rfl, _, rfl, wl, _, _, V.str wj, rfl, rfl, SqL.of hw9, at_of (j := jj) rfl (by rw [List.getElem?_map, ew]; rfl), sm (by show 1 ≤ 1000; decide), fun x2 hx2 => ?_⟩
        refine ⟨x2, 2, _, rfl, rfl, upd_same, by decide, by decide, sm (by show 1 * 2 ≤ 1000; decide), fun x3 hx3 => ?_⟩
        have g10 := Has.cons (Has.past g9 hx2 (.lst [.str wj])) hx3 (.lst (List.replicate (2 : Int).toNat [V.str wj]).flatten)
        generalize upd (upd X9 x2 (.lst [.str wj])) x3 (.lst (List.replicate (2 : Int).toNat [V.str wj]).flatten) = X10 at g10
        refine ⟨_, rfl, _, rfl, _, B, m6, 24, congrArg (fun x => [V.ref x, V.int 24]) e6.symm, (Has.re g10 (by rfl) : Has X10 (((x3, HO.lst (List.replicate (2 : Int).toNat [V.str wj]).flatten) :: (x1, HO.lst []) :: (p1, HO.lst ((ws.take jj).map V.str)) :: (o3, HO.lst ox) :: (wl, HO.lst (ws.map V.str)) :: (rl, HO.lst (rows.map V.str)) :: A) ++ (mixCells m6 ++ B))), om6, by decide, by decide, fun r7 m7 H7 ra7 rb7 f7 om7 g11 => ?_⟩
        have e7 := f7.trans e6
        obtain ⟨wd, hw, hw1, hw2'⟩ := hod r7 ra7 rb7
        have ho7 : H7 o3 = some (.lst ox) := Has.get (A := []) g11 3 rfl
        have hw7 : H7 wl = some (.lst (ws.map V.str)) := Has.get (A := []) g11 4 rfl
        have hr7 : H7 rl = some (.lst (rows.map V.str)) := Has.get (A := []) g11 5 rfl
        have hp7 : H7 p1 = some (.lst ((ws.take jj).map V.str)) := Has.get (A := []) g11 2 rfl
        have hx17 : H7 x1 = some (.lst (([] : List Str).map V.str)) := Has.get (A := []) g11 1 rfl
        have hx37 : H7 x3 = some (.lst ([wj, wj].map V.str)) := Has.get (A := []) g11 0 rfl
        have gz : Has H7 (A ++ (mixCells m7 ++ B)) := Has.tail (Has.tail (Has.tail (Has.tail (Has.tail (Has.tail g11)))))
        clear g11 g10 g9 g8 g7 g6 g5 ga5 hr5 hw6 hw9
        refine ⟨o3, _, _, V.str wd, rfl, rfl, SqL.of ho7, at_of (j := r7.toNat) (by omega) hw, sm (by show 1 ≤ 1000; decide), fun x4 hx4 => ?_⟩
        have s1 := Same.new (HO.lst [V.str wd]) hx4
        have hx4' : upd H7 x4 (.lst [.str wd]) x4 = some (.lst ([wd].map V.str)) := upd_same
        generalize upd H7 x4 (.lst [.str wd]) = Y1 at s1 hx4'
        refine ⟨sm (by show 3 ≤ 1000; decide), fun x5 hx5 => ?_⟩
        have s2 := s1.trans (Same.new (HO.lst [.ref x1, .ref x3, .ref x4]) hx5)
        have hx4' := (Same.new (HO.lst [.ref x1, .ref x3, .ref x4]) hx5) _ _ hx4'
        have hx5' : upd Y1 x5 (.lst [.ref x1, .ref x3, .ref x4]) x5 = some (.lst [.ref x1, .ref x3, .ref x4]) := upd_same
        generalize upd Y1 x5 (.lst [.ref x1, .ref x3, .ref x4]) = Y2 at s2 hx4' hx5'
        obtain ⟨px, cs, hx, hcs, hcw, hca⟩ : ∃ (px : Addr) (cs : List Str), ([V.ref x1, .ref x3, .ref x4] : List V)[(r1 - 6).toNat]? = some (.ref px) ∧ Y2 px = some (.lst (cs.map V.str)) ∧ wt cs ≤ 2 * (wj.length + 1) + 5 ∧ ∀ y ∈ cs, Asc y := by
          have : (r1 - 6).toNat = 0 ∨ (r1 - 6).toNat = 1 ∨ (r1 - 6).toNat = 2 := by omega
          rcases this with e | e | e <;> rw [e]
          · exact ⟨x1, [], rfl, s2 _ _ hx17, by rw [wt_nil]; omega, fun y hy => by cases hy⟩
          · exact ⟨x3, [wj, wj], rfl, s2 _ _ hx37, by rw [wt_cons, wt_one]; omega, fun y hy => by
              have : y = wj := by simpa using hy
              rw [this]; exact hwa⟩
          · exact ⟨x4, [wd], rfl, hx4', by rw [wt_one]; omega, fun y hy => by
              have : y = wd := by simpa using hy
              rw [this]; exact hw2'⟩
        have hcl := wt_len cs
        refine ⟨_, rfl, _, _, rfl, rfl, x5, _, _, V.ref px, rfl, rfl, SqL.of hx5', at_of (j := (r1 - 6).toNat) (by omega) hx, p1, px, _, _, rfl, rfl, s2 _ _ hp7, hcs, by simp only [List.length_map, List.length_take]; exact bg (by omega), fun p2 hp2 => ?_⟩
        rw [← List.map_append]
        have s3 := s2.trans (Same.new (HO.lst ((ws.take jj ++ cs).map V.str)) hp2)
        have h2 : upd Y2 p2 (.lst ((ws.take jj ++ cs).map V.str)) p2 = some (.lst ((ws.take jj ++ cs).map V.str)) := upd_same
        generalize upd Y2 p2 (.lst ((ws.take jj ++ cs).map V.str)) = Y3 at s3 h2
        refine ⟨_, rfl, _, rfl, _, _, rfl, rfl, _, rfl, wl, _, rfl, SqL.of (s3 _ _ hw7), fun p3 hp3 => ?_⟩
        have cd2 : cutV (ws.map V.str) (some ((jj : Int) + 1)) none = (ws.drop (jj + 1)).map V.str := cut_dropS ws (jj + 1)
        rw [cd2]
        have s4 := s3.trans (Same.new (HO.lst ((ws.drop (jj + 1)).map V.str)) hp3)
        refine ⟨p2, p3, _, _, rfl, rfl, (Same.new _ hp3) _ _ h2, upd_same, by simp only [List.length_map, List.length_take, List.length_drop, List.length_append]; exact bg (by omega), fun p4 hp4 => ?_⟩
        rw [← List.map_append]
        obtain ⟨wn, hwn'⟩ : ∃ wn, wn = ws.take jj ++ cs ++ ws.drop (jj + 1) := ⟨_, rfl⟩
        rw [← hwn']
        have s5 := s4.trans (Same.new (HO.lst (wn.map V.str)) hp4)
        have h4 : upd (upd Y3 p3 (.lst ((ws.drop (jj + 1)).map V.str))) p4 (.lst (wn.map V.str)) p4 = some (.lst (wn.map V.str)) := upd_same
        generalize upd (upd Y3 p3 (.lst ((ws.drop (jj + 1)).map V.str))) p4 (.lst (wn.map V.str)) = Y5 at s5 h4
        have wwn : wt wn ≤ 2 * (row.length + 1) + 5 := by rw [hwn', wt_app, wt_app]; omega
        have awn : ∀ y ∈ wn, Asc y := fun y hy => by
          rw [hwn'] at hy
          rcases List.mem_append.mp hy with hy | hy
          · rcases List.mem_append.mp hy with hy | hy
            · exact hP2.asc hrowa _ (List.mem_of_mem_take hy)
            · exact hca _ hy
          · exact hP2.asc hrowa _ (List.mem_of_mem_drop hy)
        clear s1 s2 s3 s4 h2
        refine ⟨⟨_, rfl⟩, _, rfl, _, rfl, _, rfl, rl, _, rfl, SqL.of (s5 _ _ hr7), fun p5 hp5 => ?_⟩
        rw [cut_takeS]
        have t1 := Same.new (HO.lst ((rows.take kk).map V.str)) hp5
        have h5 : upd Y5 p5 (.lst ((rows.take kk).map V.str)) p5 = some (.lst ((rows.take kk).map V.str)) := upd_same
        generalize upd Y5 p5 (.lst ((rows.take kk).map V.str)) = Y6 at t1 h5
        have hsp : (wn.map fun x => x.length).sum + wn.length * (" " : Str).length ≤ 16777216 := by
          have := wt_eq wn
          rw [len_sep.2, Nat.mul_one]; omega
        have hjn := join_wt len_sep.2 wn
        have haj := asc_sep.2.join awn
        refine ⟨⟨_, rfl⟩, _, rfl, _, p4, wn, rfl, rfl, .inl (SqL.of (t1 _ _ h4)), hsp, ?_⟩
        generalize Txt.join " " wn = rown at hjn haj
        refine ⟨sm (by show 1 ≤ 1000; decide), fun p6 hp6 => ?_⟩
        have t2 := t1.trans (Same.new (HO.lst [V.str rown]) hp6)
        refine ⟨p5, p6, _, _, rfl, rfl, (Same.new _ hp6) _ _ h5, upd_same, by simp only [List.length_map, List.length_take, List.length_cons, List.length_nil]; exact bg (by omega), fun p7 hp7' => ?_⟩
        have t3 := t2.trans (Same.new (HO.lst ((rows.take kk).map V.str ++ [V.str rown])) hp7')
        have h7' : upd (upd Y6 p6 (.lst [V.str rown])) p7 (.lst ((rows.take kk).map V.str ++ [V.str rown])) p7 = some (.lst ((rows.take kk).map V.str ++ [V.str rown])) := upd_same
        generalize upd (upd Y6 p6 (.lst [V.str rown])) p7 (.lst ((rows.take kk).map V.str ++ [V.str rown])) = Y7 at t3 h7'
        refine ⟨_, rfl, _, rfl, _, _, rfl, rfl, _, rfl, rl, _, rfl, SqL.of (t3 _ _ (s5 _ _ hr7)), fun p8 hp8 => ?_⟩
        rw [c2]
        have t4 := t3.trans (Same.new (HO.lst ((rows.drop (kk + 1)).map V.str)) hp8)
        refine ⟨p7, p8, _, _, rfl, rfl, (Same.new _ hp8) _ _ h7', upd_same, by simp only [List.length_map, List.length_take, List.length_drop, List.length_append, List.length_cons, List.length_nil]; exact bg (by omega), fun p9 hp9 => ?_⟩
        obtain ⟨yn, hyn⟩ : ∃ yn, yn = rows.take kk ++ [rown] ++ rows.drop (kk + 1) := ⟨_, rfl⟩
        have eyn : (rows.take kk).map V.str ++ [V.str rown] ++ (rows.drop (kk + 1)).map V.str = yn.map V.str := by rw [hyn]; simp
        rw [eyn]
        have t5 := t4.trans (Same.new (HO.lst (yn.map V.str)) hp9)
        have wyn : wt yn ≤ 2 * wt rows + 6 := by rw [hyn, wt_app, wt_app, wt_one]; omega
        refine ⟨_, p9, yn, rfl, rfl, .inl (SqL.of upd_same), hwl yn wyn, ?_⟩
        refine k _ m7 _ e7 om7 (gz.same (s5.trans t5)) ?_ (asc_sep.1.join fun y hy => ?_)
        · have := join_wt len_sep.1 yn
          omega
        · rw [hyn] at hy
          rcases List.mem_append.mp hy with hy | hy
          · rcases List.mem_append.mp hy with hy | hy
            · exact hra _ (List.mem_of_mem_take hy)
            · rw [List.mem_singleton.mp hy]; exact haj
          · exact hra _ (List.mem_of_mem_drop hy)
end
end SH
set_option Elab.async false
set_option linter.all false
set_option maxRecDepth 100000
set_option maxHeartbeats 0
/-! k18: what the law leans on beside its functions -/
namespace L2
open PySem PySem.Spec PyProof.Rows
/-- a def whose code object is known -/
theorem Fun.okC {P : Program} {w : World} {K : PySem.W.Frag} {mg : Str → Option Value} {base : Heap} {x qual : Str} {st : Stmt} {f c : Addr} {fd : FuncData} {N ps : List Str} {k : Nat} {sp : Sp} (F : Fun K x qual st f fd) (hc : fd.code = .ref c) (S : FnScope N ps (defScope st))
    (len : ∀ vs H Q E, sp vs H Q E → vs.length = ps.length)
    (hb : ∀ (A : Around) (outer : List Env) (s : Shared) (H : Hp) (vs : List V) (Q : VK) (E : XK), Room k (A.deeper (envOfC qual (defScope st) s.heap.objs.size f (.ref c))) → sp vs H Q E →
      ∃ t, PSs (cxOf CX0 P w K mg base N qual (defScope st) f (.ref c) A outer s H E).nox (defBody st) t ∧ t { nx := fun _ H' => Q .non H', rt := Q } (start N vs) H) : FnOk P w K mg base CX0 (k + 1) f fd ps sp := by
  obtain ⟨oc, od, kV, doc, pm, an, cdv, ct, osl, rfl, lk, hcd⟩ := F.ex
  obtain rfl : cdv = .ref c := hc
  exact fn_of lk hcd S len fun A outer s H vs Q E hr hsp => by
    obtain ⟨t, h, q⟩ := hb A outer s H vs Q E hr hsp
    exact ⟨t, h.nox, q⟩
theorem passX0 {X : Cx} : Passes (L2.CX X.prog X.w) X E0 := fun _ _ _ _ _ _ _ c => by
  obtain ⟨_, _, _, _, _, _, _, _, _, _, _, _, z⟩ := c
  exact z.elim
end L2
namespace SH
open PySem PySem.Spec PyProof.Rows L2 StX TL LamX
theorem Has.join {H : Hp} {L1 L2 : Cells} (h1 : Has H L1) (h2 : Has H L2) (hd : ∀ c ∈ L1, ∀ d ∈ L2, c.2 ≠ d.2) : Has H (L1 ++ L2) := by
  refine ⟨fun c hc => (List.mem_append.mp hc).elim (h1.ok c) (h2.ok c), ?_⟩
  rw [List.map_append]
  refine List.nodup_append.mpr ⟨h1.nd, h2.nd, fun a ha b hb e => ?_⟩
  obtain ⟨c, hc, rfl⟩ := List.mem_map.mp ha
  obtain ⟨d, hd', rfl⟩ := List.mem_map.mp hb
  have e1 := h1.ok c hc
  have e2 := h2.ok d hd'
  rw [e, e2] at e1
  exact hd c hc d hd' (Option.some.inj e1).symm
def dd : List Addr → List Addr
  | [] => []
  | a :: r => if a ∈ dd r then dd r else a :: dd r
theorem dd_mem {x : Addr} : ∀ {l : List Addr}, x ∈ l → x ∈ dd l
  | a :: r, h => by
    unfold dd
    by_cases c : a ∈ dd r
    · rw [if_pos c]
      rcases List.mem_cons.mp h with rfl | h
      · exact c
      · exact dd_mem h
    · rw [if_neg c]
      rcases List.mem_cons.mp h with rfl | h
      · exact List.mem_cons_self
      · exact List.mem_cons_of_mem _ (dd_mem h)
theorem dd_sub {x : Addr} : ∀ {l : List Addr}, x ∈ dd l → x ∈ l
  | [], h => h
  | a :: r, h => by
    unfold dd at h
    by_cases c : a ∈ dd r
    · rw [if_pos c] at h
      exact List.mem_cons_of_mem _ (dd_sub h)
    · rw [if_neg c] at h
      rcases List.mem_cons.mp h with rfl | h
      · exact List.mem_cons_self
      · exact List.mem_cons_of_mem _ (dd_sub h)
theorem dd_nd : ∀ l : List Addr, (dd l).Nodup
  | [] => List.nodup_nil
  | a :: r => by
    unfold dd
    by_cases c : a ∈ dd r
    · rw [if_pos c]; exact dd_nd r
    · rw [if_neg c]; exact List.nodup_cons.mpr ⟨c, dd_nd r⟩
theorem among_mem {pos : Pos} {cv : Value} (l : List Value) (h : codeAmong pos l = some cv) : cv ∈ l := by
  fun_induction codeAmong pos l with
  | case1 => exact List.mem_cons_of_mem _ (List.mem_cons_of_mem _ (by rw [Option.some.inj h]; exact List.mem_cons_self))
  | case2 a b c d e f g ih => exact List.mem_cons_of_mem _ (List.mem_cons_of_mem _ (List.mem_cons_of_mem _ (ih h)))
  | case3 => cases h
abbrev codeCell (q : Str) (c : Addr) : Addr × HO := (c, CodeO c q)
abbrev tabCells (PT : Addr) (q : Str) (ps : Array Value) (cc : List Addr) : Cells := (PT, .tbl ps) :: cc.map (codeCell q)
structure TabC (ps : Array Value) (cc : List Addr) : Prop where
  tr : TriplesOk ps.toList
  at_ : ∀ (pos : Pos) (cv : Value), codeAmong pos ps.toList = some cv → ∃ c ∈ cc, cv = .ref c
theorem TabC.tabs {H : Hp} {PT : Addr} {q : Str} {ps : Array Value} {cc : List Addr} {L : Cells} (t : TabC ps cc) (h : Has H L) (hs : ∀ c ∈ tabCells PT q ps cc, c ∈ L) : Tabs [(PT, q)] H := fun p hp => by
  rw [List.mem_singleton.mp hp]
  refine ⟨ps, h.ok _ (hs _ List.mem_cons_self), t.tr, fun pos cv hc => ?_⟩
  obtain ⟨c, h1, h2⟩ := t.at_ pos cv hc
  exact ⟨c, h2, h.ok (codeCell q c) (hs _ (List.mem_cons_of_mem _ (List.mem_map.mpr ⟨c, h1, rfl⟩)))⟩
theorem code_has {H : Hp} {q : Str} {cc : List Addr} (nd : cc.Nodup) (h : ∀ c ∈ cc, H c = some (CodeO c q)) : Has H (cc.map (codeCell q)) := by
  refine ⟨fun c hc => ?_, ?_⟩
  · obtain ⟨d, hd, rfl⟩ := List.mem_map.mp hc
    exact h d hd
  · rw [List.map_map]
    have : ((fun c : Addr × HO => c.1) ∘ codeCell q) = id := rfl
    rw [this, List.map_id]; exact nd
/-- what the table tells now, as cells -/
theorem tabs_has {H : Hp} {PT : Addr} {q : Str} (t : Tabs [(PT, q)] H) : ∃ ps cc, TabC ps cc ∧ Has H (tabCells PT q ps cc) := by
  classical
  obtain ⟨ps, h1, h2, h3⟩ := t _ List.mem_cons_self
  let cs : List Addr := dd (ps.toList.filterMap fun v => match v with
    | .ref c => if H c = some (CodeO c q) then some c else none
    | _ => none)
  have hcs : ∀ c ∈ cs, H c = some (CodeO c q) := fun c hc => by
    obtain ⟨v, _, hv⟩ := List.mem_filterMap.mp (dd_sub hc)
    cases v with
    | ref d =>
      by_cases e : H d = some (CodeO d q)
      · have hv : (if H d = some (CodeO d q) then some d else none) = some c := hv
        rw [if_pos e] at hv
        rw [← Option.some.inj hv]; exact e
      · have hv : (if H d = some (CodeO d q) then some d else none) = some c := hv
        rw [if_neg e] at hv; cases hv
    | _ => cases hv
  refine ⟨ps, cs, ⟨h2, fun pos cv hc => ?_⟩, ?_⟩
  · obtain ⟨c, rfl, e⟩ := h3 pos cv hc
    refine ⟨c, dd_mem (List.mem_filterMap.mpr ⟨.ref c, among_mem _ hc, ?_⟩), rfl⟩
    show (if H c = some (CodeO c q) then some c else none) = some c
    rw [if_pos e]
  · refine Has.join (L1 := [(PT, .tbl ps)]) ⟨fun c hc => by rw [List.mem_singleton.mp hc]; exact h1, by simp⟩ (code_has (dd_nd _) hcs) fun c hc d hd => ?_
    rw [List.mem_singleton.mp hc]
    obtain ⟨a, _, rfl⟩ := List.mem_map.mp hd
    exact fun z => codeO_ne ps z.symm
/-- behind a lambda's making -/
theorem tab_after {H H1 : Hp} {PT : Addr} {q : Str} {L : Cells} (h : Has H L) (hl : ∀ c ∈ L, ∃ xs, c.2 = .lst xs) (e : ExtN H H1) (t : Tabs [(PT, q)] H1) : ∃ ps cc, TabC ps cc ∧ Has H1 (L ++ tabCells PT q ps cc) := by
  obtain ⟨ps, cc, h1, h2⟩ := tabs_has t
  refine ⟨ps, cc, h1, Has.join ⟨fun c hc => e _ _ (h.ok c hc) fun ps z => ?_, h.nd⟩ h2 fun c hc d hd => ?_⟩
  · obtain ⟨xs, e⟩ := hl c hc
    rw [e] at z; cases z
  · obtain ⟨xs, e⟩ := hl c hc
    rw [e]
    rcases List.mem_cons.mp hd with rfl | hd
    · intro z; cases z
    · obtain ⟨a, _, rfl⟩ := List.mem_map.mp hd
      intro z
      unfold codeCell CodeO at z
      cases z
/-! the written text -/
theorem nums_asc : ∀ {n : Int}, n ∈ nums41 → Asc (nS n) := fun h => asc_by (List.all_eq_true.mp (show (nums41.all fun n => ascB (nS n)) = true by decide +kernel) _ h)
theorem word_asc (z : Lt) : Asc z.word := by cases z <;> exact asc_by (by kernel_rfl)
theorem row_asc {c : Int} {z : Lt} (c0 : 0 ≤ c) (c4 : c ≤ 4) (hz : z.ok) : Asc (rowS c z) := by
  refine asc_sep.2.join fun a ha => ?_
  unfold wordsS at ha
  rcases List.mem_cons.mp ha with rfl | ha
  · exact nums_asc (mem41 (n := c) (by omega) (by omega))
  rcases List.mem_cons.mp ha with rfl | ha
  · exact word_asc z
  · obtain ⟨n, h1, rfl⟩ := List.mem_map.mp ha
    have h2 := Lt.num41 hz n h1
    exact nums_asc (mem41 h2.1 h2.2)
theorem rows_asc {l : List (List Lt)} {k : Nat} (hl : k + l.length ≤ 5) (h : ∀ zs ∈ l, ∀ z ∈ zs, z.ok) : ∀ a ∈ rowsFrom k l, Asc a := by
  induction l generalizing k with
  | nil => intro a ha; cases ha
  | cons zs l ih =>
    intro a ha
    simp only [List.length_cons] at hl
    rcases List.mem_append.mp ha with ha | ha
    · obtain ⟨z, hz, rfl⟩ := List.mem_map.mp ha
      exact row_asc (by omega) (by omega) (h zs List.mem_cons_self z hz)
    · exact ih (k := k + 1) (by omega) (fun y hy => h y (List.mem_cons_of_mem _ hy)) a ha
theorem rows_few {m : Nat} : ∀ {l : List (List Lt)} {k : Nat}, (∀ zs ∈ l, zs.length ≤ m) → (rowsFrom k l).length ≤ m * l.length
  | [], k, _ => by simp [rowsFrom]
  | zs :: l, k, h => by
    have h1 := h zs List.mem_cons_self
    have h2 := rows_few (k := k + 1) fun y hy => h y (List.mem_cons_of_mem _ hy)
    simp only [rowsFrom, List.length_append, List.length_map, List.length_cons, Nat.mul_succ]
    omega
theorem wt_short {m : Nat} : ∀ l : List Str, (∀ a ∈ l, a.length ≤ m) → wt l ≤ l.length * (m + 1)
  | [], _ => by simp [wt]
  | a :: l, h => by
    have h1 := h a List.mem_cons_self
    have h2 := wt_short l fun b hb => h b (List.mem_cons_of_mem _ hb)
    rw [wt_cons, List.length_cons, Nat.succ_mul]; omega
theorem text_facts {zss : List (List Lt)} (h5 : zss.length ≤ 5) (h : ∀ zs ∈ zss, zs.length ≤ 12 ∧ ∀ z ∈ zs, z.ok) : (textB zss).length ≤ 4000 ∧ Asc (textB zss) := by
  have hok : ∀ zs ∈ zss, ∀ z ∈ zs, z.ok := fun zs hz => (h zs hz).2
  have h1 := rows_short (k := 0) (l := zss) (by omega) hok
  have h2 := rows_few (m := 12) (k := 0) (l := zss) fun zs hz => (h zs hz).1
  have h3 := wt_short _ h1
  have h4 := join_wt len_sep.1 (rowsFrom 0 zss)
  have h6 : (rowsFrom 0 zss).length ≤ 60 := by omega
  refine ⟨?_, asc_sep.1.join (rows_asc (k := 0) (by omega) hok)⟩
  have h7 := Nat.mul_le_mul_right (56 + 1) h6
  have : (textB zss).length ≤ wt (rowsFrom 0 zss) := h4
  omega
/-! what is read -/
theorem pad_mem {bs : List (List Lw)} {n : Nat} {zs : List Lw} (h : zs ∈ padW bs n) : zs ∈ bs ∨ zs = [] := by
  rcases List.mem_append.mp h with h | h
  · exact .inl h
  · exact .inr (List.mem_replicate.mp h).2
theorem add_mem {bs : List (List Lw)} {c : Nat} {l : Lw} (hb : ∀ zs ∈ bs, ∀ z ∈ zs, okLw z = true) (hl : okLw l = true) : ∀ zs ∈ addW bs c l, ∀ z ∈ zs, okLw z = true := by
  intro zs hz z hzz
  have hp : ∀ zs ∈ padW bs (c + 1), ∀ z ∈ zs, okLw z = true := fun zs hz z hzz => by
    rcases pad_mem hz with h | h
    · exact hb zs h z hzz
    · rw [h] at hzz; cases hzz
  rcases List.mem_or_eq_of_mem_set hz with h | rfl
  · exact hp zs h z hzz
  · rcases List.mem_append.mp hzz with h | h
    · have hg : (padW bs (c + 1)).getD c [] ∈ padW bs (c + 1) ∨ (padW bs (c + 1)).getD c [] = [] := by
        rw [List.getD_eq_getElem?_getD]
        cases e : (padW bs (c + 1))[c]? with
        | none => exact .inr rfl
        | some y => exact .inl (List.mem_of_getElem? e)
      rcases hg with hg | hg
      · exact hp _ hg z h
      · rw [hg] at h; cases h
    · rw [List.mem_singleton.mp h]; exact hl
theorem readR_ok : ∀ (rows : List Str) (k : Nat) (bs res : List (List Lw)), readR rows k bs = .ok res → (∀ zs ∈ bs, ∀ z ∈ zs, okLw z = true) → ∀ zs ∈ res, ∀ z ∈ zs, okLw z = true
  | [], k, bs, res, h, hb => by
    have : bs = res := Except.ok.inj h
    rw [← this]; exact hb
  | row :: r, k, bs, res, h, hb => by
    have h : (if fineR row bs.length = true then readR r (k + 1) (addW bs ((cliR row).getD 0).toNat (lwR row)) else .error k) = .ok res := h
    by_cases c : fineR row bs.length = true
    · rw [if_pos c] at h
      exact readR_ok r _ _ res h (add_mem hb (Bool.and_eq_true_iff.mp c).2)
    · rw [if_neg c] at h; cases h
theorem inO_some {v : Option Int} {lo hi : Int} (h : inO v lo hi = true) : ∃ n, v = some n := by
  cases v with
  | none => cases h
  | some n => exact ⟨n, rfl⟩
theorem ok_vals {l : Lw} (h : okLw l = true) : (lwV l).length ≤ 7 ∧ ∀ v ∈ lwV l, R0 v v := by
  cases l with
  | none => cases h
  | some p =>
    obtain ⟨x, ns⟩ := p
    have h : (match bndW x with | none => false | some bs => inBO ns bs) = true := h
    cases hb : bndW x with
    | none => rw [hb] at h; cases h
    | some bs =>
      rw [hb] at h
      have h : inBO ns bs = true := h
      obtain ⟨h1, h2⟩ := Bool.and_eq_true_iff.mp h
      have hl := of_decide_eq_true h1
      obtain ⟨z, _, hz⟩ := bndW_some hb
      have hzl : bs.length ≤ 6 := by rw [← hz]; cases z <;> simp [Lt.bnds]
      refine ⟨by unfold lwV; simp only [List.length_cons, List.length_map]; omega, fun v hv => ?_⟩
      rcases List.mem_cons.mp (show v ∈ .str x :: ns.map optV from hv) with rfl | hv
      · exact .inr ⟨x, rfl, rfl⟩
      · obtain ⟨o, ho, rfl⟩ := List.mem_map.mp hv
        obtain ⟨i, hi⟩ := List.mem_iff_getElem?.mp ho
        have hi2 := (List.getElem?_eq_some_iff.mp hi).1
        have e : bs[i]? = some bs[i] := List.getElem?_eq_getElem (by omega)
        obtain ⟨n, rfl⟩ := inO_some (inBO_at h hi e)
        exact .inl ⟨n, rfl, rfl⟩
theorem row_rd {H : Hp} {ts ts' : List Addr} {zs : List Lw} (h : RowW H ts zs) (h' : RowW H ts' zs) (hz : ∀ z ∈ zs, okLw z = true) (i : Nat) (x y : V) (ex : (ts.map V.ref)[i]? = some x) (ey : (ts'.map V.ref)[i]? = some y) : RD H 1 x y := by
  rw [List.getElem?_map] at ex ey
  cases e1 : ts[i]? with
  | none => rw [e1] at ex; cases ex
  | some t =>
  cases e2 : ts'[i]? with
  | none => rw [e2] at ey; cases ey
  | some t' =>
  rw [e1] at ex
  rw [e2] at ey
  obtain rfl := Option.some.inj ex
  obtain rfl := Option.some.inj ey
  have hl := paired_len h
  have hi := (List.getElem?_eq_some_iff.mp e1).1
  have ez : zs[i]? = some zs[i] := List.getElem?_eq_getElem (by omega)
  have q1 := paired_ix h e1 ez
  have q2 := paired_ix h' e2 ez
  obtain ⟨k1, k2⟩ := ok_vals (hz _ (List.mem_of_getElem? ez))
  refine .inr ⟨t, t', _, _, rfl, rfl, .inl ⟨q1, q2⟩, rfl, by omega, fun j u v eu ev => ?_⟩
  rw [eu] at ev
  rw [← Option.some.inj ev]
  exact k2 u (List.mem_of_getElem? eu)
theorem books_rd {H : Hp} {ba bb : Addr} {bs : List (List Lw)} (h : BooksW H ba bs) (h' : BooksW H bb bs) (hz : ∀ zs ∈ bs, ∀ z ∈ zs, okLw z = true) (h5 : bs.length ≤ 5) (hl : ∀ zs ∈ bs, zs.length ≤ 90001) : RD H 3 (.ref ba) (.ref bb) := by
  obtain ⟨cs, hb, hp⟩ := h
  obtain ⟨cs', hb', hp'⟩ := h'
  have l1 := paired_len hp
  have l2 := paired_len hp'
  refine .inr ⟨ba, bb, _, _, rfl, rfl, .inr ⟨hb, hb'⟩, by rw [List.length_map, List.length_map]; omega, by rw [List.length_map]; omega, fun i x y ex ey => ?_⟩
  rw [List.getElem?_map] at ex ey
  cases e1 : cs[i]? with
  | none => rw [e1] at ex; cases ex
  | some c =>
  cases e2 : cs'[i]? with
  | none => rw [e2] at ey; cases ey
  | some c' =>
  rw [e1] at ex
  rw [e2] at ey
  obtain rfl := Option.some.inj ex
  obtain rfl := Option.some.inj ey
  have hi := (List.getElem?_eq_some_iff.mp e1).1
  have ez : bs[i]? = some bs[i] := List.getElem?_eq_getElem (by omega)
  obtain ⟨q1, r1⟩ := paired_ix hp e1 ez
  obtain ⟨q2, r2⟩ := paired_ix hp' e2 ez
  have hm := List.mem_of_getElem? ez
  have k1 := paired_len r1
  have k2 := paired_len r2
  have k3 := hl _ hm
  exact .inr ⟨c.1, c'.1, _, _, rfl, rfl, .inr ⟨q1, q2⟩, by rw [List.length_map, List.length_map]; omega, by rw [List.length_map]; omega, fun j u v eu ev => row_rd r1 r2 (hz _ hm) j u v eu ev⟩
end SH
set_option Elab.async false
set_option linter.all false
set_option maxRecDepth 100000
set_option maxHeartbeats 0
/-! k18: the law -/
namespace SH
open PySem PySem.Spec PyProof.Rows L2 StX TL LamX
abbrev sLaw : Stmt := top 39
abbrev nLaw : List Str := ["_law_script", "_law_h", "_law_some", "_law_turn", "_law_text", "_law_change", "_law_due_here", "_law_one", "_law_k"]
theorem scLaw : FnScope nLaw ["_law_script"] (defScope sLaw) := ⟨rfl, rfl, rfl, by decide +kernel, rfl, by decide +kernel, by decide +kernel⟩
def qLam : Str := ("law" : Str) ++ ".<locals>." ++ "<lambda>"
def tRd (C : Addr) : XK → TE := fun E => tCallS (spReadA C) (L2.WE fun cls d _ H => E cls d H) (tCons (tVar 7) tNil)
def someA : List Str := strsOf ((defBody sLaw).getD 1 (.Pass ⟨0, 0, 0, 0⟩))
def someB : List Str := strsOf ((defBody sLaw).getD 2 (.Pass ⟨0, 0, 0, 0⟩))
theorem some_all : (someA ++ someB).length = 18 ∧ (someA ++ someB).all (fun w => decide (w.length ≤ 40) && ascB w) = true := by decide +kernel
theorem some_at {r : Int} (h0 : 0 ≤ r) (h1 : r < 18) : ∃ w : Str, (someA.map V.str ++ someB.map V.str)[r.toNat]? = some (.str w) ∧ w.length ≤ 40 ∧ Asc w := by
  have hr : r.toNat < (someA ++ someB).length := by rw [some_all.1]; omega
  have hh := Bool.and_eq_true_iff.mp (List.all_eq_true.mp some_all.2 _ (List.getElem_mem hr))
  refine ⟨(someA ++ someB)[r.toNat], ?_, of_decide_eq_true hh.1, asc_by hh.2⟩
  rw [← List.map_append, List.getElem?_map, List.getElem?_eq_getElem hr]; rfl
theorem BooksW.same {H H' : Hp} {ba : Addr} {bs : List (List Lw)} (h : BooksW H ba bs) (s : Same H H') : BooksW H' ba bs := by
  obtain ⟨cs, h1, h2⟩ := h
  exact ⟨cs, s _ _ h1, Paired.mapP h2 fun _ _ e => ⟨s _ _ e.1, e.2.same s⟩⟩
theorem bad_dp {K : PySem.W.Frag} {H : Hp} {p : Addr} {k : Nat} (h : H p = some (.tup [.str "BadText", .int (k : Nat)])) : Dp K H (.ref p) (.tuple [.str "BadText", .int (k : Nat)]) := .tup (SqT.of h) (.cons (.str _) (.cons (.int _) .nil))
theorem bad_shaped (k : Nat) : SeqAt.shaped (.tuple [.str "BadText", .int (k : Nat)]) = true := by
  unfold SeqAt.shaped
  have h1 : (PyData.tuple [.str "BadText", .int (k : Nat)]).canLay0 = true := by
    have : PyData.strOk "BadText" = true := by decide +kernel
    simp [PyData.canLay0, PyData.canLayAll0, this]
  have h2 : (PyData.tuple [.str "BadText", .int (k : Nat)]).depth ≤ 64 := by simp [PyData.depth, PyData.depthAll]
  rw [h1, Bool.true_and]; exact decide_eq_true h2
theorem bad_eq (k : Nat) : PyData.eqv (.tuple [.str "BadText", .int (k : Nat)]) (.tuple [.str "BadText", .int (k : Nat)]) = true := by simp [PyData.eqv, PyData.eqvAll]
section
variable {P : Program} {w : World} {K : PySem.W.Frag} {mg : Str → Option Value} {base : Heap}
def spLaw (PT : Addr) : Sp := fun vs H Q _ => ∃ (a : Addr) (ns : List Int), vs = [.ref a] ∧ SqL K H a (ns.map V.int) ∧ ns.length ≤ 63 ∧ H PT = some (.tbl #[]) ∧ ∀ H', Q (.bl true) H'
theorem ok_law {C0 C1 C2 C3 C4 C5 C6 C7 fI f fM fN fB fWr fSp fDu fKd fRe fA c PT : Addr} {fd fdM fdN fdB fdWr fdSp fdDu fdKd fdRe fdA : FuncData} (F : Fun K "law" "law" sLaw f fd) (hc : fd.code = .ref c) (T : TxtP mg) (TB : TabB base mg c PT)
    (TK : TxtK K mg C0 C1 C2 C3 C4 C5 C6 C7) (CD : ExcD K C7) (BT : PySem.BTX.BtTxt P K mg C7 fI)
    (GM : FnOk P w K mg base CX0 1 fM fdM ["_law_script", "_law_seed"] (spMix (K := K))) (bM : Binds K fdM ["_law_script", "_law_seed"] []) (gM : mg "_law_mix" = some (.ref fM)) (kM : PySem.W.keepIn K (.ref fM) = true)
    (GN : FnOk P w K mg base CX0 1 fN fdN ["_law_h", "_law_many"] spNext) (bN : Binds K fdN ["_law_h", "_law_many"] []) (gN : mg "_law_next" = some (.ref fN)) (kN : PySem.W.keepIn K (.ref fN) = true)
    (GB : FnOk P w K mg base CX0 6 fB fdB ["_law_h", "_law_many"] spBook) (bB : Binds K fdB ["_law_h", "_law_many"] []) (gB : mg "_law_book" = some (.ref fB)) (kB : PySem.W.keepIn K (.ref fB) = true)
    (GWr : FnOk P w K mg base CX0 5 fWr fdWr ["books"] spWr) (bWr : Binds K fdWr ["books"] []) (gWr : mg "written" = some (.ref fWr)) (kWr : PySem.W.keepIn K (.ref fWr) = true)
    (GSp : FnOk P w K mg base CX0 2 fSp fdSp ["_law_h", "_law_text"] spSpoil) (bSp : Binds K fdSp ["_law_h", "_law_text"] []) (gSp : mg "_law_spoilt" = some (.ref fSp)) (kSp : PySem.W.keepIn K (.ref fSp) = true)
    (GDu : FnOk P w K mg base CX0 3 fDu fdDu ["_law_text"] spDue) (bDu : Binds K fdDu ["_law_text"] []) (gDu : mg "_law_due" = some (.ref fDu)) (kDu : PySem.W.keepIn K (.ref fDu) = true)
    (FKd : Fun K "_law_kind" "_law_kind" sKd fKd fdKd) (bKd : Binds K fdKd ["_law_work"] []) (gKd : mg "_law_kind" = some (.ref fKd)) (kKd : PySem.W.keepIn K (.ref fKd) = true)
    (GRe : FnOk P w K mg base (L2.CX P w) 4 fRe fdRe ["text"] (spReadA C7)) (bRe : Binds K fdRe ["text"] []) (gRe : mg "read" = some (.ref fRe)) (kRe : PySem.W.keepIn K (.ref fRe) = true)
    (GA : FnOk P w K mg base CX0 4 fA fdA ["_law_found", "_law_due_here"] (spAlike 3)) (bA : Binds K fdA ["_law_found", "_law_due_here"] []) (gA : mg "_law_alike" = some (.ref fA)) (kA : PySem.W.keepIn K (.ref fA) = true) :
    FnOk P w K mg base CX0 7 f fd ["_law_script"] (spLaw (K := K) PT) := by
  obtain ⟨ock, odk, kVk, dock, pmk, ank, cdk, ctk, oslk, rfl, lkk, hck⟩ := FKd.ex
  refine F.okC hc scLaw (fun vs H Q E h => ?_) (fun A0 outer s0 H vs Q E hr h => ?_)
  · obtain ⟨a, ns, rfl, _⟩ := h
    rfl
  · obtain ⟨sa, ns, rfl, hs, hnl, htb, k⟩ := h
    have sm : ∀ {n : Nat}, n ≤ 1000 → n ≤ sizeLine := small
    refine ⟨_, (pss_cons (ps_set (i := 1) scLaw.nd rfl (Or.inr rfl) (pe_call GM (hr.mono (by decide)) rfl gM kM bM .nil pass0 (pa_cons (pv 0) (pa_cons pe_int pa_nil)))) (pss_cons (ps_set (i := 2) scLaw.nd rfl (Or.inl rfl) (pe_lst (pa_cons pe_str (pa_cons pe_str (pa_cons pe_str (pa_cons pe_str (pa_cons pe_str (pa_cons pe_str (pa_cons pe_str (pa_cons pe_str (pa_cons pe_str (pa_cons pe_str (pa_cons pe_str pa_nil))))))))))))) (pss_cons (ps_set (i := 2) scLaw.nd rfl (Or.inl rfl) (pe_op op_cat (pv 2) (pe_lst (pa_cons pe_str (pa_cons pe_str (pa_cons pe_str (pa_cons pe_str (pa_cons pe_str (pa_cons pe_str (pa_cons pe_str pa_nil)))))))))) (pss_cons (ps_for PassesOwn.never rfl (pi_range1 rfl T.range (pa_cons pe_int pa_nil)) (pg_name (i := 3) scLaw.nd rfl (Or.inl rfl)) (pss_cons (ps_set (i := 4) scLaw.nd rfl (Or.inl rfl) (pe_call GWr (hr.mono (by decide)) rfl gWr kWr bWr .nil pass0 (pa_cons (pe_lc (own := [("_law_k", 8)]) (g := gName 8) (te := tCall spBook [] E0 (tCons (tVar 1) (tCons (tC (.int 12)) tNil))) (by rfl) scLaw.nd (pi_range1 rfl T.range (pa_cons (pe_call GN (hr.mono (by decide)) rfl gN kN bN .nil pass0 (pa_cons (pv 1) (pa_cons pe_int pa_nil))) pa_nil)) (blkOk_by (own := [("_law_k", 8)]) (N := nLaw) (sc := defScope sLaw) (by decide +kernel)) (fun _ _ _ _ _ => (pg_name (i := 8) scLaw.nd rfl (Or.inl rfl))) (fun _ _ _ _ _ => pts_nil) (fun _ _ _ _ _ => (pe_call GB hr rfl gB kB bB .nil pass0 (pa_cons (pv 1) (pa_cons pe_int pa_nil))))) pa_nil))) (pss_cons (ps_for PassesOwn.never rfl (pi_range1 rfl T.range (pa_cons (pe_call GN (hr.mono (by decide)) rfl gN kN bN .nil pass0 (pa_cons (pv 1) (pa_cons pe_int pa_nil))) pa_nil)) (pg_name (i := 5) scLaw.nd rfl (Or.inl rfl)) (pss_one (ps_set (i := 4) scLaw.nd rfl (Or.inl rfl) (pe_call GSp (hr.mono (by decide)) rfl gSp kSp bSp .nil pass0 (pa_cons (pv 1) (pa_cons (pv 4) pa_nil)))))) (pss_one (ps_for PassesOwn.never rfl (pi_list (pe_lst (pa_cons (pv 4) (pa_cons (pe_ix ix_list (pv 2) (pe_call GN (hr.mono (by decide)) rfl gN kN bN .nil pass0 (pa_cons (pv 1) (pa_cons pe_int pa_nil))) (fun _ _ => rfl)) pa_nil)))) (pg_name (i := 7) scLaw.nd rfl (Or.inr rfl)) (pss_cons (ps_set (i := 6) scLaw.nd rfl (Or.inl rfl) (pe_call GDu (hr.mono (by decide)) rfl gDu kDu bDu .nil pass0 (pa_cons (pv 7) pa_nil))) (pss_one (ps_if (pt_val (pe_callB call_isi (by rfl) T.isinst (by decide +kernel) (pa_cons (pv 6) (pa_cons (pe_bltn (v := .ty "tuple") (by rfl) T.tuple (by decide +kernel) rfl) pa_nil)))) (pss_one (ps_if (pt_cmpR (op_neD hr.units) (show PE _ _ (tLam [(PT, qLam)] (SH.TK C7) (tRd C7)) from ?lam) (pv 6) (nomark _)) (pss_one (ps_ret pe_bl)) pss_nil)) (pss_one (ps_if (pt_not (pt_val (pe_call GA (hr.mono (by decide)) rfl gA kA bA .nil pass0 (pa_cons (pe_call GRe (hr.mono (by decide)) rfl gRe kRe bRe .nil passX0 (pa_cons (pv 7) pa_nil)) (pa_cons (pv 6) pa_nil))))) (pss_one (ps_ret pe_bl)) pss_nil)))))))))) (pss_one (ps_ret pe_bl)))))), ?_⟩
    case lam =>
      exact pe_lamcall (k := 4) (c := c) (P := PT) rfl gKd kKd lkk hck bKd scKd rfl (.inl rfl) (kind_gives TK CD BT) TB rfl (List.mem_singleton.mpr rfl) (fun p hp _ => by rw [List.mem_singleton.mp hp]; rfl) (hr.mono (by decide)) (show LamS (defScope sLaw) _ from lamS_by (by decide +kernel)) rfl (fun _ _ _ _ _ => rfl)
        (fun A outer s H E f c' hr' => pe_callS GRe hr' rfl gRe kRe bRe (fun σ => passAt (takes_of rfl rfl rfl rfl) σ) (pa_cons (pv 7) pa_nil))
    refine ⟨_, rfl, sa, ns, 67, rfl, hs, hnl, by decide, by decide, fun m0 H0 om0 g0 s00 => ?_⟩
    refine ⟨sm (by show 11 ≤ 1000; decide), fun l1 hl1 => ?_⟩
    refine ⟨_, rfl, sm (by show 7 ≤ 1000; decide), fun l2 hl2 => ⟨l1, l2, _, _, rfl, rfl, (Same.new _ hl2) _ _ upd_same, upd_same, sm (by show 18 ≤ 1000; decide), fun sl hsl => ?_⟩⟩
    obtain ⟨sx, hsx, hsat⟩ : ∃ sx : List V, sx = someA.map V.str ++ someB.map V.str ∧ ∀ r : Int, 0 ≤ r → r < 18 → ∃ w : Str, sx[r.toNat]? = some (.str w) ∧ w.length ≤ 40 ∧ Asc w := ⟨_, rfl, fun r a b => some_at a b⟩
    generalize hX : upd _ sl _ = G0
    have s01 : Same H0 G0 := by
      rw [← hX]
      exact (Same.new _ hl1).trans ((Same.new _ hl2).trans (Same.new _ hsl))
    have h01 : G0 sl = some (.lst sx) := by
      rw [← hX, hsx]
      exact upd_same
    have g1 := Has.add g0 (((Same.new _ hl1).trans (Same.new _ hl2)).free hsl) s01 h01
    have htb1 := s01 _ _ (s00 _ _ htb)
    clear hX hsl hl1 hl2 hsx s01 h01
    have g1 : Has G0 ((mixCells m0 ++ [(sl, HO.lst sx)]) ++ tabCells PT qLam #[] []) := by
      refine Has.join (g1.perm (List.perm_append_comm (l₁ := [(sl, HO.lst sx)]))) ⟨fun c hc => by rw [List.mem_singleton.mp hc]; exact htb1, by simp⟩ fun c hc d hd => ?_
      rw [List.mem_singleton.mp hd]
      rcases List.mem_append.mp hc with hc | hc
      · rcases List.mem_cons.mp hc with rfl | hc
        · intro z; cases z
        · rw [List.mem_singleton.mp hc]; intro z; cases z
      · rw [List.mem_singleton.mp hc]; intro z; cases z
    have tc0 : TabC #[] [] := ⟨True.intro, fun pos cv h => by simp [codeAmong] at h⟩
    refine ⟨5, rfl, by decide, by decide, ?_⟩
    refine for_range (lo := 0) (n := (5 : Int).toNat) (fun i σ H1 => ∃ v3 v4 v5 v6 v7 m ps cc, σ = [some (.ref sa), some (.ref m0.a), some (.ref sl), v3, v4, v5, v6, v7, none] ∧ m.a = m0.a ∧ MixOk m ∧ TabC ps cc ∧ Has H1 ((mixCells m ++ [(sl, HO.lst sx)]) ++ tabCells PT qLam ps cc)) ⟨none, none, none, none, none, m0, #[], [], rfl, rfl, om0, tc0, g1⟩ ?_ ?_
    · rintro turn σ H1 hturn ⟨v3, v4, v5, v6, v7, m, ps, cc, rfl, e0, om, tc, g⟩
      generalize hT0 : (0 : Int) + ((turn : Nat) : Int) = tv
      refine ⟨_, rfl, [], (sl, HO.lst sx) :: tabCells PT qLam ps cc, m, 6, congrArg (fun x => [V.ref x, V.int 6]) e0.symm, g, om, by decide, by decide, fun r1 m1 H2 ra1 rb1 f1 om1 g1 => ?_⟩
      have e1 := f1.trans e0
      refine ⟨r1, rfl, by omega, by omega, fun D hD => ?_⟩
      refine lc_range (lo := 0) (n := r1.toNat) (fun i H3 => ∃ m3 cs zss, m3.a = m0.a ∧ MixOk m3 ∧ Has H3 (mixCells m3 ++ (bkCells D cs ++ ((sl, HO.lst sx) :: tabCells PT qLam ps cc))) ∧ Paired (fun (c : Addr × List Addr) (zs : List Lt) => RowAt H3 c.2 zs) cs zss ∧ zss.length = i ∧ ∀ zs ∈ zss, zs.length ≤ 12 ∧ ∀ z ∈ zs, z.ok)
        ⟨m1, [], [], e1, om1, Has.new (A := mixCells m1) g1 hD (.lst []), .nil, rfl, fun _ h => (by cases h)⟩ ?_ ?_
      · rintro i H3 hi ⟨m3, cs, zss, e3, om3, g3, R3, hl3, hz3⟩
        refine ⟨rfl, _, rfl, [], bkCells D cs ++ ((sl, HO.lst sx) :: tabCells PT qLam ps cc), m3, 12, congrArg (fun x => [V.ref x, V.int 12]) e3.symm, g3, om3, by decide, by decide, fun fl ts zs m5 H5 f5 om5 g5 R5 hz5 hl5 k5 => ?_⟩
        have e5 := f5.trans e3
        have hD5 : H5 D = some (.lst (cs.map fun c => V.ref c.1)) := Has.get (A := []) g5 3 rfl
        have hcl := paired_len R3
        have g6 := Has.set (A := []) g5 3 (o := .lst (cs.map fun c => V.ref c.1)) rfl (.lst (cs.map (fun c => V.ref c.1) ++ [V.ref fl]))
        have kD : KeepT H5 (upd H5 D (.lst (cs.map (fun c => V.ref c.1) ++ [V.ref fl]))) := upd_tup fun xs e => by rw [hD5] at e; cases e
        refine ⟨_, hD5, by rw [List.length_map, hcl, hl3]; exact small1000 (by omega), m5, cs ++ [(fl, ts)], zss ++ [zs], e5, om5, ?_, ?_, by rw [List.length_append, hl3]; rfl, ?_⟩
        · refine g6.perm (List.Perm.append_left (mixCells m5) ?_)
          show ((fl, HO.lst (ts.map V.ref)) :: (D, HO.lst (cs.map (fun c => V.ref c.1) ++ [V.ref fl])) :: (cs.map (fun c => (c.1, HO.lst (c.2.map V.ref))) ++ ((sl, HO.lst sx) :: tabCells PT qLam ps cc))).Perm (bkCells D (cs ++ [(fl, ts)]) ++ ((sl, HO.lst sx) :: tabCells PT qLam ps cc))
          unfold bkCells
          rw [List.map_append, List.map_append]
          refine (List.Perm.swap _ _ _).trans (List.Perm.cons _ ?_)
          exact List.perm_middle.symm.trans (List.Perm.of_eq (List.append_assoc _ [_] _).symm)
        · exact paired_snoc (Paired.mapP R3 fun _ _ e => (e.keep k5).keep kD) (R5.keep kD)
        · intro y hy
          rcases List.mem_append.mp hy with h | h
          · exact hz3 y h
          · rw [List.mem_singleton.mp h]; exact ⟨by omega, hz5⟩
      · rintro H3 ⟨m3, cs, zss, e3, om3, g3, R3, hl3, hz3⟩
        have hb := books_of (L := mixCells m3) (g3.sub (List.Sublist.append_left (List.sublist_append_left _ _) _)) R3
        have h5 : zss.length ≤ 5 := by omega
        have bo : BooksOk zss := ⟨h5, fun zs hz => ⟨by have := (hz3 zs hz).1; omega, (hz3 zs hz).2⟩⟩
        obtain ⟨tl0, ta0⟩ := text_facts h5 hz3
        refine ⟨D, cs, zss, rfl, hb, bo, fun H4 s4 => ?_⟩
        have g4a : Has H4 (mixCells m3 ++ ((sl, HO.lst sx) :: tabCells PT qLam ps cc)) := Has.same (g3.sub (List.Sublist.append_left (List.sublist_append_right _ _) _)) s4
        have g4 : Has H4 ((mixCells m3 ++ [(sl, HO.lst sx)]) ++ tabCells PT qLam ps cc) := g4a
        clear g4a
        generalize textB zss = t0 at tl0 ta0
        clear g3 R3 hb hz3 bo s4 hD g1 g
        refine ⟨_, rfl, [], (sl, HO.lst sx) :: tabCells PT qLam ps cc, m3, 4, congrArg (fun x => [V.ref x, V.int 4]) e3.symm, g4, om3, by decide, by decide, fun r2 m4 H5 ra2 rb2 f4 om4 g5 => ?_⟩
        have e4 := f4.trans e3
        have g5 : Has H5 ((mixCells m4 ++ [(sl, HO.lst sx)]) ++ tabCells PT qLam ps cc) := g5
        refine ⟨r2, rfl, by omega, by omega, ?_⟩
        refine for_range (lo := 0) (n := r2.toNat) (fun i σ H6 => ∃ v5 z m5, σ = [some (.ref sa), some (.ref m0.a), some (.ref sl), some (.int tv), some (.str z), v5, v6, v7, none] ∧ m5.a = m0.a ∧ MixOk m5 ∧ Has H6 ((mixCells m5 ++ [(sl, HO.lst sx)]) ++ tabCells PT qLam ps cc) ∧ z.length + 8 ≤ 4008 * 2 ^ i ∧ Asc z)
          ⟨_, t0, m4, rfl, e4, om4, g5, by omega, ta0⟩ ?_ ?_
        · rintro i σ H6 hi ⟨v5, z, m5, rfl, e5, om5, g6, hz, az⟩
          have hi3 : i = 0 ∨ i = 1 ∨ i = 2 := by omega
          have hp : 4008 * 2 ^ i ≤ 16032 ∧ 4008 * 2 ^ (i + 1) = 2 * (4008 * 2 ^ i) := by rcases hi3 with rfl | rfl | rfl <;> decide
          refine ⟨_, rfl, _, rfl, [], (sl, HO.lst sx) :: tabCells PT qLam ps cc, m5, z, congrArg (fun x => [V.ref x, V.str z]) e5.symm, g6, om5, by omega, az, fun z' m7 H7 f7 om7 g7 hz' az' => ?_⟩
          exact ⟨_, z', m7, rfl, f7.trans e5, om7, g7, by omega, az'⟩
        · rintro σ H6 ⟨v5, z, m5, rfl, e5, om5, g6, hz, az⟩
          have hr3 : r2.toNat = 0 ∨ r2.toNat = 1 ∨ r2.toNat = 2 ∨ r2.toNat = 3 := by omega
          have hz4 : z.length ≤ 40000 := by
            have : 4008 * 2 ^ r2.toNat ≤ 32064 := by rcases hr3 with h | h | h | h <;> rw [h] <;> decide
            omega
          clear hz hr3 g5 g4
          refine ⟨_, rfl, _, rfl, _, rfl, [], (sl, HO.lst sx) :: tabCells PT qLam ps cc, m5, 18, congrArg (fun x => [V.ref x, V.int 18]) e5.symm, g6, om5, by decide, by decide, fun r3 m6 H7 ra3 rb3 f6 om6 g7 => ?_⟩
          have e6 := f6.trans e5
          have g7 : Has H7 ((mixCells m6 ++ [(sl, HO.lst sx)]) ++ tabCells PT qLam ps cc) := g7
          obtain ⟨z2, hz2, hl2, az2⟩ := hsat r3 ra3 rb3
          refine ⟨sl, _, _, V.str z2, rfl, rfl, SqL.of (Has.get (A := []) g7 2 rfl), at_of (j := r3.toNat) (by omega) hz2, sm (by show 2 ≤ 1000; decide), fun ll hll => ?_⟩
          have g8 : Has (upd H7 ll (.lst [.str z, .str z2])) (((ll, HO.lst [.str z, .str z2]) :: (mixCells m6 ++ [(sl, HO.lst sx)])) ++ tabCells PT qLam ps cc) := Has.cons g7 hll _
          have hL : ∀ c ∈ ((ll, HO.lst [.str z, .str z2]) :: (mixCells m6 ++ [(sl, HO.lst sx)]) : Cells), ∃ xs, c.2 = .lst xs := fun c hc => by
            rcases List.mem_cons.mp hc with rfl | hc
            · exact ⟨_, rfl⟩
            rcases List.mem_append.mp hc with hc | hc
            · rcases List.mem_cons.mp hc with rfl | hc
              · exact ⟨_, rfl⟩
              · rw [List.mem_singleton.mp hc]; exact ⟨_, rfl⟩
            · rw [List.mem_singleton.mp hc]; exact ⟨_, rfl⟩
          generalize upd H7 ll (.lst [.str z, .str z2]) = H8 at g8
          obtain ⟨LC, hLC⟩ : ∃ LC : Cells, LC = (ll, HO.lst [.str z, .str z2]) :: (mixCells m6 ++ [(sl, HO.lst sx)]) := ⟨_, rfl⟩
          rw [← hLC] at g8 hL
          have hll8 : ∀ {H : Hp} {ps cc}, Has H (LC ++ tabCells PT qLam ps cc) → H ll = some (.lst [.str z, .str z2]) := fun h => by rw [hLC] at h; exact Has.get (A := []) h 0 rfl
          refine ⟨ll, rfl, ⟨_, SqL.of (hll8 g8)⟩, ?_⟩
          refine for_list (K := K) (a := ll) (xs := [.str z, .str z2]) (fun i σ H9 => ∃ v6 v7 ps cc, σ = [some (.ref sa), some (.ref m0.a), some (.ref sl), some (.int tv), some (.str z), v5, v6, v7, none] ∧ TabC ps cc ∧ Has H9 (LC ++ tabCells PT qLam ps cc)) ⟨_, _, ps, cc, rfl, tc, g8⟩ (fun i σ H9 _ ⟨_, _, _, _, _, _, g⟩ => SqL.of (hll8 g)) ?_ ?_
          · rintro i x σ H9 hx ⟨u6, u7, ps9, cc9, rfl, tc9, g9⟩
            obtain ⟨one, rfl, hone, aone⟩ : ∃ one : Str, x = .str one ∧ one.length ≤ 40000 ∧ Asc one := by
              match i, hx with
              | 0, hx => exact ⟨z, (Option.some.inj hx).symm, hz4, az⟩
              | 1, hx => exact ⟨z2, (Option.some.inj hx).symm, by omega, az2⟩
              | i + 2, hx => cases hx
            clear hx
            refine ⟨_, rfl, one, rfl, by omega, aone, fun bs hbs h5 hl90 ba HA sA hba hB => ?_, fun kk hkk hkl p HA sA hp hpt => ?_⟩
            · have gA := Has.same g9 sA
              obtain ⟨cs0, hcs0, _⟩ := id hB
              refine ⟨_, rfl, _, _, _, _, false, rfl, by first | exact .ty _ | constructor, .base (.lst hcs0), kit_ty (by decide +kernel), _, rfl, iteF ?_⟩
              refine ⟨_, rfl, one, rfl, by omega, fun bs' hbs' ba' HB sB hba' hB' => ?_, fun kk hkk => ?_⟩
              rotate_left
              · rw [hbs] at hkk; cases hkk
              obtain rfl : bs = bs' := by rw [hbs] at hbs'; exact Except.ok.inj hbs'
              have hok := readR_ok _ _ _ _ hbs (fun _ h => (by cases h))
              refine ⟨_, rfl, .ref ba', .ref ba, rfl, books_rd hB' (hB.same sB) hok h5 hl90, fun HC sC => ⟨_, rfl, iteF ?_⟩⟩
              exact ⟨_, _, ps9, cc9, rfl, tc9, (Has.same gA sB).same sC⟩
            · have gA := Has.same g9 sA
              refine ⟨_, rfl, _, _, _, _, true, rfl, by first | exact .ty _ | constructor, .base (.tup hpt), kit_ty (by decide +kernel), _, rfl, iteT ?_⟩
              refine ⟨tc9.tabs gA (fun c hc => List.mem_append_right _ hc), fun HB eB tB => ?_⟩
              obtain ⟨psB, ccB, tcB, gB⟩ := tab_after (Has.sub gA (List.sublist_append_left _ _)) hL eB tB
              have hptB := eB _ _ hpt (fun ps z => by cases z)
              refine ⟨_, rfl, one, rfl, by omega, fun bs hbs => ?_, fun k2 hk2 d HC sC hd => ?_⟩
              · rw [hkk] at hbs; cases hbs
              obtain rfl : kk = k2 := by rw [hkk] at hk2; exact Except.error.inj hk2
              refine ⟨rfl, rfl, d, _, rfl, hd, fun p2 HD sD hp2 hpt2 => ?_⟩
              refine ⟨_, rfl, _, _, bad_dp hpt2, bad_dp (sD _ _ (sC _ _ hptB)), bad_shaped kk, bad_shaped kk, _, rfl, ?_⟩
              rw [bad_eq]
              refine iteF ?_
              exact ⟨_, _, psB, ccB, rfl, tcB, (Has.same gB sC).same sD⟩
          · rintro σ H9 ⟨u6, u7, ps9, cc9, rfl, tc9, g9⟩
            rw [hLC] at g9
            exact ⟨_, _, _, _, _, m6, ps9, cc9, rfl, e6, om6, tc9, Has.tail g9⟩
    · rintro σ H1 ⟨v3, v4, v5, v6, v7, m, ps, cc, rfl, _⟩
      exact k _
end
end SH
set_option Elab.async false
set_option linter.all false
set_option maxRecDepth 100000
namespace SH
open PySem PySem.Spec PyProof.Rows L2
/-! the written bounds -/
def pairB (K : PySem.W.Frag) (t : Addr) (p : Int × Int) : Bool := match K.lookup t with
  | some ⟨.type c, _, .seq its _, _⟩ => decide (c = "tuple") && (decide (its.size ≤ sizeLine) && He.relAll [.int p.1, .int p.2] its.toList)
  | _ => false
def pairsB (K : PySem.W.Frag) : List Value → List (Int × Int) → Bool
  | [], [] => true
  | .ref t :: us, p :: ps => pairB K t p && pairsB K us ps
  | _, _ => false
def bndB (K : PySem.W.Frag) (tb : Addr) (l : List (Int × Int)) : Bool := match K.lookup tb with
  | some ⟨.type c, _, .seq its _, _⟩ => decide (c = "tuple") && (decide (its.size ≤ sizeLine) && pairsB K its.toList l)
  | _ => false
theorem pairB_ok {K : PySem.W.Frag} {t : Addr} {p : Int × Int} (h : pairB K t p = true) : KTup K t [.int p.1, .int p.2] := by
  unfold pairB at h
  cases q : K.lookup t with
  | none => rw [q] at h; cases h
  | some o =>
    obtain ⟨oc, od, dt, osl⟩ := o
    rw [q] at h
    cases oc with
    | type c =>
      cases dt with
      | seq its n =>
        obtain ⟨h1, h2⟩ := He.ba (show (decide (c = "tuple") && (decide (its.size ≤ sizeLine) && He.relAll [.int p.1, .int p.2] its.toList)) = true from h)
        obtain ⟨h3, h4⟩ := He.ba h2
        exact ⟨_, its, n, q, congrArg Value.type (of_decide_eq_true h1), rfl, of_decide_eq_true h3, He.relAll_ok h4⟩
      | _ => cases h
    | _ => cases dt <;> cases h
theorem pairsB_ok {K : PySem.W.Frag} : ∀ {us : List Value} {l : List (Int × Int)}, pairsB K us l = true → ∃ ts : List Addr, Vals (ts.map V.ref) us ∧ Paired (fun (t : Addr) (p : Int × Int) => KTup K t [.int p.1, .int p.2]) ts l
  | [], [], _ => ⟨[], .nil, .nil⟩
  | [], _ :: _, h => by cases h
  | u :: _, [], h => by cases u <;> cases h
  | u :: us, p :: ps, h => by
    cases u with
    | ref t =>
      obtain ⟨h1, h2⟩ := He.ba (show (pairB K t p && pairsB K us ps) = true from h)
      obtain ⟨ts, v, pp⟩ := pairsB_ok h2
      exact ⟨t :: ts, .cons rfl v, .cons (pairB_ok h1) pp⟩
    | _ => cases h
theorem bndB_ok {K : PySem.W.Frag} {tb : Addr} {l : List (Int × Int)} (h : bndB K tb l = true) : KB K tb l := by
  unfold bndB at h
  cases q : K.lookup tb with
  | none => rw [q] at h; cases h
  | some o =>
    obtain ⟨oc, od, dt, osl⟩ := o
    rw [q] at h
    cases oc with
    | type c =>
      cases dt with
      | seq its n =>
        obtain ⟨h1, h2⟩ := He.ba (show (decide (c = "tuple") && (decide (its.size ≤ sizeLine) && pairsB K its.toList l)) = true from h)
        obtain ⟨h3, h4⟩ := He.ba h2
        obtain ⟨ts, v, pp⟩ := pairsB_ok h4
        exact ⟨ts, ⟨_, its, n, q, congrArg Value.type (of_decide_eq_true h1), rfl, of_decide_eq_true h3, v⟩, pp⟩
      | _ => cases h
    | _ => cases dt <;> cases h
def wordsL : List Str := ["make", "drop", "size", "paint", "place", "rank", "veil", "unveil", "tie", "show", "hold", "let"]
def sampL : List Lt := [.make 0, .drop 0, .size 0 0 0, .paint 0 0 0 0 0 0, .place 0 0 0, .rank 0 0, .veil 0, .unveil 0, .tie 0 0, .show 0, .hold 0, .let_]
def letB (K : PySem.W.Frag) (d : Addr) (z : Lt) : Bool := match PySem.W.nsIn K d z.word with
  | some (some (.ref tb)) => bndB K tb z.bnds
  | _ => false
def lettersB (K : PySem.W.Frag) : Bool := sampL.all fun z => letB K (He.ga K "LETTERS") z
theorem letB_ok {K : PySem.W.Frag} {d : Addr} {z : Lt} (h : letB K d z = true) : ∃ tb, PySem.W.nsIn K d z.word = some (some (.ref tb)) ∧ KB K tb z.bnds := by
  unfold letB at h
  cases q : PySem.W.nsIn K d z.word with
  | none => rw [q] at h; cases h
  | some r =>
    rw [q] at h
    cases r with
    | none => cases h
    | some u =>
      cases u with
      | ref tb => exact ⟨tb, rfl, bndB_ok h⟩
      | _ => cases h
theorem lettersB_ok {K : PySem.W.Frag} (h : lettersB K = true) (z : Lt) : ∃ tb, PySem.W.nsIn K (He.ga K "LETTERS") z.word = some (some (.ref tb)) ∧ KB K tb z.bnds := by
  have g : ∀ y ∈ sampL, letB K (He.ga K "LETTERS") y = true := List.all_eq_true.mp h
  cases z with
  | make n => exact letB_ok (g (.make 0) (by decide))
  | drop n => exact letB_ok (g (.drop 0) (by decide))
  | size n a b => exact letB_ok (g (.size 0 0 0) (by decide))
  | paint n a b c d e => exact letB_ok (g (.paint 0 0 0 0 0 0) (by decide))
  | place n a b => exact letB_ok (g (.place 0 0 0) (by decide))
  | rank n a => exact letB_ok (g (.rank 0 0) (by decide))
  | veil n => exact letB_ok (g (.veil 0) (by decide))
  | unveil n => exact letB_ok (g (.unveil 0) (by decide))
  | tie n a => exact letB_ok (g (.tie 0 0) (by decide))
  | «show» n => exact letB_ok (g (.show 0) (by decide))
  | hold n => exact letB_ok (g (.hold 0) (by decide))
  | let_ => exact letB_ok (g .let_ (by decide))

/-! what BadText, _law_kind's questions and the law's own table say -/
theorem isStr_ne {x y : Str} {t : Tok} (h : x ≠ y) : (Value.str x t).isStr y = false := by
  cases e : (Value.str x t).isStr y with
  | false => rfl
  | true => exact absurd (by simpa [Value.isStr] using e) h
theorem words_none {K : PySem.W.Frag} {P : Params} {d : Addr} {es : Array DictEntry} {n : Nat} {x : Str} (h : K.lookup d = some ⟨.type "dict", none, .dict es n, #[]⟩) (dc : He.dicW K d = some (He.keysIn P wordsL)) (hx : bndW x = none) : PySem.W.nsIn K d x = some none := by
  have hk : es.toList.map He.keyOf = He.keysIn P wordsL := by
    unfold He.dicW at dc
    rw [h] at dc
    have dc : (match decide ("dict" = "dict") && ((#[] : Array (Option Value)).isEmpty && !(d == sysModules)) with | true => some (es.toList.map He.keyOf) | false => none) = some (He.keysIn P wordsL) := dc
    cases e : (decide ("dict" = "dict") && ((#[] : Array (Option Value)).isEmpty && !(d == sysModules))) with
    | true => rw [e] at dc; exact Option.some.inj dc
    | false => rw [e] at dc; cases dc
  have hw : x ∉ wordsL := fun hm => by
    have : (wordsL.all fun x => (bndW x).isSome) = true := by decide +kernel
    have := List.all_eq_true.mp this x hm
    rw [hx] at this; cases this
  have hent : ∀ e ∈ es.toList, ∃ k t, e.key = .str k t ∧ k ≠ x := fun e he => by
    have h1 : He.keyOf e ∈ He.keysIn P wordsL := by rw [← hk]; exact List.mem_map.mpr ⟨e, he, rfl⟩
    obtain ⟨k, hk1, hk2⟩ := List.mem_map.mp h1
    unfold He.keyOf at hk2
    split at hk2
    · rename_i y t q
      have := (Prod.mk.inj (Option.some.inj hk2)).1
      subst this
      exact ⟨_, t, q, fun z => hw (z ▸ hk1)⟩
    · cases hk2
  unfold PySem.W.nsIn
  rw [h]
  have f1 : es.toList.find? (fun e => e.key.isStr x) = none := List.find?_eq_none.mpr fun e he => by
    obtain ⟨k, t, e1, e2⟩ := hent e he
    rw [e1, isStr_ne e2]; decide
  have f2 : es.toList.any (fun e => e.refKey) = false := List.any_eq_false.mpr fun e he => by
    obtain ⟨k, t, e1, e2⟩ := hent e he
    unfold DictEntry.refKey
    rw [e1]; exact Bool.false_ne_true
  show (match es.toList.find? (fun e => e.key.isStr x) with | some e => some (some e.val) | none => if es.toList.any (fun e => e.refKey) then none else some none) = some none
  rw [f1, f2]; rfl
abbrev bT (K : PySem.W.Frag) : Addr := He.ga K "BadText"
def btCls (K : PySem.W.Frag) (C : Addr) : Bool := match K.lookup C with
  | some ⟨.type t, _, .cls cd, sl⟩ => decide (t = "type") && (match cd.mro, sl.toList with
    | .ref C' :: bm, [_, _, _, _, some (.builtin n), _] => decide (C' = C) && (decide (n = "ValueError.__new__") && (!cd.hasDel && (cd.hasDict && (HandSPX.refsVE bm && He.eqO (PySem.W.alongIn K "__init__" bm) (some (some (.builtin "ValueError.__init__")))))))
    | _, _ => false)
  | _ => false
def kitF (K : PySem.W.Frag) (x : Str) (b : Bool) : Bool := decide (PySem.W.kitOne K (.ref (bT K)) (.ref (He.ga K x)) = some b)
def excB (K : PySem.W.Frag) : Bool :=
  (btCls K (bT K) && (He.eqO (PySem.W.findIn K (.ref (bT K)) "__setattr__") (some (some (.builtin "object.__setattr__"))) && (He.eqO (PySem.W.findIn K (.ref (bT K)) "__getattribute__") (some (some (.builtin "BaseException.__getattribute__"))) && (He.eqO (PySem.W.findIn K (.ref (bT K)) "__getattr__") (some none) && (He.eqO (PySem.W.findIn K (.ref (bT K)) "line") (some none) && (He.eqO (PySem.W.findIn K (.ref (bT K)) "__init__") (some (some (.ref (He.ma K (bT K) "__init__"))))))))))
  && ((decide (PySem.W.typeIn K (.ref (He.ma K (bT K) "__init__")) = some (.type "function")) && (PySem.W.keepIn K (.ref (bT K)) && (decide (PySem.W.subIn K (.ref (bT K)) (.type "BaseException") = some true) && (decide (PySem.W.subIn K (.ref (bT K)) (.type "ValueError") = some true) && (decide (PySem.W.mroIn K (bT K) (.ref (bT K)) = some true) && (decide (PySem.W.typeIn K (.ref (bT K)) = some (.type "type")) && (PySem.W.hasDictIn K (bT K) && He.eqO (PySem.W.nsIn K cStatics "thirdparty.any") (some none))))))))
  && ((((PySem.W.clsIn K (bT K)).isSome && (He.eqO (PySem.W.findIn K (.ref (bT K)) "__class__") (some (some (.builtin "object.__class__"))) && (He.eqO (PySem.W.specialIn K (.builtin "object.__class__") "__get__") (some (some (.builtin "getset_descriptor.__get__"))) && (decide (PySem.W.takesIn K (.builtin "object.__class__") = some true) && decide (PySem.W.mroIn K (bT K) (.type "object") = some true)))))
  && ((kitF K "BadSize" false && (kitF K "TooMany" false && (kitF K "NoClient" false && (kitF K "BadLetter" false && (kitF K "BadTouch" false && (kitF K "BadKey" false && (kitF K "BadText" true && decide (PySem.W.kitOne K (.ref (bT K)) (.type "ValueError") = some true))))))))))))
structure ExcF (K : PySem.W.Frag) : Prop where
  cls : btCls K (bT K) = true
  sa : PySem.W.findIn K (.ref (bT K)) "__setattr__" = some (some (.builtin "object.__setattr__"))
  gg : PySem.W.findIn K (.ref (bT K)) "__getattr__" = some none
  noN : PySem.W.findIn K (.ref (bT K)) "line" = some none
  iC : PySem.W.findIn K (.ref (bT K)) "__init__" = some (some (.ref (He.ma K (bT K) "__init__")))
  tC : PySem.W.typeIn K (.ref (He.ma K (bT K) "__init__")) = some (.type "function")
  kC : PySem.W.keepIn K (.ref (bT K)) = true
  veC : PySem.W.subIn K (.ref (bT K)) (.type "ValueError") = some true
  meC : PySem.W.mroIn K (bT K) (.ref (bT K)) = some true
  tyC : PySem.W.typeIn K (.ref (bT K)) = some (.type "type")
  hdC : PySem.W.hasDictIn K (bT K) = true
  st : PySem.W.nsIn K cStatics "thirdparty.any" = some none
  cd : ExcD K (bT K)
  k1 : PySem.W.kitOne K (.ref (bT K)) (.ref (He.ga K "BadSize")) = some false
  k2 : PySem.W.kitOne K (.ref (bT K)) (.ref (He.ga K "TooMany")) = some false
  k3 : PySem.W.kitOne K (.ref (bT K)) (.ref (He.ga K "NoClient")) = some false
  k4 : PySem.W.kitOne K (.ref (bT K)) (.ref (He.ga K "BadLetter")) = some false
  k5 : PySem.W.kitOne K (.ref (bT K)) (.ref (He.ga K "BadTouch")) = some false
  k6 : PySem.W.kitOne K (.ref (bT K)) (.ref (He.ga K "BadKey")) = some false
  k7 : PySem.W.kitOne K (.ref (bT K)) (.ref (He.ga K "BadText")) = some true
  kV : PySem.W.kitOne K (.ref (bT K)) (.type "ValueError") = some true
theorem excB_ok {K : PySem.W.Frag} (h : excB K = true) : ExcF K := by
  unfold excB kitF at h
  obtain ⟨h1, h⟩ := He.ba h
  obtain ⟨h2, h⟩ := He.ba h
  obtain ⟨h3, h4⟩ := He.ba h
  obtain ⟨a1, h1⟩ := He.ba h1
  obtain ⟨a2, h1⟩ := He.ba h1
  obtain ⟨a3, h1⟩ := He.ba h1
  obtain ⟨a4, h1⟩ := He.ba h1
  obtain ⟨a5, a6⟩ := He.ba h1
  obtain ⟨b1, h2⟩ := He.ba h2
  obtain ⟨b2, h2⟩ := He.ba h2
  obtain ⟨b3, h2⟩ := He.ba h2
  obtain ⟨b4, h2⟩ := He.ba h2
  obtain ⟨b5, h2⟩ := He.ba h2
  obtain ⟨b6, h2⟩ := He.ba h2
  obtain ⟨b7, b8⟩ := He.ba h2
  obtain ⟨c1, h3⟩ := He.ba h3
  obtain ⟨c2, h3⟩ := He.ba h3
  obtain ⟨c3, h3⟩ := He.ba h3
  obtain ⟨c4, c5⟩ := He.ba h3
  obtain ⟨d1, h4⟩ := He.ba h4
  obtain ⟨d2, h4⟩ := He.ba h4
  obtain ⟨d3, h4⟩ := He.ba h4
  obtain ⟨d4, h4⟩ := He.ba h4
  obtain ⟨d5, h4⟩ := He.ba h4
  obtain ⟨d6, h4⟩ := He.ba h4
  obtain ⟨d7, d8⟩ := He.ba h4
  exact ⟨a1, He.eqO_ok a2, He.eqO_ok a4, He.eqO_ok a5, He.eqO_ok a6, of_decide_eq_true b1, b2, of_decide_eq_true b4, of_decide_eq_true b5, of_decide_eq_true b6, b7, He.eqO_ok b8,
    ⟨c1, He.eqO_ok a3, He.eqO_ok a4, of_decide_eq_true b3, He.eqO_ok c2, He.eqO_ok c3, of_decide_eq_true c4, of_decide_eq_true c5⟩,
    of_decide_eq_true d1, of_decide_eq_true d2, of_decide_eq_true d3, of_decide_eq_true d4, of_decide_eq_true d5, of_decide_eq_true d6, of_decide_eq_true d7, of_decide_eq_true d8⟩
abbrev BtV : Type := Option (Str × Str × Arguments × FuncBody × Scope × Addr × List Str × Value × Value × Addr)
def btObs (K : PySem.W.Frag) : BtV := match K.lookup (He.ma K (bT K) "__init__") with
  | some ⟨_, _, .func fd, _⟩ => some (fd.name, fd.qualname, fd.params, fd.body, fd.scope, fd.globals, fd.closure.map (·.1), fd.defaults, fd.kwdefaults, fd.builtins)
  | _ => none
def btVal : BtV := some ("__init__", "BadText.__init__", defArgs PySem.BTX.sBT, .stmts (defBody PySem.BTX.sBT), defScope PySem.BTX.sBT, mainGlobals, ["__class__"], .none, .none, builtinsNs)
def btB (P : Program) (K : PySem.W.Frag) : Bool := match K.lookup (He.ma K (bT K) "__init__") with
  | some ⟨_, _, .func fd, _⟩ => (match fd.closure, fd.code with
    | [(_, cc)], .ref cda => (match K.lookup cc with
        | some ⟨_, _, .cell (some (.ref C')), _⟩ => decide (C' = bT K)
        | _ => false) && (PySem.W.codeIn K (.ref cda) "BadText.__init__" && (match K.lookup cda with
        | some ⟨_, _, .fields vs, _⟩ => (match (vs[2]? : Option Value) with
          | some (.str file _) => ((P.main.file : Str) == file)
          | _ => false)
        | _ => false))
    | _, _ => false)
  | _ => false
theorem bt_ok {P : Program} {K : PySem.W.Frag} {mg : Str → Option Value} (XF : ExcF K) (bo : btObs K = btVal) (bb : btB P K = true) (gX : mg "BadText" = some (.ref (bT K))) (hs : mg "super" = none) (ht : (P.main.scope.names.lookup ("super" : Str)).isSome = false) :
    PySem.BTX.BtTxt P K mg (bT K) (He.ma K (bT K) "__init__") := by
  refine ⟨gX, ?_, XF.sa, XF.cd.hg, XF.gg, XF.noN, XF.iC, XF.tC, XF.kC, XF.cd.hs, XF.veC, XF.meC, XF.tyC, XF.hdC, hs, XF.st, ht, ?_⟩
  · have h := XF.cls
    unfold btCls at h
    cases e : K.lookup (bT K) with
    | none => rw [e] at h; cases h
    | some o =>
    obtain ⟨oc, od, dt, sl⟩ := o
    rw [e] at h
    cases oc with
    | type t =>
      cases dt with
      | cls cd =>
        obtain ⟨h1, h2⟩ := He.ba (show (decide (t = "type") && (match cd.mro, sl.toList with
          | .ref C' :: bm, [_, _, _, _, some (.builtin n), _] => decide (C' = bT K) && (decide (n = "ValueError.__new__") && (!cd.hasDel && (cd.hasDict && (HandSPX.refsVE bm && He.eqO (PySem.W.alongIn K "__init__" bm) (some (some (.builtin "ValueError.__init__")))))))
          | _, _ => false)) = true from h)
        have h1 := of_decide_eq_true h1
        subst h1
        split at h2
        · rename_i C' bm k0 k1 k2 k3 n k5 hm hsl
          obtain ⟨q1, h2⟩ := He.ba h2
          obtain ⟨q2, h2⟩ := He.ba h2
          obtain ⟨q3, h2⟩ := He.ba h2
          obtain ⟨q4, h2⟩ := He.ba h2
          obtain ⟨q5, q6⟩ := He.ba h2
          have q1 := of_decide_eq_true q1
          have q2 := of_decide_eq_true q2
          have r3 : cd.hasDel = false := by simpa using q3
          have r4 : cd.hasDict = true := q4
          clear q3 q4
          subst q1 q2
          obtain ⟨nm, bs, mro, ns, qn, hd, sn, sub, ab, col, del⟩ := cd
          dsimp only at hm r3 r4
          subst hm r3 r4
          have hsl2 : sl = #[k0, k1, k2, k3, some (.builtin "ValueError.__new__"), k5] := by
            apply Array.ext'
            exact hsl
          subst hsl2
          exact ⟨_, _, _, _, bm, _, _, _, _, _, _, _, _, _, _, rfl, q5, He.eqO_ok q6⟩
        · cases h2
      | _ => cases h
    | _ => cases dt <;> cases h
  · unfold btObs btVal at bo
    unfold btB at bb
    cases e : K.lookup (He.ma K (bT K) "__init__") with
    | none => rw [e] at bo; cases bo
    | some o =>
    obtain ⟨oc, od, dt, sl⟩ := o
    rw [e] at bo bb
    cases dt with
    | func fd =>
      obtain ⟨n1, n2, n3, n4, n5, n6, n7, n8, n9, n10, n11, n12, n13, n14, n15⟩ := fd
      have bo2 : (some (n1, n2, n3, n4, n5, n6, n7.map (·.1), n8, n9, n15) : BtV) = (some ("__init__", "BadText.__init__", defArgs PySem.BTX.sBT, .stmts (defBody PySem.BTX.sBT), defScope PySem.BTX.sBT, mainGlobals, ["__class__"], .none, .none, builtinsNs) : BtV) := bo
      simp only [Option.some.injEq, Prod.mk.injEq] at bo2
      obtain ⟨e1, e2, e3, e4, e5, e6, e7, e8, e9, e10⟩ := bo2
      subst e1 e2 e3 e4 e5 e6 e8 e9 e10
      obtain ⟨cc, rfl⟩ : ∃ cc : Addr, n7 = [(("__class__" : Str), cc)] := by
        match n7, e7 with
        | [(a, cc)], e7 => exact ⟨cc, by rw [show a = ("__class__" : Str) from (List.cons.inj e7).1]⟩
      cases n13 with
      | ref cda =>
        obtain ⟨q1, q2⟩ := He.ba (show ((match K.lookup cc with
          | some ⟨_, _, .cell (some (.ref C')), _⟩ => decide (C' = bT K)
          | _ => false) && (PySem.W.codeIn K (.ref cda) "BadText.__init__" && (match K.lookup cda with
          | some ⟨_, _, .fields vs, _⟩ => (match (vs[2]? : Option Value) with
            | some (.str file _) => ((P.main.file : Str) == file)
            | _ => false)
          | _ => false))) = true from bb)
        obtain ⟨q2, q3⟩ := He.ba q2
        split at q1
        · rename_i xa xb C' xd hcc
          have q1 := of_decide_eq_true q1
          subst q1
          split at q3
          · rename_i ya yb vs yd hcd
            split at q3
            · rename_i file tf hvs
              exact ⟨_, _, _, _, _, _, _, _, _, _, _, _, _, cc, cda, vs, file, tf, rfl, q2, hcd, hvs, q3, hcc⟩
            · cases q3
          · cases q3
        · cases q1
      | _ => cases bb
    | _ => cases bo
def lawC (K : PySem.W.Frag) : Addr := match K.lookup (He.ga K "law") with
  | some ⟨_, _, .func fd, _⟩ => (match fd.code with
    | .ref c => c
    | _ => 0)
  | _ => 0
def lawP (K : PySem.W.Frag) : Addr := match K.lookup (lawC K) with
  | some ⟨_, _, .fields vs, _⟩ => (match (vs[11]? : Option Value) with
    | some (.ref p) => p
    | _ => 0)
  | _ => 0
def hdB (vs : Array Value) : Bool := match vs.getD 18 .none, vs.getD 7 .none, vs.getD 9 .none, vs.getD 10 .none with
  | .str _ _, .int _ _, .bool _, .int _ _ => true
  | _, _, _, _ => false
def lawB (K : PySem.W.Frag) : Bool := (match K.lookup (He.ga K "law") with
  | some ⟨_, _, .func fd, _⟩ => decide (fd.code = .ref (lawC K))
  | _ => false) && ((match K.lookup (lawC K) with
  | some ⟨.type t, _, .fields vs, _⟩ => decide (t = "code") && (decide ((vs[11]? : Option Value) = some (.ref (lawP K))) && hdB vs)
  | _ => false) && (decide (lawC K ≠ lawP K) && (K.lookup (lawP K)).isNone))
structure LawF (K : PySem.W.Frag) : Prop where
  code : ∀ {oc : Value} {od : Option Addr} {fd : FuncData} {osl : Array (Option Value)}, K.lookup (He.ga K "law") = some ⟨oc, od, .func fd, osl⟩ → fd.code = .ref (lawC K)
  hd : ∀ {h : Heap}, K.In h → PySem.W.CodeHd h (lawC K) (lawP K)
  none : K.lookup (lawP K) = none
theorem lawB_ok {K : PySem.W.Frag} (h : lawB K = true) : LawF K := by
  unfold lawB at h
  obtain ⟨h1, h⟩ := He.ba h
  obtain ⟨h2, h⟩ := He.ba h
  obtain ⟨h3, h4⟩ := He.ba h
  refine ⟨fun e => ?_, fun X => ?_, by simpa using h4⟩
  · rw [e] at h1
    exact of_decide_eq_true h1
  · have h3 := of_decide_eq_true h3
    cases e : K.lookup (lawC K) with
    | none => rw [e] at h2; cases h2
    | some o =>
    obtain ⟨oc, od, dt, sl⟩ := o
    have g := X _ _ e
    rw [e] at h2
    cases oc with
    | type t =>
      cases dt with
      | fields vs =>
        obtain ⟨q1, q⟩ := He.ba (show (decide (t = "code") && (decide ((vs[11]? : Option Value) = some (.ref (lawP K))) && hdB vs)) = true from h2)
        obtain ⟨q2, q3⟩ := He.ba q
        have q1 := of_decide_eq_true q1
        have q2 := of_decide_eq_true q2
        subst q1
        unfold hdB at q3
        split at q3
        · rename_i file tf fl tg inF tx tt r1 r2 r3 r4
          refine ⟨_, vs, file, tf, fl, tg, inF, tx, tt, g, rfl, rfl, q2, ?_, r1, r2, r3, r4, h3⟩
          rw [Array.getD_eq_getD_getElem?, q2]; rfl
        · cases q3
      | _ => cases h2
    | _ => cases dt <;> cases h2

def faL0 : List He.Fa := [.glo "is_within", .keep "is_within", .glo "are_within", .keep "are_within", .glo "is_letter", .keep "is_letter", .glo "check_books", .keep "check_books", .glo "row_of", .keep "row_of", .glo "written", .keep "written", .glo "number_of", .keep "number_of", .glo "read", .keep "read", .glo "_law_mix", .keep "_law_mix", .glo "_law_next", .keep "_law_next", .glo "_law_alike", .keep "_law_alike", .glo "_law_letter", .keep "_law_letter", .glo "_law_odd", .keep "_law_odd", .glo "_law_sized", .keep "_law_sized", .glo "_law_pending", .keep "_law_pending", .glo "_law_under", .keep "_law_under", .glo "_law_is_tied", .keep "_law_is_tied", .glo "_law_does"]
def faL1 : List He.Fa := [.keep "_law_does", .glo "_law_book", .keep "_law_book", .glo "_law_kind", .keep "_law_kind", .glo "_law_figures", .keep "_law_figures", .glo "_law_line", .keep "_law_line", .glo "_law_due", .keep "_law_due", .glo "_law_spoilt", .keep "_law_spoilt", .glo "law", .keep "law", .free "range", .free "list", .free "sorted", .free "len", .free "isinstance", .free "bool", .free "int", .free "tuple", .free "all", .free "zip", .free "max", .free "min", .free "str", .free "enumerate", .free "ValueError", .free "super", .glo "HallError", .glo "BadSize", .glo "TooMany", .glo "NoClient"]
def faL2 : List He.Fa := [.glo "BadLetter", .glo "BadTouch", .glo "BadKey", .glo "BadText", .exm "BadText" "HallError" true, .glo "LETTERS", .int "MOST_CLIENTS" 5, .str "FIGURES" "0123456789"]
def faL : List He.Fa := faL0 ++ (faL1 ++ (faL2))
def fnL : List He.FnD := [⟨("is_within", none), "is_within", "is_within", defArgs sWithin, defBody sWithin, defScope sWithin⟩, ⟨("are_within", none), "are_within", "are_within", defArgs sAre, defBody sAre, defScope sAre⟩, ⟨("is_letter", none), "is_letter", "is_letter", defArgs sIsLet, defBody sIsLet, defScope sIsLet⟩, ⟨("check_books", none), "check_books", "check_books", defArgs sCheck, defBody sCheck, defScope sCheck⟩, ⟨("row_of", none), "row_of", "row_of", defArgs sRowOf, defBody sRowOf, defScope sRowOf⟩, ⟨("written", none), "written", "written", defArgs sWr, defBody sWr, defScope sWr⟩, ⟨("number_of", none), "number_of", "number_of", defArgs sNum, defBody sNum, defScope sNum⟩, ⟨("read", none), "read", "read", defArgs sRead, defBody sRead, defScope sRead⟩, ⟨("_law_mix", none), "_law_mix", "_law_mix", defArgs sMix, defBody sMix, defScope sMix⟩, ⟨("_law_next", none), "_law_next", "_law_next", defArgs sNext, defBody sNext, defScope sNext⟩, ⟨("_law_alike", none), "_law_alike", "_law_alike", defArgs sAlike, defBody sAlike, defScope sAlike⟩, ⟨("_law_letter", none), "_law_letter", "_law_letter", defArgs sLetter, defBody sLetter, defScope sLetter⟩, ⟨("_law_odd", none), "_law_odd", "_law_odd", defArgs sOdd, defBody sOdd, defScope sOdd⟩, ⟨("_law_sized", none), "_law_sized", "_law_sized", defArgs sSized, defBody sSized, defScope sSized⟩, ⟨("_law_pending", none), "_law_pending", "_law_pending", defArgs sPending, defBody sPending, defScope sPending⟩, ⟨("_law_under", none), "_law_under", "_law_under", defArgs sUnder, defBody sUnder, defScope sUnder⟩, ⟨("_law_is_tied", none), "_law_is_tied", "_law_is_tied", defArgs sTied, defBody sTied, defScope sTied⟩, ⟨("_law_does", none), "_law_does", "_law_does", defArgs sDoes, defBody sDoes, defScope sDoes⟩, ⟨("_law_book", none), "_law_book", "_law_book", defArgs sBook, defBody sBook, defScope sBook⟩, ⟨("_law_kind", none), "_law_kind", "_law_kind", defArgs sKd, defBody sKd, defScope sKd⟩, ⟨("_law_figures", none), "_law_figures", "_law_figures", defArgs sFg, defBody sFg, defScope sFg⟩, ⟨("_law_line", none), "_law_line", "_law_line", defArgs sLn, defBody sLn, defScope sLn⟩, ⟨("_law_due", none), "_law_due", "_law_due", defArgs sDu, defBody sDu, defScope sDu⟩, ⟨("_law_spoilt", none), "_law_spoilt", "_law_spoilt", defArgs sSp, defBody sSp, defScope sSp⟩, ⟨("law", none), "law", "law", defArgs sLaw, defBody sLaw, defScope sLaw⟩]
theorem fun_of {K : PySem.W.Frag} (c : He.SaysE faL fnL K) (i : Nat) {at_ : Str × Option Str} {x q : Str} {st : Stmt} (h : fnL[i]? = some ⟨at_, x, q, defArgs st, defBody st, defScope st⟩) (kp : PySem.W.keepIn K (.ref (He.fAd K at_)) = true) : ∃ fd, Fun K x q st (He.fAd K at_) fd := by
  obtain ⟨oc, od, osl, kV, doc, pm, an, cdv, ct, l, cc⟩ := c.def_ i h
  exact ⟨_, fun_mk l cc kp⟩

set_option maxHeartbeats 0 in
theorem law_all {l : PySem.W.OpenLaw} {w : World} {K : PySem.W.Frag} {h : Heap} {mg : Str → Option Value} {f : Addr} (X : K.In h) (G : h.Ns mainGlobals mg) (hfa : mg ("law" : Str) = some (.ref f))
    (c : He.SaysE faL fnL K) (dc : He.dicW K (He.ga K "LETTERS") = some (He.keysIn w.params wordsL)) (lb : lettersB K = true) (xb : excB K = true) (bo : btObs K = btVal) (bb : btB l.prog K = true) (lw : lawB K = true)
    (hsup : (l.prog.main.scope.names.lookup ("super" : Str)).isSome = false) (hT : h.get? (lawP K) = some { cls := .none, data := .fields #[] }) : LamX.LawAtS l w K CX0 7 63 "_law_script" mg f h := by
  have gW := He.glo_ok X G (c.fact 0 (f := .glo "is_within") rfl)
  have kW := He.keep_ok (c.fact 1 (f := .keep "is_within") rfl)
  have gAW := He.glo_ok X G (c.fact 2 (f := .glo "are_within") rfl)
  have kAW := He.keep_ok (c.fact 3 (f := .keep "are_within") rfl)
  have gI := He.glo_ok X G (c.fact 4 (f := .glo "is_letter") rfl)
  have kI := He.keep_ok (c.fact 5 (f := .keep "is_letter") rfl)
  have gC := He.glo_ok X G (c.fact 6 (f := .glo "check_books") rfl)
  have kC := He.keep_ok (c.fact 7 (f := .keep "check_books") rfl)
  have gR := He.glo_ok X G (c.fact 8 (f := .glo "row_of") rfl)
  have kR := He.keep_ok (c.fact 9 (f := .keep "row_of") rfl)
  have gWr := He.glo_ok X G (c.fact 10 (f := .glo "written") rfl)
  have kWr := He.keep_ok (c.fact 11 (f := .keep "written") rfl)
  have gNu := He.glo_ok X G (c.fact 12 (f := .glo "number_of") rfl)
  have kNu := He.keep_ok (c.fact 13 (f := .keep "number_of") rfl)
  have gRe := He.glo_ok X G (c.fact 14 (f := .glo "read") rfl)
  have kRe := He.keep_ok (c.fact 15 (f := .keep "read") rfl)
  have gM := He.glo_ok X G (c.fact 16 (f := .glo "_law_mix") rfl)
  have kM := He.keep_ok (c.fact 17 (f := .keep "_law_mix") rfl)
  have gN := He.glo_ok X G (c.fact 18 (f := .glo "_law_next") rfl)
  have kN := He.keep_ok (c.fact 19 (f := .keep "_law_next") rfl)
  have gA := He.glo_ok X G (c.fact 20 (f := .glo "_law_alike") rfl)
  have kA := He.keep_ok (c.fact 21 (f := .keep "_law_alike") rfl)
  have gL := He.glo_ok X G (c.fact 22 (f := .glo "_law_letter") rfl)
  have kL := He.keep_ok (c.fact 23 (f := .keep "_law_letter") rfl)
  have gO := He.glo_ok X G (c.fact 24 (f := .glo "_law_odd") rfl)
  have kO := He.keep_ok (c.fact 25 (f := .keep "_law_odd") rfl)
  have gS := He.glo_ok X G (c.fact 26 (f := .glo "_law_sized") rfl)
  have kS := He.keep_ok (c.fact 27 (f := .keep "_law_sized") rfl)
  have gP := He.glo_ok X G (c.fact 28 (f := .glo "_law_pending") rfl)
  have kP := He.keep_ok (c.fact 29 (f := .keep "_law_pending") rfl)
  have gU := He.glo_ok X G (c.fact 30 (f := .glo "_law_under") rfl)
  have kU := He.keep_ok (c.fact 31 (f := .keep "_law_under") rfl)
  have gT := He.glo_ok X G (c.fact 32 (f := .glo "_law_is_tied") rfl)
  have kT := He.keep_ok (c.fact 33 (f := .keep "_law_is_tied") rfl)
  have gD := He.glo_ok X G (c.fact 34 (f := .glo "_law_does") rfl)
  have kD := He.keep_ok (c.fact 35 (f := .keep "_law_does") rfl)
  have gB := He.glo_ok X G (c.fact 36 (f := .glo "_law_book") rfl)
  have kB := He.keep_ok (c.fact 37 (f := .keep "_law_book") rfl)
  have gKd := He.glo_ok X G (c.fact 38 (f := .glo "_law_kind") rfl)
  have kKd := He.keep_ok (c.fact 39 (f := .keep "_law_kind") rfl)
  have gFg := He.glo_ok X G (c.fact 40 (f := .glo "_law_figures") rfl)
  have kFg := He.keep_ok (c.fact 41 (f := .keep "_law_figures") rfl)
  have gLn := He.glo_ok X G (c.fact 42 (f := .glo "_law_line") rfl)
  have kLn := He.keep_ok (c.fact 43 (f := .keep "_law_line") rfl)
  have gDu := He.glo_ok X G (c.fact 44 (f := .glo "_law_due") rfl)
  have kDu := He.keep_ok (c.fact 45 (f := .keep "_law_due") rfl)
  have gSp := He.glo_ok X G (c.fact 46 (f := .glo "_law_spoilt") rfl)
  have kSp := He.keep_ok (c.fact 47 (f := .keep "_law_spoilt") rfl)
  have glaw := He.glo_ok X G (c.fact 48 (f := .glo "law") rfl)
  have klaw := He.keep_ok (c.fact 49 (f := .keep "law") rfl)
  obtain ⟨fdW, FW⟩ := fun_of c 0 (at_ := ("is_within", none)) (x := "is_within") (q := "is_within") (st := sWithin) rfl kW
  have bW := FW.binds (ps := ["value", "least", "greatest"]) fun _ _ _ _ _ _ us hl => match us, hl with | [_, _, _], _ => rfl
  obtain ⟨fdAW, FAW⟩ := fun_of c 1 (at_ := ("are_within", none)) (x := "are_within") (q := "are_within") (st := sAre) rfl kAW
  have bAW := FAW.binds (ps := ["numbers", "bounds"]) fun _ _ _ _ _ _ us hl => match us, hl with | [_, _], _ => rfl
  obtain ⟨fdI, FI⟩ := fun_of c 2 (at_ := ("is_letter", none)) (x := "is_letter") (q := "is_letter") (st := sIsLet) rfl kI
  have bI := FI.binds (ps := ["letter"]) fun _ _ _ _ _ _ us hl => match us, hl with | [_], _ => rfl
  obtain ⟨fdC, FC⟩ := fun_of c 3 (at_ := ("check_books", none)) (x := "check_books") (q := "check_books") (st := sCheck) rfl kC
  have bC := FC.binds (ps := ["books"]) fun _ _ _ _ _ _ us hl => match us, hl with | [_], _ => rfl
  obtain ⟨fdR, FR⟩ := fun_of c 4 (at_ := ("row_of", none)) (x := "row_of") (q := "row_of") (st := sRowOf) rfl kR
  have bR := FR.binds (ps := ["client", "letter"]) fun _ _ _ _ _ _ us hl => match us, hl with | [_, _], _ => rfl
  obtain ⟨fdWr, FWr⟩ := fun_of c 5 (at_ := ("written", none)) (x := "written") (q := "written") (st := sWr) rfl kWr
  have bWr := FWr.binds (ps := ["books"]) fun _ _ _ _ _ _ us hl => match us, hl with | [_], _ => rfl
  obtain ⟨fdNu, FNu⟩ := fun_of c 6 (at_ := ("number_of", none)) (x := "number_of") (q := "number_of") (st := sNum) rfl kNu
  have bNu := FNu.binds (ps := ["word"]) fun _ _ _ _ _ _ us hl => match us, hl with | [_], _ => rfl
  obtain ⟨fdRe, FRe⟩ := fun_of c 7 (at_ := ("read", none)) (x := "read") (q := "read") (st := sRead) rfl kRe
  have bRe := FRe.binds (ps := ["text"]) fun _ _ _ _ _ _ us hl => match us, hl with | [_], _ => rfl
  obtain ⟨fdM, FM⟩ := fun_of c 8 (at_ := ("_law_mix", none)) (x := "_law_mix") (q := "_law_mix") (st := sMix) rfl kM
  have bM := FM.binds (ps := ["_law_script", "_law_seed"]) fun _ _ _ _ _ _ us hl => match us, hl with | [_, _], _ => rfl
  obtain ⟨fdN, FN⟩ := fun_of c 9 (at_ := ("_law_next", none)) (x := "_law_next") (q := "_law_next") (st := sNext) rfl kN
  have bN := FN.binds (ps := ["_law_h", "_law_many"]) fun _ _ _ _ _ _ us hl => match us, hl with | [_, _], _ => rfl
  obtain ⟨fdA, FA⟩ := fun_of c 10 (at_ := ("_law_alike", none)) (x := "_law_alike") (q := "_law_alike") (st := sAlike) rfl kA
  have bA := FA.binds (ps := ["_law_found", "_law_due_here"]) fun _ _ _ _ _ _ us hl => match us, hl with | [_, _], _ => rfl
  obtain ⟨fdL, FL⟩ := fun_of c 11 (at_ := ("_law_letter", none)) (x := "_law_letter") (q := "_law_letter") (st := sLetter) rfl kL
  have bL := FL.binds (ps := ["_law_h", "_law_w"]) fun _ _ _ _ _ _ us hl => match us, hl with | [_, _], _ => rfl
  obtain ⟨fdO, FO⟩ := fun_of c 12 (at_ := ("_law_odd", none)) (x := "_law_odd") (q := "_law_odd") (st := sOdd) rfl kO
  have bO := FO.binds (ps := ["_law_h", "_law_w"]) fun _ _ _ _ _ _ us hl => match us, hl with | [_, _], _ => rfl
  obtain ⟨fdS, FS⟩ := fun_of c 13 (at_ := ("_law_sized", none)) (x := "_law_sized") (q := "_law_sized") (st := sSized) rfl kS
  have bS := FS.binds (ps := ["_law_marks", "_law_wide", "_law_high"]) fun _ _ _ _ _ _ us hl => match us, hl with | [_, _, _], _ => rfl
  obtain ⟨fdP, FP⟩ := fun_of c 14 (at_ := ("_law_pending", none)) (x := "_law_pending") (q := "_law_pending") (st := sPending) rfl kP
  have bP := FP.binds (ps := ["_law_look", "_law_letter_here"]) fun _ _ _ _ _ _ us hl => match us, hl with | [_, _], _ => rfl
  obtain ⟨fdU, FU⟩ := fun_of c 15 (at_ := ("_law_under", none)) (x := "_law_under") (q := "_law_under") (st := sUnder) rfl kU
  have bU := FU.binds (ps := ["_law_w", "_law_name"]) fun _ _ _ _ _ _ us hl => match us, hl with | [_, _], _ => rfl
  obtain ⟨fdT, FT⟩ := fun_of c 16 (at_ := ("_law_is_tied", none)) (x := "_law_is_tied") (q := "_law_is_tied") (st := sTied) rfl kT
  have bT := FT.binds (ps := ["_law_w", "_law_name", "_law_other"]) fun _ _ _ _ _ _ us hl => match us, hl with | [_, _, _], _ => rfl
  obtain ⟨fdD, FD⟩ := fun_of c 17 (at_ := ("_law_does", none)) (x := "_law_does") (q := "_law_does") (st := sDoes) rfl kD
  have bD := FD.binds (ps := ["_law_w", "_law_letter_here"]) fun _ _ _ _ _ _ us hl => match us, hl with | [_, _], _ => rfl
  obtain ⟨fdB, FB⟩ := fun_of c 18 (at_ := ("_law_book", none)) (x := "_law_book") (q := "_law_book") (st := sBook) rfl kB
  have bB := FB.binds (ps := ["_law_h", "_law_many"]) fun _ _ _ _ _ _ us hl => match us, hl with | [_, _], _ => rfl
  obtain ⟨fdKd, FKd⟩ := fun_of c 19 (at_ := ("_law_kind", none)) (x := "_law_kind") (q := "_law_kind") (st := sKd) rfl kKd
  have bKd := FKd.binds (ps := ["_law_work"]) fun _ _ _ _ _ _ us hl => match us, hl with | [_], _ => rfl
  obtain ⟨fdFg, FFg⟩ := fun_of c 20 (at_ := ("_law_figures", none)) (x := "_law_figures") (q := "_law_figures") (st := sFg) rfl kFg
  have bFg := FFg.binds (ps := ["_law_word"]) fun _ _ _ _ _ _ us hl => match us, hl with | [_], _ => rfl
  obtain ⟨fdLn, FLn⟩ := fun_of c 21 (at_ := ("_law_line", none)) (x := "_law_line") (q := "_law_line") (st := sLn) rfl kLn
  have bLn := FLn.binds (ps := ["_law_row"]) fun _ _ _ _ _ _ us hl => match us, hl with | [_], _ => rfl
  obtain ⟨fdDu, FDu⟩ := fun_of c 22 (at_ := ("_law_due", none)) (x := "_law_due") (q := "_law_due") (st := sDu) rfl kDu
  have bDu := FDu.binds (ps := ["_law_text"]) fun _ _ _ _ _ _ us hl => match us, hl with | [_], _ => rfl
  obtain ⟨fdSp, FSp⟩ := fun_of c 23 (at_ := ("_law_spoilt", none)) (x := "_law_spoilt") (q := "_law_spoilt") (st := sSp) rfl kSp
  have bSp := FSp.binds (ps := ["_law_h", "_law_text"]) fun _ _ _ _ _ _ us hl => match us, hl with | [_, _], _ => rfl
  obtain ⟨fdlaw, Flaw⟩ := fun_of c 24 (at_ := ("law", none)) (x := "law") (q := "law") (st := sLaw) rfl klaw
  have blaw := Flaw.binds (ps := ["_law_script"]) fun _ _ _ _ _ _ us hl => match us, hl with | [_], _ => rfl
  have TM : TxtM mg := ⟨(He.free_ok X G (c.fact 51 (f := .free "list") rfl)), (He.free_ok X G (c.fact 60 (f := .free "max") rfl)), (He.free_ok X G (c.fact 53 (f := .free "len") rfl))⟩
  have TG : TxtG mg := ⟨(He.free_ok X G (c.fact 51 (f := .free "list") rfl)), (He.free_ok X G (c.fact 53 (f := .free "len") rfl)), (He.free_ok X G (c.fact 50 (f := .free "range") rfl)), (He.free_ok X G (c.fact 57 (f := .free "tuple") rfl)), (He.free_ok X G (c.fact 52 (f := .free "sorted") rfl)), (He.free_ok X G (c.fact 61 (f := .free "min") rfl))⟩
  have TP : TxtP mg := ⟨(He.free_ok X G (c.fact 62 (f := .free "str") rfl)), (He.free_ok X G (c.fact 56 (f := .free "int") rfl)), (He.free_ok X G (c.fact 53 (f := .free "len") rfl)), (He.free_ok X G (c.fact 58 (f := .free "all") rfl)), (He.free_ok X G (c.fact 57 (f := .free "tuple") rfl)), (He.free_ok X G (c.fact 60 (f := .free "max") rfl)), (He.free_ok X G (c.fact 63 (f := .free "enumerate") rfl)), (He.free_ok X G (c.fact 50 (f := .free "range") rfl)), (He.free_ok X G (c.fact 51 (f := .free "list") rfl)), (He.free_ok X G (c.fact 54 (f := .free "isinstance") rfl)), (He.free_ok X G (c.fact 55 (f := .free "bool") rfl)), He.str_ok X G (c.fact 77 (f := .str "FIGURES" "0123456789") rfl), He.int_ok X G (c.fact 76 (f := .int "MOST_CLIENTS" 5) rfl)⟩
  obtain ⟨es, en, KD⟩ := He.dicW_ok dc
  have gLE := He.glo_ok X G (c.fact 75 (f := .glo "LETTERS") rfl)
  have TF : TxtF K w mg := ⟨(He.free_ok X G (c.fact 54 (f := .free "isinstance") rfl)), (He.free_ok X G (c.fact 55 (f := .free "bool") rfl)), (He.free_ok X G (c.fact 56 (f := .free "int") rfl)), (He.free_ok X G (c.fact 57 (f := .free "tuple") rfl)), (He.free_ok X G (c.fact 53 (f := .free "len") rfl)), (He.free_ok X G (c.fact 58 (f := .free "all") rfl)), (He.free_ok X G (c.fact 59 (f := .free "zip") rfl)), _, es, en, gLE, KD, lettersB_ok lb⟩
  have TU : TxtU K mg := ⟨fun d x hd hx => by
    have e : Value.ref d = Value.ref (He.ga K "LETTERS") := Option.some.inj (hd.symm.trans gLE)
    rw [Value.ref.inj e]
    exact words_none KD.at_ dc hx⟩
  have XF := excB_ok xb
  have CD : ExcD K (He.ga K "BadText") := XF.cd
  have gX : mg "BadText" = some (.ref (He.ga K "BadText")) := He.glo_ok X G (c.fact 73 (f := .glo "BadText") rfl)
  have BT : PySem.BTX.BtTxt l.prog K mg (He.ga K "BadText") (He.ma K (He.ga K "BadText") "__init__") := bt_ok XF bo bb gX (He.free_ok X G (c.fact 65 (f := .free "super") rfl)) hsup
  have TK : TxtK K mg (He.ga K "HallError") (He.ga K "BadSize") (He.ga K "TooMany") (He.ga K "NoClient") (He.ga K "BadLetter") (He.ga K "BadTouch") (He.ga K "BadKey") (He.ga K "BadText") := ⟨He.glo_ok X G (c.fact 66 (f := .glo "HallError") rfl), He.glo_ok X G (c.fact 67 (f := .glo "BadSize") rfl), He.glo_ok X G (c.fact 68 (f := .glo "TooMany") rfl), He.glo_ok X G (c.fact 69 (f := .glo "NoClient") rfl), He.glo_ok X G (c.fact 70 (f := .glo "BadLetter") rfl), He.glo_ok X G (c.fact 71 (f := .glo "BadTouch") rfl), He.glo_ok X G (c.fact 72 (f := .glo "BadKey") rfl), He.glo_ok X G (c.fact 73 (f := .glo "BadText") rfl), XF.k1, XF.k2, XF.k3, XF.k4, XF.k5, XF.k6, XF.k7, XF.kV, He.exm_ok (c.fact 74 (f := .exm "BadText" "HallError" true) rfl), (He.free_ok X G (c.fact 54 (f := .free "isinstance") rfl)), (He.free_ok X G (c.fact 64 (f := .free "ValueError") rfl))⟩
  have e := hfa.symm.trans glaw
  cases e
  have LF := lawB_ok lw
  refine ⟨fdlaw, [(lawC K, lawP K)], spLaw (K := K) (lawP K), fun p hp => ?_, fun p hp => ?_, fun p hp => ?_, fun s v => ?_, fun H a ns hl _ hH hS => ⟨a, ns, rfl, hS, hl, hH _ List.mem_cons_self, fun _ => rfl⟩, fun base hb hn hTB => ?_⟩
  · rw [List.mem_singleton.mp hp]; exact hT
  · rw [List.mem_singleton.mp hp]; exact LF.none
  · rw [List.mem_singleton.mp hp]; exact LF.hd X
  · obtain ⟨oc, od, kV, doc, pm, an, cdv, ct, osl, rfl, lk, hcd⟩ := Flaw.ex
    exact .of_eq rfl
  · have hcode : fdlaw.code = .ref (lawC K) := by
      obtain ⟨oc, od, kV, doc, pm, an, cdv, ct, osl, e, lk, hcd⟩ := Flaw.ex
      exact LF.code lk
    have GW : FnOk l.prog w K mg base CX0 1 _ _ _ _ := ok_within FW TF
    have GAW : FnOk l.prog w K mg base CX0 2 _ _ _ _ := ok_are FAW TF FW bW gW
    have GI : FnOk l.prog w K mg base CX0 3 _ _ _ _ := ok_isLet FI TF GAW bAW gAW kAW
    have GWO : FnOk l.prog w K mg base CX0 1 _ _ _ _ := ok_withinO FW TF
    have GAWO : FnOk l.prog w K mg base CX0 2 _ _ _ _ := ok_areO FAW TF FW bW gW
    have GIO : FnOk l.prog w K mg base CX0 3 _ _ _ _ := ok_isLetO FI TF TU GAWO bAW gAW kAW
    have GC : FnOk l.prog w K mg base CX0 4 _ _ _ _ := ok_check FC TP GI bI gI kI
    have GR : FnOk l.prog w K mg base CX0 1 _ _ _ _ := ok_rowOf FR TP
    have GWr : FnOk l.prog w K mg base CX0 5 _ _ _ _ := ok_written FWr TP GC bC gC kC GR bR gR kR
    have GNu : FnOk l.prog w K mg base CX0 1 _ _ _ _ := ok_numA FNu TP
    have GRe : FnOk l.prog w K mg base (L2.CX l.prog w) 4 _ _ _ _ := ok_readA FRe TP BT GNu bNu gNu kNu GWO bW gW kW GIO bI gI kI
    have GM : FnOk l.prog w K mg base CX0 1 _ _ _ _ := ok_mix FM TM
    have GN : FnOk l.prog w K mg base CX0 1 _ _ _ _ := ok_next FN TM
    have GA : FnOk l.prog w K mg base CX0 4 _ _ _ _ := ok_alike FA bA gA TP 3
    have GS : FnOk l.prog w K mg base CX0 1 _ _ _ _ := ok_sized FS TG
    have GP : FnOk l.prog w K mg base CX0 2 _ _ _ _ := ok_pending FP TG GS bS gS kS
    have GU : FnOk l.prog w K mg base CX0 3 _ _ _ _ := ok_under FU bU gU TG 2 (by decide)
    have GT : FnOk l.prog w K mg base CX0 4 _ _ _ _ := ok_tied FT TG GU bU gU kU
    have GD : FnOk l.prog w K mg base CX0 5 _ _ _ _ := ok_does FD TG GU bU gU kU GT bT gT kT GP bP gP kP
    have GO : FnOk l.prog w K mg base CX0 2 _ _ _ _ := ok_odd FO GN bN gN kN
    have GL : FnOk l.prog w K mg base CX0 2 _ _ _ _ := ok_letter FL TG GN bN gN kN
    have GB : FnOk l.prog w K mg base CX0 6 _ _ _ _ := ok_book FB TG GN bN gN kN GO bO gO kO GL bL gL kL GD bD gD kD
    have GFg : FnOk l.prog w K mg base CX0 1 _ _ _ _ := ok_fg FFg TP
    have GLn : FnOk l.prog w K mg base CX0 2 _ _ _ _ := ok_line FLn TF GFg bFg gFg kFg
    have GDu : FnOk l.prog w K mg base CX0 3 _ _ _ _ := ok_due FDu TP GLn bLn gLn kLn
    have GSp : FnOk l.prog w K mg base CX0 2 _ _ _ _ := ok_spoil FSp TP GN bN gN kN
    exact ok_law Flaw hcode TP (hTB _ List.mem_cons_self) TK CD BT GM bM gM kM GN bN gN kN GB bB gB kB GWr bWr gWr kWr GSp bSp gSp kSp GDu bDu gDu kDu FKd bKd gKd kKd GRe bRe gRe kRe GA bA gA kA
end SH
set_option Elab.async false
set_option linter.all false
set_option maxRecDepth 100000
set_option maxHeartbeats 0
namespace SH
open PySem PySem.Spec PyProof.Rows L2
/-! the head by one kernel run: what the law leans on is looked at in the heap that the run leaves -/
def asL0 : List Addr := [3, 24, 37, 49, 61, 73, 85, 97, 118, 121, 162, 167, 174, 181, 186, 191, 196, 201, 208, 215, 220, 225, 232, 239, 246, 253, 260, 265, 272, 279, 284, 289, 294, 301, 306, 23]
def asL1 : List Addr := [117, 123, 125, 129, 136, 140, 143, 145, 147, 150, 152, 154, 155, 161, 166, 173, 180, 185, 190, 195, 200, 207, 214, 219, 224, 231, 238, 245, 252, 259, 264, 271, 278, 283, 288, 293]
def asL2 : List Addr := [300, 305, 115, 122, 124, 126, 127, 128, 130, 131, 132, 133, 134, 135, 137, 138, 139, 141, 142, 144, 146, 148, 149, 151, 153, 114, 2, 103]
def asL : List Addr := asL0 ++ asL1 ++ asL2
def loL0 : List PySem.Str := ["HallError", "BadSize", "TooMany", "NoClient", "BadLetter", "BadTouch", "BadKey", "BadText", "LETTERS", "MOST_CLIENTS", "is_within", "are_within"]
def loL1 : List PySem.Str := ["is_letter", "FIGURES", "check_books", "row_of", "written", "number_of", "read", "_law_mix", "_law_next", "_law_alike", "_law_letter", "_law_odd"]
def loL2 : List PySem.Str := ["_law_sized", "_law_pending", "_law_under", "_law_is_tied", "_law_does", "_law_book", "_law_kind", "_law_figures", "_law_line", "_law_due", "_law_spoilt"]
def loL : List PySem.Str := loL0 ++ loL1 ++ loL2
abbrev RR : PySem.W.OpenRow := PySem.W.OpenLaw.row PySem.Challenge.rw_surfacehall_k18_texts_refused
def noTab (o : Option Obj) : Bool := match o with
  | some ⟨.none, none, .fields vs, sl⟩ => vs.isEmpty && sl.isEmpty
  | _ => false
theorem noTab_ok {o : Option Obj} (h : noTab o = true) : o = some { cls := .none, data := .fields #[] } := by
  unfold noTab at h
  split at h
  · rename_i vs sl
    obtain ⟨h1, h2⟩ := He.ba h
    have h1 : vs = #[] := by simpa using h1
    have h2 : sl = #[] := by simpa using h2
    subst h1 h2
    rfl
  · cases h
abbrev Al2 : Type := (He.Al × (Option (List (Option (Str × Int))) × Bool)) × BtV
def obs3 (K : PySem.W.Frag) : Al2 := ((He.obsE faL fnL K, He.dicW K (He.ga K "LETTERS"), lettersB K && (excB K && (btB PySem.Challenge.rw_surfacehall_k18_texts_refused.prog K && lawB K))), btObs K)
def obs2 (g : Addr → Option Obj) : Al2 × Bool := (obs3 (He.frG g asL), noTab (g (lawP (He.frG g asL))))
def val2 (P : Params) : Al2 := ((He.valE fnL, some (He.keysIn P wordsL), true), btVal)
def hk2 : PySem.W.Hook where
  α := Al2 × Bool
  obs := fun s => obs2 s.heap.get?
  val := fun w => (val2 w.params, true)
  says := fun w h => ∃ K : PySem.W.Frag, K.In h ∧ obs3 K = val2 w.params ∧ h.get? (lawP K) = some { cls := .none, data := .fields #[] }
  of := fun _ _ e => ⟨_, He.frG_in, congrArg Prod.fst e, noTab_ok (congrArg Prod.snd e)⟩
  keeps := fun _ _ _ ⟨K, hK, c, t⟩ k => ⟨K, PySem.W.Frag.In.keeps hK k, c, k _ _ t⟩
def qv : Program := PySem.W.view RR.prog [39]
def ob2 (s : PySem.W.SharedT) : hk2.α := obs2 (HandSHeadRun.getT s)
theorem ob2_eq (s : PySem.W.SharedT) : ob2 s = hk2.obs s.abs := by
  have e : HandSHeadRun.getT s = s.abs.heap.get? := funext (HandSHeadRun.getT_eq s)
  show obs2 (HandSHeadRun.getT s) = obs2 s.abs.heap.get?
  rw [e]
theorem run2F (w : World) : HandSHeadRun.RunEq RR qv hk2 ob2 3416 loL (w.withFollow "special-get-raises" false) := by
  intro os
  kernel_rfl
theorem run2T (w : World) : HandSHeadRun.RunEq RR qv hk2 ob2 3416 loL (w.withFollow "special-get-raises" true) := by
  intro os
  kernel_rfl
theorem run2 (w : World) : HandSHeadRun.RunEq RR qv hk2 ob2 3416 loL w := PySem.W.byRow2 "special-get-raises" (P := fun w => HandSHeadRun.RunEq RR qv hk2 ob2 3416 loL w) run2F run2T w
end SH
open PySem PySem.W PySem.Calls PyProof.Rows
theorem PySem.Challenge.cw_surfacehall_k18_texts_refused_holds : PySem.Challenge.rw_surfacehall_k18_texts_refused.Holds := by
  w_on; o_law
  refine HandSHeadRun.head_any (r := OpenLaw.row PySem.Challenge.rw_surfacehall_k18_texts_refused) (q := SH.qv) (H := SH.hk2) (ob := SH.ob2) (M := 3416) (loose := SH.loL) (d := HandSHeadRun.topDef (OpenLaw.row PySem.Challenge.rw_surfacehall_k18_texts_refused).prog 39) (kwd := []) SH.ob2_eq
    (by kernel_rfl) (fun s => by kernel_rfl) SH.run2 (by kernel_rfl) (by kernel_rfl) (by kernel_rfl) (by rfl) (by first | assumption | decide +kernel) (by decide +kernel) ⟨rfl, rfl, rfl, rfl, rfl, by decide +kernel⟩ ?hw ?hc
  case hw => w_witness2
  case hc =>
    refine LamX.walk_ofTsE (l := PySem.Challenge.rw_surfacehall_k18_texts_refused) (n := 63) (k := 7) (x := "_law_script") (CX := fun _ => L2.CX0) rfl (by decide) (by kernel_rfl) ⟨rfl, by decide, by decide⟩ ?F (fun _ _ _ _ _ z => z)
    intro w mg fa h Y G hmg0
    obtain ⟨K, KX, c, tb⟩ := Y
    have hmg : mg ("law" : PySem.Str) = some (.ref fa) := by
      have e : (HandSHeadRun.topDef (OpenLaw.row PySem.Challenge.rw_surfacehall_k18_texts_refused).prog 39).name = ("law" : PySem.Str) := by kernel_rfl
      rw [← e]
      exact hmg0
    have c0 := congrArg Prod.snd c
    have c := congrArg Prod.fst c
    have c1 : He.obsE SH.faL SH.fnL K = He.valE SH.fnL := congrArg Prod.fst c
    have c2 : He.dicW K (He.ga K "LETTERS") = some (He.keysIn w.params SH.wordsL) := congrArg (fun z => z.2.1) c
    have c3 : (SH.lettersB K && (SH.excB K && (SH.btB PySem.Challenge.rw_surfacehall_k18_texts_refused.prog K && SH.lawB K))) = true := congrArg (fun z => z.2.2) c
    obtain ⟨c3, c4⟩ := He.ba c3
    obtain ⟨c4, c5⟩ := He.ba c4
    obtain ⟨c5, c6⟩ := He.ba c5
    exact ⟨K, KX, SH.law_all KX G hmg c1 c2 c3 c4 c0 c5 c6 (by kernel_rfl) tb⟩
