import PyProof.Rows.All
import Wide.All
import OpenK.AllK
import Wide.FinOn
import HandS.ForMost
import HandS.Evl
import PyProof.RulesMatchSeq
import PyProof.Rows.MatchSeqLen
import HandS.TupAny
import HandS.TupMul
import HandS.IsInst
import HandS.Walk
import HandS.Zip
import HandS.More
import KE.KSortedM
import KE.KEqSeq
import PySem.Challenge.RW_surfacehall_k17_written_and_read
import HandS.RaiseMore
import HandS.StrMore
import HandS.Text
import HandS.Star
import HandS.HeadHook3
set_option Elab.async false
set_option linter.all false
set_option maxRecDepth 100000
/-! match over a tuple whose first item is a text -/
namespace SH
open PySem PySem.Spec PyProof.Rows L2

def capSet : List (Option Nat) → List V → L2.St → L2.St
  | some i :: is, v :: vs, σ => capSet is vs (σ.set i (some v))
  | none :: is, _ :: vs, σ => capSet is vs σ
  | _, _, σ => σ

section
variable {X : Cx}
inductive CapOk (X : Cx) : List Pattern → List (Option Nat) → Prop
  | nil : CapOk X [] []
  | wild {ps is pos} : CapOk X ps is → CapOk X (.MatchAs none none pos :: ps) (none :: is)
  | cap {ps is pos i x} (hN : X.N.Nodup) (hi : X.N[i]? = some x) (hx : Loc X.env.scope x) (hf : X.fn x = true ∨ X.env.scope.names.lookup x = some .local) : CapOk X ps is → CapOk X (.MatchAs none (some x) pos :: ps) (some i :: is)

def bnds : List Pattern → List Value → List (Str × Value)
  | .MatchAs none nm _ :: ps, u :: us => (nm.map (·, u)).toList ++ bnds ps us
  | _, _ => []

theorem CapOk.nostar {ps : List Pattern} {is : List (Option Nat)} (c : CapOk X ps is) : ps.findIdx? (·.isStar) = none := by
  induction c with
  | nil => rfl
  | wild _ ih => rw [List.findIdx?_cons, ih]; rfl
  | cap _ _ _ _ _ ih => rw [List.findIdx?_cons, ih]; rfl

theorem caps_each {M : Model} {A : Around} {E : Value → Shared → Prop} {s : Shared} {env : Env} {ps : List Pattern} {is : List (Option Nat)} (c : CapOk X ps is) :
    ∀ {us : List Value}, us.length = ps.length → ∀ {Q : Option (List (Str × Value)) → Shared → Prop}, Q (some (bnds ps us)) s → wpAny M A (matchEach ps env us) Q E s := by
  induction c with
  | nil => intro us hl Q h; exact wpAny_matchEach_nil h
  | @wild ps is pos c ih =>
    intro us hl Q h
    cases us with
    | nil => cases hl
    | cons u us =>
      refine wpAny_matchEach_cons (wpAny_matchPattern_Capture ?_)
      exact ih (by simpa using hl) (by simpa [bnds] using h)
  | @cap ps is pos i x hN hi hx hf c ih =>
    intro us hl Q h
    cases us with
    | nil => cases hl
    | cons u us =>
      refine wpAny_matchEach_cons (wpAny_matchPattern_Capture ?_)
      exact ih (by simpa using hl) (by simpa [bnds] using h)

theorem caps_store {pins : List (Addr × Obj)} {ps : List Pattern} {is : List (Option Nat)} (c : CapOk X ps is) :
    ∀ {us : List Value} {vs : List V} {σ : L2.St} {H : Hp} {s : Shared} {Q : Unit → Shared → Prop}, us.length = ps.length → Vals vs us → Inv X pins σ H s → (∀ s', Inv X pins (capSet is vs σ) H s' → Q () s') →
      wpAny (model X.prog X.w) X.A (assignInOrder ((bnds ps us).map fun (n, _) => bindName X.env n) ((bnds ps us).map (·.2))) Q X.xe s := by
  induction c with
  | nil => intro us vs σ H s Q hl r I h; exact wpAny_assignInOrder_none (h s (by cases vs <;> exact I))
  | @wild ps is pos c ih =>
    intro us vs σ H s Q hl r I h
    cases r with
    | nil => cases hl
    | @cons v u vs us r rs => exact ih (by simpa using hl) rs I h
  | @cap ps is pos i x hN hi hx hf c ih =>
    intro us vs σ H s Q hl r I h
    cases r with
    | nil => cases hl
    | @cons v u vs us r rs =>
      show wpAny _ _ (assignInOrder (bindName X.env x :: ((bnds ps us).map fun (n, _) => bindName X.env n)) (u :: (bnds ps us).map (·.2))) Q X.xe s
      refine wpAny_assignInOrder_more (bindName_ ?_)
      exact store_ok I hN hi hx r (fun s' I' => ih (by simpa using hl) rs I' h) hf

/-- the cases of a match whose subject is a tuple (text, ..) -/
structure PCs (X : Cx) (cs : List MatchCase) (t : Str → List V → TS) : Prop where
  run : ∀ (first : Bool) (pins : List (Addr × Obj)) (s : Shared) (σ : L2.St) (H : Hp) (D : Ends) (a : Addr) (z : Str) (xs : List V), Inv X pins σ H s → SqT X.K H a (.str z :: xs) → t z xs D σ H →
    wpAny (model X.prog X.w) X.A (matchCases cs X.env (.ref a) first) (SP X pins D) X.xe s

def mNil : Str → List V → TS := fun _ _ D σ H => D.nx σ H
theorem pcs_nil : PCs X [] mNil := ⟨fun _ _ _ σ H _ _ _ _ I _ h => wpAny_matchCases_nil ⟨σ, H, I, h⟩⟩
def mAny (tb : TS) : Str → List V → TS := fun _ _ D σ H => tb D σ H
theorem pcs_any {body : List Stmt} {pos : Pos} {rest : List MatchCase} {tb : TS} (hb : PSs X body tb) : PCs X (⟨.MatchAs none none pos, none, body⟩ :: rest) (mAny tb) := by
  refine ⟨fun first pins s σ H D a z xs I hq h => ?_⟩
  refine wpAny_matchCases_cons (wpAny_matchPattern_Capture ?_)
  exact wpAny_assignInOrder_none (hb.run pins s σ H D I h)
def mSeq (lit : Str) (n : Nat) (is : List (Option Nat)) (tb : TS) (tr : Str → List V → TS) : Str → List V → TS := fun z xs D σ H =>
  if z = lit ∧ xs.length = n then tb D (capSet is xs σ) H else tr z xs D σ H
theorem pcs_seq {lit : Str} {j : Nat} {p1 p2 p3 : Pos} {ps : List Pattern} {is : List (Option Nat)} {body : List Stmt} {rest : List MatchCase} {tb : TS} {tr : Str → List V → TS} (hcalm : X.calm = true)
    (c : CapOk X ps is) (hb : PSs X body tb) (hr : PCs X rest tr) :
    PCs X (⟨.MatchSequence (.MatchValue (.Constant (.str lit) j p1) p2 :: ps) p3, none, body⟩ :: rest) (mSeq lit ps.length is tb tr) := by
  refine ⟨fun first pins s σ H D a z xs I hq h => ?_⟩
  obtain ⟨its, rv, ht, hz⟩ := I.tuple hq
  have hlen : its.length = xs.length + 1 := by rw [← rv.length]; rfl
  refine wpAny_matchCases_cons (wpAny_matchPattern_Sequence (wpAny_collectionFlag ht.typeIs flag_seq_tuple ?_) ?_ ?_)
  · simp only [if_true]
    refine pyLen_tuple ht (by simp only [List.size_toArray]; have := line63; simp at hz; omega) ?_
    by_cases hn : xs.length = ps.length
    · have e1 : ((its.toArray.size : Int) != ((Pattern.MatchValue (.Constant (.str lit) j p1) p2 :: ps).length : Int)) = false := by
        simp only [List.size_toArray, List.length_cons, bne_eq_false_iff_eq]; omega
      rw [e1]
      simp only [Bool.false_eq_true, if_false]
      have e2 : (Pattern.MatchValue (.Constant (.str lit) j p1) p2 :: ps).length = its.toArray.size := by simp only [List.size_toArray, List.length_cons]; omega
      rw [e2]
      refine unpackItems_tuple (I.ok.hd hcalm) ht fun h' hx => ?_
      have I1 : Inv X pins σ H { s with heap := h', toks := s.toks + 1 + 1 } := I.kept (t' := s.toks + 1 + 1) fun b o e => hx b o (Nat.ne_of_lt (Heap.lt_size e)) e
      have ea : its.toArray.toList = its := by simp
      rw [ea]
      cases rv with
      | @cons _ u _ us r0 rs =>
        refine wpAny_matchEach_cons (wpAny_matchPattern_Value ?_)
        refine thn (pe_str.run pins _ σ H (fun y H1 => y = .str lit ∧ H1 = H) I1 ⟨rfl, rfl⟩) fun c1 s1 ⟨y, H1, I2, r1, e3, e4⟩ => ?_
        subst e3; subst e4
        refine thn (op_eq pins s1 σ H1 (.str z) (.str lit) u c1 (fun y H2 => y = .bl (decide (z = lit)) ∧ H2 = H1) I2 r0 r1 ⟨rfl, ?_, rfl⟩) fun c2 s2 ⟨y, H2, I3, r2, e3, e4⟩ => ?_
        · congr 1; simp
        subst e3; subst e4
        obtain rfl : c2 = Value.bool (decide (z = lit)) := r2
        refine wpAny_truthy_bool ?_
        by_cases hzl : z = lit
        · rw [decide_eq_true hzl]
          simp only [if_true]
          have hlu : us.length = ps.length := by simp at hlen; omega
          refine caps_each c hlu ?_
          simp only [List.nil_append]
          refine caps_store c hlu rs I3 fun s' I4 => ?_
          have h' : tb D (capSet is xs σ) H2 := by
            have := h; unfold mSeq at this; rwa [if_pos ⟨hzl, hn⟩] at this
          exact hb.run pins s' _ H2 D I4 h'
        · rw [decide_eq_false hzl]
          simp only [Bool.false_eq_true, if_false]
          have h' : tr z xs D σ H2 := by
            have := h; unfold mSeq at this; rwa [if_neg (fun q => hzl q.1)] at this
          exact hr.run false pins s2 σ H2 D a z xs I3 hq h'
    · have e1 : ((its.toArray.size : Int) != ((Pattern.MatchValue (.Constant (.str lit) j p1) p2 :: ps).length : Int)) = true := by
        simp only [List.size_toArray, List.length_cons, bne_iff_ne, ne_eq]; omega
      rw [e1]
      simp only [if_true]
      have h' : tr z xs D σ H := by
        have := h; unfold mSeq at this; rwa [if_neg (fun q => hn q.2)] at this
      exact hr.run false pins _ σ H D a z xs (I.tok _) hq h'
  · rw [List.findIdx?_cons, c.nostar]; rfl
  · rfl

def tMatch (K : PySem.W.Frag) (te : TE) (t : Str → List V → TS) : TS := fun D σ H => te σ H fun x H1 => ∃ a z xs, x = .ref a ∧ SqT K H1 a (.str z :: xs) ∧ t z xs D σ H1
theorem ps_match {e : Expr} {te : TE} {cs : List MatchCase} {t : Str → List V → TS} {pos : Pos} (he : PE X e te) (hc : PCs X cs t) : PS X (.Match e cs pos) (tMatch X.K te t) := by
  refine ⟨fun pins s σ H D I h => ?_⟩
  refine wpAny_Match (thn (he.run pins s σ H _ I h) fun v s1 ⟨x, H1, I1, r1, a, z, xs, e1, hq, q⟩ => ?_)
  subst e1
  obtain rfl : v = Value.ref a := r1
  exact hc.run true pins s1 σ H1 D a z xs I1 hq q
end
end SH
set_option Elab.async false
set_option linter.all false
set_option maxRecDepth 100000
/-! what is tracked, as an ordered list of cells -/
namespace SH
open PySem PySem.Spec PyProof.Rows L2

abbrev Cells := List (Addr × HO)
structure Has (H : Hp) (L : Cells) : Prop where
  ok : ∀ c ∈ L, H c.1 = some c.2
  nd : (L.map (·.1)).Nodup
theorem upd_eq {H : Hp} {p q : Addr} {o : HO} (e : q = p) : upd H p o q = some o := by subst e; exact upd_same
theorem Has.perm {H : Hp} {L L' : Cells} (h : Has H L) (p : L.Perm L') : Has H L' :=
  ⟨fun c hc => h.ok c (p.mem_iff.mpr hc), (p.map (·.1)).nodup_iff.mp h.nd⟩
theorem Has.sub {H : Hp} {L L' : Cells} (h : Has H L) (p : L'.Sublist L) : Has H L' :=
  ⟨fun c hc => h.ok c (p.subset hc), (p.map (·.1)).nodup h.nd⟩
theorem Has.get {H : Hp} {A T : Cells} (h : Has H (A ++ T)) (i : Nat) {p : Addr} {o : HO} (e : T[i]? = some (p, o)) : H p = some o :=
  h.ok (p, o) (List.mem_append_right _ (List.mem_of_getElem? e))
theorem Has.mem {H : Hp} {L : Cells} (h : Has H L) {p : Addr} {o : HO} (e : (p, o) ∈ L) : H p = some o := h.ok _ e
theorem Has.fresh {H : Hp} {L : Cells} (h : Has H L) {p : Addr} (hp : H p = none) : p ∉ L.map (·.1) := fun hm => by
  obtain ⟨c, hc, e⟩ := List.mem_map.mp hm
  have := h.ok c hc
  rw [e, hp] at this; cases this
theorem Has.cons {H : Hp} {L : Cells} (h : Has H L) {p : Addr} (hp : H p = none) (o : HO) : Has (upd H p o) ((p, o) :: L) := by
  refine ⟨fun c hc => ?_, List.nodup_cons.mpr ⟨h.fresh hp, h.nd⟩⟩
  rcases List.mem_cons.mp hc with rfl | hc
  · exact upd_same
  · rw [upd_ne (ne_of_none (h.ok c hc) hp)]; exact h.ok c hc
theorem Has.new {H : Hp} {A T : Cells} (h : Has H (A ++ T)) {p : Addr} (hp : H p = none) (o : HO) : Has (upd H p o) (A ++ (p, o) :: T) :=
  (h.cons hp o).perm List.perm_middle.symm
/-- an object laid that the list doesn't name -/
theorem Has.past {H : Hp} {L : Cells} (h : Has H L) {p : Addr} (hp : H p = none) (o : HO) : Has (upd H p o) L := (h.cons hp o).sub (List.sublist_cons_self _ _)
theorem set_keys : ∀ {T : Cells} {i : Nat} {p : Addr} {o o' : HO}, T[i]? = some (p, o) → (T.set i (p, o')).map (·.1) = T.map (·.1)
  | [], i, p, o, o', e => by simp at e
  | c :: T, 0, p, o, o', e => by
    have e : c = (p, o) := Option.some.inj e
    subst e; rfl
  | c :: T, i + 1, p, o, o', e => by
    have ih := set_keys (T := T) (i := i) (p := p) (o := o) (o' := o') e
    show c.1 :: (T.set i (p, o')).map (·.1) = c.1 :: T.map (·.1)
    rw [ih]
theorem Has.set0 {H : Hp} {T : Cells} (h : Has H T) (i : Nat) {p : Addr} {o : HO} (e : T[i]? = some (p, o)) (o' : HO) : Has (upd H p o') (T.set i (p, o')) := by
  refine ⟨fun c hc => ?_, by rw [set_keys e]; exact h.nd⟩
  obtain ⟨j, hj, ej⟩ := List.getElem_of_mem hc
  by_cases hij : j = i
  · subst hij
    rw [List.getElem_set_self] at ej
    subst ej; exact upd_same
  · rw [List.getElem_set_ne (Ne.symm hij)] at ej
    have hj' : j < T.length := by simpa using hj
    have e1 : T[j]? = some c := by rw [List.getElem?_eq_getElem hj', ej]
    have hne : c.1 ≠ p := fun z => by
      have k1 : (T.map (·.1))[j]? = some c.1 := by rw [List.getElem?_map, e1]; rfl
      have k2 : (T.map (·.1))[i]? = some p := by rw [List.getElem?_map, e]; rfl
      rw [z] at k1
      exact hij (nd_ix h.nd k1 k2)
    rw [upd_ne hne]
    exact h.ok c (List.mem_of_getElem? e1)
theorem set_app {α : Type} {x : α} : ∀ {A T : List α} {i : Nat}, (A ++ T).set (A.length + i) x = A ++ T.set i x
  | [], T, i => by simp
  | a :: A, T, i => by
    have ih := set_app (x := x) (A := A) (T := T) (i := i)
    have e : (a :: A).length + i = (A.length + i) + 1 := by simp; omega
    rw [e]
    show a :: (A ++ T).set (A.length + i) x = _
    rw [ih]; rfl
theorem Has.set {H : Hp} {A T : Cells} (h : Has H (A ++ T)) (i : Nat) {p : Addr} {o : HO} (e : T[i]? = some (p, o)) (o' : HO) : Has (upd H p o') (A ++ T.set i (p, o')) := by
  have e1 : (A ++ T)[A.length + i]? = some (p, o) := by rw [List.getElem?_append_right (by omega)]; simpa using e
  have := h.set0 _ e1 o'
  rwa [set_app] at this
theorem Has.ne {H : Hp} {L : Cells} (h : Has H L) {p q : Addr} {o u : HO} (hp : (p, o) ∈ L) (hq : H q = none) : p ≠ q := ne_of_none (h.mem hp) hq

/-- tuples stay -/
def KeepT (H H' : Hp) : Prop := ∀ b xs, H b = some (.tup xs) → H' b = some (.tup xs)
theorem KeepT.refl (H : Hp) : KeepT H H := fun _ _ e => e
theorem KeepT.trans {H H1 H2 : Hp} (a : KeepT H H1) (b : KeepT H1 H2) : KeepT H H2 := fun c xs e => b c xs (a c xs e)
/-- every promise may be read so: the tuples stay -/
theorem keep_t {P : Program} {w : World} {K : PySem.W.Frag} {mg : Str → Option Value} {base : Heap} {CX : CXT} {k : Nat} {f : Addr} {fd : FuncData} {ps : List Str} {sp : Sp} (F : FnOk P w K mg base CX k f fd ps sp) :
    FnOk P w K mg base CX k f fd ps (fun vs H Q E => sp vs H (fun v H' => KeepT H H' → Q v H') E) := by
  refine ⟨fun vs H Q E q => F.len _ _ _ _ q, fun A outer s H args us vs Q E hr he hb hv hs => ?_⟩
  refine codeAny_mono (F.run A outer s H args us vs _ E hr he hb hv hs) fun r s' q => ?_
  cases r with
  | error e => exact q
  | ok fl =>
    cases fl with
    | ret u =>
      obtain ⟨v, H', e1, e2, un, e3, e4, e5⟩ := q
      exact ⟨v, H', e1, e2, un, e3, e4, e5 un.tups⟩
    | next => exact q
    | brk => exact q
    | cont => exact q
end SH
set_option Elab.async false
set_option linter.all false
set_option maxRecDepth 100000
namespace SH
open PySem PySem.Spec PyProof.Rows L2
def top (i : Nat) : Stmt := PySem.Challenge.pw_surfacehall_k17_written_and_read.main.body.getD i (.Pass ⟨0, 0, 0, 0⟩)
theorem Has.assoc {H : Hp} {A B C : Cells} (h : Has H ((A ++ B) ++ C)) : Has H (A ++ (B ++ C)) := by rwa [List.append_assoc] at h
theorem Has.unassoc {H : Hp} {A B C : Cells} (h : Has H (A ++ (B ++ C))) : Has H ((A ++ B) ++ C) := by rwa [← List.append_assoc] at h
/-- a new instance and its dict -/
theorem small {n : Nat} (h : n ≤ 1000) : n ≤ sizeLine := Nat.le_of_lt (small1000 h)
theorem Has.newAt {H : Hp} {A B C : Cells} (h : Has H (A ++ (B ++ C))) {p : Addr} (hp : H p = none) (o : HO) : Has (upd H p o) (A ++ (B ++ (p, o) :: C)) := (h.unassoc.new hp o).assoc
theorem Has.re {H : Hp} {L L' : Cells} (h : Has H L) (e : L = L') : Has H L' := e ▸ h
theorem Same.new {H : Hp} {p : Addr} (o : HO) (h : H p = none) : Same H (upd H p o) := fun b u e => by rw [upd_ne (ne_of_none e h)]; exact e
theorem Same.mut {H H' : Hp} {p : Addr} (o : HO) (s : Same H H') (h : H p = none) : Same H (upd H' p o) := fun b u e => by rw [upd_ne (ne_of_none e h)]; exact s b u e
theorem Same.has {H H' : Hp} {L : Cells} (s : Same H H') (h : Has H L) : Has H' L := ⟨fun c hc => s _ _ (h.ok c hc), h.nd⟩
theorem upd_tup {H : Hp} {p : Addr} {o : HO} (h : ∀ xs, H p ≠ some (.tup xs)) : ∀ b xs, H b = some (.tup xs) → upd H p o b = some (.tup xs) := fun b xs e => by
  rw [upd_ne]
  · exact e
  · intro z; rw [z] at e; exact h xs e
theorem Has.add {H H' : Hp} {L : Cells} (h : Has H L) {l : Addr} {o : HO} (hl : H l = none) (s : ∀ b o, H b = some o → H' b = some o) (e : H' l = some o) : Has H' ((l, o) :: L) := by
  refine ⟨fun p hp => ?_, ?_⟩
  · rcases List.mem_cons.mp hp with z | z
    · subst z; exact e
    · exact s _ _ (h.ok p z)
  · rw [List.map_cons, List.nodup_cons]
    exact ⟨h.fresh hl, h.nd⟩
theorem Has.same {H H' : Hp} {L : Cells} (h : Has H L) (s : Same H H') : Has H' L := ⟨fun p hp => s _ _ (h.ok p hp), h.nd⟩
theorem KeepT.same {H H' : Hp} (s : Same H H') : KeepT H H' := fun b xs e => s _ _ e
theorem out_it {J : It} {n : Nat} {G : Hp → Prop} {Y : Nat → Hp → V → Hp → Prop} (w : Walk J n G Y) {B : V → Hp → (Hp → Prop) → Prop} {Qd : Hp → Prop} {H0 : Hp} (Pv : Nat → Hp → Prop) (h0 : Pv 0 H0) (hG : ∀ i H, i ≤ n → Pv i H → G H)
    (hs : ∀ i x H H', i < n → Pv i H → Y i H x H' → B x H' (Pv (i + 1))) (hd : ∀ H, Pv n H → Qd H) :
    ∃ W : Nat → Nat → Hp → Prop, (∃ m, W 0 m H0) ∧ ∀ i m H, W i m H →
      (J.stop i H ∧ Qd H) ∨ (J.go i H ∧ ∃ Nx : Hp → Prop, (∀ H', Nx H' → ∃ m', m' < m ∧ W (i + 1) m' H') ∧ ∀ x H', J.yld i H x H' → B x H' Nx) := by
  refine ⟨fun i m H => m = n - i ∧ i ≤ n ∧ Pv i H, ⟨n, by simp, Nat.zero_le _, h0⟩, ?_⟩
  rintro i m H ⟨rfl, hi, p⟩
  have q := hG i H hi p
  by_cases hlt : i < n
  · refine .inr ⟨w.goes i H hlt q, Pv (i + 1), fun H' p' => ⟨n - (i + 1), by omega, rfl, hlt, p'⟩, fun x H' y => hs i x H H' hlt p (w.yields i H x H' hlt q y)⟩
  · have e : i = n := by omega
    subst e
    exact .inl ⟨w.stops H q, hd H p⟩
theorem paired_ix {α β : Type} {R : α → β → Prop} : ∀ {xs : List α} {ys : List β} {i : Nat} {x : α} {y : β}, Paired R xs ys → xs[i]? = some x → ys[i]? = some y → R x y
  | _, _, _, _, _, .nil, h, _ => by simp at h
  | _, _, 0, _, _, .cons r _, h, h' => by simp at h h'; subst h; subst h'; exact r
  | _, _, i + 1, _, _, .cons _ t, h, h' => paired_ix (i := i) t (by simpa using h) (by simpa using h')
theorem paired_len {α β : Type} {R : α → β → Prop} : ∀ {xs : List α} {ys : List β}, Paired R xs ys → xs.length = ys.length
  | _, _, .nil => rfl
  | _, _, .cons _ t => by simp [paired_len t]
theorem paired_snoc {α β : Type} {R : α → β → Prop} {xs : List α} {ys : List β} {a : α} {b : β} (h : Paired R xs ys) (r : R a b) : Paired R (xs ++ [a]) (ys ++ [b]) := by
  induction h with
  | nil => exact .cons r .nil
  | cons a _ ih => exact .cons a ih
inductive Lt where
  | make (n : Int) | drop (n : Int) | size (n w h : Int) | paint (n x y w h m : Int) | place (n x y : Int) | rank (n r : Int) | veil (n : Int) | unveil (n : Int) | tie (n o : Int) | show (n : Int) | hold (n : Int) | let_
  deriving DecidableEq
def Lt.word : Lt → Str
  | .make _ => "make" | .drop _ => "drop" | .size .. => "size" | .paint .. => "paint" | .place .. => "place" | .rank .. => "rank" | .veil _ => "veil" | .unveil _ => "unveil" | .tie .. => "tie" | .show _ => "show" | .hold _ => "hold" | .let_ => "let"
def Lt.nums : Lt → List Int
  | .make n => [n] | .drop n => [n] | .size n w h => [n, w, h] | .paint n x y w h m => [n, x, y, w, h, m] | .place n x y => [n, x, y] | .rank n r => [n, r] | .veil n => [n] | .unveil n => [n] | .tie n o => [n, o] | .show n => [n] | .hold n => [n] | .let_ => []
def Lt.vals (l : Lt) : List V := .str l.word :: l.nums.map V.int
def Lt.bnds : Lt → List (Int × Int)
  | .make _ => [(0, 9)] | .drop _ => [(0, 9)] | .size .. => [(0, 9), (1, 12), (1, 8)] | .paint .. => [(0, 9), (0, 11), (0, 7), (1, 12), (1, 8), (0, 9)] | .place .. => [(0, 9), (-20, 20), (-20, 20)] | .rank .. => [(0, 9), (0, 9)]
  | .veil _ => [(0, 9)] | .unveil _ => [(0, 9)] | .tie .. => [(0, 9), (0, 9)] | .show _ => [(0, 9)] | .hold _ => [(0, 9)] | .let_ => []
def Lt.ok (l : Lt) : Prop := ∀ p ∈ l.nums.zip l.bnds, p.2.1 ≤ p.1 ∧ p.1 ≤ p.2.2
def RowAt (H : Hp) (row : List Addr) (zs : List Lt) : Prop := Paired (fun (t : Addr) (z : Lt) => H t = some (.tup z.vals)) row zs
theorem RowAt.keep {H H' : Hp} {row : List Addr} {zs : List Lt} (h : RowAt H row zs) (k : KeepT H H') : RowAt H' row zs := Paired.mapP h fun _ _ e => k _ _ e
theorem RowAt.new {H : Hp} {ts : List Addr} {zs : List Lt} {p : Addr} {z : Lt} (h : RowAt H ts zs) (hp : H p = none) : RowAt (upd H p (.tup z.vals)) (ts ++ [p]) (zs ++ [z]) := by
  unfold RowAt at h ⊢
  induction h with
  | nil => exact .cons upd_same .nil
  | cons a t ih => exact .cons (by rw [upd_ne (ne_of_none a hp)]; exact a) ih
theorem RowAt.same {H H' : Hp} {ts : List Addr} {zs : List Lt} (r : RowAt H ts zs) (s : Same H H') : RowAt H' ts zs := r.keep (KeepT.same s)
theorem RowAt.wr {H : Hp} {ts : List Addr} {zs : List Lt} {p : Addr} {xs : List V} (r : RowAt H ts zs) (h : H p = some (.lst xs)) (o : HO) : RowAt (upd H p o) ts zs := r.keep (upd_tup fun ys e => by rw [h] at e; cases e)

/-! d.update(e), e a dict with such keys; t * 1 -/
section
variable {X : Cx} {pins : List (Addr × Obj)} {σ : L2.St} {H : Hp} {s : Shared} {a b : Addr} {kvs more : List (Key × V)} {A : Around} {E : Value → Shared → Prop}
theorem d_update {Q : Value → Shared → Prop} (I : Inv X pins σ H s) (e : H a = some (.dK kvs)) (e2 : H b = some (.dK more)) (ne : a ≠ b) (hz : kvs.length + more.length ≤ sizeLine)
    (h : ∀ s', Inv X pins σ (upd H a (.dK (mergeK kvs more))) s' → Q .none s') : wpAny (model X.prog X.w) A (call (.builtin "dict.update") [.ref a, .ref b]) Q E s := by
  obtain ⟨z, hd, vs, rel, dd⟩ := dk_of I.hok e
  obtain ⟨z2, hd2, vs2, rel2, dd2⟩ := dk_of I.hok e2
  refine call_meetsIn PySem.F.slot_dict_update dd.typeIs PySem.F.entry_dict_update (PySem.F.args_dict_update_2 _ _) (meets_dict_update (mixKind X.prog X.w) a b ne hd2)
    ⟨vs, vs2, dd, dd2, by rw [← rel.length, ← rel2.length]; exact hz, fun h' dd' _ hs => h _ ?_⟩
  have he : ∃ q, h'.get? a = some q := let ⟨q, _, _, hq, _⟩ := dd'; ⟨q, hq⟩
  exact d_write I (by rw [e]; exact True.intro) hs he (dk_new (Nat.le_trans (length_mergeK more kvs) hz) hd (KV.merge rel2 rel) dd')
end
def tDUpd (td ty : TE) : TE := fun σ H Q => td σ H fun x H1 => ∃ a, x = .ref a ∧ IsD H1 a ∧ ty σ H1 fun y H2 => ∃ b kvs more, y = .ref b ∧ H2 a = some (.dK kvs) ∧ H2 b = some (.dK more) ∧ a ≠ b ∧ kvs.length + more.length ≤ sizeLine ∧ Q .non (upd H2 a (.dK (mergeK kvs more)))
section
variable {X : Cx} {o e : Expr} {apos cpos : Pos} {td ty : TE}
theorem pe_dupd (ho : PE X o td) (he : PE X e ty) (m : M1 X o "update" apos e cpos) : PE X (.Call (.Attribute o "update" apos) [e] [] cpos) (tDUpd td ty) := by
  refine ⟨fun pins s σ H Q I h => ?_⟩
  refine wpAny_Call_method m.base m.few m.line PySem.F.plainAttrs_dict PySem.F.slot_dict_update PySem.F.type_dict_update (thn (ho.run pins s σ H _ I h) fun u s1 ⟨x, H1, I1, rx, a, ex, d, q1⟩ => ?_)
  subst ex
  obtain rfl : u = Value.ref a := rx
  obtain ⟨t1, t2, _⟩ := isD_at I1 d
  refine ⟨t1, t2, ?_⟩
  rw [m.trees]
  refine Calls.callWith_builtin rfl (Calls.evalArgs_plain (Calls.spliced_cons (thn (he.run pins s1 σ H1 _ I1 q1) fun iv s2 ⟨y, H2, I2, ry, b, kvs, more, ey, e1, e2, ne, hz, q2⟩ => Calls.spliced_nil ?_)))
  subst ey
  obtain rfl : iv = Value.ref b := ry
  exact d_update I2 e1 e2 ne hz fun s3 I3 => ⟨.non, _, I3, rfl, q2⟩
end
theorem tuple_mul1 (l : Addr) (items : Array Value) (n : Nat) (dd : Option Addr) (sl : Array (Option Value)) (u : Tok) :
    Meets (Builtin.«tuple.__mul__» ⟨[.ref l, .int 1 u], []⟩) (fun _ R s => s.heap.get? l = some { cls := .type "tuple", dict := dd, data := .seq items n, slots := sl } ∧ R (.ok (.ret (Value.ref l))) s) :=
  .of_wp fun prog w A R s h => by
    obtain ⟨hp, g, d, tk, os⟩ := s
    obtain ⟨hl, h⟩ := h
    have f1 := AutoSeq1.idx_int
    have c1 : (items.isEmpty || (1 : Int) == 1) = true := by simp
    wp_walk using wpAny_loadPart' hl
    exact ⟨_, rfl, h⟩
/-- t * k for 1 ≤ k -/
def rRepA (K : PySem.W.Frag) : R2 := fun x y H Q => ∃ l k xs, x = .ref l ∧ y = .int k ∧ SqT K H l xs ∧ xs ≠ [] ∧ 1 ≤ k ∧ k ≤ 1000 ∧ xs.length ≤ 1000 ∧ (k = 1 → Q (.ref l) H) ∧ (k ≠ 1 → ∀ p, H p = none → Q (.ref p) (upd H p (.tup (List.replicate k.toNat xs).flatten)))
theorem op_repA {X : Cx} : OpR X (binaryOp .Mult) (rRepA X.K) := by
  intro pins s σ H x y v u Q I rx ry h
  obtain ⟨l, k, xs, rfl, rfl, hT, hne, h1, h2, hz, q1, q2⟩ := h
  by_cases hk : k = 1
  · subst hk
    cases rx
    obtain ⟨t, rfl⟩ := ry
    obtain ⟨its, r, ⟨⟨cls, dd, data, sl⟩, ho, hc, n, hd⟩, hs⟩ := I.tuple hT
    simp only at hc hd
    subst hc hd
    exact wpAny_binaryOp_repeat_ref (T := "tuple") (U := "int") (by decide) ⟨_, ho, rfl⟩ (fun s' => typeIs_int s' 1 t) noFill_tuple_mul F.fills_int_mul F.slot_int_rmul repeat_tuple F.slot_int_index.lookup
      (call_meets F.slot_int_rmul (typeIs_int s 1 t) F.entry_int_rmul (F.args_int_rmul_2 _ _) (int_rmul_tuple 1 t l its.toArray n dd sl)
        ⟨ho, rfl, ⟨_, ho, rfl⟩, call_meets F.slot_tuple_mul ⟨_, ho, rfl⟩ F.entry_tuple_mul (F.args_tuple_mul_2 _ _) (tuple_mul1 l its.toArray n dd sl t) ⟨ho, ⟨.ref l, H, I, rfl, q1 rfl⟩⟩⟩)
  · exact op_repT pins s σ H _ _ v u Q I rx ry ⟨l, k, xs, rfl, rfl, hT, hne, by omega, h2, hz, q2 hk⟩
end SH
set_option Elab.async false
set_option linter.all false
set_option maxRecDepth 100000
namespace SH
open PySem PySem.Spec PyProof.Rows L2
/-- d.get(k) of a written dict -/
def tKGet (K : PySem.W.Frag) (w : World) (td ty : TE) : TE := fun σ H Q => td σ H fun x H1 => ∃ a es n, x = .ref a ∧ KDict K w a es n ∧ ty σ H1 fun y H2 => ∃ (z : Str) (r : Option Value) (v0 : V), y = .str z ∧ PySem.W.nsIn K a z = some r ∧ RelV v0 (r.getD .none) ∧ Q v0 H2
theorem pe_kget {X : Cx} {o e : Expr} {apos cpos : Pos} {td ty : TE} (ho : PE X o td) (he : PE X e ty) (m : M1 X o "get" apos e cpos) : PE X (.Call (.Attribute o "get" apos) [e] [] cpos) (tKGet X.K X.w td ty) := by
  refine ⟨fun pins s σ H Q I h => ?_⟩
  refine wpAny_Call_method m.base m.few m.line PySem.F.plainAttrs_dict PySem.F.slot_dict_get PySem.F.type_dict_get (thn (ho.run pins s σ H _ I h) fun u s1 ⟨x, H1, I1, rx, a, es, n, ex, D, q1⟩ => ?_)
  subst ex
  obtain rfl : u = Value.ref a := rx
  refine ⟨kd_type D I1, fun b q => ?_, ?_⟩
  · cases q
    exact ⟨_, I1.kIn a _ D.at_, rfl⟩
  rw [m.trees]
  refine Calls.callWith_builtin rfl (Calls.evalArgs_plain (Calls.spliced_cons (thn (he.run pins s1 σ H1 _ I1 q1) fun iv s2 ⟨y, H2, I2, ry, z, r, v0, ey, en, rv, q2⟩ => Calls.spliced_nil ?_)))
  subst ey
  obtain ⟨t, rfl⟩ := ry
  refine call_meetsIn PySem.F.slot_dict_get (kd_type D I2) PySem.F.entry_dict_get (PySem.F.args_dict_get_2 _ _) (meets_dict_get (PySem.strKind X.prog X.w) a (PySem.strKind_is X.prog X.w z t) D.low) ⟨_, PySem.W.mapOf_K (prog := X.prog) I2.kIn D.at_ D.lit, ?_⟩
  refine ⟨v0, H2, I2.tok _, ?_, q2⟩
  rw [PySem.W.find_K D.at_ en]
  exact rv
def KTup (K : PySem.W.Frag) (a : Addr) (xs : List V) : Prop := ∃ (o : Obj) (its : Array Value) (n : Nat), K.lookup a = some o ∧ o.cls = .type "tuple" ∧ o.data = .seq its n ∧ its.size ≤ sizeLine ∧ Vals xs its.toList
theorem KTup.sq {K : PySem.W.Frag} {a : Addr} {xs : List V} (h : KTup K a xs) (H : Hp) : SqT K H a xs := .inr h
/-- the written bounds of a word -/
def KB (K : PySem.W.Frag) (tb : Addr) (l : List (Int × Int)) : Prop := ∃ ts : List Addr, KTup K tb (ts.map V.ref) ∧ Paired (fun (t : Addr) (p : Int × Int) => KTup K t [.int p.1, .int p.2]) ts l
abbrev sWithin : Stmt := top 8
abbrev sAre : Stmt := top 9
abbrev sIsLet : Stmt := top 10
structure TxtF (K : PySem.W.Frag) (w : World) (mg : Str → Option Value) : Prop where
  isinst : mg "isinstance" = none
  bool : mg "bool" = none
  int : mg "int" = none
  tuple : mg "tuple" = none
  len : mg "len" = none
  all : mg "all" = none
  zip : mg "zip" = none
  lets : ∃ d es n, mg "LETTERS" = some (.ref d) ∧ KDict K w d es n ∧ ∀ z : Lt, ∃ tb, PySem.W.nsIn K d z.word = some (some (.ref tb)) ∧ KB K tb z.bnds
section
variable {P : Program} {w : World} {K : PySem.W.Frag} {mg : Str → Option Value} {base : Heap}
theorem scWithin : FnScope ["value", "least", "greatest"] ["value", "least", "greatest"] (defScope sWithin) := ⟨rfl, rfl, rfl, by decide +kernel, rfl, by decide +kernel, by decide +kernel⟩
def spWithin : Sp := fun vs H Q _ => ∃ (v lo hi : Int), vs = [.int v, .int lo, .int hi] ∧ Q (.bl (decide (lo ≤ v) && decide (v ≤ hi))) H
theorem tyInt {K : PySem.W.Frag} {H : Hp} {i : Int} : TyX K H (.int i) (.type "int") := .base (by first | exact TyOf.int _ | constructor)
theorem ok_within {f : Addr} {fd : FuncData} (F : Fun K "is_within" "is_within" sWithin f fd) (T : TxtF K w mg) : FnOk P w K mg base CX0 1 f fd ["value", "least", "greatest"] spWithin := by
  refine F.ok scWithin (fun vs H Q E h => ?_) (fun cdv A0 outer s0 H vs Q E hr h => ?_)
  · obtain ⟨v, lo, hi, rfl, _⟩ := h
    rfl
  · obtain ⟨v, lo, hi, rfl, k⟩ := h
    refine ⟨_, pss_cons (ps_if (PW.pt (pw_or (pt_val (pe_callB call_isi (by rfl) T.isinst (by decide +kernel) (pa_cons (pv 0) (pa_cons (pe_bltn (v := .ty "bool") (by rfl) T.bool (by decide +kernel) rfl) pa_nil))))
      (pw_or1 (pt_not (pt_val (pe_callB call_isi (by rfl) T.isinst (by decide +kernel) (pa_cons (pv 0) (pa_cons (pe_bltn (v := .ty "int") (by rfl) T.int (by decide +kernel) rfl) pa_nil)))))))) (pss_one (ps_ret pe_bl)) pss_nil)
      (pss_one (ps_ret (pe_chain op_le op_le (pv 1) (pv 0) (pv 2)))), ?_⟩
    refine ⟨_, rfl, _, _, _, _, false, rfl, by first | exact .ty _ | constructor, tyInt, kit_ty (by decide +kernel), _, rfl, iteF ?_⟩
    refine ⟨_, rfl, _, _, _, _, true, rfl, by first | exact .ty _ | constructor, tyInt, kit_ty (by decide +kernel), _, rfl, iteF ?_⟩
    refine ⟨_, rfl, _, rfl, _, _, rfl, rfl, _, rfl, ?_⟩
    refine ite2 (fun c => ?_) (fun c => ?_)
    · rw [of_decide_eq_true c |> decide_eq_true] at k
      refine ⟨_, rfl, _, _, rfl, rfl, ?_⟩
      simpa using k
    · have c' : decide (lo ≤ v) = false := by simpa using c
      rw [c'] at k
      exact k
end
end SH
set_option Elab.async false
set_option linter.all false
set_option maxRecDepth 100000
namespace SH
open PySem PySem.Spec PyProof.Rows L2 RZ
theorem walk_zipT {K : PySem.W.Frag} {a b : Addr} {xs ys : List V} {n : Nat} (hn : n = min xs.length ys.length) : Walk (ItzT K a b) n (fun H => SqT K H a xs ∧ SqT K H b ys) (YPair (fun i => xs[i]?) (fun i => ys[i]?)) := by
  subst hn
  refine ⟨fun i _ hi q => ?_, fun _ q => ⟨xs, ys, q.1, q.2, by omega⟩, fun i H v H' _ q y => ?_⟩
  · have h1 : i < xs.length := by omega
    have h2 : i < ys.length := by omega
    exact ⟨xs, ys, xs[i], ys[i], q.1, q.2, by simp [h1], by simp [h2]⟩
  · obtain ⟨T, x, z, h1, h2, h3, h4, h5⟩ := y
    exact ⟨T, x, z, h1, h2, h3, h4 xs q.1, h5 ys q.2⟩
def inB (ns : List Int) (bs : List (Int × Int)) : Bool := decide (ns.length = bs.length) && (ns.zip bs).all fun p => decide (p.2.1 ≤ p.1) && decide (p.1 ≤ p.2.2)
section
variable {P : Program} {w : World} {K : PySem.W.Frag} {mg : Str → Option Value} {base : Heap}
abbrev nAre : List Str := ["numbers", "bounds", "number", "least", "greatest"]
theorem scAre : FnScope nAre ["numbers", "bounds"] (defScope sAre) := ⟨rfl, rfl, rfl, by decide +kernel, rfl, by decide +kernel, by decide +kernel⟩
def spAre (K : PySem.W.Frag) : Sp := fun vs H Q _ => ∃ (tn tb : Addr) (ns : List Int) (bs : List (Int × Int)), vs = [.ref tn, .ref tb] ∧ H tn = some (.tup (ns.map V.int)) ∧ ns.length ≤ 20 ∧ KB K tb bs ∧ ∀ H', Same H H' → Q (.bl (inB ns bs)) H'
theorem ok_are {f fW : Addr} {fd fdW : FuncData} (F : Fun K "are_within" "are_within" sAre f fd) (T : TxtF K w mg) (FW : Fun K "is_within" "is_within" sWithin fW fdW) (bW : Binds K fdW ["value", "least", "greatest"] []) (gW : mg "is_within" = some (.ref fW)) :
    FnOk P w K mg base CX0 2 f fd ["numbers", "bounds"] (spAre K) := by
  have GW := ok_within (P := P) (w := w) (mg := mg) (base := base) FW T
  refine F.ok scAre (fun vs H Q E h => ?_) (fun cdv A0 outer s0 H vs Q E hr h => ?_)
  · obtain ⟨tn, tb, ns, bs, rfl, _⟩ := h
    rfl
  · obtain ⟨tn, tb, ns, bs, rfl, hn, hnl, ⟨ts, hts, hp⟩, k⟩ := h
    have hpl := paired_len hp
    refine ⟨_, pss_cons (ps_if (pt_cmpR op_ne (pe_callB call_len_seq (by rfl) T.len PySem.boot_len (pa_cons (pv 0) pa_nil)) (pe_callB call_len_seq (by rfl) T.len PySem.boot_len (pa_cons (pv 1) pa_nil)) (nomark _)) (pss_one (ps_ret pe_bl)) pss_nil)
      (pss_one (ps_ret (pe_callB (cr_all rfl) (by rfl) T.all (by decide +kernel) (pa_cons (pe_lc (own := [("number", 2), ("least", 3), ("greatest", 4)])
        (g := gTup K 2 (gCons (gName 2) (gCons (gTup K 2 (gCons (gName 3) (gCons (gName 4) gNil))) gNil))) (te := tCall spWithin [] E0 (tCons (tVar 2) (tCons (tVar 3) (tCons (tVar 4) tNil))))
        (by rfl) scAre.nd (pi_zipA (by rfl) T.zip (pa_cons (pv 0) (pa_cons (pv 1) pa_nil))) (blkOk_by (own := [("number", 2), ("least", 3), ("greatest", 4)]) (N := nAre) (sc := defScope sAre) (by decide +kernel))
        (fun _ _ _ _ _ => pg_tup rfl (pgs_cons (pg_name (i := 2) scAre.nd rfl (Or.inl rfl)) (pgs_cons (pg_tup rfl (pgs_cons (pg_name (i := 3) scAre.nd rfl (Or.inl rfl)) (pgs_cons (pg_name (i := 4) scAre.nd rfl (Or.inl rfl)) pgs_nil))) pgs_nil)))
        (fun _ _ _ _ _ => pts_nil) (fun _ _ _ _ _ => pe_call GW (hr.mono (by decide)) rfl gW FW.kp bW .nil pass0 (pa_cons (pv 2) (pa_cons (pv 3) (pa_cons (pv 4) pa_nil))))) pa_nil)))), ?_⟩
    refine ⟨_, rfl, tn, _, rfl, .inr (SqT.of hn), _, rfl, tb, _, rfl, .inr (hts.sq H), rfl, _, rfl, ?_⟩
    rw [List.length_map, List.length_map, hpl]
    by_cases hl : ns.length = bs.length
    · rw [decide_eq_true (show V.int (ns.length : Int) = V.int (bs.length : Int) by rw [hl])]
      refine iteF ?_
      refine ⟨_, rfl, _, rfl, tn, tb, _, _, rfl, .inr ⟨SqT.of hn, hts.sq H, fun D hD => ?_⟩⟩
      refine lc_it (walk_zipT (xs := ns.map V.int) (ys := ts.map V.ref) (n := ns.length) (by rw [List.length_map, List.length_map, hpl, ← hl]; simp)) (fun i H2 => Same H H2 ∧ H2 D = some (.lst (((ns.zip bs).take i).map fun p => V.bl (decide (p.2.1 ≤ p.1) && decide (p.1 ≤ p.2.2))))) ?_ ?_ ?_ ?_
      · exact ⟨Same.new _ hD, upd_same⟩
      · rintro i H2 _ ⟨s2, _⟩
        exact ⟨SqT.of (s2 _ _ hn), hts.sq H2⟩
      · rintro i x H2 H3 hi ⟨s2, hD2⟩ ⟨Tp, x1, x2, rfl, hT, rfl, e1, e2⟩
        simp only [List.getElem?_map] at e1 e2
        have hib : i < bs.length := by omega
        have hit : i < ts.length := by omega
        rw [List.getElem?_eq_getElem hi] at e1
        rw [List.getElem?_eq_getElem hit] at e2
        obtain rfl : V.int ns[i] = x1 := Option.some.inj e1
        obtain rfl : V.ref ts[i] = x2 := Option.some.inj e2
        have hk := paired_ix hp (List.getElem?_eq_getElem hit) (List.getElem?_eq_getElem hib)
        refine ⟨Tp, _, rfl, SqT.of upd_same, rfl, _, _, rfl, _, _, rfl, ⟨ts[i], _, rfl, hk.sq _, rfl, _, _, rfl, _, _, rfl, rfl, ?_⟩⟩
        refine ⟨rfl, rfl, ?_⟩
        refine ⟨_, rfl, _, rfl, _, rfl, ns[i], bs[i].1, bs[i].2, rfl, ?_⟩
        have hD3 : upd H2 Tp (.tup [V.int ns[i], V.ref ts[i]]) D = some (.lst (((ns.zip bs).take i).map fun p => V.bl (decide (p.2.1 ≤ p.1) && decide (p.1 ≤ p.2.2)))) := by
          rw [upd_ne (ne_of_none hD2 hT)]; exact hD2
        refine ⟨_, hD3, ?_, ?_, ?_⟩
        · rw [List.length_map, List.length_take]; exact small1000 (by omega)
        · exact Same.mut _ (Same.mut _ s2 (s2.free hT)) hD
        · rw [upd_same, List.take_add_one]
          have e3 : (ns.zip bs)[i]? = some (ns[i], bs[i]) := by rw [List.getElem?_zip_eq_some (z := (ns[i], bs[i])) |>.mpr ⟨List.getElem?_eq_getElem hi, (List.getElem?_eq_getElem hib : bs[i]? = some bs[i])⟩]
          rw [e3, List.map_append]; rfl
      · rintro H2 ⟨s2, hD2⟩
        have e4 : (ns.zip bs).take ns.length = ns.zip bs := List.take_of_length_le (by rw [List.length_zip]; omega)
        rw [e4] at hD2
        refine ⟨D, (ns.zip bs).map fun p => decide (p.2.1 ≤ p.1) && decide (p.1 ≤ p.2.2), rfl, SqL.of (by rw [hD2, List.map_map]; rfl), ?_⟩
        have e5 : inB ns bs = ((ns.zip bs).map fun p => decide (p.2.1 ≤ p.1) && decide (p.1 ≤ p.2.2)).all id := by
          unfold inB
          rw [decide_eq_true hl, List.all_map]; rfl
        have k := k H2 s2
        rw [e5] at k
        exact k
    · rw [decide_eq_false (show ¬ V.int (ns.length : Int) = V.int (bs.length : Int) from fun z => hl (by have := V.int.inj z; omega))]
      have e5 : inB ns bs = false := by unfold inB; rw [decide_eq_false hl]; rfl
      have k := k H (Same.refl H)
      rw [e5] at k
      exact k
end
end SH
set_option Elab.async false
set_option linter.all false
set_option maxRecDepth 100000
namespace SH
open PySem PySem.Spec PyProof.Rows L2
theorem Lt.len (z : Lt) : z.nums.length = z.bnds.length := by cases z <;> rfl
theorem Lt.ok_inB {z : Lt} (h : z.ok) : inB z.nums z.bnds = true := by
  unfold inB
  rw [decide_eq_true z.len, Bool.true_and, List.all_eq_true]
  intro p hp
  have := h p hp
  rw [decide_eq_true this.1, decide_eq_true this.2]; rfl
theorem Lt.nlen (z : Lt) : z.nums.length ≤ 6 := by cases z <;> simp [Lt.nums]
section
variable {P : Program} {w : World} {K : PySem.W.Frag} {mg : Str → Option Value} {base : Heap}
theorem scIsLet : FnScope ["letter", "bounds"] ["letter"] (defScope sIsLet) := ⟨rfl, rfl, rfl, by decide +kernel, rfl, by decide +kernel, by decide +kernel⟩
def spIsLet : Sp := fun vs H Q _ => ∃ (t : Addr) (z : Lt), vs = [.ref t] ∧ H t = some (.tup z.vals) ∧ z.ok ∧ ∀ H', Same H H' → Q (.bl true) H'
theorem ok_isLet {f fA : Addr} {fd fdA : FuncData} (F : Fun K "is_letter" "is_letter" sIsLet f fd) (T : TxtF K w mg)
    (GA : FnOk P w K mg base CX0 2 fA fdA ["numbers", "bounds"] (spAre K)) (bA : Binds K fdA ["numbers", "bounds"] []) (gA : mg "are_within" = some (.ref fA)) (kA : PySem.W.keepIn K (.ref fA) = true) :
    FnOk P w K mg base CX0 3 f fd ["letter"] spIsLet := by
  obtain ⟨d, es, n, gL, KD, hL⟩ := T.lets
  refine F.ok scIsLet (fun vs H Q E h => ?_) (fun cdv A0 outer s0 H vs Q E hr h => ?_)
  · obtain ⟨t, z, rfl, _⟩ := h
    rfl
  · obtain ⟨t, z, rfl, ht, hz, k⟩ := h
    obtain ⟨tb, h1, h2⟩ := hL z
    refine ⟨_, pss_cons (ps_if (PW.pt (pw_or (pt_not (pt_val (pe_callB call_isi (by rfl) T.isinst (by decide +kernel) (pa_cons (pv 0) (pa_cons (pe_bltn (v := .ty "tuple") (by rfl) T.tuple (by decide +kernel) rfl) pa_nil)))))
        (pw_or1 (pt_cmpR op_eq (pe_callB call_len_seq (by rfl) T.len PySem.boot_len (pa_cons (pv 0) pa_nil)) pe_int (nomark _))))) (pss_one (ps_ret pe_bl)) pss_nil)
      (pss_cons (ps_set (i := 1) scIsLet.nd rfl (Or.inl rfl) (pe_kget (pe_glob rfl gL (v := .ref d) rfl) (pe_ix ix_tup (pv 0) pe_int (fun _ _ => rfl)) ⟨rfl, rfl, rfl, rfl⟩))
      (pss_one (ps_ret (pe_and (pe_cmpR op_notN (pv 1) pe_non (nomark _)) (pe_one (pe_call GA hr rfl gA kA bA .nil pass0 (pa_cons (pe_slice sl_tup (pv 0) (po_some pe_int) po_none) (pa_cons (pv 1) pa_nil)))))))), ?_⟩
    refine ⟨_, rfl, _, _, _, _, true, rfl, by first | exact .ty _ | constructor, .base (.tup ht), kit_ty (by decide +kernel), _, rfl, iteF ?_⟩
    refine ⟨_, rfl, t, _, rfl, .inr (SqT.of ht), rfl, _, rfl, ?_⟩
    have e0 : decide (V.int ((z.vals.length : Nat) : Int) = V.int 0) = false := decide_eq_false (fun q => by have := V.int.inj q; unfold Lt.vals at this; simp at this; omega)
    rw [e0]
    refine iteF ?_
    refine ⟨d, es, n, rfl, KD, _, rfl, _, _, _, V.str z.word, rfl, rfl, SqT.of ht, at_of (j := 0) rfl rfl, z.word, _, V.ref tb, rfl, h1, rfl, ?_⟩
    refine ⟨_, rfl, rfl, _, rfl, ?_⟩
    refine iteT ?_
    refine ⟨_, rfl, _, rfl, t, _, rfl, SqT.of ht, ?_, fun p hp => ?_⟩
    · intro q
      have := q.1
      revert this
      unfold Lt.vals
      simp [HT.sIx]
    · refine ⟨_, rfl, p, tb, z.nums, z.bnds, rfl, ?_, Nat.le_trans z.nlen (by decide), h2, fun H' s => ?_⟩
      · rw [upd_same]
        congr 2
        cases z <;> rfl
      · rw [Lt.ok_inB hz]
        exact k H' ((Same.new _ hp).trans s)
end
end SH
set_option Elab.async false
set_option linter.all false
set_option maxRecDepth 100000
namespace SH
open PySem PySem.Spec PyProof.Rows L2
abbrev sMix : Stmt := top 19
abbrev sNext : Stmt := top 20
structure MixH where
  a : Addr
  cl : Addr
  m : Int
  cells : List Int
  pos : Int
def mixCells (m : MixH) : Cells := [(m.a, .lst [.int m.m, .ref m.cl, .int m.pos]), (m.cl, .lst (m.cells.map V.int))]
structure MixOk (m : MixH) : Prop where
  m0 : 0 ≤ m.m
  m1 : m.m < 2147483648
  len : m.cells.length ≤ 63
  pos : 0 ≤ m.pos
structure TxtM (mg : Str → Option Value) : Prop where
  list : mg "list" = none
  max : mg "max" = none
  len : mg "len" = none
section
variable {P : Program} {w : World} {K : PySem.W.Frag} {mg : Str → Option Value} {base : Heap}
abbrev nMix : List Str := ["_law_script", "_law_seed", "_law_mixed", "_law_cell"]
theorem scMix : FnScope nMix ["_law_script", "_law_seed"] (defScope sMix) := ⟨rfl, rfl, rfl, by decide +kernel, rfl, by decide +kernel, by decide +kernel⟩
def spMix : Sp := fun vs H Q _ => ∃ (sa : Addr) (ns : List Int) (seed : Int), vs = [.ref sa, .int seed] ∧ SqL K H sa (ns.map V.int) ∧ ns.length ≤ 63 ∧ 0 ≤ seed ∧ seed < 2147483648 ∧
  ∀ m H', MixOk m → Has H' (mixCells m) → Q (.ref m.a) H'
theorem ok_mix {f : Addr} {fd : FuncData} (F : Fun K "_law_mix" "_law_mix" sMix f fd) (T : TxtM mg) : FnOk P w K mg base CX0 1 f fd ["_law_script", "_law_seed"] (spMix (K := K)) := by
  refine F.ok scMix (fun vs H Q E h => ?_) (fun cdv A0 outer s0 H vs Q E hr h => ?_)
  · obtain ⟨sa, ns, seed, rfl, _⟩ := h
    rfl
  · obtain ⟨sa, ns, seed, rfl, hs, hl, s0, s1, k⟩ := h
    refine ⟨_, pss_cons (ps_set (i := 2) scMix.nd rfl (Or.inl rfl) (pv 1))
      (pss_cons (ps_for PassesOwn.never rfl (pi_list (pv 0)) (pg_name (i := 3) scMix.nd rfl (Or.inl rfl))
        (pss_one (ps_set (i := 2) scMix.nd rfl (Or.inl rfl) (pe_op op_mod (pe_op op_add (pe_op op_add (pe_op op_mul (pv 2) pe_int) (pe_op op_mod (pv 3) pe_int)) pe_int) pe_int))))
      (pss_one (ps_ret (pe_lst (pa_cons (pv 2) (pa_cons (pe_callTy call_list_of (by rfl) T.list (show bootBuiltins "list" = some (.type "list") by decide +kernel) (pa_cons (pv 0) pa_nil)) (pa_cons pe_int pa_nil))))))), ?_⟩
    refine ⟨_, rfl, ?_⟩
    refine ⟨_, rfl, sa, rfl, ⟨_, hs⟩, for_list (K := K) (a := sa) (xs := ns.map V.int) (fun i σ H1 => H1 = H ∧ ∃ mm c, σ = [some (.ref sa), some (.int seed), some (.int mm), c] ∧ 0 ≤ mm ∧ mm < 2147483648) ⟨rfl, _, _, rfl, s0, s1⟩ (fun i σ H1 _ p => by rw [p.1]; exact hs) ?_ ?_⟩
    · rintro i x σ H1 hx ⟨rfl, mm, c, rfl, m0, m1⟩
      rw [List.getElem?_map] at hx
      cases en : ns[i]? with
      | none => rw [en] at hx; cases hx
      | some n =>
        rw [en] at hx
        obtain rfl : V.int n = x := Option.some.inj hx
        refine ⟨_, rfl, _, _, rfl, rfl, .inl ⟨by omega, by omega⟩, _, rfl, _, _, rfl, rfl, (by show (0 : Int) < 2147483629; decide), _, _, rfl, rfl, _, _, rfl, rfl, _, _, rfl, rfl, (by show (0 : Int) < 2147483647; decide), ?_⟩
        refine ⟨rfl, _, _, rfl, Int.emod_nonneg _ (by decide), Int.lt_trans (Int.emod_lt_of_pos _ (by decide)) (by decide)⟩
    · rintro σ H1 ⟨rfl, mm, c, rfl, m0, m1⟩
      refine ⟨_, rfl, _, rfl, sa, _, rfl, .inl hs, fun cl hcl => ⟨small (by show 3 ≤ 1000; decide), fun a ha => ?_⟩⟩
      refine k ⟨a, cl, mm, ns, 0⟩ _ ⟨m0, m1, hl, by show (0 : Int) ≤ 0; decide⟩ ?_
      have nn : cl ≠ a := ne_of_none upd_same ha
      refine ⟨fun p hp => ?_, ?_⟩
      · rcases List.mem_cons.mp hp with e | e
        · subst e; exact upd_same
        · rw [List.mem_singleton.mp e]
          show upd _ a _ cl = _
          rw [upd_ne nn, upd_same]
      · show [a, cl].Nodup
        simp [nn.symm]
abbrev nNext : List Str := ["_law_h", "_law_many", "_law_at", "_law_cell"]
theorem scNext : FnScope nNext ["_law_h", "_law_many"] (defScope sNext) := ⟨rfl, rfl, rfl, by decide +kernel, rfl, by decide +kernel, by decide +kernel⟩
def spNext : Sp := fun vs H Q _ => ∃ (A B : Cells) (m : MixH) (many : Int), vs = [.ref m.a, .int many] ∧ Has H (A ++ (mixCells m ++ B)) ∧ MixOk m ∧ 1 ≤ many ∧ many ≤ 1000 ∧
  ∀ (r : Int) m' H', 0 ≤ r → r < many → m'.a = m.a → MixOk m' → Has H' (A ++ (mixCells m' ++ B)) → Q (.int r) H'
theorem eqv_nil : ∀ ns : List Int, PyData.eqv (.list (ns.map PyData.int)) (.list []) = decide (ns = []) := fun ns => by
  cases ns with
  | nil => rfl
  | cons n ns => rfl
theorem p18n {c : Int} (h : c < 1000000000000000000) : ¬ (((10 : Int) ^ (18 : Int).toNat) ≤ c) := by
  have : ((10 : Int) ^ (18 : Int).toNat) = 1000000000000000000 := by decide
  omega
theorem p18y {c : Int} (h : 1000000000000000000 ≤ c) : ((10 : Int) ^ (18 : Int).toNat) ≤ c := by
  have : ((10 : Int) ^ (18 : Int).toNat) = 1000000000000000000 := by decide
  omega
theorem dp_ints {H : Hp} : ∀ ns : List Int, DpAll K H (ns.map V.int) (ns.map PyData.int)
  | [] => .nil
  | n :: ns => .cons (.int n) (dp_ints ns)
theorem ok_next {f : Addr} {fd : FuncData} (F : Fun K "_law_next" "_law_next" sNext f fd) (T : TxtM mg) : FnOk P w K mg base CX0 1 f fd ["_law_h", "_law_many"] spNext := by
  refine F.ok scNext (fun vs H Q E h => ?_) (fun cdv A0 outer s0 H vs Q E hr h => ?_)
  · obtain ⟨A, B, m, many, rfl, _⟩ := h
    rfl
  · obtain ⟨A, B, m, many, rfl, hh, ok, y1, y2, k⟩ := h
    refine ⟨_, pss_cons (ps_set (i := 2) scNext.nd rfl (Or.inl rfl) (pe_op op_mod (pe_ix ix_list (pv 0) pe_int (fun _ _ => rfl)) (pe_callB (call_max2 rfl) (by rfl) T.max (by decide +kernel) (pa_cons pe_int (pa_cons (pe_callB call_len_seq (by rfl) T.len PySem.boot_len (pa_cons (pe_ix ix_list (pv 0) pe_int (fun _ _ => rfl)) pa_nil)) pa_nil)))))
      (pss_cons (ps_set (i := 3) scNext.nd rfl (Or.inl rfl) (pe_ifExp (pt_cmpR (op_neD hr.units) (pe_ix ix_list (pv 0) pe_int (fun _ _ => rfl)) (pe_lst pa_nil) (nomark _)) (pe_ix ix_list (pe_ix ix_list (pv 0) pe_int (fun _ _ => rfl)) (pv 2) (fun _ _ => rfl)) pe_int))
      (pss_cons (ps_if (pt_cmpR op_ge (pv 3) (pe_op op_pow pe_int pe_int) (nomark _))
        (pss_cons (ps_asg (pe_op op_fdiv (pv 3) (pv 1)) (pg_sub (pe_ix ix_list (pv 0) pe_int (fun _ _ => rfl)) (pv 2) set_list)) (pss_one (ps_ret (pe_op op_mod (pv 3) (pv 1))))) pss_nil)
      (pss_cons (ps_asg (pe_op op_mod (pe_op op_add (pe_op op_add (pe_op op_mul (pe_ix ix_list (pv 0) pe_int (fun _ _ => rfl)) pe_int) (pe_op op_mul (pv 3) pe_int)) pe_int) pe_int) (pg_sub (pv 0) pe_int set_list))
      (pss_cons (ps_asg (pe_op op_add (pe_ix ix_list (pv 0) pe_int (fun _ _ => rfl)) pe_int) (pg_sub (pv 0) pe_int set_list))
      (pss_one (ps_ret (pe_op op_mod (pe_op op_fdiv (pe_ix ix_list (pv 0) pe_int (fun _ _ => rfl)) pe_int) (pv 1)))))))), ?_⟩
    obtain ⟨ma, mcl, mm, cells, pos⟩ := m
    obtain ⟨m0, m1, hlen, hpos⟩ := ok
    simp only at m0 m1 hlen hpos
    have h0 : H ma = some (.lst [.int mm, .ref mcl, .int pos]) := hh.get 0 rfl
    have h1 : H mcl = some (.lst (cells.map V.int)) := hh.get 1 rfl
    refine ⟨_, rfl, _, _, _, .int pos, rfl, rfl, SqL.of h0, at_of (j := 2) rfl rfl, _, rfl, _, _, _, .ref mcl, rfl, rfl, SqL.of h0, at_of (j := 1) rfl rfl, _, _, rfl, .inl (SqL.of h1), _, _, rfl, _, _, rfl, rfl, ?_, ?_⟩
    · show 0 < (if ((cells.map V.int).length : Int) > 1 then ((cells.map V.int).length : Int) else 1)
      split <;> omega
    generalize hL : (if ((cells.map V.int).length : Int) > 1 then ((cells.map V.int).length : Int) else 1) = L
    have hL1 : 1 ≤ L ∧ (cells ≠ [] → L = (cells.length : Int)) := by
      rw [← hL, List.length_map]
      refine ⟨by split <;> omega, fun hne => ?_⟩
      have : 0 < cells.length := List.length_pos_iff.mpr hne
      split <;> omega
    have ha0 : 0 ≤ pos % L := Int.emod_nonneg _ (by omega)
    have ha1 : pos % L < L := Int.emod_lt_of_pos _ (by omega)
    generalize hat : pos % L = at_ at ha0 ha1
    simp only [hat]
    refine ⟨_, rfl, _, _, _, .ref mcl, rfl, rfl, SqL.of h0, at_of (j := 1) rfl rfl, small (by show 0 ≤ 1000; decide), fun q hq => ?_⟩
    have hh1 := hh.past hq (.lst [])
    have h0' : upd H q (.lst []) ma = some (.lst [.int mm, .ref mcl, .int pos]) := hh1.get 0 rfl
    have h1' : upd H q (.lst []) mcl = some (.lst (cells.map V.int)) := hh1.get 1 rfl
    refine ⟨.list (cells.map PyData.int), .list [], .lst (SqL.of h1') (dp_ints cells), .lst (SqL.of upd_same) .nil, PySem.W.ke_shaped_ints _, PySem.W.ke_shaped_ints [], ?_⟩
    rw [eqv_nil]
    generalize upd H q (.lst []) = H1 at hh1 h0' h1'
    by_cases hne : cells = []
    · rw [decide_eq_true hne]
      refine ⟨_, rfl, iteF ?_⟩
      refine ⟨_, rfl, _, _, rfl, rfl, (by show CPow 10 18; unfold CPow; decide), _, _, rfl, rfl, _, rfl, ?_⟩
      rw [decide_eq_false (show ¬ (((10 : Int) ^ (18 : Int).toNat) ≤ (0 : Int)) from p18n (by omega))]
      refine iteF ?_
      refine ⟨_, rfl, _, _, _, .int mm, rfl, rfl, SqL.of h0', at_of (j := 0) rfl rfl, _, _, rfl, rfl, .inr ⟨by omega, by omega⟩, _, rfl, _, _, rfl, rfl, .inr ⟨by omega, by omega⟩, _, _, rfl, rfl, _, _, rfl, rfl, _, _, rfl, rfl, (by show (0 : Int) < 2147483647; decide), ?_⟩
      have m20 : 0 ≤ ((mm * 48271 + (0 : Int) * 69621 + 11) % 2147483647) := Int.emod_nonneg _ (by decide)
      have m21 : ((mm * 48271 + (0 : Int) * 69621 + 11) % 2147483647) < 2147483647 := Int.emod_lt_of_pos _ (by decide)
      refine ⟨_, rfl, _, _, _, 0, rfl, rfl, h0', rfl, ?_⟩
      have g2 := hh1.set 0 (o := .lst [.int mm, .ref mcl, .int pos]) rfl (.lst [.int ((mm * 48271 + (0 : Int) * 69621 + 11) % 2147483647), .ref mcl, .int pos])
      refine ⟨_, rfl, _, _, _, .int pos, rfl, rfl, SqL.of (g2.get 0 rfl), at_of (j := 2) rfl rfl, _, _, rfl, rfl, ?_⟩
      refine ⟨_, rfl, _, _, _, 2, rfl, rfl, g2.get 0 rfl, rfl, ?_⟩
      have g3 := g2.set 0 (o := .lst [.int ((mm * 48271 + (0 : Int) * 69621 + 11) % 2147483647), .ref mcl, .int pos]) rfl (.lst [.int ((mm * 48271 + (0 : Int) * 69621 + 11) % 2147483647), .ref mcl, .int (pos + 1)])
      refine ⟨_, rfl, _, _, _, .int ((mm * 48271 + (0 : Int) * 69621 + 11) % 2147483647), rfl, rfl, SqL.of (g3.get 0 rfl), at_of (j := 0) rfl rfl, _, _, rfl, rfl, (by show (0 : Int) < 7 ∧ (7 : Int) < 1073741824; decide), _, rfl, _, _, rfl, rfl, (by show (0 : Int) < many; omega), ?_⟩
      exact k _ ⟨ma, mcl, ((mm * 48271 + (0 : Int) * 69621 + 11) % 2147483647), cells, pos + 1⟩ _ (Int.emod_nonneg _ (by omega)) (Int.emod_lt_of_pos _ (by omega)) rfl ⟨m20, by show ((mm * 48271 + (0 : Int) * 69621 + 11) % 2147483647) < _; omega, hlen, by show 0 ≤ pos + 1; omega⟩ g3
    · rw [decide_eq_false hne]
      refine ⟨_, rfl, iteT ?_⟩
      have hL2 := hL1.2 hne
      have hal : at_.toNat < cells.length := by omega
      have ea : cells[at_.toNat]? = some cells[at_.toNat] := List.getElem?_eq_getElem hal
      generalize cells[at_.toNat] = cell at ea
      refine ⟨_, rfl, _, _, _, .ref mcl, rfl, rfl, SqL.of h0', at_of (j := 1) rfl rfl, _, rfl, _, _, _, .int cell, rfl, rfl, SqL.of h1', at_of (j := at_.toNat) (by omega) (by rw [List.getElem?_map, ea]; rfl), ?_⟩
      refine ⟨_, rfl, _, _, rfl, rfl, (by show CPow 10 18; unfold CPow; decide), _, _, rfl, rfl, _, rfl, ?_⟩
      by_cases hc : (1000000000000000000 : Int) ≤ cell
      · rw [decide_eq_true (show ((10 : Int) ^ (18 : Int).toNat) ≤ cell from p18y (by omega))]
        refine iteT ?_
        refine ⟨_, rfl, _, rfl, _, _, rfl, rfl, ⟨by omega, by omega⟩, _, rfl, _, _, _, .ref mcl, rfl, rfl, SqL.of h0', at_of (j := 1) rfl rfl, _, rfl, _, _, _, at_.toNat, rfl, rfl, h1', ?_, ?_⟩
        · rw [List.length_map]
          unfold ixN
          rw [if_pos (by omega), if_pos (by omega)]
        · have g2 := hh1.set 1 (o := .lst (cells.map V.int)) rfl (.lst ((cells.set at_.toNat (cell / many)).map V.int))
          rw [← List.map_set] 
          refine ⟨_, rfl, _, rfl, _, _, rfl, rfl, (by show (0 : Int) < many; omega), ?_⟩
          exact k _ ⟨ma, mcl, mm, cells.set at_.toNat (cell / many), pos⟩ _ (Int.emod_nonneg _ (by omega)) (Int.emod_lt_of_pos _ (by omega)) rfl ⟨m0, m1, by show (cells.set _ _).length ≤ 63; rw [List.length_set]; exact hlen, hpos⟩ g2
      · skip
        rw [decide_eq_false (show ¬ (((10 : Int) ^ (18 : Int).toNat) ≤ cell) from p18n (by omega))]
        refine iteF ?_
        refine ⟨_, rfl, _, _, _, .int mm, rfl, rfl, SqL.of h0', at_of (j := 0) rfl rfl, _, _, rfl, rfl, .inr ⟨by omega, by omega⟩, _, rfl, _, _, rfl, rfl, .inr ⟨by omega, by omega⟩, _, _, rfl, rfl, _, _, rfl, rfl, _, _, rfl, rfl, (by show (0 : Int) < 2147483647; decide), ?_⟩
        have m20 : 0 ≤ ((mm * 48271 + cell * 69621 + 11) % 2147483647) := Int.emod_nonneg _ (by decide)
        have m21 : ((mm * 48271 + cell * 69621 + 11) % 2147483647) < 2147483647 := Int.emod_lt_of_pos _ (by decide)
        refine ⟨_, rfl, _, _, _, 0, rfl, rfl, h0', rfl, ?_⟩
        have g2 := hh1.set 0 (o := .lst [.int mm, .ref mcl, .int pos]) rfl (.lst [.int ((mm * 48271 + cell * 69621 + 11) % 2147483647), .ref mcl, .int pos])
        refine ⟨_, rfl, _, _, _, .int pos, rfl, rfl, SqL.of (g2.get 0 rfl), at_of (j := 2) rfl rfl, _, _, rfl, rfl, ?_⟩
        refine ⟨_, rfl, _, _, _, 2, rfl, rfl, g2.get 0 rfl, rfl, ?_⟩
        have g3 := g2.set 0 (o := .lst [.int ((mm * 48271 + cell * 69621 + 11) % 2147483647), .ref mcl, .int pos]) rfl (.lst [.int ((mm * 48271 + cell * 69621 + 11) % 2147483647), .ref mcl, .int (pos + 1)])
        refine ⟨_, rfl, _, _, _, .int ((mm * 48271 + cell * 69621 + 11) % 2147483647), rfl, rfl, SqL.of (g3.get 0 rfl), at_of (j := 0) rfl rfl, _, _, rfl, rfl, (by show (0 : Int) < 7 ∧ (7 : Int) < 1073741824; decide), _, rfl, _, _, rfl, rfl, (by show (0 : Int) < many; omega), ?_⟩
        exact k _ ⟨ma, mcl, ((mm * 48271 + cell * 69621 + 11) % 2147483647), cells, pos + 1⟩ _ (Int.emod_nonneg _ (by omega)) (Int.emod_lt_of_pos _ (by omega)) rfl ⟨m20, by show ((mm * 48271 + cell * 69621 + 11) % 2147483647) < _; omega, hlen, by show 0 ≤ pos + 1; omega⟩ g3
end
end SH
set_option Elab.async false
set_option linter.all false
set_option maxRecDepth 100000
namespace SH
open PySem PySem.Spec PyProof.Rows L2
theorem catA_mk {K : PySem.W.Frag} {H : Hp} {a b : Addr} {xs ys : List V} {Q : VK} (ha : H a = some (.tup xs)) (hb : H b = some (.tup ys)) (hz : xs.length + ys.length ≤ 1000)
    (k : ∀ p H', Same H H' → H' p = some (.tup (xs ++ ys)) → Q (.ref p) H') : rCatA K (.ref a) (.ref b) H Q :=
  ⟨a, b, xs, ys, rfl, rfl, SqT.of ha, SqT.of hb, small hz, fun e => k b H (Same.refl H) (by rw [e]; exact hb), fun _ e => k a H (Same.refl H) (by rw [e, List.append_nil]; exact ha), fun _ _ p hp => k p _ (Same.new _ hp) upd_same⟩
theorem slA_mk {K : PySem.W.Frag} {H : Hp} {a : Addr} {xs : List V} {lo hi : Option Int} {Q : VK} (ha : H a = some (.tup xs))
    (k : ∀ p H', Same H H' → H' p = some (.tup (cutV xs lo hi)) → Q (.ref p) H') : rSlA K (.ref a) lo hi H Q :=
  ⟨a, xs, rfl, SqT.of ha, fun e => k a H (Same.refl H) (by
    have : cutV xs lo hi = xs := by unfold cutV; rw [e.1, e.2]; simp
    rw [this]; exact ha), fun _ p hp => k p _ (Same.new _ hp) upd_same⟩
theorem repA_mk {K : PySem.W.Frag} {H : Hp} {a : Addr} {v : V} {n : Int} {Q : VK} (ha : H a = some (.tup [v])) (h1 : 1 ≤ n) (h2 : n ≤ 1000)
    (k : ∀ p H', Same H H' → H' p = some (.tup (List.replicate n.toNat v)) → Q (.ref p) H') : rRepA K (.ref a) (.int n) H Q := by
  refine ⟨a, n, [v], rfl, rfl, SqT.of ha, by simp, h1, h2, by simp, fun e => k a H (Same.refl H) (by rw [e]; exact ha), fun _ p hp => k p _ (Same.new _ hp) ?_⟩
  rw [upd_same]
  congr 2
  generalize n.toNat = m
  induction m with
  | zero => rfl
  | succ m ih => rw [List.replicate_succ, List.flatten_cons, ih]; rfl
theorem cut_take (xs : List V) (w : Nat) : cutV xs none (some (w : Int)) = xs.take w := by
  unfold cutV
  rw [HT.sIx_none, HT.sIx_nat, List.drop_zero, Nat.sub_zero]
  rcases Nat.le_total w xs.length with h | h
  · rw [Nat.min_eq_left h]
  · rw [Nat.min_eq_right h, List.take_of_length_le (Nat.le_refl _), List.take_of_length_le h]
theorem cut_drop (xs : List V) (w : Nat) : cutV xs (some (w : Int)) none = xs.drop w := by
  unfold cutV
  rw [HT.sIx_none, HT.sIx_nat]
  rcases Nat.le_total w xs.length with h | h
  · rw [Nat.min_eq_left h, List.take_of_length_le (by rw [List.length_drop]; exact Nat.le_refl _)]
  · rw [Nat.min_eq_right h, Nat.sub_self, List.take_zero, List.drop_of_length_le h]
/-- marks: a tuple of h tuples of w -/
def RowsAt (H : Hp) (rows : List Addr) (w : Nat) : Prop := ∀ r ∈ rows, ∃ xs, H r = some (.tup xs) ∧ xs.length = w
def MarksAt (H : Hp) (mt : Addr) (w h : Nat) : Prop := ∃ rows : List Addr, H mt = some (.tup (rows.map V.ref)) ∧ rows.length = h ∧ RowsAt H rows w
theorem RowsAt.keep {H H' : Hp} {rows : List Addr} {w : Nat} (r : RowsAt H rows w) (k : KeepT H H') : RowsAt H' rows w := fun x hx => let ⟨xs, a, b⟩ := r x hx; ⟨xs, k _ _ a, b⟩
theorem MarksAt.keep {H H' : Hp} {mt : Addr} {w h : Nat} (r : MarksAt H mt w h) (k : KeepT H H') : MarksAt H' mt w h := let ⟨rows, a, b, c⟩ := r; ⟨rows, k _ _ a, b, c.keep k⟩
structure TxtG (mg : Str → Option Value) : Prop where
  list : mg "list" = none
  len : mg "len" = none
  range : mg "range" = none
  tuple : mg "tuple" = none
  sorted : mg "sorted" = none
  min : mg "min" = none
abbrev sSized : Stmt := top 24
section
variable {P : Program} {w : World} {K : PySem.W.Frag} {mg : Str → Option Value} {base : Heap}
abbrev nSized : List Str := ["_law_marks", "_law_wide", "_law_high", "_law_found", "_law_y", "_law_row"]
theorem scSized : FnScope nSized ["_law_marks", "_law_wide", "_law_high"] (defScope sSized) := ⟨rfl, rfl, rfl, by decide +kernel, rfl, by decide +kernel, by decide +kernel⟩
def spSized : Sp := fun vs H Q _ => ∃ (mt : Addr) (w h : Nat) (w' h' : Nat), vs = [.ref mt, .int (w' : Nat), .int (h' : Nat)] ∧ MarksAt H mt w h ∧ w ≤ 12 ∧ h ≤ 8 ∧ 1 ≤ w' ∧ w' ≤ 12 ∧ 1 ≤ h' ∧ h' ≤ 8 ∧
  ∀ mt' H', Same H H' → MarksAt H' mt' w' h' → Q (.ref mt') H'
theorem ok_sized {f : Addr} {fd : FuncData} (F : Fun K "_law_sized" "_law_sized" sSized f fd) (T : TxtG mg) : FnOk P w K mg base CX0 1 f fd ["_law_marks", "_law_wide", "_law_high"] spSized := by
  refine F.ok scSized (fun vs H Q E h => ?_) (fun cdv A0 outer s0 H vs Q E hr h => ?_)
  · obtain ⟨mt, w, h, w', h', rfl, _⟩ := h
    rfl
  · obtain ⟨mt, w, h, w', h', rfl, ⟨rows, hm, hl, hr0⟩, w1, h1, w2, w3, h2, h3, k⟩ := h
    refine ⟨_, pss_cons (ps_set (i := 3) scSized.nd rfl (Or.inl rfl) (pe_lst pa_nil))
      (pss_cons (ps_for PassesOwn.never rfl (pi_range1 rfl T.range (pa_cons (pv 2) pa_nil)) (pg_name (i := 4) scSized.nd rfl (Or.inl rfl))
        (pss_cons (ps_set (i := 5) scSized.nd rfl (Or.inl rfl) (pe_ifExp (pt_cmpR op_lt (pv 4) (pe_callB call_len_seq (by rfl) T.len PySem.boot_len (pa_cons (pv 0) pa_nil)) (nomark _)) (pe_ix ix_tup (pv 0) (pv 4) (fun _ _ => rfl)) (pe_tup pa_nil)))
        (pss_one (ps_expr (pe_bm PySem.F.plainAttrs_list PySem.F.slot_list_append PySem.F.type_list_append mt_append (pv 3)
          (pa_cons (pe_slice sl_tupA (pe_op op_catA (pv 5) (pe_op op_repA (pe_tup (pa_cons pe_int pa_nil)) (pv 1))) po_none (po_some (pv 1))) pa_nil))))))
      (pss_one (ps_ret (pe_callTy call_tuple_of (by rfl) T.tuple (show bootBuiltins "tuple" = some (.type "tuple") by decide +kernel) (pa_cons (pv 3) pa_nil))))), ?_⟩
    refine ⟨small (by show 0 ≤ 1000; decide), fun fl hfl => ?_⟩
    refine ⟨_, rfl, (h' : Nat), rfl, by omega, by omega, ?_⟩
    refine for_range (lo := 0) (n := ((h' : Nat) : Int).toNat) (fun i σ H2 => ∃ v4 v5 rs, σ = [some (.ref mt), some (.int (w' : Nat)), some (.int (h' : Nat)), some (.ref fl), v4, v5] ∧ Same H H2 ∧ H2 fl = some (.lst (rs.map V.ref)) ∧ rs.length = i ∧ RowsAt H2 rs w')
      ⟨_, _, [], rfl, Same.new _ hfl, upd_same, rfl, fun _ h => by cases h⟩ ?_ ?_
    · rintro i σ H2 hi ⟨v4, v5, rs, rfl, s2, hf2, rl, ra⟩
      rw [Int.zero_add]
      refine ⟨_, rfl, _, rfl, mt, _, rfl, .inr (SqT.of (s2 _ _ hm)), _, _, rfl, rfl, _, rfl, ?_⟩
      rw [List.length_map]
      by_cases c : i < h
      have c2 : i < rows.length := by omega
      have ei : rows[i]? = some rows[i] := List.getElem?_eq_getElem c2
      obtain ⟨xs, hx1, hx2⟩ := hr0 _ (List.mem_of_getElem? ei)
      rw [decide_eq_true (by omega)]
      refine iteT ?_
      refine ⟨_, rfl, _, rfl, _, _, _, V.ref rows[i], rfl, rfl, SqT.of (s2 _ _ hm), at_of (j := i) rfl (by rw [List.getElem?_map, ei]; rfl), ?_⟩
      have hrr := s2 _ _ hx1
      have hx : xs.length ≤ 12 := by omega
      have s3 : Same H2 H2 := Same.refl H2
      have hf3 := hf2
      generalize rows[i] = rr at hrr
      rotate_left
      rw [decide_eq_false (by omega)]
      refine iteF ?_
      refine ⟨small (by show 0 ≤ 1000; decide), fun rr hrr0 => ?_⟩
      have s3 := Same.new (HO.tup []) hrr0
      have hrr : upd H2 rr (.tup []) rr = some (.tup []) := upd_same
      have hf3 := s3 _ _ hf2
      generalize upd H2 rr (.tup []) = H2' at s3 hrr hf3
      obtain ⟨xs, exs⟩ : ∃ xs : List V, xs = [] := ⟨_, rfl⟩
      have hx : xs.length ≤ 12 := by rw [exs]; decide
      rw [← exs] at hrr
      all_goals
        refine ⟨_, rfl, .inl ⟨rfl, _, SqL.of hf3⟩, _, rfl, ⟨small (by show 1 ≤ 1000; decide), fun z hz => ?_⟩⟩
        have s4 := s3.trans (Same.new (HO.tup [V.int 0]) hz)
        refine ⟨_, rfl, repA_mk upd_same (by omega) (by omega) fun zz H5 s5 hzz => ?_⟩
        have s6 := (Same.new (HO.tup [V.int 0]) hz).trans s5
        refine catA_mk (s6 _ _ hrr) hzz (by rw [List.length_replicate]; omega) fun cc H6 s7 hcc => ?_
        refine ⟨_, rfl, _, rfl, slA_mk hcc fun r H7 s8 hr7 => ?_⟩
        rw [cut_take] at hr7
        have s9 := s6.trans (s7.trans s8)
        refine ⟨fl, _, _, rfl, rfl, s9 _ _ hf3, ?_, ?_⟩
        · rw [List.length_map]; exact small1000 (by omega)
        · refine ⟨_, _, rs ++ [r], rfl, Same.mut _ (s2.trans (s3.trans s9)) hfl, ?_, by simp [rl], ?_⟩
          · rw [upd_same, List.map_append]; rfl
          · have s10 := s3.trans s9
            intro q hq
            rcases List.mem_append.mp hq with hq | hq
            · obtain ⟨ys, e1, e2⟩ := ra q hq
              exact ⟨ys, by rw [upd_ne (by intro z; have := s10 _ _ hf2; rw [← z, s10 _ _ e1] at this; cases this)]; exact s10 _ _ e1, e2⟩
            · rw [List.mem_singleton.mp hq]
              refine ⟨_, by rw [upd_ne (by intro z; have := s9 _ _ hf3; rw [← z, hr7] at this; cases this)]; exact hr7, ?_⟩
              rw [List.length_take, List.length_append, List.length_replicate]; omega
    · rintro σ H2 ⟨v4, v5, rs, rfl, s2, hf2, rl, ra⟩
      refine ⟨_, rfl, fl, _, rfl, .inl ⟨SqL.of hf2, fun mt' hmt => ?_⟩⟩
      refine k mt' _ (s2.trans (Same.new _ hmt)) ⟨rs, upd_same, by omega, ra.keep (KeepT.same (Same.new _ hmt))⟩
end
end SH
set_option Elab.async false
set_option linter.all false
set_option maxRecDepth 100000
namespace SH
open PySem PySem.Spec PyProof.Rows L2
theorem seqT {a : Str} {A B : Prop} (h : A) : if decide (V.str a = V.str a) = true then A else B := by rw [decide_eq_true rfl]; exact iteT h
theorem seqF {a b : Str} {A B : Prop} (ne : a ≠ b) (h : B) : if decide (V.str a = V.str b) = true then A else B := by
  rw [decide_eq_false (fun e => ne (V.str.inj e))]; exact iteF h
theorem slN_mk {K : PySem.W.Frag} {H : Hp} {a : Addr} {xs : List V} {lo : Option Int} {Q : VK} {σ : L2.St} (ha : H a = some (.tup xs))
    (k : ∀ p H', Same H H' → H' p = some (.tup (cutV xs lo none)) → Q (.ref p) H') : tNoPart σ H fun u H3 => rSlA K (.ref a) lo u H3 Q := slA_mk ha k
/-- a look: x, y, rank, veiled, marks -/
def PendAt (H : Hp) (p : Addr) : Prop := ∃ (x y r : Int) (v : Bool) (mt : Addr) (w h : Nat), H p = some (.tup [.int x, .int y, .int r, .bl v, .ref mt]) ∧ MarksAt H mt w h ∧ 1 ≤ w ∧ w ≤ 12 ∧ 1 ≤ h ∧ h ≤ 8
theorem PendAt.keep {H H' : Hp} {p : Addr} (r : PendAt H p) (k : KeepT H H') : PendAt H' p := let ⟨x, y, r, v, mt, w, h, a, b, c⟩ := r; ⟨x, y, r, v, mt, w, h, k _ _ a, b.keep k, c⟩
abbrev sPending : Stmt := top 25
def Lt.look (z : Lt) : Prop := z.word = "size" ∨ z.word = "paint" ∨ z.word = "place" ∨ z.word = "rank" ∨ z.word = "veil" ∨ z.word = "unveil"
section
variable {P : Program} {w : World} {K : PySem.W.Frag} {mg : Str → Option Value} {base : Heap}
abbrev nPending : List Str := ["_law_look", "_law_letter_here", "_law_x", "_law_y", "_law_rank", "_law_veiled", "_law_marks", "_law_word", "_law_left", "_law_top", "_law_wide", "_law_high", "_law_mark", "_law_rows", "_law_k"]
theorem scPending : FnScope nPending ["_law_look", "_law_letter_here"] (defScope sPending) := ⟨rfl, rfl, rfl, by decide +kernel, rfl, by decide +kernel, by decide +kernel⟩
def spPending : Sp := fun vs H Q _ => ∃ (p t : Addr) (z : Lt), vs = [.ref p, .ref t] ∧ PendAt H p ∧ H t = some (.tup z.vals) ∧ z.ok ∧ z.look ∧
  ∀ r H', Same H H' → (r = .non ∨ ∃ p', r = .ref p' ∧ PendAt H' p') → Q r H'
set_option maxHeartbeats 0 in
theorem ok_pending {f fS : Addr} {fd fdS : FuncData} (F : Fun K "_law_pending" "_law_pending" sPending f fd) (T : TxtG mg)
    (GS : FnOk P w K mg base CX0 1 fS fdS ["_law_marks", "_law_wide", "_law_high"] spSized) (bS : Binds K fdS ["_law_marks", "_law_wide", "_law_high"] []) (gS : mg "_law_sized" = some (.ref fS)) (kS : PySem.W.keepIn K (.ref fS) = true) :
    FnOk P w K mg base CX0 2 f fd ["_law_look", "_law_letter_here"] spPending := by
  refine F.ok scPending (fun vs H Q E h => ?_) (fun cdv A0 outer s0 H vs Q E hr h => ?_)
  · obtain ⟨p, t, z, rfl, _⟩ := h
    rfl
  · obtain ⟨p, t, z, rfl, ⟨x, y, r, v, mt, w, h, hp, hm, w1, w2, h1, h2⟩, ht, hz, hlook, k⟩ := h
    refine ⟨_, pss_cons (ps_asg (pv 0) (pg_tup (by rfl) (pgs_cons (pg_name (i := 2) scPending.nd rfl (Or.inl rfl)) (pgs_cons (pg_name (i := 3) scPending.nd rfl (Or.inl rfl)) (pgs_cons (pg_name (i := 4) scPending.nd rfl (Or.inl rfl)) (pgs_cons (pg_name (i := 5) scPending.nd rfl (Or.inl rfl)) (pgs_cons (pg_name (i := 6) scPending.nd rfl (Or.inl rfl)) pgs_nil)))))))
      (pss_cons (ps_set (i := 7) scPending.nd rfl (Or.inl rfl) (pe_ix ix_tup (pv 1) pe_int (fun _ _ => rfl)))
      (pss_cons (ps_if (pt_cmpR op_eq (pv 7) pe_str (nomark _))
        (pss_one (ps_ret (pe_tup (pa_cons (pv 2) (pa_cons (pv 3) (pa_cons (pv 4) (pa_cons (pv 5) (pa_cons (pe_call GS hr rfl gS kS bS .nil pass0 (pa_cons (pv 6) (pa_cons (pe_ix ix_tup (pv 1) pe_int (fun _ _ => rfl)) (pa_cons (pe_ix ix_tup (pv 1) pe_int (fun _ _ => rfl)) pa_nil)))) pa_nil)))))))) pss_nil)
      (pss_cons (ps_if (pt_cmpR op_eq (pv 7) pe_str (nomark _))
        (pss_cons (ps_asg (pe_slice sl_tupA (pv 1) (po_some pe_int) po_none) (pg_tup (by rfl) (pgs_cons (pg_name (i := 8) scPending.nd rfl (Or.inl rfl)) (pgs_cons (pg_name (i := 9) scPending.nd rfl (Or.inl rfl)) (pgs_cons (pg_name (i := 10) scPending.nd rfl (Or.inl rfl)) (pgs_cons (pg_name (i := 11) scPending.nd rfl (Or.inl rfl)) (pgs_cons (pg_name (i := 12) scPending.nd rfl (Or.inl rfl)) pgs_nil)))))))
        (pss_cons (ps_if (PW.pt (pw_or (pt_cmpR op_gt (pe_op op_add (pv 8) (pv 10)) (pe_callB call_len_seq (by rfl) T.len PySem.boot_len (pa_cons (pe_ix ix_tup (pv 6) pe_int (fun _ _ => rfl)) pa_nil)) (nomark _))
          (pw_or1 (pt_cmpR op_gt (pe_op op_add (pv 9) (pv 11)) (pe_callB call_len_seq (by rfl) T.len PySem.boot_len (pa_cons (pv 6) pa_nil)) (nomark _))))) (pss_one (ps_ret pe_non)) pss_nil)
        (pss_cons (ps_set (i := 13) scPending.nd rfl (Or.inl rfl) (pe_callTy call_list_of (by rfl) T.list (show bootBuiltins "list" = some (.type "list") by decide +kernel) (pa_cons (pv 6) pa_nil)))
        (pss_cons (ps_for PassesOwn.never rfl (pi_range2 rfl T.range (pa_cons (pv 9) (pa_cons (pe_op op_add (pv 9) (pv 11)) pa_nil))) (pg_name (i := 14) scPending.nd rfl (Or.inl rfl))
          (pss_one (ps_asg (pe_op op_catA (pe_op op_catA (pe_slice sl_tupA (pe_ix ix_list (pv 13) (pv 14) (fun _ _ => rfl)) po_none (po_some (pv 8))) (pe_op op_repA (pe_tup (pa_cons (pv 12) pa_nil)) (pv 10))) (pe_slice sl_tupA (pe_ix ix_list (pv 13) (pv 14) (fun _ _ => rfl)) (po_some (pe_op op_add (pv 8) (pv 10))) po_none))
            (pg_sub (pv 13) (pv 14) set_list))))
        (pss_one (ps_ret (pe_tup (pa_cons (pv 2) (pa_cons (pv 3) (pa_cons (pv 4) (pa_cons (pv 5) (pa_cons (pe_callTy call_tuple_of (by rfl) T.tuple (show bootBuiltins "tuple" = some (.type "tuple") by decide +kernel) (pa_cons (pv 13) pa_nil)) pa_nil)))))))))))) pss_nil)
      (pss_cons (ps_if (pt_cmpR op_eq (pv 7) pe_str (nomark _))
        (pss_one (ps_ret (pe_tup (pa_cons (pe_ix ix_tup (pv 1) pe_int (fun _ _ => rfl)) (pa_cons (pe_ix ix_tup (pv 1) pe_int (fun _ _ => rfl)) (pa_cons (pv 4) (pa_cons (pv 5) (pa_cons (pv 6) pa_nil)))))))) pss_nil)
      (pss_cons (ps_if (pt_cmpR op_eq (pv 7) pe_str (nomark _))
        (pss_one (ps_ret (pe_tup (pa_cons (pv 2) (pa_cons (pv 3) (pa_cons (pe_ix ix_tup (pv 1) pe_int (fun _ _ => rfl)) (pa_cons (pv 5) (pa_cons (pv 6) pa_nil)))))))) pss_nil)
      (pss_one (ps_ret (pe_tup (pa_cons (pv 2) (pa_cons (pv 3) (pa_cons (pv 4) (pa_cons (pe_cmpR op_eq (pv 7) pe_str (nomark _)) (pa_cons (pv 6) pa_nil))))))))))))), ?_⟩
    refine ⟨_, rfl, p, _, rfl, SqT.of hp, rfl, ?_⟩
    refine ⟨_, _, rfl, _, _, rfl, _, _, rfl, _, _, rfl, _, _, rfl, rfl, ?_⟩
    refine ⟨_, rfl, _, _, _, V.str z.word, rfl, rfl, SqT.of ht, at_of (j := 0) rfl rfl, ?_⟩
    refine ⟨_, rfl, rfl, _, rfl, ?_⟩
    have small5 : (5 : Nat) ≤ sizeLine := small (by decide)
    cases z with
    | size n a b =>
      obtain ⟨⟨hn0, hn1⟩, ⟨ha0, ha1⟩, hb0, hb1⟩ : (0 ≤ n ∧ n ≤ 9) ∧ (1 ≤ a ∧ a ≤ 12) ∧ 1 ≤ b ∧ b ≤ 8 := by simpa [Lt.ok, Lt.nums, Lt.bnds] using hz
      obtain ⟨a, rfl⟩ := Int.eq_ofNat_of_zero_le (show 0 ≤ a by omega)
      obtain ⟨b, rfl⟩ := Int.eq_ofNat_of_zero_le (show 0 ≤ b by omega)
      refine seqT ?_
      refine ⟨_, rfl, _, rfl, _, rfl, _, rfl, _, rfl, _, rfl, _, _, _, V.int a, rfl, rfl, SqT.of ht, at_of (j := 2) rfl rfl, _, rfl, _, _, _, V.int b, rfl, rfl, SqT.of ht, at_of (j := 3) rfl rfl, ?_⟩
      refine ⟨mt, w, h, a, b, rfl, hm, w2, h2, by omega, by omega, by omega, by omega, fun mt' H' s' hm' => ⟨small5, fun q hq => ?_⟩⟩
      refine k (.ref q) _ (s'.trans (Same.new _ hq)) (.inr ⟨q, rfl, x, y, r, v, mt', a, b, upd_same, hm'.keep (KeepT.same (Same.new _ hq)), by omega, by omega, by omega, by omega⟩)
    | paint n a b c d m =>
      obtain ⟨_, ⟨a0, a1⟩, ⟨b0, b1⟩, ⟨c0, c1⟩, ⟨d0, d1⟩, _⟩ : (0 ≤ n ∧ n ≤ 9) ∧ (0 ≤ a ∧ a ≤ 11) ∧ (0 ≤ b ∧ b ≤ 7) ∧ (1 ≤ c ∧ c ≤ 12) ∧ (1 ≤ d ∧ d ≤ 8) ∧ 0 ≤ m ∧ m ≤ 9 := by simpa [Lt.ok, Lt.nums, Lt.bnds] using hz
      obtain ⟨a, rfl⟩ := Int.eq_ofNat_of_zero_le a0
      obtain ⟨b, rfl⟩ := Int.eq_ofNat_of_zero_le b0
      obtain ⟨c, rfl⟩ := Int.eq_ofNat_of_zero_le (show 0 ≤ c by omega)
      obtain ⟨d, rfl⟩ := Int.eq_ofNat_of_zero_le (show 0 ≤ d by omega)
      refine seqF (show ("paint" : Str) ≠ _ by decide +kernel) ?_
      refine ⟨_, rfl, rfl, _, rfl, seqT ?_⟩
      obtain ⟨rows, hm1, hm2, hm3⟩ := id hm
      refine ⟨_, rfl, _, rfl, ?_⟩
      refine slN_mk ht fun tp H1 s1 htp => ?_
      have htp : H1 tp = some (.tup [.int (a : Nat), .int (b : Nat), .int (c : Nat), .int (d : Nat), .int m]) := htp
      refine ⟨_, _, rfl, SqT.of htp, rfl, _, _, rfl, _, _, rfl, _, _, rfl, _, _, rfl, _, _, rfl, rfl, ?_⟩
      have hm1' := s1 _ _ hm1
      have hr0 : rows[0]? = some rows[0] := List.getElem?_eq_getElem (by omega)
      obtain ⟨xs0, x01, x02⟩ := hm3 _ (List.mem_of_getElem? hr0)
      refine ⟨_, rfl, _, rfl, _, _, rfl, rfl, _, rfl, _, _, _, V.ref rows[0], rfl, rfl, SqT.of hm1', at_of (j := 0) rfl (by rw [List.getElem?_map, hr0]; rfl), _, _, rfl, .inr (SqT.of (s1 _ _ x01)), _, _, rfl, rfl, _, rfl, ?_⟩
      rw [x02]
      have noway : Q .non H1 := k .non H1 s1 (.inl rfl)
      refine ite2 (fun c1 => noway) (fun c1 => ?_)
      refine ⟨_, rfl, _, rfl, _, _, rfl, rfl, _, rfl, _, _, rfl, .inr (SqT.of hm1'), _, _, rfl, rfl, _, rfl, ?_⟩
      rw [List.length_map, hm2]
      refine ite2 (fun c2 => noway) (fun c2 => ?_)
      have c1 : a + c ≤ w := by have := of_decide_eq_false (Bool.not_eq_true _ ▸ c1); omega
      have c2 : b + d ≤ h := by have := of_decide_eq_false (Bool.not_eq_true _ ▸ c2); omega
      refine ⟨_, rfl, _, _, rfl, .inr (SqT.of hm1'), fun rl hrl => ?_⟩
      have s2 := s1.trans (Same.new (HO.lst (rows.map V.ref)) hrl)
      refine ⟨_, rfl, _, rfl, _, rfl, _, _, rfl, rfl, _, _, rfl, ⟨by omega, by omega, by omega, by omega⟩, ?_⟩
      refine for_range (lo := (b : Nat)) (n := (((b : Nat) : Int) + (d : Nat) - (b : Nat)).toNat) (fun i σ H2 => ∃ v14 rs, σ = [some (.ref p), some (.ref t), some (.int x), some (.int y), some (.int r), some (.bl v), some (.ref mt), some (.str "paint"), some (.int (a : Nat)), some (.int (b : Nat)), some (.int (c : Nat)), some (.int (d : Nat)), some (.int m), some (.ref rl), v14] ∧ Same H1 H2 ∧ H2 rl = some (.lst (rs.map V.ref)) ∧ rs.length = h ∧ RowsAt H2 rs w)
        ⟨_, rows, rfl, Same.new _ hrl, upd_same, hm2, hm3.keep (KeepT.same s2)⟩ ?_ ?_
      · rintro i σ H2 hi ⟨v14, rs, rfl, s3, hrl2, hrs, hra⟩
        have ei : rs[b + i]? = some rs[b + i] := List.getElem?_eq_getElem (by omega)
        obtain ⟨xs, e1, e2⟩ := hra _ (List.mem_of_getElem? ei)
        have eidx : ((b : Nat) : Int) + (i : Nat) = ((b + i : Nat) : Int) := by omega
        rw [eidx]
        refine ⟨_, rfl, _, rfl, _, _, _, V.ref rs[b + i], rfl, rfl, SqL.of hrl2, at_of (j := b + i) rfl (by rw [List.getElem?_map, ei]; rfl), _, rfl, _, rfl, slA_mk e1 fun q1 H3 t3 hq1 => ?_⟩
        rw [cut_take] at hq1
        refine ⟨_, rfl, small (by show 1 ≤ 1000; decide), fun q2 hq2 => ⟨_, rfl, repA_mk upd_same (by omega) (by omega) fun q3 H4 t4 hq3 => ?_⟩⟩
        have t4' := (Same.new (HO.tup [V.int m]) hq2).trans t4
        refine catA_mk (t4' _ _ hq1) hq3 (by rw [List.length_take, List.length_replicate]; omega) fun q4 H5 t5 hq4 => ?_
        have t6 := t3.trans (t4'.trans t5)
        refine ⟨_, rfl, _, rfl, _, _, _, V.ref rs[b + i], rfl, rfl, SqL.of (t6 _ _ hrl2), at_of (j := b + i) rfl (by rw [List.getElem?_map, ei]; rfl), _, rfl, _, rfl, _, _, rfl, rfl, ?_⟩
        refine ⟨((a + c : Nat) : Int), congrArg V.int (show ((a : Nat) : Int) + ((c : Nat) : Int) = ((a + c : Nat) : Int) by omega), slN_mk (t6 _ _ e1) fun q5 H6 t7 hq5 => ?_⟩
        rw [cut_drop] at hq5
        refine catA_mk (t7 _ _ hq4) hq5 (by simp only [List.length_append, List.length_take, List.length_replicate, List.length_drop]; omega) fun q6 H7 t8 hq6 => ?_
        have t9 := t6.trans (t7.trans t8)
        refine ⟨_, rfl, _, rfl, _, _, _, b + i, rfl, rfl, t9 _ _ hrl2, ?_, ?_⟩
        · rw [List.length_map]
          unfold ixN
          rw [if_pos (by omega), if_pos (by omega), Int.toNat_natCast]
        · refine ⟨_, rs.set (b + i) q6, rfl, Same.mut _ (s3.trans t9) hrl, ?_, by simpa using hrs, ?_⟩
          · rw [upd_same, List.map_set]
          · intro u hu
            rcases List.mem_or_eq_of_mem_set hu with hu | hu
            · obtain ⟨ys, g1, g2⟩ := hra u hu
              exact ⟨ys, by rw [upd_ne (by intro z; have := t9 _ _ hrl2; rw [← z, t9 _ _ g1] at this; cases this)]; exact t9 _ _ g1, g2⟩
            · rw [hu]
              refine ⟨_, by rw [upd_ne (by intro z; have := t9 _ _ hrl2; rw [← z, hq6] at this; cases this)]; exact hq6, ?_⟩
              simp only [List.length_append, List.length_take, List.length_replicate, List.length_drop]
              omega
      · rintro σ H2 ⟨v14, rs, rfl, s3, hrl2, hrs, hra⟩
        refine ⟨_, rfl, _, rfl, _, rfl, _, rfl, _, rfl, _, _, rfl, .inl ⟨SqL.of hrl2, fun mt' hmt => ⟨small5, fun q hq => ?_⟩⟩⟩
        have s4 := (Same.new (HO.tup (rs.map V.ref)) hmt)
        refine k (.ref q) _ (s1.trans (s3.trans (s4.trans (Same.new _ hq)))) (.inr ⟨q, rfl, x, y, r, v, mt', w, h, upd_same, MarksAt.keep ⟨rs, upd_same, hrs, hra.keep (KeepT.same s4)⟩ (KeepT.same (Same.new _ hq)), by omega, by omega, by omega, by omega⟩)
    | place n a b =>
      refine seqF (show ("place" : Str) ≠ _ by decide +kernel) ?_
      refine ⟨_, rfl, rfl, _, rfl, seqF (show ("place" : Str) ≠ _ by decide +kernel) ?_⟩
      refine ⟨_, rfl, rfl, _, rfl, seqT ?_⟩
      refine ⟨_, rfl, _, _, _, V.int a, rfl, rfl, SqT.of ht, at_of (j := 2) rfl rfl, _, rfl, _, _, _, V.int b, rfl, rfl, SqT.of ht, at_of (j := 3) rfl rfl, ?_⟩
      refine ⟨_, rfl, _, rfl, _, rfl, small5, fun q hq => ?_⟩
      refine k (.ref q) _ (Same.new _ hq) (.inr ⟨q, rfl, a, b, r, v, mt, w, h, upd_same, hm.keep (KeepT.same (Same.new _ hq)), by omega, by omega, by omega, by omega⟩)
    | rank n a =>
      refine seqF (show ("rank" : Str) ≠ _ by decide +kernel) ?_
      refine ⟨_, rfl, rfl, _, rfl, seqF (show ("rank" : Str) ≠ _ by decide +kernel) ?_⟩
      refine ⟨_, rfl, rfl, _, rfl, seqF (show ("rank" : Str) ≠ _ by decide +kernel) ?_⟩
      refine ⟨_, rfl, rfl, _, rfl, seqT ?_⟩
      refine ⟨_, rfl, _, rfl, _, rfl, _, _, _, V.int a, rfl, rfl, SqT.of ht, at_of (j := 2) rfl rfl, ?_⟩
      refine ⟨_, rfl, _, rfl, small5, fun q hq => ?_⟩
      refine k (.ref q) _ (Same.new _ hq) (.inr ⟨q, rfl, x, y, a, v, mt, w, h, upd_same, hm.keep (KeepT.same (Same.new _ hq)), by omega, by omega, by omega, by omega⟩)
    | veil n =>
      refine seqF (show ("veil" : Str) ≠ _ by decide +kernel) ?_
      refine ⟨_, rfl, rfl, _, rfl, seqF (show ("veil" : Str) ≠ _ by decide +kernel) ?_⟩
      refine ⟨_, rfl, rfl, _, rfl, seqF (show ("veil" : Str) ≠ _ by decide +kernel) ?_⟩
      refine ⟨_, rfl, rfl, _, rfl, seqF (show ("veil" : Str) ≠ _ by decide +kernel) ?_⟩
      refine ⟨_, rfl, _, rfl, _, rfl, _, rfl, rfl, ?_⟩
      refine ⟨_, rfl, small5, fun q hq => ?_⟩
      refine k (.ref q) _ (Same.new _ hq) (.inr ⟨q, rfl, x, y, r, _, mt, w, h, upd_same, hm.keep (KeepT.same (Same.new _ hq)), by omega, by omega, by omega, by omega⟩)
    | unveil n =>
      refine seqF (show ("unveil" : Str) ≠ _ by decide +kernel) ?_
      refine ⟨_, rfl, rfl, _, rfl, seqF (show ("unveil" : Str) ≠ _ by decide +kernel) ?_⟩
      refine ⟨_, rfl, rfl, _, rfl, seqF (show ("unveil" : Str) ≠ _ by decide +kernel) ?_⟩
      refine ⟨_, rfl, rfl, _, rfl, seqF (show ("unveil" : Str) ≠ _ by decide +kernel) ?_⟩
      refine ⟨_, rfl, _, rfl, _, rfl, _, rfl, rfl, ?_⟩
      refine ⟨_, rfl, small5, fun q hq => ?_⟩
      refine k (.ref q) _ (Same.new _ hq) (.inr ⟨q, rfl, x, y, r, _, mt, w, h, upd_same, hm.keep (KeepT.same (Same.new _ hq)), by omega, by omega, by omega, by omega⟩)
    | make n => exact absurd hlook (by rintro (h | h | h | h | h | h) <;> exact absurd (show ("make" : Str) = _ from h) (by decide +kernel))
    | drop n => exact absurd hlook (by rintro (h | h | h | h | h | h) <;> exact absurd (show ("drop" : Str) = _ from h) (by decide +kernel))
    | tie n o => exact absurd hlook (by rintro (h | h | h | h | h | h) <;> exact absurd (show ("tie" : Str) = _ from h) (by decide +kernel))
    | «show» n => exact absurd hlook (by rintro (h | h | h | h | h | h) <;> exact absurd (show ("show" : Str) = _ from h) (by decide +kernel))
    | hold n => exact absurd hlook (by rintro (h | h | h | h | h | h) <;> exact absurd (show ("hold" : Str) = _ from h) (by decide +kernel))
    | let_ => exact absurd hlook (by rintro (h | h | h | h | h | h) <;> exact absurd (show ("let" : Str) = _ from h) (by decide +kernel))
end
end SH
set_option Elab.async false
set_option linter.all false
set_option maxRecDepth 100000
namespace SH
open PySem PySem.Spec PyProof.Rows L2
def sortI (l : List Int) : List Int := l.mergeSort (fun a b => decide (a ≤ b))
theorem sortI_perm (l : List Int) : (sortI l).Perm l := List.mergeSort_perm _ _
theorem sortI_pw (l : List Int) : (sortI l).Pairwise (· ≤ ·) := by
  have := List.pairwise_mergeSort (le := fun a b : Int => decide (a ≤ b)) (fun a b c h1 h2 => by simp at *; omega) (fun a b => by simp; omega) l
  exact this.imp (fun h => of_decide_eq_true h)
theorem sortI_of {ys l : List Int} (p : ys.Perm l) (h : ys.Pairwise (· ≤ ·)) : ys = sortI l := PySem.W.ksm_same (p.trans (sortI_perm l).symm) h (sortI_pw l)

def famMax : Nat → Nat
  | 0 => 1
  | d + 1 => 1 + 10 * famMax d
theorem flat_le {α β : Type} {f : α → List β} {m : Nat} : ∀ {l : List α}, (∀ x ∈ l, (f x).length ≤ m) → (l.flatMap f).length ≤ l.length * m
  | [], _ => by simp
  | x :: l, h => by
    have h1 := h x List.mem_cons_self
    have h2 := flat_le (f := f) (m := m) (l := l) fun y hy => h y (List.mem_cons_of_mem _ hy)
    rw [List.flatMap_cons, List.length_append, List.length_cons, Nat.succ_mul]
    omega

theorem Same.free {H H' : Hp} (s : Same H H') {p : Addr} (h : H' p = none) : H p = none := by
  cases e : H p with
  | none => rfl
  | some o => rw [s _ _ e] at h; cases h
/-- a client's surfaces by what was told -/
structure WE where
  k : Int
  da : Addr
  p : Addr
  rd : V
  sh : V
  top : Option Int
def topV : Option Int → V
  | none => .non
  | some i => .int i
def WE.kvs (e : WE) : List (Key × V) := [(.inr "pending", .ref e.p), (.inr "ready", e.rd), (.inr "shown", e.sh), (.inr "top", topV e.top)]
def wKvs (es : List WE) : List (Key × V) := es.map fun e => ((Sum.inl e.k : Key), V.ref e.da)
def wCells (wa : Addr) (es : List WE) : Cells := (wa, .dK (wKvs es)) :: es.map fun e => (e.da, HO.dK e.kvs)
def findW (es : List WE) (k : Int) : Option WE := es.find? fun e => decide (e.k = k)
theorem valW (es : List WE) (k : Int) : valV (wKvs es) (Sum.inl k : Key) = (findW es k).map fun e => V.ref e.da := by
  induction es with
  | nil => rfl
  | cons p l ih =>
    by_cases e : p.k = k
    · show valV ((Sum.inl p.k, V.ref p.da) :: wKvs l) _ = _
      rw [valV_pos (by show (Sum.inl p.k : Key) = Sum.inl k; rw [e])]
      unfold findW
      rw [List.find?_cons, decide_eq_true e]; rfl
    · show valV ((Sum.inl p.k, V.ref p.da) :: wKvs l) _ = _
      rw [valV_neg (by show ¬ (Sum.inl p.k : Key) = Sum.inl k; exact fun z => e (Sum.inl.inj z)), ih]
      unfold findW
      rw [List.find?_cons, decide_eq_false e]
theorem findW_mem {es : List WE} {k : Int} {e : WE} (h : findW es k = some e) : e ∈ es ∧ e.k = k :=
  ⟨List.mem_of_find?_eq_some h, by have := List.find?_some h; simpa using this⟩
theorem findW_some {es : List WE} {k : Int} (h : k ∈ es.map (·.k)) : ∃ e, findW es k = some e := by
  obtain ⟨p, hp, e⟩ := List.mem_map.mp h
  unfold findW
  cases q : es.find? (fun p => decide (p.k = k)) with
  | some r => exact ⟨_, rfl⟩
  | none => exact absurd (decide_eq_true e) (List.find?_eq_none.mp q p hp)
theorem kvs_pend (e : WE) : valV e.kvs (Sum.inr "pending" : Key) = some (.ref e.p) := by kernel_rfl
theorem kvs_rd (e : WE) : valV e.kvs (Sum.inr "ready" : Key) = some e.rd := by kernel_rfl
theorem kvs_sh (e : WE) : valV e.kvs (Sum.inr "shown" : Key) = some e.sh := by kernel_rfl
theorem kvs_top (e : WE) : valV e.kvs (Sum.inr "top" : Key) = some (topV e.top) := by kernel_rfl
def topIs (es : List WE) (n k : Int) : Bool := match findW es k with
  | none => false
  | some e => decide (e.top = some n)
def kids (es : List WE) (n : Int) : List Int := (sortI (es.map (·.k))).filter (topIs es n)
def under (es : List WE) : Nat → Int → List Int
  | 0, n => [n]
  | d + 1, n => n :: (kids es n).flatMap (under es d)
def Flat (es : List WE) : Nat → Int → Prop
  | 0, n => kids es n = []
  | d + 1, n => ∀ k ∈ kids es n, Flat es d k
/-- the dicts stand there -/
def WAt (H : Hp) (wa : Addr) (es : List WE) : Prop := H wa = some (.dK (wKvs es)) ∧ ∀ e ∈ es, H e.da = some (.dK e.kvs)
theorem WAt.same {H H' : Hp} {wa : Addr} {es : List WE} (h : WAt H wa es) (s : Same H H') : WAt H' wa es := ⟨s _ _ h.1, fun e he => s _ _ (h.2 e he)⟩
theorem kids_le (es : List WE) (n : Int) : (kids es n).length ≤ es.length := by
  refine Nat.le_trans (List.length_filter_le _ _) ?_
  rw [(sortI_perm _).length_eq, List.length_map]; exact Nat.le_refl _
theorem under_len {es : List WE} (hl : es.length ≤ 10) : ∀ (d : Nat) (n : Int), (under es d n).length ≤ famMax d
  | 0, n => Nat.le_refl _
  | d + 1, n => by
    unfold under famMax
    rw [List.length_cons]
    have h1 := flat_le (f := under es d) (m := famMax d) (l := kids es n) fun k _ => under_len hl d k
    have h3 := Nat.mul_le_mul_right (famMax d) (Nat.le_trans (kids_le es n) hl)
    omega
abbrev sUnder : Stmt := top 26
section
variable {P : Program} {w : World} {K : PySem.W.Frag} {mg : Str → Option Value} {base : Heap}
abbrev nUnder : List Str := ["_law_w", "_law_name", "_law_found", "_law_part"]
theorem scUnder : FnScope nUnder ["_law_w", "_law_name"] (defScope sUnder) := ⟨rfl, rfl, rfl, by decide +kernel, rfl, by decide +kernel, by decide +kernel⟩
def spUnder (d : Nat) : Sp := fun vs H Q _ => ∃ (wa : Addr) (es : List WE) (n : Int), vs = [.ref wa, .int n] ∧ WAt H wa es ∧ es.length ≤ 10 ∧ Flat es d n ∧
  ∀ p H', Same H H' → H p = none → H' p = some (.lst ((under es d n).map V.int)) → Q (.ref p) H'
theorem topV_eq (t : Option Int) (n : Int) : decide (topV t = V.int n) = decide (t = some n) := by
  cases t with
  | none => rfl
  | some i =>
    by_cases e : i = n
    · subst e; rw [decide_eq_true (show topV (some i) = V.int i from rfl), decide_eq_true rfl]
    · rw [decide_eq_false (show ¬ topV (some i) = V.int n from fun z => e (V.int.inj z)), decide_eq_false (fun z => e (Option.some.inj z))]
theorem ok_under {f : Addr} {fd : FuncData} (F : Fun K "_law_under" "_law_under" sUnder f fd) (bF : Binds K fd ["_law_w", "_law_name"] []) (gF : mg "_law_under" = some (.ref f)) (T : TxtG mg) :
    ∀ d, famMax d ≤ 2000 → FnOk P w K mg base CX0 (d + 1) f fd ["_law_w", "_law_name"] (spUnder d)
  | 0, _ => by
    refine F.ok scUnder (fun vs H Q E h => ?_) (fun cdv A0 outer s0 H vs Q E hr h => ?_)
    · obtain ⟨wa, es, n, rfl, _⟩ := h
      rfl
    · obtain ⟨wa, es, n, rfl, hw, hl, hfl, k⟩ := h
      have hu := hu_of hr
      refine ⟨_, pss_cons (ps_set (i := 2) scUnder.nd rfl (Or.inl rfl) (pe_lst (pa_cons (pv 1) pa_nil)))
        (pss_cons (ps_for PassesOwn.never rfl (pi_list (pe_callB (call_sortedDI rfl) (by rfl) T.sorted (by decide +kernel) (pa_cons (pv 0) pa_nil))) (pg_name (i := 3) scUnder.nd rfl (Or.inl rfl))
          (pss_one (ps_if (pt_cmpR op_eq (pe_dget hu (pe_dget hu (pv 0) (pv 3) (fun _ _ => rfl)) pe_str (fun _ _ => rfl)) (pv 1) (nomark _)) pss_never pss_nil)))
        (pss_one (ps_ret (pv 2)))), ?_⟩
      refine ⟨_, rfl, small (by show 1 ≤ 1000; decide), fun p hp0 => ?_⟩
      have s1 := Same.new (HO.lst [V.int n]) hp0
      refine ⟨_, rfl, wa, _, es.map (·.k), rfl, .inl (s1 _ _ hw.1), by unfold wKvs; simp, by rw [List.length_map]; omega, fun ys q hperm hord hq => ?_⟩
      have ey : ys = sortI (es.map (·.k)) := sortI_of hperm hord
      subst ey
      generalize hks : sortI (es.map (·.k)) = ks at *
      refine ⟨q, rfl, ⟨_, SqL.of upd_same⟩, for_list (K := K) (a := q) (xs := ks.map V.int) (fun i σ H2 => ∃ v, σ = [some (.ref wa), some (.int n), some (.ref p), v] ∧ Same H H2 ∧ H2 q = some (.lst (ks.map V.int)) ∧ H2 p = some (.lst ([n].map V.int))) ?_ ?_ ?_ ?_⟩
      · refine ⟨none, rfl, s1.trans (Same.new _ hq), upd_same, ?_⟩
        rw [upd_ne (ne_of_none (upd_same : upd H p _ p = _) hq)]
        exact upd_same
      · rintro i σ H2 _ ⟨v, _, _, hq2, _⟩
        exact SqL.of hq2
      · rintro i x σ H2 hi ⟨v, rfl, s2, hq2, hp2⟩
        rw [List.getElem?_map] at hi
        cases en : ks[i]? with
        | none => rw [en] at hi; cases hi
        | some n1 =>
          rw [en] at hi
          obtain rfl : V.int n1 = x := Option.some.inj hi
          have hn : n1 ∈ ks := List.mem_of_getElem? en
          obtain ⟨e, he⟩ := findW_some (es := es) (k := n1) (by rw [← hks] at hn; exact (sortI_perm _).mem_iff.mp hn)
          have hw2 := hw.same s2
          have hne : decide (topV e.top = V.int n) = false := by
            rw [topV_eq]
            refine decide_eq_false fun z => ?_
            have : n1 ∈ kids es n := by unfold kids; rw [hks]; exact List.mem_filter.mpr ⟨hn, by unfold topIs; rw [he]; exact decide_eq_true z⟩
            rw [show kids es n = [] from hfl] at this
            cases this
          refine ⟨_, rfl, _, rfl, wa, V.ref e.da, rfl, by have := DGet.k (k := (Sum.inl n1 : Key)) hw2.1; rw [valW, he] at this; exact this, e.da, topV e.top, rfl, by have := DGet.k (k := (Sum.inr "top" : Key)) (hw2.2 e (findW_mem he).1); rw [kvs_top] at this; exact this, _, rfl, ?_⟩
          have fin : (if decide (topV e.top = V.int n) = true then False else ∃ v, ([some (.ref wa), some (.int n), some (.ref p), some (V.int n1)] : L2.St) = [some (.ref wa), some (.int n), some (.ref p), v] ∧ Same H H2 ∧ H2 q = some (.lst (ks.map V.int)) ∧ H2 p = some (.lst ([n].map V.int))) := by
            rw [hne]
            exact iteF ⟨_, rfl, s2, hq2, hp2⟩
          cases et : e.top with
          | none => rw [et] at fin; exact ⟨rfl, _, rfl, fin⟩
          | some tt => rw [et] at fin; exact ⟨rfl, _, rfl, fin⟩
      · rintro σ H2 ⟨v, rfl, s2, hq2, hp2⟩
        exact ⟨_, rfl, k p H2 s2 hp0 hp2⟩
  | d + 1, hm => by
    have GF := ok_under F bF gF T d (by unfold famMax at hm; omega)
    refine F.ok scUnder (fun vs H Q E h => ?_) (fun cdv A0 outer s0 H vs Q E hr h => ?_)
    · obtain ⟨wa, es, n, rfl, _⟩ := h
      rfl
    · obtain ⟨wa, es, n, rfl, hw, hl, hfl, k⟩ := h
      have hu := hu_of hr
      refine ⟨_, pss_cons (ps_set (i := 2) scUnder.nd rfl (Or.inl rfl) (pe_lst (pa_cons (pv 1) pa_nil)))
        (pss_cons (ps_for PassesOwn.never rfl (pi_list (pe_callB (call_sortedDI rfl) (by rfl) T.sorted (by decide +kernel) (pa_cons (pv 0) pa_nil))) (pg_name (i := 3) scUnder.nd rfl (Or.inl rfl))
          (pss_one (ps_if (pt_cmpR op_eq (pe_dget hu (pe_dget hu (pv 0) (pv 3) (fun _ _ => rfl)) pe_str (fun _ _ => rfl)) (pv 1) (nomark _))
            (pss_one (ps_set (i := 2) scUnder.nd rfl (Or.inl rfl) (pe_op op_cat (pv 2) (pe_call GF hr rfl gF F.kp bF .nil pass0 (pa_cons (pv 0) (pa_cons (pv 3) pa_nil)))))) pss_nil)))
        (pss_one (ps_ret (pv 2)))), ?_⟩
      refine ⟨_, rfl, small (by show 1 ≤ 1000; decide), fun p hp0 => ?_⟩
      have s1 := Same.new (HO.lst [V.int n]) hp0
      refine ⟨_, rfl, wa, _, es.map (·.k), rfl, .inl (s1 _ _ hw.1), by unfold wKvs; simp, by rw [List.length_map]; omega, fun ys q hperm hord hq => ?_⟩
      have ey : ys = sortI (es.map (·.k)) := sortI_of hperm hord
      subst ey
      generalize hks : sortI (es.map (·.k)) = ks at *
      have hq0 := s1.free hq
      have hkl : ks.length ≤ 10 := by rw [← hks, (sortI_perm _).length_eq, List.length_map]; exact hl
      refine ⟨q, rfl, ⟨_, SqL.of upd_same⟩, for_list (K := K) (a := q) (xs := ks.map V.int) (fun i σ H2 => ∃ v p2, σ = [some (.ref wa), some (.int n), some (.ref p2), v] ∧ Same H H2 ∧ H p2 = none ∧ H2 q = some (.lst (ks.map V.int)) ∧
        H2 p2 = some (.lst ((n :: ((ks.take i).filter (topIs es n)).flatMap (under es d)).map V.int))) ?_ ?_ ?_ ?_⟩
      · refine ⟨none, p, rfl, s1.trans (Same.new _ hq), hp0, upd_same, ?_⟩
        rw [upd_ne (ne_of_none (upd_same : upd H p _ p = _) hq)]
        exact upd_same
      · rintro i σ H2 _ ⟨v, p2, _, _, _, hq2, _⟩
        exact SqL.of hq2
      · rintro i x σ H2 hi ⟨v, p2, rfl, s2, hp20, hq2, hp2⟩
        rw [List.getElem?_map] at hi
        cases en : ks[i]? with
        | none => rw [en] at hi; cases hi
        | some n1 =>
          rw [en] at hi
          obtain rfl : V.int n1 = x := Option.some.inj hi
          have hn : n1 ∈ ks := List.mem_of_getElem? en
          obtain ⟨e, he⟩ := findW_some (es := es) (k := n1) (by rw [← hks] at hn; exact (sortI_perm _).mem_iff.mp hn)
          have hw2 := hw.same s2
          have etk : (ks.take (i + 1)).filter (topIs es n) = (ks.take i).filter (topIs es n) ++ (if topIs es n n1 = true then [n1] else []) := by
            rw [List.take_add_one, en, List.filter_append]
            congr 1
            simp only [Option.toList_some, List.filter_cons, List.filter_nil]
          have eti : topIs es n n1 = decide (e.top = some n) := by unfold topIs; rw [he]
          refine ⟨_, rfl, _, rfl, wa, V.ref e.da, rfl, by have := DGet.k (k := (Sum.inl n1 : Key)) hw2.1; rw [valW, he] at this; exact this, e.da, topV e.top, rfl, by have := DGet.k (k := (Sum.inr "top" : Key)) (hw2.2 e (findW_mem he).1); rw [kvs_top] at this; exact this, _, rfl, ?_⟩
          rw [etk, eti, ← topV_eq]
          by_cases c : topV e.top = V.int n
          · have ct : e.top = some n := by have := topV_eq e.top n; rw [decide_eq_true c] at this; exact of_decide_eq_true this.symm
            rw [c]
            refine ⟨rfl, _, rfl, ?_⟩
            rw [decide_eq_true rfl]
            refine iteT ?_
            have hkid : n1 ∈ kids es n := by unfold kids; rw [hks]; exact List.mem_filter.mpr ⟨hn, by rw [eti]; exact decide_eq_true ct⟩
            refine ⟨_, rfl, _, rfl, _, rfl, wa, es, n1, rfl, hw2, hl, hfl n1 hkid, fun r H3 s3 hr0 hr3 => ?_⟩
            refine ⟨p2, r, _, _, rfl, rfl, s3 _ _ hp2, hr3, ?_, fun p4 hp4 => ?_⟩
            · rw [List.length_map, List.length_map, List.length_cons]
              have h5 := under_len hl d n1
              have h6 := flat_le (f := under es d) (m := famMax d) (l := (ks.take i).filter (topIs es n)) fun k _ => under_len hl d k
              have h7 : ((ks.take i).filter (topIs es n)).length ≤ 10 := by
                refine Nat.le_trans (List.length_filter_le _ _) ?_
                rw [List.length_take]; omega
              have h8 := Nat.mul_le_mul_right (famMax d) h7
              have h9 : 1 + 10 * famMax d ≤ 2000 := hm
              have := sizeLine_eq
              rw [sizeLine_eq]; omega
            · refine ⟨_, p4, rfl, s2.trans (s3.trans (Same.new _ hp4)), (s2.trans s3).free hp4, (s3.trans (Same.new _ hp4)) _ _ hq2, ?_⟩
              rw [upd_same]
              simp
          · have hne : decide (topV e.top = V.int n) = false := decide_eq_false c
            have fin : (if decide (topV e.top = V.int n) = true then False else True) := by rw [hne]; exact iteF trivial
            cases et : e.top with
            | none =>
              refine ⟨rfl, _, rfl, ?_⟩
              rw [et] at hne
              rw [hne]
              refine iteF ⟨_, p2, rfl, s2, hp20, hq2, ?_⟩
              rw [hp2]
              simp
            | some tt =>
              refine ⟨rfl, _, rfl, ?_⟩
              rw [et] at hne
              rw [hne]
              refine iteF ⟨_, p2, rfl, s2, hp20, hq2, ?_⟩
              rw [hp2]
              simp
      · rintro σ H2 ⟨v, p2, rfl, s2, hp20, hq2, hp2⟩
        refine ⟨_, rfl, k p2 H2 s2 hp20 ?_⟩
        rw [hp2, List.take_of_length_le (by rw [List.length_map]; exact Nat.le_refl _)]
        unfold under kids
        rw [hks]
end
end SH
set_option Elab.async false
set_option linter.all false
set_option maxRecDepth 100000
namespace SH
open PySem PySem.Spec PyProof.Rows L2
/-! who is a part of whom -/
abbrev Tp := List (Int × Option Int)
def WE.key (e : WE) : Int × Option Int := (e.k, e.top)
def topOf (T : Tp) (k : Int) : Option (Option Int) := (T.find? fun p => decide (p.1 = k)).map (·.2)
structure WOk (T : Tp) : Prop where
  nd : (T.map (·.1)).Nodup
  rng : ∀ p ∈ T, 0 ≤ p.1 ∧ p.1 ≤ 9
  tops : ∀ k t, topOf T k = some (some t) → topOf T t = some none ∨ ∃ u, topOf T t = some (some u) ∧ topOf T u = some none
theorem topOf_findW (es : List WE) (k : Int) : topOf (es.map WE.key) k = (findW es k).map (·.top) := by
  unfold topOf findW
  rw [List.find?_map, Option.map_map]
  rfl
theorem topOf_mem {T : Tp} {k : Int} {t : Option Int} (h : topOf T k = some t) : (k, t) ∈ T := by
  unfold topOf at h
  cases e : T.find? fun p => decide (p.1 = k) with
  | none => rw [e] at h; cases h
  | some p =>
    rw [e] at h
    have h1 := List.mem_of_find?_eq_some e
    have h2 : p.1 = k := by have := List.find?_some e; simpa using this
    have h3 : p.2 = t := Option.some.inj h
    rw [← h2, ← h3]; exact h1
theorem topOf_of {T : Tp} (nd : (T.map (·.1)).Nodup) {k : Int} {t : Option Int} (h : (k, t) ∈ T) : topOf T k = some t := by
  induction T with
  | nil => cases h
  | cons p T ih =>
    rw [List.map_cons, List.nodup_cons] at nd
    unfold topOf
    rw [List.find?_cons]
    rcases List.mem_cons.mp h with e | e
    · rw [← e, decide_eq_true (show (k, t).1 = k from rfl)]; rfl
    · have hne : ¬ p.1 = k := fun z => nd.1 (List.mem_map.mpr ⟨(k, t), e, z.symm⟩)
      rw [decide_eq_false hne]
      exact ih nd.2 e
theorem pigeon : ∀ (n : Nat) (l : List Int), l.Nodup → (∀ x ∈ l, 0 ≤ x ∧ x < (n : Int)) → l.length ≤ n
  | 0, l, _, h => by
    cases l with
    | nil => exact Nat.le_refl _
    | cons x l => have := h x List.mem_cons_self; omega
  | n + 1, l, nd, h => by
    have ih := pigeon n (l.erase (n : Int)) (nd.erase _) fun x hx => by
      have h1 := (nd.mem_erase_iff).mp hx
      have h2 := h x h1.2
      have h3 : x ≠ (n : Int) := h1.1
      omega
    by_cases c : (n : Int) ∈ l
    · rw [List.length_erase_of_mem c] at ih; omega
    · rw [List.erase_of_not_mem c] at ih; omega
theorem WOk.len {T : Tp} (h : WOk T) : T.length ≤ 10 := by
  have := pigeon 10 (T.map (·.1)) h.nd fun x hx => by
    obtain ⟨p, hp, e⟩ := List.mem_map.mp hx
    have := h.rng p hp
    rw [← e]
    show 0 ≤ p.1 ∧ p.1 < 10
    omega
  rwa [List.length_map] at this
theorem mem_kids {es : List WE} {n k : Int} : k ∈ kids es n ↔ topOf (es.map WE.key) k = some (some n) := by
  unfold kids
  rw [List.mem_filter]
  have h1 : topIs es n k = true ↔ topOf (es.map WE.key) k = some (some n) := by
    rw [topOf_findW]
    unfold topIs
    cases findW es k with
    | none => simp
    | some e => simp
  rw [h1]
  refine ⟨fun h => h.2, fun h => ⟨?_, h⟩⟩
  refine (sortI_perm _).mem_iff.mpr ?_
  have := topOf_mem h
  obtain ⟨e, he, e2⟩ := List.mem_map.mp this
  exact List.mem_map.mpr ⟨e, he, congrArg (·.1) e2⟩
theorem WOk.kid2 {T : Tp} (h : WOk T) {i j k n : Int} (h1 : topOf T i = some (some j)) (h2 : topOf T j = some (some k)) (h3 : topOf T k = some (some n)) : False := by
  rcases h.tops i j h1 with q | ⟨u, q, q2⟩
  · rw [h2] at q; cases q
  · rw [h2] at q
    have : k = u := Option.some.inj (Option.some.inj q)
    rw [← this, h3] at q2; cases q2
theorem WOk.flat {es : List WE} (h : WOk (es.map WE.key)) (n : Int) : Flat es 2 n := fun k hk j hj => by
  show kids es j = []
  cases e : kids es j with
  | nil => rfl
  | cons i r => exact (h.kid2 (mem_kids.mp (by rw [e]; exact List.mem_cons_self)) (mem_kids.mp hj) (mem_kids.mp hk)).elim
theorem under2 (es : List WE) (n : Int) : under es 2 n = n :: (kids es n).flatMap fun k => k :: kids es k := by
  show n :: (kids es n).flatMap (fun k => k :: (kids es k).flatMap (under es 0)) = _
  congr 2
  funext k
  congr 1
  show (kids es k).flatMap (fun j => [j]) = _
  rw [List.flatMap_singleton']
theorem kids_nd {es : List WE} (h : (es.map (·.k)).Nodup) (n : Int) : (kids es n).Nodup := by
  unfold kids
  exact ((sortI_perm _).nodup_iff.mpr h).sublist List.filter_sublist
theorem WOk.under_nd {es : List WE} (h : WOk (es.map WE.key)) (n : Int) : (under es 2 n).Nodup := by
  have hk : (es.map (·.k)).Nodup := by have := h.nd; rw [List.map_map] at this; exact this
  rw [under2, List.nodup_cons]
  have self : ∀ {k : Int}, ¬ topOf (es.map WE.key) k = some (some k) := fun z => h.kid2 z z z
  have two : ∀ {k j : Int}, topOf (es.map WE.key) k = some (some j) → ¬ topOf (es.map WE.key) j = some (some k) := fun a b => h.kid2 a b a
  refine ⟨fun hm => ?_, ?_⟩
  · obtain ⟨k, hk, hn⟩ := List.mem_flatMap.mp hm
    have hk := mem_kids.mp hk
    rcases List.mem_cons.mp hn with e | e
    · rw [← e] at hk; exact self hk
    · exact two hk (mem_kids.mp e)
  · show List.Pairwise _ _
    rw [List.pairwise_flatMap]
    refine ⟨fun k hk' => List.nodup_cons.mpr ⟨fun z => self (mem_kids.mp z), kids_nd hk k⟩, ?_⟩
    have hp : (kids es n).Pairwise (· ≠ ·) := kids_nd hk n
    refine (List.Pairwise.and_mem.mp hp).imp ?_
    rintro a b ⟨ha, hb, hab⟩
    have ha := mem_kids.mp ha
    have hb := mem_kids.mp hb
    intro x hx y hy e0
    subst e0
    rcases List.mem_cons.mp hx with e1 | e1 <;> rcases List.mem_cons.mp hy with e2 | e2
    · exact hab (e1.symm.trans e2)
    · have := mem_kids.mp e2
      rw [e1, ha] at this
      have : n = b := Option.some.inj (Option.some.inj this)
      rw [← this] at hb; exact self hb
    · have := mem_kids.mp e1
      rw [e2, hb] at this
      have : n = a := Option.some.inj (Option.some.inj this)
      rw [← this] at ha; exact self ha
    · have q1 := mem_kids.mp e1
      have q2 := mem_kids.mp e2
      rw [q1] at q2
      exact hab (Option.some.inj (Option.some.inj q2))
theorem WOk.under_in {es : List WE} {n : Int} (hn : n ∈ es.map (·.k)) {x : Int} (hx : x ∈ under es 2 n) : x ∈ es.map (·.k) := by
  have kin : ∀ {a b : Int}, a ∈ kids es b → a ∈ es.map (·.k) := fun h => by
    unfold kids at h
    exact (sortI_perm _).mem_iff.mp (List.mem_filter.mp h).1
  rw [under2] at hx
  rcases List.mem_cons.mp hx with e | e
  · rw [e]; exact hn
  · obtain ⟨k, hk, hx⟩ := List.mem_flatMap.mp e
    rcases List.mem_cons.mp hx with e | e
    · rw [e]; exact kin hk
    · exact kin e
theorem WOk.under_cl {es : List WE} (h : WOk (es.map WE.key)) {n k t : Int} (hk : topOf (es.map WE.key) k = some (some t)) (ht : t ∈ under es 2 n) : k ∈ under es 2 n := by
  rw [under2] at ht ⊢
  rcases List.mem_cons.mp ht with e | e
  · rw [e] at hk
    exact List.mem_cons_of_mem _ (List.mem_flatMap.mpr ⟨k, mem_kids.mpr hk, List.mem_cons_self⟩)
  · obtain ⟨j, hj, hx⟩ := List.mem_flatMap.mp e
    rcases List.mem_cons.mp hx with e | e
    · rw [e] at hk
      exact List.mem_cons_of_mem _ (List.mem_flatMap.mpr ⟨j, hj, List.mem_cons_of_mem _ (mem_kids.mpr hk)⟩)
    · exact (h.kid2 hk (mem_kids.mp e) (mem_kids.mp hj)).elim
theorem topOf_filter {T : Tp} {q : Int → Bool} {k : Int} : topOf (T.filter fun p => q p.1) k = if q k = true then topOf T k else none := by
  unfold topOf
  induction T with
  | nil => simp
  | cons p T ih =>
    rw [List.filter_cons]
    by_cases e : p.1 = k
    · by_cases c : q p.1 = true
      · rw [if_pos c, List.find?_cons, decide_eq_true e, ← e, if_pos c, List.find?_cons, decide_eq_true rfl]
      · rw [if_neg c, ih, ← e, if_neg c, if_neg c]
    · by_cases c : q p.1 = true
      · rw [if_pos c, List.find?_cons, decide_eq_false e, List.find?_cons, decide_eq_false e]
        exact ih
      · rw [if_neg c, ih, List.find?_cons, decide_eq_false e]
theorem WOk.drop {es : List WE} (h : WOk (es.map WE.key)) (n : Int) : WOk ((es.map WE.key).filter fun p => decide (p.1 ∉ under es 2 n)) := by
  refine ⟨h.nd.sublist ((List.filter_sublist).map _), fun p hp => h.rng p (List.mem_filter.mp hp).1, fun k t hkt => ?_⟩
  have tf := fun k => topOf_filter (T := es.map WE.key) (q := fun x => decide (x ∉ under es 2 n)) (k := k)
  rw [tf] at hkt
  by_cases c : decide (k ∉ under es 2 n) = true
  · rw [if_pos c] at hkt
    have ck := of_decide_eq_true c
    have ct : t ∉ under es 2 n := fun z => ck (h.under_cl hkt z)
    rcases h.tops k t hkt with q | ⟨u, q, q2⟩
    · left; rw [tf, if_pos (decide_eq_true ct)]; exact q
    · have cu : u ∉ under es 2 n := fun z => ct (h.under_cl q z)
      exact .inr ⟨u, by rw [tf, if_pos (decide_eq_true ct)]; exact q, by rw [tf, if_pos (decide_eq_true cu)]; exact q2⟩
  · rw [if_neg c] at hkt; cases hkt
theorem WOk.nil : WOk [] := ⟨List.nodup_nil, fun _ h => (by cases h), fun k t h => (by cases h)⟩
theorem topOf_app {T : Tp} {n k : Int} {t : Option Int} : topOf (T ++ [(n, t)]) k = match topOf T k with
    | some x => some x
    | none => if n = k then some t else none := by
  unfold topOf
  rw [List.find?_append]
  cases e : T.find? fun p => decide (p.1 = k) with
  | some p => rfl
  | none =>
    show Option.map _ ((([(n, t)] : Tp).find? fun p => decide (p.1 = k))) = _
    by_cases c : n = k
    · simp [List.find?_cons, c]
    · simp [List.find?_cons, c]
theorem WOk.make {T : Tp} (h : WOk T) {n : Int} (hn : topOf T n = none) (h0 : 0 ≤ n) (h9 : n ≤ 9) : WOk (T ++ [(n, none)]) := by
  have hni : n ∉ T.map (·.1) := fun z => by
    obtain ⟨p, hp, e⟩ := List.mem_map.mp z
    have := topOf_of h.nd (k := p.1) (t := p.2) hp
    rw [e, hn] at this; cases this
  have up : ∀ {k x}, topOf T k = some x → topOf (T ++ [(n, none)]) k = some x := fun e => by rw [topOf_app, e]
  refine ⟨?_, fun p hp => ?_, fun k t hk => ?_⟩
  · rw [List.map_append, List.nodup_append]
    refine ⟨h.nd, by simp, fun a ha b hb e => ?_⟩
    have : b = n := by simpa using hb
    rw [e, this] at ha; exact hni ha
  · rcases List.mem_append.mp hp with q | q
    · exact h.rng p q
    · rw [List.mem_singleton.mp q]; exact ⟨h0, h9⟩
  · rw [topOf_app] at hk
    cases e : topOf T k with
    | none =>
      rw [e] at hk
      by_cases c : n = k
      · simp [c] at hk
      · simp [c] at hk
    | some x =>
      rw [e] at hk
      have hx : x = some t := Option.some.inj hk
      rw [hx] at e
      rcases h.tops k t e with q | ⟨u, q, q2⟩
      · exact .inl (up q)
      · exact .inr ⟨u, up q, up q2⟩
def setTop (T : Tp) (n o : Int) : Tp := T.map fun p => if p.1 = n then (p.1, some o) else p
theorem topOf_set {T : Tp} {n o k : Int} : topOf (setTop T n o) k = if k = n then (topOf T k).map (fun _ => some o) else topOf T k := by
  unfold topOf setTop
  induction T with
  | nil => simp
  | cons p T ih =>
    rw [List.map_cons, List.find?_cons, List.find?_cons]
    by_cases e : p.1 = n
    · rw [if_pos e]
      by_cases c : p.1 = k
      · rw [if_pos (show k = n by rw [← c]; exact e)]; simp [c]
      · rw [decide_eq_false (show ¬ (p.1, some o).1 = k from c)]
        try rw [decide_eq_false c]
        exact ih
    · rw [if_neg e]
      by_cases c : p.1 = k
      · rw [decide_eq_true c, if_neg (by rw [← c]; exact e)]
      · rw [decide_eq_false c]; exact ih
theorem WOk.tie {T : Tp} (h : WOk T) {n o : Int} (hno : n ≠ o) (hk : ∀ k, ¬ topOf T k = some (some n)) (ho : topOf T o = some none ∨ ∃ u, topOf T o = some (some u) ∧ topOf T u = some none) : WOk (setTop T n o) := by
  have ek : (setTop T n o).map (·.1) = T.map (·.1) := by
    unfold setTop
    rw [List.map_map]
    refine List.map_congr_left fun p _ => ?_
    show (if p.1 = n then (p.1, some o) else p).1 = p.1
    split <;> rfl
  refine ⟨by rw [ek]; exact h.nd, fun p hp => ?_, fun k t hkt => ?_⟩
  · have : p.1 ∈ (setTop T n o).map (·.1) := List.mem_map_of_mem hp
    rw [ek] at this
    obtain ⟨q, hq, e⟩ := List.mem_map.mp this
    rw [← e]; exact h.rng q hq
  · have same : ∀ {a}, a ≠ n → topOf (setTop T n o) a = topOf T a := fun ha => by rw [topOf_set, if_neg ha]
    have tn : ∀ {a b : Int}, topOf T a = some (some b) → b ≠ n := fun q z => hk _ (by rw [z] at q; exact q)
    have chain : ∀ {a : Int}, a ≠ n → (topOf T a = some none ∨ ∃ u, topOf T a = some (some u) ∧ topOf T u = some none) → (topOf (setTop T n o) a = some none ∨ ∃ u, topOf (setTop T n o) a = some (some u) ∧ topOf (setTop T n o) u = some none) := by
      intro a ha q
      rcases q with q | ⟨u, q, q2⟩
      · exact .inl (by rw [same ha]; exact q)
      · exact .inr ⟨u, by rw [same ha]; exact q, by rw [same (tn q)]; exact q2⟩
    by_cases e : k = n
    · rw [topOf_set, if_pos e] at hkt
      cases q : topOf T k with
      | none => rw [q] at hkt; cases hkt
      | some x =>
        rw [q] at hkt
        have : o = t := Option.some.inj (Option.some.inj hkt)
        rw [← this]
        exact chain (Ne.symm hno) ho
    · rw [same e] at hkt
      exact chain (tn hkt) (h.tops k t hkt)
end SH
set_option Elab.async false
set_option linter.all false
set_option maxRecDepth 100000
namespace SH
open PySem PySem.Spec PyProof.Rows L2
abbrev sTied : Stmt := top 27
def TieOk (T : Tp) (n o : Int) : Prop := n ≠ o ∧ topOf T n = some none ∧ (∀ k, ¬ topOf T k = some (some n)) ∧ (topOf T o = some none ∨ ∃ u, topOf T o = some (some u) ∧ topOf T u = some none)
theorem WAt.get {H : Hp} {wa : Addr} {es : List WE} (h : WAt H wa es) {k : Int} {e : WE} (he : findW es k = some e) : DGet H wa (V.int k) (some (V.ref e.da)) := by
  have := DGet.k (k := (Sum.inl k : Key)) h.1
  rw [valW, he] at this; exact this
theorem WAt.top {H : Hp} {wa : Addr} {es : List WE} (h : WAt H wa es) {e : WE} (he : e ∈ es) : DGet H e.da (V.str "top") (some (topV e.top)) := by
  have := DGet.k (k := (Sum.inr "top" : Key)) (h.2 e he)
  rw [kvs_top] at this; exact this
theorem WAt.rd {H : Hp} {wa : Addr} {es : List WE} (h : WAt H wa es) {e : WE} (he : e ∈ es) : DGet H e.da (V.str "ready") (some e.rd) := by
  have := DGet.k (k := (Sum.inr "ready" : Key)) (h.2 e he)
  rw [kvs_rd] at this; exact this
theorem WAt.sh {H : Hp} {wa : Addr} {es : List WE} (h : WAt H wa es) {e : WE} (he : e ∈ es) : DGet H e.da (V.str "shown") (some e.sh) := by
  have := DGet.k (k := (Sum.inr "shown" : Key)) (h.2 e he)
  rw [kvs_sh] at this; exact this
theorem WAt.pend {H : Hp} {wa : Addr} {es : List WE} (h : WAt H wa es) {e : WE} (he : e ∈ es) : DGet H e.da (V.str "pending") (some (V.ref e.p)) := by
  have := DGet.k (k := (Sum.inr "pending" : Key)) (h.2 e he)
  rw [kvs_pend] at this; exact this
theorem WAt.is {H : Hp} {wa : Addr} {es : List WE} (h : WAt H wa es) (k : Int) : DGet H wa (V.int k) ((findW es k).map fun e => V.ref e.da) := by
  have := DGet.k (k := (Sum.inl k : Key)) h.1
  rw [valW] at this; exact this
section
variable {P : Program} {w : World} {K : PySem.W.Frag} {mg : Str → Option Value} {base : Heap}
abbrev nTied : List Str := ["_law_w", "_law_name", "_law_other", "_law_above"]
theorem scTied : FnScope nTied ["_law_w", "_law_name", "_law_other"] (defScope sTied) := ⟨rfl, rfl, rfl, by decide +kernel, rfl, by decide +kernel, by decide +kernel⟩
def spTied : Sp := fun vs H Q _ => ∃ (wa : Addr) (es : List WE) (n o : Int), vs = [.ref wa, .int n, .int o] ∧ WAt H wa es ∧ WOk (es.map WE.key) ∧
  ∀ b H', Same H H' → (b = true → TieOk (es.map WE.key) n o) → Q (.bl b) H'
theorem ok_tied {f fU : Addr} {fd fdU : FuncData} (F : Fun K "_law_is_tied" "_law_is_tied" sTied f fd) (T : TxtG mg)
    (GU : FnOk P w K mg base CX0 3 fU fdU ["_law_w", "_law_name"] (spUnder 2)) (bU : Binds K fdU ["_law_w", "_law_name"] []) (gU : mg "_law_under" = some (.ref fU)) (kU : PySem.W.keepIn K (.ref fU) = true) :
    FnOk P w K mg base CX0 4 f fd ["_law_w", "_law_name", "_law_other"] spTied := by
  refine F.ok scTied (fun vs H Q E h => ?_) (fun cdv A0 outer s0 H vs Q E hr h => ?_)
  · obtain ⟨wa, es, n, o, rfl, _⟩ := h
    rfl
  · obtain ⟨wa, es, n, o, rfl, hw, ok, k⟩ := h
    have hu := hu_of hr
    refine ⟨_, pss_cons (ps_if (PW.pt (pw_or (pt_cmpR op_eq (pv 1) (pv 2) (nomark _)) (pw_or (pt_cmp (pc_dnotin hu (pv 1) (pv 0))) (pw_or (pt_cmp (pc_dnotin hu (pv 2) (pv 0)))
        (pw_or1 (pt_cmpR op_gt (pe_callB call_len_seq (by rfl) T.len PySem.boot_len (pa_cons (pe_call GU hr rfl gU kU bU .nil pass0 (pa_cons (pv 0) (pa_cons (pv 1) pa_nil))) pa_nil)) pe_int (nomark _))))))) (pss_one (ps_ret pe_bl)) pss_nil)
      (pss_cons (ps_if (PW.pt (pw_or (pt_cmpR op_notN (pe_dget hu (pe_dget hu (pv 0) (pv 1) (fun _ _ => rfl)) pe_str (fun _ _ => rfl)) pe_non (nomark _))
        (pw_or (pt_cmpR op_notN (pe_dget hu (pe_dget hu (pv 0) (pv 1) (fun _ _ => rfl)) pe_str (fun _ _ => rfl)) pe_non (nomark _))
        (pw_or1 (pt_cmpR op_notN (pe_dget hu (pe_dget hu (pv 0) (pv 1) (fun _ _ => rfl)) pe_str (fun _ _ => rfl)) pe_non (nomark _)))))) (pss_one (ps_ret pe_bl)) pss_nil)
      (pss_cons (ps_set (i := 3) scTied.nd rfl (Or.inl rfl) (pe_dget hu (pe_dget hu (pv 0) (pv 2) (fun _ _ => rfl)) pe_str (fun _ _ => rfl)))
      (pss_one (ps_ret (pe_or (pe_cmpR op_isN (pv 3) pe_non (nomark _)) (pe_one (pe_cmpR op_isN (pe_dget hu (pe_dget hu (pv 0) (pv 3) (fun _ _ => rfl)) pe_str (fun _ _ => rfl)) pe_non (nomark _)))))))), ?_⟩
    have no : ∀ H', Same H H' → Q (.bl false) H' := fun H' s => k false H' s (fun z => by cases z)
    have hlen := ok.len
    rw [List.length_map] at hlen
    refine ⟨_, rfl, _, rfl, rfl, _, rfl, ?_⟩
    by_cases c1 : n = o
    · rw [decide_eq_true (show V.int n = V.int o by rw [c1])]
      exact iteT (no H (Same.refl H))
    rw [decide_eq_false (show ¬ V.int n = V.int o from fun z => c1 (V.int.inj z))]
    refine iteF ?_
    refine ⟨_, rfl, _, rfl, wa, _, rfl, hw.is n, _, rfl, ?_⟩
    cases en : findW es n with
    | none => exact iteT (no H (Same.refl H))
    | some e =>
    refine iteF ?_
    refine ⟨_, rfl, _, rfl, wa, _, rfl, hw.is o, _, rfl, ?_⟩
    cases eo : findW es o with
    | none => exact iteT (no H (Same.refl H))
    | some g =>
    refine iteF ?_
    refine ⟨_, rfl, _, rfl, wa, es, n, rfl, hw, hlen, ok.flat n, fun p H1 s1 hp0 hp => ?_⟩
    refine ⟨p, _, rfl, .inl (SqL.of hp), _, _, rfl, rfl, _, rfl, ?_⟩
    rw [List.length_map, under2, List.length_cons]
    by_cases c2 : (1 : Int) < (((kids es n).flatMap fun k => k :: kids es k).length + 1 : Nat)
    · rw [decide_eq_true c2]
      exact iteT (no H1 s1)
    rw [decide_eq_false c2]
    refine iteF ?_
    have hk : kids es n = [] := by
      cases q : kids es n with
      | nil => rfl
      | cons a r => rw [q] at c2; simp at c2; omega
    have hw1 := hw.same s1
    have em := (findW_mem en).1
    refine ⟨_, rfl, _, rfl, wa, _, rfl, hw1.get en, _, _, rfl, hw1.sh em, rfl, _, rfl, ?_⟩
    refine ite2 (fun _ => no H1 s1) (fun _ => ?_)
    refine ⟨_, rfl, _, rfl, wa, _, rfl, hw1.get en, _, _, rfl, hw1.rd em, rfl, _, rfl, ?_⟩
    refine ite2 (fun _ => no H1 s1) (fun _ => ?_)
    refine ⟨_, rfl, _, rfl, wa, _, rfl, hw1.get en, _, _, rfl, hw1.top em, rfl, _, rfl, ?_⟩
    refine ite2 (fun _ => no H1 s1) (fun c3 => ?_)
    have et : e.top = none := by
      cases q : e.top with
      | none => rfl
      | some i => rw [q] at c3; exact absurd rfl c3
    have om := (findW_mem eo).1
    refine ⟨_, rfl, _, rfl, wa, _, rfl, hw1.get eo, _, _, rfl, hw1.top om, ?_⟩
    have base : (∀ b, (b = true → (topOf (es.map WE.key) o = some none ∨ ∃ u, topOf (es.map WE.key) o = some (some u) ∧ topOf (es.map WE.key) u = some none)) → Q (.bl b) H1) := fun b hb => k b H1 s1 fun z =>
      ⟨c1, by rw [topOf_findW, en]; show some e.top = _; rw [et], fun j hj => (by have := mem_kids.mpr hj; rw [hk] at this; cases this), hb z⟩
    cases eg : g.top with
    | none =>
      refine ⟨_, rfl, rfl, _, rfl, ?_⟩
      refine iteT ?_
      exact base true fun _ => .inl (by rw [topOf_findW, eo]; show some g.top = _; rw [eg])
    | some u =>
      refine ⟨_, rfl, rfl, _, rfl, ?_⟩
      refine iteF ?_
      have hg : topOf (es.map WE.key) o = some (some u) := by rw [topOf_findW, eo]; show some g.top = _; rw [eg]
      have hux : ∃ x, topOf (es.map WE.key) u = some x := by
        rcases ok.tops o u hg with q | ⟨v, q, _⟩
        · exact ⟨_, q⟩
        · exact ⟨_, q⟩
      obtain ⟨x, hx⟩ := hux
      rw [topOf_findW] at hx
      cases eu : findW es u with
      | none => rw [eu] at hx; cases hx
      | some gu =>
        refine ⟨_, rfl, _, rfl, wa, _, rfl, hw1.get eu, _, _, rfl, hw1.top (findW_mem eu).1, rfl, ?_⟩
        refine base _ fun z => .inr ⟨u, hg, ?_⟩
        rw [topOf_findW, eu]
        show some gu.top = _
        cases q : gu.top with
        | none => rfl
        | some i => rw [q] at z; exact absurd (of_decide_eq_true z) (by intro y; cases y)
end
end SH
set_option Elab.async false
set_option linter.all false
set_option maxRecDepth 100000
namespace SH
open PySem PySem.Spec PyProof.Rows L2
def WE.core (e : WE) : Int × Addr × Addr × Option Int := (e.k, e.da, e.p, e.top)
def WPend (H : Hp) (es : List WE) : Prop := ∀ e ∈ es, PendAt H e.p
theorem WPend.keep {H H' : Hp} {es : List WE} (h : WPend H es) (k : KeepT H H') : WPend H' es := fun e he => (h e he).keep k
theorem WPend.core {H : Hp} {es es' : List WE} (h : WPend H es) (c : es'.map WE.core = es.map WE.core) : WPend H es' := fun e he => by
  have : e.core ∈ es.map WE.core := by rw [← c]; exact List.mem_map_of_mem he
  obtain ⟨e2, h2, q⟩ := List.mem_map.mp this
  have : e2.p = e.p := congrArg (fun x => x.2.2.1) q
  rw [← this]; exact h e2 h2
theorem core_key {es es' : List WE} (c : es'.map WE.core = es.map WE.core) : es'.map WE.key = es.map WE.key := by
  have f : WE.key = (fun x : Int × Addr × Addr × Option Int => (x.1, x.2.2.2)) ∘ WE.core := rfl
  rw [f, ← List.map_map, ← List.map_map, c]
theorem wat_of {H : Hp} {A B : Cells} {wa : Addr} {es : List WE} (h : Has H (A ++ (wCells wa es ++ B))) : WAt H wa es :=
  ⟨h.get 0 rfl, fun e he => h.mem (List.mem_append_right _ (List.mem_append_left _ (List.mem_cons_of_mem _ (List.mem_map.mpr ⟨e, he, rfl⟩))))⟩
theorem findW_ix {es : List WE} {k : Int} {e : WE} (h : findW es k = some e) : ∃ i : Nat, es[i]? = some e := by
  obtain ⟨i, hi, q⟩ := List.getElem_of_mem (findW_mem h).1
  exact ⟨i, by rw [List.getElem?_eq_getElem hi, q]⟩
theorem wkvs_set {es : List WE} {i : Nat} {e e' : WE} (h : es[i]? = some e) (hk : e'.k = e.k) (hd : e'.da = e.da) : wKvs (es.set i e') = wKvs es := by
  unfold wKvs
  rw [List.map_set, hk, hd]
  refine List.ext_getElem? fun j => ?_
  by_cases c : i = j
  · subst c
    have hi := (List.getElem?_eq_some_iff.mp h).1
    rw [List.getElem?_set_self (by rw [List.length_map]; exact hi), List.getElem?_map, h]; rfl
  · rw [List.getElem?_set_ne c]
theorem Has.wset {H : Hp} {A B : Cells} {wa : Addr} {es : List WE} {i : Nat} {e e' : WE} (h : Has H (A ++ (wCells wa es ++ B))) (he : es[i]? = some e) (hk : e'.k = e.k) (hd : e'.da = e.da) :
    Has (upd H e.da (.dK e'.kvs)) (A ++ (wCells wa (es.set i e') ++ B)) := by
  have hi := (List.getElem?_eq_some_iff.mp he).1
  have e1 : (wCells wa es ++ B)[i + 1]? = some (e.da, HO.dK e.kvs) := by
    unfold wCells
    rw [List.cons_append, List.getElem?_cons_succ, List.getElem?_append_left (by rw [List.length_map]; exact hi), List.getElem?_map, he]; rfl
  have := h.set (i + 1) e1 (.dK e'.kvs)
  refine this.re ?_
  congr 1
  unfold wCells
  rw [List.cons_append, List.set_cons_succ, List.set_append_left _ _ (by rw [List.length_map]; exact hi), wkvs_set he hk hd, List.map_set, hd]; rfl
theorem core_set {es : List WE} {i : Nat} {e e' : WE} (h : es[i]? = some e) (hc : e'.core = e.core) : (es.set i e').map WE.core = es.map WE.core := by
  rw [List.map_set, hc]
  refine List.ext_getElem? fun j => ?_
  by_cases c : i = j
  · subst c
    have hi := (List.getElem?_eq_some_iff.mp h).1
    rw [List.getElem?_set_self (by rw [List.length_map]; exact hi), List.getElem?_map, h]; rfl
  · rw [List.getElem?_set_ne c]
theorem core_find {es es' : List WE} (c : es'.map WE.core = es.map WE.core) {k : Int} {e : WE} (h : findW es k = some e) : ∃ e', findW es' k = some e' ∧ e'.core = e.core := by
  have g : ∀ l : List WE, (findW l k).map WE.core = (l.map WE.core).find? fun x => decide (x.1 = k) := fun l => by
    unfold findW
    rw [List.find?_map]; rfl
  have g1 := g es'
  rw [c, ← g es, h] at g1
  cases q : findW es' k with
  | none => rw [q] at g1; cases g1
  | some e' => rw [q] at g1; exact ⟨e', rfl, Option.some.inj g1⟩
theorem KeepT.dk {H : Hp} {p : Addr} {kvs : List (Key × V)} (h : H p = some (.dK kvs)) (o : HO) : KeepT H (upd H p o) := upd_tup fun xs e => by rw [h] at e; cases e
theorem keyset {es : List WE} (nd : ((es.map WE.key).map (·.1)).Nodup) {i : Nat} {e e' : WE} {o : Int} (h : es[i]? = some e) (hk : e'.k = e.k) (ht : e'.top = some o) : (es.set i e').map WE.key = setTop (es.map WE.key) e.k o := by
  unfold setTop
  refine List.ext_getElem? fun j => ?_
  rw [List.map_set, List.getElem?_map]
  have hi := (List.getElem?_eq_some_iff.mp h).1
  by_cases c : i = j
  · subst c
    rw [List.getElem?_set_self (by rw [List.length_map]; exact hi), List.getElem?_map, h]
    show some e'.key = some (if e.key.1 = e.k then (e.key.1, some o) else e.key)
    rw [if_pos (show e.key.1 = e.k from rfl)]
    show some (e'.k, e'.top) = some (e.k, some o)
    rw [hk, ht]
  · rw [List.getElem?_set_ne c, List.getElem?_map]
    cases q : es[j]? with
    | none => rfl
    | some g =>
      show some g.key = some (if g.key.1 = e.k then (g.key.1, some o) else g.key)
      rw [if_neg]
      intro z
      have k1 : ((es.map WE.key).map (·.1))[i]? = some e.k := by rw [List.getElem?_map, List.getElem?_map, h]; rfl
      have k2 : ((es.map WE.key).map (·.1))[j]? = some e.k := by rw [List.getElem?_map, List.getElem?_map, q]; exact congrArg some z
      exact c (nd_ix nd k1 k2)
theorem putW_new {es : List WE} {n : Int} {d : Addr} (h : findW es n = none) : putK (wKvs es) (Sum.inl n : Key) (V.ref d) = wKvs es ++ [(Sum.inl n, V.ref d)] := by
  unfold putK
  have : ((wKvs es).any fun kv => decide (kv.1 = (Sum.inl n : Key))) = false := by
    rw [valV_any, valW, h]; rfl
  rw [this]; rfl
theorem dropW {es : List WE} {n : Int} : dropK (wKvs es) (Sum.inl n : Key) = wKvs (es.filter fun e => decide (e.k ≠ n)) := by
  unfold dropK wKvs
  rw [List.filter_map]
  congr 1
  refine List.filter_congr fun e _ => ?_
  show decide ((Sum.inl e.k : Key) ≠ Sum.inl n) = decide (e.k ≠ n)
  exact decide_eq_decide.mpr ⟨fun h z => h (by rw [z]), fun h z => h (Sum.inl.inj z)⟩
theorem Has.wdrop {H : Hp} {A B : Cells} {wa : Addr} {es : List WE} {q : WE → Bool} (h : Has H (A ++ (wCells wa es ++ B))) :
    Has (upd H wa (.dK (wKvs (es.filter q)))) (A ++ (wCells wa (es.filter q) ++ B)) := by
  have h1 := h.set 0 (p := wa) (o := .dK (wKvs es)) rfl (.dK (wKvs (es.filter q)))
  refine (h1.sub ?_)
  refine List.Sublist.append_left ?_ _
  show (wCells wa (es.filter q) ++ B).Sublist (((wa, HO.dK (wKvs (es.filter q))) :: es.map fun e => (e.da, HO.dK e.kvs)) ++ B)
  refine List.Sublist.append_right ?_ _
  unfold wCells
  exact List.Sublist.cons₂ _ ((List.filter_sublist).map _)
theorem Has.wadd {H : Hp} {A B : Cells} {wa : Addr} {es : List WE} {e : WE} (h : Has H (A ++ (wCells wa es ++ ((e.da, HO.dK e.kvs) :: B)))) : Has (upd H wa (.dK (wKvs (es ++ [e])))) (A ++ (wCells wa (es ++ [e]) ++ B)) := by
  have h1 := h.set 0 (p := wa) (o := .dK (wKvs es)) rfl (.dK (wKvs (es ++ [e])))
  refine h1.re ?_
  congr 1
  unfold wCells
  rw [List.map_append, List.cons_append, List.cons_append, List.append_assoc]; rfl
end SH
set_option Elab.async false
set_option linter.all false
set_option maxRecDepth 100000
namespace SH
open PySem PySem.Spec PyProof.Rows L2
abbrev sDoes : Stmt := top 28
def Lt.name : Lt → Int
  | .make n => n | .drop n => n | .size n _ _ => n | .paint n _ _ _ _ _ => n | .place n _ _ => n | .rank n _ => n | .veil n => n | .unveil n => n | .tie n _ => n | .show n => n | .hold n => n | .let_ => 0
theorem word_let {z : Lt} (h : z.word = "let") : z = .let_ := by
  cases z with
  | make n => exact absurd (show ("make" : Str) = "let" from h) (by decide +kernel)
  | drop n => exact absurd (show ("drop" : Str) = "let" from h) (by decide +kernel)
  | size n a b => exact absurd (show ("size" : Str) = "let" from h) (by decide +kernel)
  | paint n a b c d m => exact absurd (show ("paint" : Str) = "let" from h) (by decide +kernel)
  | place n a b => exact absurd (show ("place" : Str) = "let" from h) (by decide +kernel)
  | rank n a => exact absurd (show ("rank" : Str) = "let" from h) (by decide +kernel)
  | veil n => exact absurd (show ("veil" : Str) = "let" from h) (by decide +kernel)
  | unveil n => exact absurd (show ("unveil" : Str) = "let" from h) (by decide +kernel)
  | tie n a => exact absurd (show ("tie" : Str) = "let" from h) (by decide +kernel)
  | «show» n => exact absurd (show ("show" : Str) = "let" from h) (by decide +kernel)
  | hold n => exact absurd (show ("hold" : Str) = "let" from h) (by decide +kernel)
  | let_ => exact rfl
theorem word_make {z : Lt} (h : z.word = "make") : ∃ n, z = .make n := by
  cases z with
  | make n => exact ⟨_, rfl⟩
  | drop n => exact absurd (show ("drop" : Str) = "make" from h) (by decide +kernel)
  | size n a b => exact absurd (show ("size" : Str) = "make" from h) (by decide +kernel)
  | paint n a b c d m => exact absurd (show ("paint" : Str) = "make" from h) (by decide +kernel)
  | place n a b => exact absurd (show ("place" : Str) = "make" from h) (by decide +kernel)
  | rank n a => exact absurd (show ("rank" : Str) = "make" from h) (by decide +kernel)
  | veil n => exact absurd (show ("veil" : Str) = "make" from h) (by decide +kernel)
  | unveil n => exact absurd (show ("unveil" : Str) = "make" from h) (by decide +kernel)
  | tie n a => exact absurd (show ("tie" : Str) = "make" from h) (by decide +kernel)
  | «show» n => exact absurd (show ("show" : Str) = "make" from h) (by decide +kernel)
  | hold n => exact absurd (show ("hold" : Str) = "make" from h) (by decide +kernel)
  | let_ => exact absurd (show ("let" : Str) = "make" from h) (by decide +kernel)
theorem word_tie {z : Lt} (h : z.word = "tie") : ∃ n o, z = .tie n o := by
  cases z with
  | make n => exact absurd (show ("make" : Str) = "tie" from h) (by decide +kernel)
  | drop n => exact absurd (show ("drop" : Str) = "tie" from h) (by decide +kernel)
  | size n a b => exact absurd (show ("size" : Str) = "tie" from h) (by decide +kernel)
  | paint n a b c d m => exact absurd (show ("paint" : Str) = "tie" from h) (by decide +kernel)
  | place n a b => exact absurd (show ("place" : Str) = "tie" from h) (by decide +kernel)
  | rank n a => exact absurd (show ("rank" : Str) = "tie" from h) (by decide +kernel)
  | veil n => exact absurd (show ("veil" : Str) = "tie" from h) (by decide +kernel)
  | unveil n => exact absurd (show ("unveil" : Str) = "tie" from h) (by decide +kernel)
  | tie n a => exact ⟨_, _, rfl⟩
  | «show» n => exact absurd (show ("show" : Str) = "tie" from h) (by decide +kernel)
  | hold n => exact absurd (show ("hold" : Str) = "tie" from h) (by decide +kernel)
  | let_ => exact absurd (show ("let" : Str) = "tie" from h) (by decide +kernel)
theorem word_hold {z : Lt} (h : z.word = "hold") : ∃ n, z = .hold n := by
  cases z with
  | make n => exact absurd (show ("make" : Str) = "hold" from h) (by decide +kernel)
  | drop n => exact absurd (show ("drop" : Str) = "hold" from h) (by decide +kernel)
  | size n a b => exact absurd (show ("size" : Str) = "hold" from h) (by decide +kernel)
  | paint n a b c d m => exact absurd (show ("paint" : Str) = "hold" from h) (by decide +kernel)
  | place n a b => exact absurd (show ("place" : Str) = "hold" from h) (by decide +kernel)
  | rank n a => exact absurd (show ("rank" : Str) = "hold" from h) (by decide +kernel)
  | veil n => exact absurd (show ("veil" : Str) = "hold" from h) (by decide +kernel)
  | unveil n => exact absurd (show ("unveil" : Str) = "hold" from h) (by decide +kernel)
  | tie n a => exact absurd (show ("tie" : Str) = "hold" from h) (by decide +kernel)
  | «show» n => exact absurd (show ("show" : Str) = "hold" from h) (by decide +kernel)
  | hold n => exact ⟨_, rfl⟩
  | let_ => exact absurd (show ("let" : Str) = "hold" from h) (by decide +kernel)
theorem word_drop {z : Lt} (h : z.word = "drop") : ∃ n, z = .drop n := by
  cases z with
  | make n => exact absurd (show ("make" : Str) = "drop" from h) (by decide +kernel)
  | drop n => exact ⟨_, rfl⟩
  | size n a b => exact absurd (show ("size" : Str) = "drop" from h) (by decide +kernel)
  | paint n a b c d m => exact absurd (show ("paint" : Str) = "drop" from h) (by decide +kernel)
  | place n a b => exact absurd (show ("place" : Str) = "drop" from h) (by decide +kernel)
  | rank n a => exact absurd (show ("rank" : Str) = "drop" from h) (by decide +kernel)
  | veil n => exact absurd (show ("veil" : Str) = "drop" from h) (by decide +kernel)
  | unveil n => exact absurd (show ("unveil" : Str) = "drop" from h) (by decide +kernel)
  | tie n a => exact absurd (show ("tie" : Str) = "drop" from h) (by decide +kernel)
  | «show» n => exact absurd (show ("show" : Str) = "drop" from h) (by decide +kernel)
  | hold n => exact absurd (show ("hold" : Str) = "drop" from h) (by decide +kernel)
  | let_ => exact absurd (show ("let" : Str) = "drop" from h) (by decide +kernel)
theorem word_show {z : Lt} (h : z.word = "show") : ∃ n, z = .show n := by
  cases z with
  | make n => exact absurd (show ("make" : Str) = "show" from h) (by decide +kernel)
  | drop n => exact absurd (show ("drop" : Str) = "show" from h) (by decide +kernel)
  | size n a b => exact absurd (show ("size" : Str) = "show" from h) (by decide +kernel)
  | paint n a b c d m => exact absurd (show ("paint" : Str) = "show" from h) (by decide +kernel)
  | place n a b => exact absurd (show ("place" : Str) = "show" from h) (by decide +kernel)
  | rank n a => exact absurd (show ("rank" : Str) = "show" from h) (by decide +kernel)
  | veil n => exact absurd (show ("veil" : Str) = "show" from h) (by decide +kernel)
  | unveil n => exact absurd (show ("unveil" : Str) = "show" from h) (by decide +kernel)
  | tie n a => exact absurd (show ("tie" : Str) = "show" from h) (by decide +kernel)
  | «show» n => exact ⟨_, rfl⟩
  | hold n => exact absurd (show ("hold" : Str) = "show" from h) (by decide +kernel)
  | let_ => exact absurd (show ("let" : Str) = "show" from h) (by decide +kernel)
theorem word_look {z : Lt} (h1 : z.word ≠ "let") (h2 : z.word ≠ "make") (h3 : z.word ≠ "tie") (h4 : z.word ≠ "hold") (h5 : z.word ≠ "drop") (h6 : z.word ≠ "show") : z.look := by
  cases z with
  | make n => exact absurd rfl h2
  | drop n => exact absurd rfl h5
  | size n a b => exact .inl rfl
  | paint n a b c d m => exact .inr (.inl rfl)
  | place n a b => exact .inr (.inr (.inl rfl))
  | rank n a => exact .inr (.inr (.inr (.inl rfl)))
  | veil n => exact .inr (.inr (.inr (.inr (.inl rfl))))
  | unveil n => exact .inr (.inr (.inr (.inr (.inr (rfl)))))
  | tie n a => exact absurd rfl h3
  | «show» n => exact absurd rfl h6
  | hold n => exact absurd rfl h4
  | let_ => exact absurd rfl h1
theorem Lt.vals1 {z : Lt} (h : z ≠ .let_) : z.vals[1]? = some (V.int z.name) := by cases z <;> first | rfl | exact absurd rfl h
section
variable {P : Program} {w : World} {K : PySem.W.Frag} {mg : Str → Option Value} {base : Heap}
abbrev nDoes : List Str := ["_law_w", "_law_letter_here", "_law_word", "_law_name", "_law_gone", "_law_one", "_law_found", "_law_look"]
theorem scDoes : FnScope nDoes ["_law_w", "_law_letter_here"] (defScope sDoes) := ⟨rfl, rfl, rfl, by decide +kernel, rfl, by decide +kernel, by decide +kernel⟩
def spDoes : Sp := fun vs H Q _ => ∃ (A B : Cells) (wa t : Addr) (es : List WE) (z : Lt), vs = [.ref wa, .ref t] ∧ Has H (A ++ (wCells wa es ++ B)) ∧ WOk (es.map WE.key) ∧ WPend H es ∧ H t = some (.tup z.vals) ∧ z.ok ∧
  ∀ b r x1 x2 es' H', KeepT H H' → H' r = some (.tup [.bl b, x1, x2]) → WOk (es'.map WE.key) → WPend H' es' → Has H' (A ++ (wCells wa es' ++ B)) → Q (.ref r) H'
set_option maxHeartbeats 0 in
theorem ok_does {f fU fT fP : Addr} {fd fdU fdT fdP : FuncData} (F : Fun K "_law_does" "_law_does" sDoes f fd) (T : TxtG mg)
    (GU : FnOk P w K mg base CX0 3 fU fdU ["_law_w", "_law_name"] (spUnder 2)) (bU : Binds K fdU ["_law_w", "_law_name"] []) (gU : mg "_law_under" = some (.ref fU)) (kU : PySem.W.keepIn K (.ref fU) = true)
    (GT : FnOk P w K mg base CX0 4 fT fdT ["_law_w", "_law_name", "_law_other"] spTied) (bT : Binds K fdT ["_law_w", "_law_name", "_law_other"] []) (gT : mg "_law_is_tied" = some (.ref fT)) (kT : PySem.W.keepIn K (.ref fT) = true)
    (GP : FnOk P w K mg base CX0 2 fP fdP ["_law_look", "_law_letter_here"] spPending) (bP : Binds K fdP ["_law_look", "_law_letter_here"] []) (gP : mg "_law_pending" = some (.ref fP)) (kP : PySem.W.keepIn K (.ref fP) = true) :
    FnOk P w K mg base CX0 5 f fd ["_law_w", "_law_letter_here"] spDoes := by
  refine F.ok scDoes (fun vs H Q E h => ?_) (fun cdv A0 outer s0 H vs Q E hr h => ?_)
  · obtain ⟨A, B, wa, t, es, z, rfl, _⟩ := h
    rfl
  · obtain ⟨A, B, wa, t, es, z, rfl, hh, ok, wp, ht, hz, k⟩ := h
    have hu := hu_of hr
    refine ⟨_, (pss_cons (ps_set (i := 2) scDoes.nd rfl (Or.inl rfl) (pe_ix ix_tup (pv 1) pe_int (fun _ _ => rfl))) (pss_cons (ps_if (pt_cmpR op_eq (pv 2) pe_str (nomark _)) (pss_one (ps_ret (pe_tup (pa_cons pe_bl (pa_cons (pe_lst pa_nil) (pa_cons (pe_lst pa_nil) pa_nil)))))) pss_nil) (pss_cons (ps_set (i := 3) scDoes.nd rfl (Or.inl rfl) (pe_ix ix_tup (pv 1) pe_int (fun _ _ => rfl))) (pss_cons (ps_if (pt_cmpR op_eq (pv 2) pe_str (nomark _)) (pss_cons (ps_if (pt_cmp (pc_din hu (pv 3) (pv 0))) (pss_one (ps_ret (pe_tup (pa_cons pe_bl (pa_cons (pe_lst pa_nil) (pa_cons (pe_lst pa_nil) pa_nil)))))) pss_nil) (pss_cons (ps_dput hu (pv 0) (pv 3) (pe_disp (pps_cons pe_str (pe_tup (pa_cons pe_int (pa_cons pe_int (pa_cons pe_int (pa_cons pe_bl (pa_cons (pe_tup (pa_cons (pe_tup (pa_cons pe_int pa_nil)) pa_nil)) pa_nil)))))) (pps_cons pe_str pe_non (pps_cons pe_str pe_non (pps_cons pe_str pe_non pps_nil)))) (by rfl) (by rfl) (fun z => by cases z) (by decide)) rfl) (pss_one (ps_ret (pe_tup (pa_cons pe_bl (pa_cons (pe_lst pa_nil) (pa_cons (pe_lst pa_nil) pa_nil)))))))) pss_nil) (pss_cons (ps_if (pt_cmpR op_eq (pv 2) pe_str (nomark _)) (pss_cons (ps_if (pt_not (pt_val (pe_call GT hr rfl gT kT bT .nil pass0 (pa_cons (pv 0) (pa_cons (pv 3) (pa_cons (pe_ix ix_tup (pv 1) pe_int (fun _ _ => rfl)) pa_nil)))))) (pss_one (ps_ret (pe_tup (pa_cons pe_bl (pa_cons (pe_lst pa_nil) (pa_cons (pe_lst pa_nil) pa_nil)))))) pss_nil) (pss_cons (ps_dput hu (pe_dget hu (pv 0) (pv 3) (fun _ _ => rfl)) pe_str (pe_ix ix_tup (pv 1) pe_int (fun _ _ => rfl)) rfl) (pss_one (ps_ret (pe_tup (pa_cons pe_bl (pa_cons (pe_lst pa_nil) (pa_cons (pe_lst pa_nil) pa_nil)))))))) pss_nil) (pss_cons (ps_if (pt_cmp (pc_dnotin hu (pv 3) (pv 0))) (pss_one (ps_ret (pe_tup (pa_cons pe_bl (pa_cons (pe_lst pa_nil) (pa_cons (pe_lst pa_nil) pa_nil)))))) pss_nil) (pss_cons (ps_if (pt_cmpR op_eq (pv 2) pe_str (nomark _)) (pss_one (ps_ret (pe_tup (pa_cons pe_bl (pa_cons (pe_lst pa_nil) (pa_cons (pe_lst pa_nil) pa_nil)))))) pss_nil) (pss_cons (ps_if (pt_cmpR op_eq (pv 2) pe_str (nomark _)) (pss_cons (ps_set (i := 4) scDoes.nd rfl (Or.inl rfl) (pe_call GU (hr.mono (by decide)) rfl gU kU bU .nil pass0 (pa_cons (pv 0) (pa_cons (pv 3) pa_nil)))) (pss_cons (ps_for PassesOwn.never rfl (pi_list (pv 4)) (pg_name (i := 5) scDoes.nd rfl (Or.inl rfl)) (pss_one (ps_expr (pe_dpop1 (pv 0) (pv 5) ⟨rfl, rfl, rfl, rfl⟩)))) (pss_one (ps_ret (pe_tup (pa_cons pe_bl (pa_cons (pe_lst pa_nil) (pa_cons (pv 4) pa_nil)))))))) pss_nil) (pss_cons (ps_if (pt_cmpR op_eq (pv 2) pe_str (nomark _)) (pss_cons (ps_dput hu (pe_dget hu (pv 0) (pv 3) (fun _ _ => rfl)) pe_str (pe_dget hu (pe_dget hu (pv 0) (pv 3) (fun _ _ => rfl)) pe_str (fun _ _ => rfl)) rfl) (pss_cons (ps_set (i := 6) scDoes.nd rfl (Or.inl rfl) (pe_ifExp (pt_cmpR op_isN (pe_dget hu (pe_dget hu (pv 0) (pv 3) (fun _ _ => rfl)) pe_str (fun _ _ => rfl)) pe_non (nomark _)) (pe_call GU (hr.mono (by decide)) rfl gU kU bU .nil pass0 (pa_cons (pv 0) (pa_cons (pv 3) pa_nil))) (pe_lst pa_nil))) (pss_cons (ps_setLc (i := 6) (own := [("_law_one", 5)]) (g := gName 5) (te := tVar 5) (tt := tTest (tOp (fun x y H Q => y = .non ∧ Q (.bl (!decide (x = .non))) H) (tDGet (tDGet (tVar 0) (tVar 5)) (tC (.str "ready"))) (tC .non))) (by rfl) scDoes.nd rfl rfl (sw_true rfl rfl rfl (by decide +kernel)) (pi_list (pv 6)) (blkOk_by (own := [("_law_one", 5)]) (N := nDoes) (sc := defScope sDoes) (by decide +kernel)) (fun _ _ _ _ _ => (pg_name (i := 5) scDoes.nd rfl (Or.inl rfl))) (fun _ _ _ _ _ => pts_one (pt_cmpR op_notN (pe_dget hu (pe_dget hu (pv 0) (pv 5) (fun _ _ => rfl)) pe_str (fun _ _ => rfl)) pe_non (nomark _))) (fun _ _ _ _ _ => pv 5)) (pss_cons (ps_for PassesOwn.never rfl (pi_list (pv 6)) (pg_name (i := 5) scDoes.nd rfl (Or.inl rfl)) (pss_one (ps_expr (pe_dupd (pe_dget hu (pv 0) (pv 5) (fun _ _ => rfl)) (pe_disp (pps_cons pe_str (pe_dget hu (pe_dget hu (pv 0) (pv 5) (fun _ _ => rfl)) pe_str (fun _ _ => rfl)) (pps_cons pe_str pe_non pps_nil)) (by rfl) (by rfl) (fun z => by cases z) (by decide)) ⟨rfl, rfl, rfl, rfl⟩)))) (pss_one (ps_ret (pe_tup (pa_cons pe_bl (pa_cons (pv 6) (pa_cons (pe_lst pa_nil) pa_nil)))))))))) pss_nil) (pss_cons (ps_set (i := 7) scDoes.nd rfl (Or.inl rfl) (pe_call GP (hr.mono (by decide)) rfl gP kP bP .nil pass0 (pa_cons (pe_dget hu (pe_dget hu (pv 0) (pv 3) (fun _ _ => rfl)) pe_str (fun _ _ => rfl)) (pa_cons (pv 1) pa_nil)))) (pss_cons (ps_if (pt_cmpR op_notN (pv 7) pe_non (nomark _)) (pss_one (ps_dput hu (pe_dget hu (pv 0) (pv 3) (fun _ _ => rfl)) pe_str (pv 7) rfl)) pss_nil) (pss_one (ps_ret (pe_tup (pa_cons (pe_cmpR op_notN (pv 7) pe_non (nomark _)) (pa_cons (pe_lst pa_nil) (pa_cons (pe_lst pa_nil) pa_nil))))))))))))))))), ?_⟩
    have small3 : (3 : Nat) ≤ sizeLine := small (by decide)
    have small0 : (0 : Nat) ≤ sizeLine := small (by decide)
    have hlen := ok.len
    rw [List.length_map] at hlen
    have hw := wat_of hh
    have res : ∀ (b : Bool) (es1 : List WE) (H1 : Hp), KeepT H H1 → WOk (es1.map WE.key) → WPend H1 es1 → Has H1 (A ++ (wCells wa es1 ++ B)) →
        (0 ≤ sizeLine ∧ ∀ p, H1 p = none → (0 ≤ sizeLine ∧ ∀ p', upd H1 p (.lst []) p' = none → (3 ≤ sizeLine ∧ ∀ r, upd (upd H1 p (.lst [])) p' (.lst []) r = none → Q (.ref r) (upd (upd (upd H1 p (.lst [])) p' (.lst [])) r (.tup [.bl b, .ref p, .ref p']))))) := by
      intro b es1 H1 k1 ok1 wp1 h1
      refine ⟨small0, fun p hp => ⟨small0, fun p' hp' => ⟨small3, fun r hr => ?_⟩⟩⟩
      have s1 := (Same.new (HO.lst []) hp).trans ((Same.new (HO.lst []) hp').trans (Same.new (HO.tup [.bl b, .ref p, .ref p']) hr))
      exact k b r _ _ es1 _ (k1.trans (KeepT.same s1)) upd_same ok1 (wp1.keep (KeepT.same s1)) (Same.has s1 h1)
    refine ⟨_, rfl, _, _, _, V.str z.word, rfl, rfl, SqT.of ht, at_of (j := 0) rfl rfl, ?_⟩
    have wne : ∀ {a : Str}, ¬ decide (V.str z.word = V.str a) = true → z.word ≠ a := fun c e => c (decide_eq_true (by rw [e]))
    have weq : ∀ {a : Str}, decide (V.str z.word = V.str a) = true → z.word = a := fun c => V.str.inj (of_decide_eq_true c)
    refine ⟨_, rfl, rfl, _, rfl, ?_⟩
    refine ite2 (fun _ => res true es H (KeepT.refl H) ok wp hh) (fun n1 => ?_)
    refine ⟨_, rfl, _, _, _, V.int z.name, rfl, rfl, SqT.of ht, at_of (j := 1) rfl (Lt.vals1 fun e => wne n1 (by rw [e]; rfl)), ?_⟩
    refine ⟨_, rfl, rfl, _, rfl, ?_⟩
    refine ite2 (fun c => ?_) (fun n2 => ?_)
    · obtain ⟨n, rfl⟩ := word_make (weq c)
      have hn : 0 ≤ n ∧ n ≤ 9 := hz (n, (0, 9)) (by simp [Lt.nums, Lt.bnds])
      refine ⟨_, rfl, _, rfl, wa, _, rfl, hw.is n, _, rfl, ?_⟩
      cases en : findW es n with
      | some e => exact iteT (res false es H (KeepT.refl H) ok wp hh)
      | none =>
      refine iteF ?_
      refine fun d hd => ⟨small (by show 1 ≤ 1000; decide), fun q1 hq1 => ⟨small (by show 1 ≤ 1000; decide), fun q2 hq2 => ⟨small (by show 5 ≤ 1000; decide), fun q3 hq3 => ?_⟩⟩⟩
      have hd3 : upd (upd (upd (upd H d (.dK [])) q1 (.tup [.int 0])) q2 (.tup [.ref q1])) q3 (.tup [.int 0, .int 0, .int 0, .bl false, .ref q2]) d = some (.dK []) := by
        have e1 : upd H d (.dK []) d = some (.dK []) := upd_same
        rw [upd_ne (ne_of_none ((Same.new _ hq2) _ _ ((Same.new _ hq1) _ _ e1)) hq3), upd_ne (ne_of_none ((Same.new _ hq1) _ _ e1) hq2), upd_ne (ne_of_none e1 hq1)]; exact e1
      have e0k : ∀ q, mergeK [] (WE.kvs ⟨n, d, q, .non, .non, none⟩) = WE.kvs ⟨n, d, q, .non, .non, none⟩ := fun q => by kernel_rfl
      have s4 := (Same.new (HO.dK []) hd).trans ((Same.new (HO.tup [.int 0]) hq1).trans ((Same.new (HO.tup [.ref q1]) hq2).trans (Same.new (HO.tup [.int 0, .int 0, .int 0, .bl false, .ref q2]) hq3)))
      have h2 : Has _ (A ++ (wCells wa es ++ (d, HO.dK []) :: B)) := (((hh.newAt hd (.dK [])).past hq1 (.tup [.int 0])).past hq2 (.tup [.ref q1])).past hq3 (.tup [.int 0, .int 0, .int 0, .bl false, .ref q2])
      have pa1 : (upd (upd (upd (upd H d (.dK [])) q1 (.tup [.int 0])) q2 (.tup [.ref q1])) q3 (.tup [.int 0, .int 0, .int 0, .bl false, .ref q2])) q1 = some (.tup [.int 0]) := by
        have e1 : upd (upd H d (.dK [])) q1 (.tup [.int 0]) q1 = some (.tup [.int 0]) := upd_same
        exact (Same.new _ hq3) _ _ ((Same.new _ hq2) _ _ e1)
      have pa2 : (upd (upd (upd (upd H d (.dK [])) q1 (.tup [.int 0])) q2 (.tup [.ref q1])) q3 (.tup [.int 0, .int 0, .int 0, .bl false, .ref q2])) q2 = some (.tup [.ref q1]) := by
        have e1 : upd (upd (upd H d (.dK [])) q1 (.tup [.int 0])) q2 (.tup [.ref q1]) q2 = some (.tup [.ref q1]) := upd_same
        exact (Same.new _ hq3) _ _ e1
      have pa3 : (upd (upd (upd (upd H d (.dK [])) q1 (.tup [.int 0])) q2 (.tup [.ref q1])) q3 (.tup [.int 0, .int 0, .int 0, .bl false, .ref q2])) q3 = some (.tup [.int 0, .int 0, .int 0, .bl false, .ref q2]) := upd_same
      generalize (upd (upd (upd (upd H d (.dK [])) q1 (.tup [.int 0])) q2 (.tup [.ref q1])) q3 (.tup [.int 0, .int 0, .int 0, .bl false, .ref q2])) = H4 at hd3 s4 h2 pa1 pa2 pa3
      have pnd : PendAt H4 q3 := ⟨0, 0, 0, false, q2, 1, 1, pa3, ⟨[q1], pa2, rfl, fun r hr => ⟨[.int 0], by rw [List.mem_singleton.mp hr]; exact pa1, rfl⟩⟩, by decide, by decide, by decide, by decide⟩
      have h3 := ((Has.unassoc h2).set 0 (o := .dK []) rfl (.dK (WE.kvs ⟨n, d, q3, .non, .non, none⟩))).assoc
      have h4 := Has.wadd (e := ⟨n, d, q3, .non, .non, none⟩) h3
      have hw5 : upd H4 d (.dK (WE.kvs ⟨n, d, q3, .non, .non, none⟩)) wa = some (.dK (wKvs es)) := h3.get 0 rfl
      refine ⟨hd3, WE.kvs ⟨n, d, q3, .non, .non, none⟩, rfl, by show 4 ≤ 15; decide, ?_⟩
      rw [e0k]
      refine ⟨_, rfl, _, rfl, wa, _, rfl, DPut.k (k := (Sum.inl n : Key)) hw5 (by unfold wKvs; rw [List.length_map]; exact small1000 (by omega)), ?_⟩
      rw [putW_new en]
      have ek : wKvs es ++ [((Sum.inl n : Key), V.ref d)] = wKvs (es ++ [⟨n, d, q3, .non, .non, none⟩]) := by unfold wKvs; rw [List.map_append]; rfl
      rw [ek]
      have kt : KeepT H (upd (upd H4 d (.dK (WE.kvs ⟨n, d, q3, .non, .non, none⟩))) wa (.dK (wKvs (es ++ [⟨n, d, q3, .non, .non, none⟩])))) := (KeepT.same s4).trans ((KeepT.dk hd3 _).trans (KeepT.dk hw5 _))
      refine res true _ _ kt ?_ ?_ h4
      · rw [List.map_append]
        exact ok.make (by rw [topOf_findW, en]; rfl) hn.1 hn.2
      · intro x hx
        rcases List.mem_append.mp hx with hx | hx
        · exact (wp x hx).keep kt
        · rw [List.mem_singleton.mp hx]
          exact pnd.keep ((KeepT.dk hd3 _).trans (KeepT.dk hw5 _))
    refine ⟨_, rfl, rfl, _, rfl, ?_⟩
    refine ite2 (fun c => ?_) (fun n3 => ?_)
    · obtain ⟨n, o, rfl⟩ := word_tie (weq c)
      refine ⟨_, rfl, _, rfl, _, rfl, _, _, _, V.int o, rfl, rfl, SqT.of ht, at_of (j := 2) rfl rfl, wa, es, n, o, rfl, hw, ok, fun b H1 s1 hb => ⟨_, rfl, ?_⟩⟩
      have g1 := Same.has s1 hh
      cases b with
      | false => exact iteT (res false es H1 (KeepT.same s1) ok (wp.keep (KeepT.same s1)) g1)
      | true =>
        refine iteF ?_
        obtain ⟨hno, tn, nk, to⟩ := hb rfl
        cases en : findW es n with
        | none => rw [topOf_findW, en] at tn; cases tn
        | some e =>
        obtain ⟨i, hi⟩ := findW_ix en
        have em := findW_mem en
        have hw1 := hw.same s1
        refine ⟨_, rfl, _, _, _, V.int o, rfl, rfl, SqT.of (s1 _ _ ht), at_of (j := 2) rfl rfl, _, rfl, _, rfl, wa, _, rfl, hw1.get en, e.da, _, rfl, DPut.k (k := (Sum.inr "top" : Key)) (hw1.2 e em.1) (by show 4 < sizeLine; exact small1000 (by decide)), ?_⟩
        have ek : putK e.kvs (Sum.inr "top" : Key) (V.int o) = WE.kvs { e with top := some o } := by kernel_rfl
        rw [ek]
        have kt := KeepT.dk (hw1.2 e em.1) (.dK (WE.kvs { e with top := some o }))
        refine res true (es.set i { e with top := some o }) _ ((KeepT.same s1).trans kt) ?_ ?_ (Has.wset g1 hi rfl rfl)
        · rw [keyset ok.nd hi (e' := { e with top := some o }) rfl rfl, em.2]
          exact ok.tie hno nk to
        · intro x hx
          rcases List.mem_or_eq_of_mem_set hx with hx | hx
          · exact (wp x hx).keep ((KeepT.same s1).trans kt)
          · rw [hx]; exact (wp e em.1).keep ((KeepT.same s1).trans kt)
    refine ⟨_, rfl, _, rfl, wa, _, rfl, hw.is z.name, _, rfl, ?_⟩
    cases en : findW es z.name with
    | none => exact iteT (res false es H (KeepT.refl H) ok wp hh)
    | some e =>
    refine iteF ?_
    obtain ⟨i, hi⟩ := findW_ix en
    have em := findW_mem en
    refine ⟨_, rfl, rfl, _, rfl, ?_⟩
    refine ite2 (fun _ => res true es H (KeepT.refl H) ok wp hh) (fun n4 => ?_)
    refine ⟨_, rfl, rfl, _, rfl, ?_⟩
    refine ite2 (fun c => ?_) (fun n5 => ?_)
    · obtain ⟨n, rfl⟩ := word_drop (weq c)
      have hn : n ∈ es.map (·.k) := List.mem_map.mpr ⟨e, em.1, em.2⟩
      refine ⟨_, rfl, _, rfl, wa, es, n, rfl, hw, hlen, ok.flat n, fun p H1 s1 hp0 hp => ?_⟩
      have gnd := ok.under_nd n
      have gin : ∀ x ∈ under es 2 n, x ∈ es.map (·.k) := fun x hx => WOk.under_in hn hx
      have gok := ok.drop n
      have glen := under_len hlen 2 n
      generalize under es 2 n = G at *
      have g1 := Same.has s1 hh
      refine ⟨_, rfl, p, rfl, ⟨_, SqL.of hp⟩, for_list (K := K) (a := p) (xs := G.map V.int) (fun i σ H2 => ∃ v5, σ = [some (.ref wa), some (.ref t), some (.str "drop"), some (.int n), some (.ref p), v5, none, none] ∧ KeepT H H2 ∧ H2 p = some (.lst (G.map V.int)) ∧
        Has H2 (A ++ (wCells wa (es.filter fun e => decide (e.k ∉ G.take i)) ++ B))) ?_ ?_ ?_ ?_⟩
      · refine ⟨none, rfl, KeepT.same s1, hp, ?_⟩
        rw [List.filter_eq_self.mpr (fun e _ => by simp)]
        exact g1
      · rintro i σ H2 _ ⟨v5, _, _, hp2, _⟩
        exact SqL.of hp2
      · rintro i x σ H2 hx ⟨v5, rfl, k2, hp2, g2⟩
        rw [List.getElem?_map] at hx
        cases eg : G[i]? with
        | none => rw [eg] at hx; cases hx
        | some g =>
          rw [eg] at hx
          obtain rfl : V.int g = x := Option.some.inj hx
          have hw2 := wat_of g2
          have hgi := (List.getElem?_eq_some_iff.mp eg).1
          have hgt : g ∉ G.take i := fun z => by
            obtain ⟨j, hj, q⟩ := List.getElem_of_mem z
            rw [List.length_take] at hj
            rw [List.getElem_take] at q
            have q2 : G[j]? = some g := by rw [List.getElem?_eq_getElem (by omega), q]
            have := nd_ix (l := G) gnd q2 eg
            omega
          obtain ⟨e1, he1, q1⟩ := List.mem_map.mp (gin g (List.mem_of_getElem? eg))
          obtain ⟨e2, he2⟩ := findW_some (es := es.filter fun e => decide (e.k ∉ G.take i)) (k := g) (List.mem_map.mpr ⟨e1, List.mem_filter.mpr ⟨he1, decide_eq_true (by rw [q1]; exact hgt)⟩, q1⟩)
          refine ⟨_, rfl, wa, rfl, .inl ⟨_, .inl hw2.1⟩, _, rfl, _, (Sum.inl g : Key), V.ref e2.da, hw2.1, rfl, by rw [valW, he2]; rfl, ?_⟩
          rw [dropW, List.filter_filter]
          have ef : (es.filter fun a => decide (a.k ≠ g) && decide (a.k ∉ G.take i)) = es.filter fun e => decide (e.k ∉ G.take (i + 1)) := by
            refine List.filter_congr fun a _ => ?_
            rw [List.take_add_one, eg]
            simp only [Option.toList_some, List.mem_append, List.mem_singleton, not_or, Bool.decide_and]
            exact Bool.and_comm _ _
          rw [ef]
          have g3 := Has.wdrop (q := fun a => decide (a.k ≠ g)) g2
          rw [List.filter_filter, ef] at g3
          refine ⟨_, rfl, k2.trans (KeepT.dk hw2.1 _), ?_, g3⟩
          rw [upd_ne]
          · exact hp2
          · intro z; rw [z, hw2.1] at hp2; cases hp2
      · rintro σ H2 ⟨v5, rfl, k2, hp2, g2⟩
        rw [List.length_map, List.take_of_length_le (Nat.le_refl _)] at g2
        refine ⟨small0, fun l hl => ⟨_, rfl, small3, fun r hr => ?_⟩⟩
        have s3 := (Same.new (HO.lst []) hl).trans (Same.new (HO.tup [.bl true, .ref l, .ref p]) hr)
        refine k true r _ _ _ _ (k2.trans (KeepT.same s3)) upd_same ?_ ?_ (Same.has s3 g2)
        · have : (es.filter fun e => decide (e.k ∉ G)).map WE.key = (es.map WE.key).filter fun p => decide (p.1 ∉ G) := by rw [List.filter_map]; rfl
          rw [this]; exact gok
        · intro x hx
          exact (wp x (List.mem_filter.mp hx).1).keep (k2.trans (KeepT.same s3))
    refine ⟨_, rfl, rfl, _, rfl, ?_⟩
    refine ite2 (fun c => ?_) (fun n6 => ?_)
    · obtain ⟨n, rfl⟩ := word_show (weq c)
      have hn : n ∈ es.map (·.k) := List.mem_map.mpr ⟨e, em.1, em.2⟩
      refine ⟨_, rfl, _, rfl, wa, _, rfl, hw.get en, e.da, _, rfl, hw.pend em.1, _, rfl, _, rfl, wa, _, rfl, hw.get en, e.da, _, rfl, DPut.k (k := (Sum.inr "ready" : Key)) (hw.2 e em.1) (by show 4 < sizeLine; exact small1000 (by decide)), ?_⟩
      have ek : putK e.kvs (Sum.inr "ready" : Key) (V.ref e.p) = WE.kvs { e with rd := .ref e.p } := by kernel_rfl
      rw [ek]
      have kt1 := KeepT.dk (hw.2 e em.1) (.dK (WE.kvs { e with rd := .ref e.p }))
      have g1 := Has.wset (e' := { e with rd := .ref e.p }) hh hi rfl rfl
      have cor := core_set (e' := { e with rd := .ref e.p }) hi rfl
      generalize es.set i { e with rd := .ref e.p } = es1 at g1 cor
      have ht1 := kt1 _ _ ht
      generalize upd H e.da (.dK (WE.kvs { e with rd := .ref e.p })) = H1 at kt1 g1 ht1
      have hw1 := wat_of g1
      have ok1 : WOk (es1.map WE.key) := by rw [core_key cor]; exact ok
      have hlen1 : es1.length ≤ 10 := by have := congrArg List.length cor; rw [List.length_map, List.length_map] at this; omega
      obtain ⟨e1, en1, ec1⟩ := core_find cor en
      have em1 := findW_mem en1
      refine ⟨_, rfl, _, rfl, wa, _, rfl, hw1.get en1, e1.da, _, rfl, hw1.top em1.1, rfl, _, rfl, ?_⟩
      have kin : ∀ g ∈ under es1 2 n, g ∈ es1.map (·.k) := fun g hg => WOk.under_in (List.mem_map.mpr ⟨e1, em1.1, em1.2⟩) hg
      have glen := under_len hlen1 2 n
      refine ite2 (fun _ => ?_) (fun _ => ?_)
      refine ⟨_, rfl, _, rfl, wa, es1, n, rfl, hw1, hlen1, ok1.flat n, fun p H2 s2 hp0 hp => ?_⟩
      have g2 := Same.has s2 g1
      obtain ⟨G, eG⟩ : ∃ G, G = under es1 2 n := ⟨_, rfl⟩
      rw [← eG] at hp
      have hG : ∀ g ∈ G, g ∈ es1.map (·.k) := by rw [eG]; exact kin
      have hGl : G.length ≤ 200 := by rw [eG]; exact Nat.le_trans glen (by decide)
      rotate_left
      refine ⟨small0, fun p hp0 => ?_⟩
      have s2 := Same.new (HO.lst []) hp0
      have g2 := Same.has s2 g1
      obtain ⟨G, eG⟩ : ∃ G : List Int, G = [] := ⟨_, rfl⟩
      have hp : upd H1 p (.lst []) p = some (.lst (G.map V.int)) := by rw [eG]; exact upd_same
      have hG : ∀ g ∈ G, g ∈ es1.map (·.k) := by rw [eG]; intro g hg; cases hg
      have hGl : G.length ≤ 200 := by rw [eG]; decide
      generalize upd H1 p (.lst []) = H2 at s2 g2 hp
      all_goals
        have hw2 := wat_of g2
        have kt2 := kt1.trans (KeepT.same s2)
        refine ⟨_, rfl, p, rfl, ⟨_, SqL.of hp⟩, fun D hD => ?_⟩
        refine lc_list (K := K) (a := p) (xs := G.map V.int) (fun i H3 => Same H2 H3 ∧ ∃ G' : List Int, H3 D = some (.lst (G'.map V.int)) ∧ (∀ g ∈ G', g ∈ es1.map (·.k)) ∧ G'.length ≤ i) ⟨Same.new _ hD, [], upd_same, fun g hg => (by cases hg), Nat.le_refl _⟩ ?_ ?_ ?_
        · rintro i H3 _ ⟨s3, _⟩
          exact SqL.of (s3 _ _ hp)
        · rintro i x H3 hx ⟨s3, G', hD3, hG', hGl'⟩
          rw [List.getElem?_map] at hx
          cases eg : G[i]? with
          | none => rw [eg] at hx; cases hx
          | some g =>
            rw [eg] at hx
            obtain rfl : V.int g = x := Option.some.inj hx
            have hgi := (List.getElem?_eq_some_iff.mp eg).1
            obtain ⟨e2, he2⟩ := findW_some (hG g (List.mem_of_getElem? eg))
            have hw3 := hw2.same s3
            refine ⟨rfl, _, rfl, _, rfl, wa, _, rfl, hw3.get he2, e2.da, _, rfl, hw3.rd (findW_mem he2).1, rfl, _, rfl, ?_⟩
            refine ite2 (fun _ => ?_) (fun _ => ?_)
            · refine ⟨_, rfl, _, hD3, by rw [List.length_map]; exact small1000 (by omega), Same.mut _ s3 hD, G' ++ [g], by rw [upd_same, List.map_append]; rfl, fun g2 hg2 => ?_, by simp; omega⟩
              rcases List.mem_append.mp hg2 with h | h
              · exact hG' g2 h
              · rw [List.mem_singleton.mp h]; exact hG g (List.mem_of_getElem? eg)
            · exact ⟨s3, G', hD3, hG', by omega⟩
        · rintro H3 ⟨s3, G', hD3, hG', hGl'⟩
          have g3 := Same.has s3 g2
          refine ⟨_, rfl, D, rfl, ⟨_, SqL.of hD3⟩, for_list (K := K) (a := D) (xs := G'.map V.int) (fun i σ H4 => ∃ v5 es2, σ = [some (.ref wa), some (.ref t), some (.str "show"), some (.int n), none, v5, some (.ref D), none] ∧ KeepT H3 H4 ∧ H4 D = some (.lst (G'.map V.int)) ∧
            es2.map WE.core = es1.map WE.core ∧ Has H4 (A ++ (wCells wa es2 ++ B))) ⟨_, es1, rfl, KeepT.refl _, hD3, rfl, g3⟩ ?_ ?_ ?_⟩
          · rintro i σ H4 _ ⟨v5, es2, _, _, hD4, _⟩
            exact SqL.of hD4
          · rintro i x σ H4 hx ⟨v5, es2, rfl, k4, hD4, cor2, g4⟩
            rw [List.getElem?_map] at hx
            cases eg : G'[i]? with
            | none => rw [eg] at hx; cases hx
            | some g =>
              rw [eg] at hx
              obtain rfl : V.int g = x := Option.some.inj hx
              obtain ⟨f1, hf1⟩ := findW_some (hG' g (List.mem_of_getElem? eg))
              obtain ⟨f2, hf2, _⟩ := core_find cor2 hf1
              obtain ⟨j, hj⟩ := findW_ix hf2
              have hw4 := wat_of g4
              have fm := findW_mem hf2
              refine ⟨_, rfl, _, rfl, wa, _, rfl, hw4.get hf2, f2.da, rfl, .inl ⟨_, .inl (hw4.2 f2 fm.1)⟩, fun d2 hd2 => ?_⟩
              have s5 := Same.new (HO.dK []) hd2
              have hw5 := hw4.same s5
              refine ⟨_, rfl, _, rfl, wa, _, rfl, hw5.get hf2, f2.da, _, rfl, hw5.rd fm.1, ?_⟩
              refine ⟨upd_same, [(Sum.inr "shown", f2.rd), (Sum.inr "ready", .non)], rfl, by show 2 ≤ 15; decide, ?_⟩
              have nd2 : f2.da ≠ d2 := ne_of_none (hw4.2 f2 fm.1) hd2
              have em2 : mergeK [] [((Sum.inr "shown" : Key), f2.rd), (Sum.inr "ready", .non)] = [((Sum.inr "shown" : Key), f2.rd), (Sum.inr "ready", .non)] := by kernel_rfl
              rw [em2]
              have nwa : wa ≠ d2 := ne_of_none hw4.1 hd2
              refine ⟨d2, f2.kvs, _, rfl, by rw [upd_ne nd2, upd_ne nd2]; exact hw4.2 f2 fm.1, upd_same, nd2, by show 4 + 2 ≤ sizeLine; exact small (by decide), ?_⟩
              have em3 : mergeK f2.kvs [((Sum.inr "shown" : Key), f2.rd), (Sum.inr "ready", .non)] = WE.kvs { f2 with sh := f2.rd, rd := .non } := by kernel_rfl
              rw [em3]
              have g5 : Has (upd (upd H4 d2 (.dK [])) d2 (.dK [((Sum.inr "shown" : Key), f2.rd), (Sum.inr "ready", .non)])) (A ++ (wCells wa es2 ++ B)) := by
                refine ⟨fun c hc => ?_, g4.nd⟩
                have q := g4.ok c hc
                have nc := ne_of_none q hd2
                rw [upd_ne nc, upd_ne nc]; exact q
              have k5 : KeepT H4 (upd (upd H4 d2 (.dK [])) d2 (.dK [((Sum.inr "shown" : Key), f2.rd), (Sum.inr "ready", .non)])) := fun b xs q => by
                have nc := ne_of_none q hd2
                rw [upd_ne nc, upd_ne nc]; exact q
              have h5 := (wat_of g5).2 f2 fm.1
              have g6 := Has.wset (e' := { f2 with sh := f2.rd, rd := .non }) g5 hj rfl rfl
              refine ⟨_, es2.set j { f2 with sh := f2.rd, rd := .non }, rfl, k4.trans (k5.trans (KeepT.dk h5 _)), ?_, (core_set (e' := { f2 with sh := f2.rd, rd := .non }) hj rfl).trans cor2, g6⟩
              have nD : D ≠ f2.da := fun z => by have := hw4.2 f2 fm.1; rw [← z, hD4] at this; cases this
              have nD2 := ne_of_none hD4 hd2
              rw [upd_ne nD, upd_ne nD2, upd_ne nD2]; exact hD4
          · rintro σ H4 ⟨v5, es2, rfl, k4, hD4, cor2, g4⟩
            refine ⟨_, rfl, small0, fun l hl => ⟨small3, fun r hr => ?_⟩⟩
            have s5 := (Same.new (HO.lst []) hl).trans (Same.new (HO.tup [.bl true, .ref D, .ref l]) hr)
            have kt := kt2.trans ((KeepT.same s3).trans (k4.trans (KeepT.same s5)))
            have cc := cor2.trans cor
            refine k true r _ _ es2 _ kt upd_same (by rw [core_key cc]; exact ok) ((wp.keep kt).core cc) (Same.has s5 g4)
    have hl := word_look (wne n1) (wne n2) (wne n3) (wne n4) (wne n5) (wne n6)
    refine ⟨_, rfl, _, rfl, wa, _, rfl, hw.get en, e.da, _, rfl, hw.pend em.1, _, rfl, e.p, t, z, rfl, wp e em.1, ht, hz, hl, fun r H1 s1 hr => ?_⟩
    have g1 := Same.has s1 hh
    have hw1 := hw.same s1
    refine ⟨_, rfl, rfl, _, rfl, ?_⟩
    rcases hr with rfl | ⟨p', rfl, hp'⟩
    · refine iteF ?_
      refine ⟨_, rfl, rfl, ?_⟩
      exact res _ es H1 (KeepT.same s1) ok (wp.keep (KeepT.same s1)) g1
    · refine iteT ?_
      refine ⟨_, rfl, _, rfl, _, rfl, wa, _, rfl, hw1.get en, e.da, _, rfl, DPut.k (k := (Sum.inr "pending" : Key)) (hw1.2 e em.1) (by show 4 < sizeLine; exact small1000 (by decide)), ?_⟩
      have ek : putK e.kvs (Sum.inr "pending" : Key) (V.ref p') = WE.kvs { e with p := p' } := by kernel_rfl
      rw [ek]
      have kt := KeepT.dk (hw1.2 e em.1) (.dK (WE.kvs { e with p := p' }))
      refine ⟨_, rfl, rfl, ?_⟩
      refine res _ (es.set i { e with p := p' }) _ ((KeepT.same s1).trans kt) ?_ ?_ (Has.wset g1 hi rfl rfl)
      · have : (es.set i { e with p := p' }).map WE.key = es.map WE.key := by
          rw [List.map_set]
          refine List.ext_getElem? fun j => ?_
          by_cases c : i = j
          · subst c
            have hl := (List.getElem?_eq_some_iff.mp hi).1
            rw [List.getElem?_set_self (by rw [List.length_map]; exact hl), List.getElem?_map, hi]; rfl
          · rw [List.getElem?_set_ne c]
        rw [this]; exact ok
      · intro x hx
        rcases List.mem_or_eq_of_mem_set hx with hx | hx
        · exact (wp x hx).keep ((KeepT.same s1).trans kt)
        · rw [hx]; exact hp'.keep kt
end
end SH
set_option Elab.async false
set_option linter.all false
set_option maxRecDepth 100000
namespace SH
open PySem PySem.Spec PyProof.Rows L2
abbrev sOdd : Stmt := top 23
section
variable {P : Program} {w : World} {K : PySem.W.Frag} {mg : Str → Option Value} {base : Heap}
abbrev nOdd : List Str := ["_law_h", "_law_w", "_law_name", "_law_some"]
theorem scOdd : FnScope nOdd ["_law_h", "_law_w"] (defScope sOdd) := ⟨rfl, rfl, rfl, by decide +kernel, rfl, by decide +kernel, by decide +kernel⟩
def spOdd : Sp := fun vs H Q _ => ∃ (A B : Cells) (m : MixH) (wv : V), vs = [.ref m.a, wv] ∧ Has H (A ++ (mixCells m ++ B)) ∧ MixOk m ∧
  ∀ t z m' H', m'.a = m.a → MixOk m' → Has H' (A ++ (mixCells m' ++ B)) → H' t = some (.tup (Lt.vals z)) → z.ok → Q (.ref t) H'
theorem ok_odd {f fN : Addr} {fd fdN : FuncData} (F : Fun K "_law_odd" "_law_odd" sOdd f fd)
    (GN : FnOk P w K mg base CX0 1 fN fdN ["_law_h", "_law_many"] spNext) (bN : Binds K fdN ["_law_h", "_law_many"] []) (gN : mg "_law_next" = some (.ref fN)) (kN : PySem.W.keepIn K (.ref fN) = true) :
    FnOk P w K mg base CX0 2 f fd ["_law_h", "_law_w"] spOdd := by
  have GN := keep_t GN
  refine F.ok scOdd (fun vs H Q E h => ?_) (fun cdv A0 outer s0 H vs Q E hr h => ?_)
  · obtain ⟨A, B, m, wv, rfl, _⟩ := h
    rfl
  · obtain ⟨A, B, m, wv, rfl, hh, ok, k⟩ := h
    refine ⟨_, (pss_cons (ps_set (i := 2) scOdd.nd rfl (Or.inl rfl) (pe_call GN hr rfl gN kN bN .nil pass0 (pa_cons (pv 0) (pa_cons pe_int pa_nil)))) (pss_cons (ps_set (i := 3) scOdd.nd rfl (Or.inl rfl) (pe_lst (pa_cons (pe_tup (pa_cons pe_str (pa_cons (pv 2) pa_nil))) (pa_cons (pe_tup (pa_cons pe_str (pa_cons (pv 2) pa_nil))) (pa_cons (pe_tup (pa_cons pe_str (pa_cons (pv 2) (pa_cons pe_int (pa_cons pe_int pa_nil))))) (pa_cons (pe_tup (pa_cons pe_str (pa_cons (pv 2) (pa_cons pe_int (pa_cons pe_int (pa_cons pe_int (pa_cons pe_int (pa_cons pe_int pa_nil)))))))) pa_nil)))))) (pss_cons (ps_expr (pe_bm PySem.F.plainAttrs_list PySem.F.slot_list_append PySem.F.type_list_append mt_append (pv 3) (pa_cons (pe_tup (pa_cons pe_str (pa_cons (pv 2) (pa_cons pe_int (pa_cons pe_int pa_nil))))) pa_nil))) (pss_cons (ps_set (i := 3) scOdd.nd rfl (Or.inl rfl) (pe_op op_cat (pv 3) (pe_lst (pa_cons (pe_tup (pa_cons pe_str (pa_cons (pv 2) (pa_cons pe_int pa_nil)))) (pa_cons (pe_tup (pa_cons pe_str (pa_cons (pv 2) pa_nil))) (pa_cons (pe_tup (pa_cons pe_str (pa_cons (pv 2) pa_nil))) (pa_cons (pe_tup (pa_cons pe_str (pa_cons (pv 2) (pa_cons (pe_call GN hr rfl gN kN bN .nil pass0 (pa_cons (pv 0) (pa_cons pe_int pa_nil))) pa_nil)))) (pa_cons (pe_tup (pa_cons pe_str (pa_cons (pv 2) pa_nil))) pa_nil)))))))) (pss_one (ps_ret (pe_ix ix_list (pe_op op_cat (pv 3) (pe_lst (pa_cons (pe_tup (pa_cons pe_str (pa_cons (pv 2) pa_nil))) (pa_cons (pe_tup (pa_cons pe_str (pa_cons (pv 2) (pa_cons pe_int (pa_cons pe_int (pa_cons pe_int (pa_cons pe_int (pa_cons pe_int pa_nil)))))))) pa_nil)))) (pe_call GN hr rfl gN kN bN .nil pass0 (pa_cons (pv 0) (pa_cons pe_int pa_nil))) (fun _ _ => rfl)))))))), ?_⟩
    have sm : ∀ {n : Nat}, n ≤ 1000 → n ≤ sizeLine := small
    refine ⟨_, rfl, A, B, m, 10, rfl, hh, ok, by decide, by decide, fun n m1 H1 n0 n9 e1 o1 g1 k1 => ?_⟩
    refine ⟨_, rfl, sm (by show 2 ≤ 1000; decide), fun p1 hp1 => ?_⟩
    have R1 : RowAt (upd H1 p1 (.tup (Lt.vals (.make n)))) [p1] [.make n] := .cons upd_same .nil
    have g2 := g1.past hp1 (.tup (Lt.vals (.make n)))
    refine ⟨_, rfl, sm (by show 2 ≤ 1000; decide), fun p2 hp2 => ?_⟩
    have R2 := R1.new (z := .drop n) hp2
    have g3 := g2.past hp2 (.tup (Lt.vals (.drop n)))
    refine ⟨_, rfl, sm (by show 4 ≤ 1000; decide), fun p3 hp3 => ?_⟩
    have R3 := R2.new (z := .size n 2 2) hp3
    have g4 := g3.past hp3 (.tup (Lt.vals (.size n 2 2)))
    refine ⟨_, rfl, sm (by show 7 ≤ 1000; decide), fun p4 hp4 => ⟨sm (by show 4 ≤ 1000; decide), fun l hl => ?_⟩⟩
    have R4 := R3.new (z := .paint n 11 7 1 1 3) hp4
    have g5 := g4.past hp4 (.tup (Lt.vals (.paint n 11 7 1 1 3)))
    have R5 := R4.same (Same.new (.lst [.ref p1, .ref p2, .ref p3, .ref p4]) hl)
    have g6 := g5.cons hl (.lst [.ref p1, .ref p2, .ref p3, .ref p4])
    have hl1 := Has.get (A := []) g6 0 rfl
    refine ⟨_, rfl, .inl ⟨rfl, _, SqL.of hl1⟩, _, rfl, sm (by show 4 ≤ 1000; decide), fun p5 hp5 => ⟨l, _, _, rfl, rfl, Has.get (A := []) (g6.past hp5 _) 0 rfl, by show 4 < sizeLine; exact small1000 (by decide), ?_⟩⟩
    have R6 := R5.new (z := .place n 0 0) hp5
    have g7 := g6.past hp5 (.tup (Lt.vals (.place n 0 0)))
    have hl2 := Has.get (A := []) g7 0 rfl
    have R7 := R6.wr hl2 (.lst ([.ref p1, .ref p2, .ref p3, .ref p4] ++ [.ref p5]))
    have g8 := Has.set (A := []) g7 0 (o := .lst [.ref p1, .ref p2, .ref p3, .ref p4]) rfl (.lst ([.ref p1, .ref p2, .ref p3, .ref p4] ++ [.ref p5]))
    refine ⟨_, rfl, _, rfl, sm (by show 3 ≤ 1000; decide), fun p6 hp6 => ?_⟩
    have R8 := R7.new (z := .rank n 1) hp6
    have g9 := Has.past g8 hp6 (.tup (Lt.vals (.rank n 1)))
    refine ⟨_, rfl, sm (by show 2 ≤ 1000; decide), fun p7 hp7 => ?_⟩
    have R9 := R8.new (z := .veil n) hp7
    have g10 := g9.past hp7 (.tup (Lt.vals (.veil n)))
    refine ⟨_, rfl, sm (by show 2 ≤ 1000; decide), fun p8 hp8 => ?_⟩
    have R10 := R9.new (z := .unveil n) hp8
    have g11 := g10.past hp8 (.tup (Lt.vals (.unveil n)))
    refine ⟨_, rfl, _, rfl, (l, _) :: A, B, m1, 10, congrArg (fun x => [V.ref x, V.int 10]) e1.symm, g11, o1, by decide, by decide, fun o m2 H3 o0 o9 e2 o2 g12 k2 => ?_⟩
    have R11 := R10.keep k2
    refine ⟨sm (by show 3 ≤ 1000; decide), fun p9 hp9 => ?_⟩
    have R12 := R11.new (z := .tie n o) hp9
    have g13 := Has.past g12 hp9 (.tup (Lt.vals (.tie n o)))
    refine ⟨_, rfl, sm (by show 2 ≤ 1000; decide), fun p10 hp10 => ⟨sm (by show 5 ≤ 1000; decide), fun l2 hl2 => ?_⟩⟩
    have R13 := R12.new (z := .show n) hp10
    have g14 := g13.past hp10 (.tup (Lt.vals (.show n)))
    have R14 := R13.same (Same.new (.lst [.ref p6, .ref p7, .ref p8, .ref p9, .ref p10]) hl2)
    have g15 := g14.past hl2 (.lst [.ref p6, .ref p7, .ref p8, .ref p9, .ref p10])
    refine ⟨l, l2, _, _, rfl, rfl, Has.get (A := []) g15 0 rfl, upd_same, sm (by show 5 + 5 ≤ 1000; decide), fun l3 hl3 => ?_⟩
    have R15 := R14.same (Same.new (.lst ([.ref p1, .ref p2, .ref p3, .ref p4] ++ [.ref p5] ++ [.ref p6, .ref p7, .ref p8, .ref p9, .ref p10])) hl3)
    have g16 := g15.cons hl3 (.lst ([.ref p1, .ref p2, .ref p3, .ref p4] ++ [.ref p5] ++ [.ref p6, .ref p7, .ref p8, .ref p9, .ref p10]))
    refine ⟨_, rfl, _, rfl, sm (by show 2 ≤ 1000; decide), fun p11 hp11 => ?_⟩
    have R16 := R15.new (z := .hold n) hp11
    have g17 := g16.past hp11 (.tup (Lt.vals (.hold n)))
    refine ⟨_, rfl, sm (by show 7 ≤ 1000; decide), fun p12 hp12 => ⟨sm (by show 2 ≤ 1000; decide), fun l4 hl4 => ?_⟩⟩
    have R17 := R16.new (z := .paint n 0 0 12 8 1) hp12
    have g18 := g17.past hp12 (.tup (Lt.vals (.paint n 0 0 12 8 1)))
    have R18 := R17.same (Same.new (.lst [.ref p11, .ref p12]) hl4)
    have g19 := g18.past hl4 (.lst [.ref p11, .ref p12])
    refine ⟨l3, l4, _, _, rfl, rfl, Has.get (A := []) g19 0 rfl, upd_same, sm (by show 10 + 2 ≤ 1000; decide), fun l5 hl5 => ?_⟩
    have R19 := R18.same (Same.new (.lst ([.ref p1, .ref p2, .ref p3, .ref p4] ++ [.ref p5] ++ [.ref p6, .ref p7, .ref p8, .ref p9, .ref p10] ++ [.ref p11, .ref p12])) hl5)
    have g20 := g19.cons hl5 (.lst ([.ref p1, .ref p2, .ref p3, .ref p4] ++ [.ref p5] ++ [.ref p6, .ref p7, .ref p8, .ref p9, .ref p10] ++ [.ref p11, .ref p12]))
    have e2 := e2.trans e1
    refine ⟨_, rfl, (l5, _) :: (l3, _) :: (l, _) :: A, B, m2, 12, congrArg (fun x => [V.ref x, V.int 12]) e2.symm, g20, o2, by decide, by decide, fun r m3 H4 r0 r9 e3 o3 g21 k3 => ?_⟩
    have R20 := R19.keep k3
    have g22 : Has H4 (A ++ (mixCells m3 ++ B)) := Has.sub g21 (List.Sublist.trans (List.sublist_cons_self _ _) (List.Sublist.trans (List.sublist_cons_self _ _) (List.sublist_cons_self _ _)))
    have hl6 := Has.get (A := []) g21 0 rfl
    have hrl : r.toNat < 12 := by omega
    obtain ⟨z, hz⟩ : ∃ z, ([Lt.make n, .drop n, .size n 2 2, .paint n 11 7 1 1 3] ++ [.place n 0 0] ++ [.rank n 1] ++ [.veil n] ++ [.unveil n] ++ [.tie n o] ++ [.show n] ++ [.hold n] ++ [.paint n 0 0 12 8 1])[r.toNat]? = some z := ⟨_, List.getElem?_eq_getElem (by show r.toNat < 12; exact hrl)⟩
    obtain ⟨t, ht⟩ : ∃ t, ([p1, p2, p3, p4] ++ [p5] ++ [p6, p7, p8, p9, p10] ++ [p11, p12])[r.toNat]? = some t := ⟨_, List.getElem?_eq_getElem (by show r.toNat < 12; exact hrl)⟩
    have htz := paired_ix R20 (i := r.toNat) (x := t) (y := z) ht hz
    refine ⟨l5, _, r, V.ref t, rfl, rfl, SqL.of hl6, at_of (j := r.toNat) (by omega) (by
      have : ([p1, p2, p3, p4] ++ [p5] ++ [p6, p7, p8, p9, p10] ++ [p11, p12]).map V.ref = [V.ref p1, .ref p2, .ref p3, .ref p4] ++ [.ref p5] ++ [.ref p6, .ref p7, .ref p8, .ref p9, .ref p10] ++ [.ref p11, .ref p12] := rfl
      rw [← this, List.getElem?_map, ht]; rfl), ?_⟩
    refine k t z m3 H4 (e3.trans e2) o3 g22 htz ?_
    have hmem := List.mem_of_getElem? hz
    simp only [List.mem_append, List.mem_cons, List.not_mem_nil, or_false] at hmem
    have okz : ∀ y : Lt, y ∈ [Lt.make n, .drop n, .size n 2 2, .paint n 11 7 1 1 3, .place n 0 0, .rank n 1, .veil n, .unveil n, .tie n o, .show n, .hold n, .paint n 0 0 12 8 1] → y.ok := by
      intro y hy
      simp only [List.mem_cons, List.not_mem_nil, or_false] at hy
      rcases hy with rfl | rfl | rfl | rfl | rfl | rfl | rfl | rfl | rfl | rfl | rfl | rfl <;> simp [Lt.ok, Lt.nums, Lt.bnds] <;> omega
    refine okz z ?_
    simp only [List.mem_cons, List.not_mem_nil, or_false]
    rcases hmem with ((((((((h | h | h | h) | h) | h) | h) | h) | h) | h) | h) | h <;> simp [h]
end
end SH
set_option Elab.async false
set_option linter.all false
set_option maxRecDepth 100000
namespace SH
open PySem PySem.Spec PyProof.Rows L2
abbrev sLetter : Stmt := top 22
theorem nodup_sub_len {l k : List Int} (nd : l.Nodup) (h : ∀ x ∈ l, x ∈ k) : l.length ≤ k.length := by
  induction l generalizing k with
  | nil => exact Nat.zero_le _
  | cons x l ih =>
    rw [List.nodup_cons] at nd
    have hx := h x List.mem_cons_self
    have := ih (k := k.erase x) nd.2 fun y hy => by
      have h1 := h y (List.mem_cons_of_mem _ hy)
      have h2 : y ≠ x := fun z => nd.1 (z ▸ hy)
      exact (List.mem_erase_of_ne h2).mpr h1
    rw [List.length_erase_of_mem hx] at this
    have : 1 ≤ k.length := List.length_pos_of_mem hx
    simp only [List.length_cons]
    omega
def freshW (es : List WE) : List Nat := (List.range 10).filter fun o => (findW es (o : Nat)).isNone
theorem fresh_pos {es : List WE} (h : es.length < 10) : 1 ≤ (freshW es).length := by
  rcases Nat.eq_zero_or_pos (freshW es).length with q | q
  · exfalso
    have e : freshW es = [] := List.eq_nil_of_length_eq_zero q
    have hall : ∀ o ∈ List.range 10, ((o : Nat) : Int) ∈ es.map (·.k) := fun o ho => by
      cases f : findW es (o : Nat) with
      | none =>
        have : o ∈ freshW es := List.mem_filter.mpr ⟨ho, by rw [f]; rfl⟩
        rw [e] at this; cases this
      | some x => exact List.mem_map.mpr ⟨x, (findW_mem f).1, (findW_mem f).2⟩
    have := nodup_sub_len (l := (List.range 10).map fun (o : Nat) => ((o : Nat) : Int)) (k := es.map (·.k)) (by decide) fun x hx => by
      obtain ⟨o, ho, e⟩ := List.mem_map.mp hx
      rw [← e]; exact hall o ho
    rw [List.length_map, List.length_map, List.length_range] at this
    omega
  · exact q
theorem fresh_le (es : List WE) : (freshW es).length ≤ 10 := by
  refine Nat.le_trans (List.length_filter_le _ _) ?_
  rw [List.length_range]; exact Nat.le_refl _
theorem neNil {K : PySem.W.Frag} {H : Hp} {l q : Addr} {ks : List Int} {Q : VK} (h : H l = some (.lst (ks.map V.int))) (e : H q = some (.lst [])) (k : Q (.bl (!decide (ks = []))) H) : rNeD K (.ref l) (.ref q) H Q := by
  refine ⟨.list (ks.map PyData.int), .list [], .lst (SqL.of h) (dp_ints ks), .lst (SqL.of e) .nil, PySem.W.ke_shaped_ints _, PySem.W.ke_shaped_ints [], ?_⟩
  rw [eqv_nil]; exact k
theorem eqNil {K : PySem.W.Frag} {H : Hp} {l q : Addr} {ks : List Int} {Q : VK} (h : H l = some (.lst (ks.map V.int))) (e : H q = some (.lst [])) (k : Q (.bl (decide (ks = []))) H) : rEqD K (.ref l) (.ref q) H Q := by
  refine ⟨.list (ks.map PyData.int), .list [], .lst (SqL.of h) (dp_ints ks), .lst (SqL.of e) .nil, PySem.W.ke_shaped_ints _, PySem.W.ke_shaped_ints [], ?_⟩
  rw [eqv_nil]; exact k
theorem pick3 {a b c : Int} {r : Int} {lo hi : Int} (r0 : 0 ≤ r) (r1 : r < 3) (ha : lo ≤ a ∧ a ≤ hi) (hb : lo ≤ b ∧ b ≤ hi) (hc : lo ≤ c ∧ c ≤ hi) : ∃ v : Int, ([V.int a, V.int b, V.int c] : List V)[r.toNat]? = some (V.int v) ∧ lo ≤ v ∧ v ≤ hi := by
  have : r.toNat = 0 ∨ r.toNat = 1 ∨ r.toNat = 2 := by omega
  rcases this with e | e | e <;> rw [e]
  · exact ⟨a, rfl, ha⟩
  · exact ⟨b, rfl, hb⟩
  · exact ⟨c, rfl, hc⟩
theorem pick2 {a b : Int} {r : Int} {lo hi : Int} (r0 : 0 ≤ r) (r1 : r < 2) (ha : lo ≤ a ∧ a ≤ hi) (hb : lo ≤ b ∧ b ≤ hi) : ∃ v : Int, ([V.int a, V.int b] : List V)[r.toNat]? = some (V.int v) ∧ lo ≤ v ∧ v ≤ hi := by
  have : r.toNat = 0 ∨ r.toNat = 1 := by omega
  rcases this with e | e <;> rw [e]
  · exact ⟨a, rfl, ha⟩
  · exact ⟨b, rfl, hb⟩
theorem Has.tail {H : Hp} {c : Addr × HO} {L : Cells} (h : Has H (c :: L)) : Has H L := Has.sub h (List.sublist_cons_self _ _)
theorem wordAt {n : Int} {j : Nat} (J : j < 10) (n0 : 0 ≤ n) (n9 : n ≤ 9) : ∃ wd : Str, ([V.str "veil", .str "unveil", .str "unveil", .str "tie", .str "drop", .str "hold", .str "show", .str "show", .str "show", .str "let"] : List V)[j]? = some (V.str wd) ∧ (wd = "tie" ∨ wd = "let" ∨ ∃ z : Lt, z.vals = [V.str wd, V.int n] ∧ z.ok) := by
  have ok1 : ∀ z : Lt, z.nums = [n] → z.bnds = [(0, 9)] → z.ok := fun z h1 h2 => by unfold Lt.ok; rw [h1, h2]; simp; omega
  have : j = 0 ∨ j = 1 ∨ j = 2 ∨ j = 3 ∨ j = 4 ∨ j = 5 ∨ j = 6 ∨ j = 7 ∨ j = 8 ∨ j = 9 := by omega
  rcases this with e | e | e | e | e | e | e | e | e | e <;> rw [e]
  · exact ⟨_, rfl, .inr (.inr ⟨.veil n, rfl, ok1 _ rfl rfl⟩)⟩
  · exact ⟨_, rfl, .inr (.inr ⟨.unveil n, rfl, ok1 _ rfl rfl⟩)⟩
  · exact ⟨_, rfl, .inr (.inr ⟨.unveil n, rfl, ok1 _ rfl rfl⟩)⟩
  · exact ⟨_, rfl, .inl rfl⟩
  · exact ⟨_, rfl, .inr (.inr ⟨.drop n, rfl, ok1 _ rfl rfl⟩)⟩
  · exact ⟨_, rfl, .inr (.inr ⟨.hold n, rfl, ok1 _ rfl rfl⟩)⟩
  · exact ⟨_, rfl, .inr (.inr ⟨.show n, rfl, ok1 _ rfl rfl⟩)⟩
  · exact ⟨_, rfl, .inr (.inr ⟨.show n, rfl, ok1 _ rfl rfl⟩)⟩
  · exact ⟨_, rfl, .inr (.inr ⟨.show n, rfl, ok1 _ rfl rfl⟩)⟩
  · exact ⟨_, rfl, .inr (.inl rfl)⟩
section
variable {P : Program} {w : World} {K : PySem.W.Frag} {mg : Str → Option Value} {base : Heap}
abbrev nLetter : List Str := ["_law_h", "_law_w", "_law_some", "_law_name", "_law_other", "_law_turn", "_law_fresh", "_law_marks", "_law_wide", "_law_high", "_law_x", "_law_y", "_law_far", "_law_words", "_law_word", "_law_one"]
theorem scLetter : FnScope nLetter ["_law_h", "_law_w"] (defScope sLetter) := ⟨rfl, rfl, rfl, by decide +kernel, rfl, by decide +kernel, by decide +kernel⟩
def spLetter : Sp := fun vs H Q _ => ∃ (A B : Cells) (m : MixH) (wa : Addr) (es : List WE), vs = [.ref m.a, .ref wa] ∧ Has H (A ++ (mixCells m ++ (wCells wa es ++ B))) ∧ MixOk m ∧ WOk (es.map WE.key) ∧ WPend H es ∧
  ∀ t z m' H', m'.a = m.a → MixOk m' → Has H' (A ++ (mixCells m' ++ (wCells wa es ++ B))) → H' t = some (.tup (Lt.vals z)) → z.ok → Q (.ref t) H'
set_option maxHeartbeats 0 in
theorem ok_letter {f fN : Addr} {fd fdN : FuncData} (F : Fun K "_law_letter" "_law_letter" sLetter f fd) (T : TxtG mg)
    (GN : FnOk P w K mg base CX0 1 fN fdN ["_law_h", "_law_many"] spNext) (bN : Binds K fdN ["_law_h", "_law_many"] []) (gN : mg "_law_next" = some (.ref fN)) (kN : PySem.W.keepIn K (.ref fN) = true) :
    FnOk P w K mg base CX0 2 f fd ["_law_h", "_law_w"] spLetter := by
  have GN := keep_t GN
  refine F.ok scLetter (fun vs H Q E h => ?_) (fun cdv A0 outer s0 H vs Q E hr h => ?_)
  · obtain ⟨A, B, m, wa, es, rfl, _⟩ := h
    rfl
  · obtain ⟨A, B, m, wa, es, rfl, hh, om, ok, wp, k⟩ := h
    have hu := hu_of hr
    refine ⟨_, (pss_cons (ps_set (i := 2) scLetter.nd rfl (Or.inl rfl) (pe_callB (call_sortedDI rfl) (by rfl) T.sorted (by decide +kernel) (pa_cons (pv 1) pa_nil))) (pss_cons (ps_set (i := 3) scLetter.nd rfl (Or.inl rfl) (pe_ifExp (pt_cmpR (op_neD hr.units) (pv 2) (pe_lst pa_nil) (nomark _)) (pe_ix ix_list (pv 2) (pe_call GN hr rfl gN kN bN .nil pass0 (pa_cons (pv 0) (pa_cons (pe_callB call_len_seq (by rfl) T.len PySem.boot_len (pa_cons (pv 2) pa_nil)) pa_nil))) (fun _ _ => rfl)) (pe_call GN hr rfl gN kN bN .nil pass0 (pa_cons (pv 0) (pa_cons pe_int pa_nil))))) (pss_cons (ps_set (i := 4) scLetter.nd rfl (Or.inl rfl) (pe_ifExp (pt_cmpR (op_neD hr.units) (pv 2) (pe_lst pa_nil) (nomark _)) (pe_ix ix_list (pv 2) (pe_call GN hr rfl gN kN bN .nil pass0 (pa_cons (pv 0) (pa_cons (pe_callB call_len_seq (by rfl) T.len PySem.boot_len (pa_cons (pv 2) pa_nil)) pa_nil))) (fun _ _ => rfl)) (pe_call GN hr rfl gN kN bN .nil pass0 (pa_cons (pv 0) (pa_cons pe_int pa_nil))))) (pss_cons (ps_set (i := 5) scLetter.nd rfl (Or.inl rfl) (pe_call GN hr rfl gN kN bN .nil pass0 (pa_cons (pv 0) (pa_cons pe_int pa_nil)))) (pss_cons (ps_if (PW.pt (pw_or (pt_cmpR (op_eqD hr.units) (pv 2) (pe_lst pa_nil) (nomark _)) (pw_or1 (PW.pt (pw_and (pt_cmpR op_lt (pv 5) pe_int (nomark _)) (pw_and1 (pt_cmpR op_lt (pe_callB call_len_seq (by rfl) T.len PySem.boot_len (pa_cons (pv 2) pa_nil)) pe_int (nomark _)))))))) (pss_cons (ps_setLc (i := 6) (own := [("_law_one", 15)]) (g := gName 15) (te := tVar 15) (tt := tTest (tDNotIn (tVar 15) (tVar 1))) (by rfl) scLetter.nd rfl rfl (sw_true rfl rfl rfl (by decide +kernel)) (pi_range1 rfl T.range (pa_cons pe_int pa_nil)) (blkOk_by (own := [("_law_one", 15)]) (N := nLetter) (sc := defScope sLetter) (by decide +kernel)) (fun _ _ _ _ _ => (pg_name (i := 15) scLetter.nd rfl (Or.inl rfl))) (fun _ _ _ _ _ => pts_one (pt_cmp (pc_dnotin hu (pv 15) (pv 1)))) (fun _ _ _ _ _ => pv 15)) (pss_one (ps_ret (pe_tup (pa_cons pe_str (pa_cons (pe_ix ix_list (pv 6) (pe_call GN hr rfl gN kN bN .nil pass0 (pa_cons (pv 0) (pa_cons (pe_ifExp (pt_cmpR op_gt (pe_callB call_len_seq (by rfl) T.len PySem.boot_len (pa_cons (pv 6) pa_nil)) pe_int (nomark _)) (pe_ix ix_list (pe_lst (pa_cons (pe_callB call_len_seq (by rfl) T.len PySem.boot_len (pa_cons (pv 6) pa_nil)) (pa_cons pe_int (pa_cons pe_int pa_nil)))) (pe_call GN hr rfl gN kN bN .nil pass0 (pa_cons (pv 0) (pa_cons pe_int pa_nil))) (fun _ _ => rfl)) pe_int) pa_nil))) (fun _ _ => rfl)) pa_nil)))))) pss_nil) (pss_cons (ps_if (pt_cmpR op_lt (pv 5) pe_int (nomark _)) (pss_one (ps_ret (pe_tup (pa_cons pe_str (pa_cons (pv 3) (pa_cons (pe_op op_add pe_int (pe_call GN hr rfl gN kN bN .nil pass0 (pa_cons (pv 0) (pa_cons (pe_ix ix_list (pe_lst (pa_cons pe_int (pa_cons pe_int pa_nil))) (pe_call GN hr rfl gN kN bN .nil pass0 (pa_cons (pv 0) (pa_cons pe_int pa_nil))) (fun _ _ => rfl)) pa_nil)))) (pa_cons (pe_op op_add pe_int (pe_call GN hr rfl gN kN bN .nil pass0 (pa_cons (pv 0) (pa_cons (pe_ix ix_list (pe_lst (pa_cons pe_int (pa_cons pe_int pa_nil))) (pe_call GN hr rfl gN kN bN .nil pass0 (pa_cons (pv 0) (pa_cons pe_int pa_nil))) (fun _ _ => rfl)) pa_nil)))) pa_nil))))))) pss_nil) (pss_cons (ps_if (pt_cmpR op_lt (pv 5) pe_int (nomark _)) (pss_cons (ps_set (i := 7) scLetter.nd rfl (Or.inl rfl) (pe_ix ix_tup (pe_dget hu (pe_dget hu (pv 1) (pv 3) (fun _ _ => rfl)) pe_str (fun _ _ => rfl)) pe_int (fun _ _ => rfl))) (pss_cons (ps_par (i := 8) (j := 9) (by rfl) scLetter.nd rfl rfl (by decide) rfl rfl (pa_cons (pe_op op_add pe_int (pe_call GN hr rfl gN kN bN .nil pass0 (pa_cons (pv 0) (pa_cons (pe_callB call_len_seq (by rfl) T.len PySem.boot_len (pa_cons (pe_ix ix_tup (pv 7) pe_int (fun _ _ => rfl)) pa_nil)) pa_nil)))) (pa_cons (pe_op op_add pe_int (pe_call GN hr rfl gN kN bN .nil pass0 (pa_cons (pv 0) (pa_cons (pe_callB call_len_seq (by rfl) T.len PySem.boot_len (pa_cons (pv 7) pa_nil)) pa_nil)))) pa_nil)) (by rfl)) (pss_cons (ps_par (i := 10) (j := 11) (by rfl) scLetter.nd rfl rfl (by decide) rfl rfl (pa_cons (pe_call GN hr rfl gN kN bN .nil pass0 (pa_cons (pv 0) (pa_cons (pe_op op_add (pe_op op_sub (pe_callB call_len_seq (by rfl) T.len PySem.boot_len (pa_cons (pe_ix ix_tup (pv 7) pe_int (fun _ _ => rfl)) pa_nil)) (pv 8)) pe_int) pa_nil))) (pa_cons (pe_call GN hr rfl gN kN bN .nil pass0 (pa_cons (pv 0) (pa_cons (pe_op op_add (pe_op op_sub (pe_callB call_len_seq (by rfl) T.len PySem.boot_len (pa_cons (pv 7) pa_nil)) (pv 9)) pe_int) pa_nil))) pa_nil)) (by rfl)) (pss_one (ps_ret (pe_tup (pa_cons pe_str (pa_cons (pv 3) (pa_cons (pv 10) (pa_cons (pv 11) (pa_cons (pv 8) (pa_cons (pv 9) (pa_cons (pe_call GN hr rfl gN kN bN .nil pass0 (pa_cons (pv 0) (pa_cons pe_int pa_nil))) pa_nil))))))))))))) pss_nil) (pss_cons (ps_if (pt_cmpR op_lt (pv 5) pe_int (nomark _)) (pss_cons (ps_set (i := 12) scLetter.nd rfl (Or.inl rfl) (pe_ix ix_list (pe_lst (pa_cons pe_int (pa_cons pe_int (pa_cons pe_int pa_nil)))) (pe_call GN hr rfl gN kN bN .nil pass0 (pa_cons (pv 0) (pa_cons pe_int pa_nil))) (fun _ _ => rfl))) (pss_one (ps_ret (pe_tup (pa_cons pe_str (pa_cons (pv 3) (pa_cons (pe_op op_sub (pe_call GN hr rfl gN kN bN .nil pass0 (pa_cons (pv 0) (pa_cons (pe_op op_add (pe_op op_mul pe_int (pv 12)) pe_int) pa_nil))) (pv 12)) (pa_cons (pe_op op_sub (pe_call GN hr rfl gN kN bN .nil pass0 (pa_cons (pv 0) (pa_cons (pe_op op_add (pe_op op_mul pe_int (pv 12)) pe_int) pa_nil))) (pv 12)) pa_nil)))))))) pss_nil) (pss_cons (ps_if (pt_cmpR op_lt (pv 5) pe_int (nomark _)) (pss_one (ps_ret (pe_tup (pa_cons pe_str (pa_cons (pv 3) (pa_cons (pe_call GN hr rfl gN kN bN .nil pass0 (pa_cons (pv 0) (pa_cons (pe_ix ix_list (pe_lst (pa_cons pe_int (pa_cons pe_int pa_nil))) (pe_call GN hr rfl gN kN bN .nil pass0 (pa_cons (pv 0) (pa_cons pe_int pa_nil))) (fun _ _ => rfl)) pa_nil))) pa_nil)))))) pss_nil) (pss_cons (ps_set (i := 13) scLetter.nd rfl (Or.inl rfl) (pe_lst (pa_cons pe_str (pa_cons pe_str (pa_cons pe_str (pa_cons pe_str (pa_cons pe_str (pa_cons pe_str (pa_cons pe_str (pa_cons pe_str (pa_cons pe_str (pa_cons pe_str pa_nil)))))))))))) (pss_cons (ps_set (i := 14) scLetter.nd rfl (Or.inl rfl) (pe_ix ix_list (pv 13) (pe_ifExp (pt_cmpR op_gt (pe_call GN hr rfl gN kN bN .nil pass0 (pa_cons (pv 0) (pa_cons pe_int pa_nil))) pe_int (nomark _)) (pe_callB (call_min2 rfl) (by rfl) T.min (by decide +kernel) (pa_cons (pe_call GN hr rfl gN kN bN .nil pass0 (pa_cons (pv 0) (pa_cons pe_int pa_nil))) (pa_cons pe_int pa_nil))) pe_int) (fun _ _ => rfl))) (pss_one (ps_ret (pe_ifExp (pt_cmpR op_eq (pv 14) pe_str (nomark _)) (pe_tup (pa_cons (pv 14) (pa_cons (pv 3) (pa_cons (pv 4) pa_nil)))) (pe_ifExp (pt_cmpR op_eq (pv 14) pe_str (nomark _)) (pe_tup (pa_cons pe_str pa_nil)) (pe_tup (pa_cons (pv 14) (pa_cons (pv 3) pa_nil)))))))))))))))))), ?_⟩
    have sm : ∀ {n : Nat}, n ≤ 1000 → n ≤ sizeLine := small
    have hlen := ok.len
    rw [List.length_map] at hlen
    have wat : ∀ {A' : Cells} {m' : MixH} {H' : Hp}, Has H' (A' ++ (mixCells m' ++ (wCells wa es ++ B))) → WAt H' wa es := fun g => wat_of (A := _ ++ _) (Has.unassoc g)
    have hw := wat hh
    refine ⟨_, rfl, wa, _, es.map (·.k), rfl, .inl hw.1, by unfold wKvs; simp, by rw [List.length_map]; omega, fun ys sl hperm hord hsl => ?_⟩
    have ksl : ys.length = es.length := by rw [hperm.length_eq, List.length_map]
    have kin : ∀ x ∈ ys, x ∈ es.map (·.k) := fun x hx => hperm.mem_iff.mp hx
    have krng : ∀ x ∈ ys, 0 ≤ x ∧ x ≤ 9 := fun x hx => by
      obtain ⟨e, he, q⟩ := List.mem_map.mp (kin x hx)
      have := ok.rng e.key (List.mem_map_of_mem he)
      rw [← q]; exact this
    have g0 := hh.cons hsl (.lst (ys.map V.int))
    have kt0 : KeepT H (upd H sl (.lst (ys.map V.int))) := KeepT.same (Same.new _ hsl)
    generalize hH0 : upd H sl (.lst (ys.map V.int)) = H0 at g0 kt0
    have hs0 := Has.get (A := []) g0 0 rfl
    have ktO : KeepT H H0 := kt0
    have gO := g0
    by_cases hy : ys = []
    · have hless : es.length < 10 := by rw [← ksl, hy]; decide
      have dec : decide (ys = []) = true := decide_eq_true hy
      refine ⟨_, rfl, sm (by show 0 ≤ 1000; decide), fun q1 hq1 => ?_⟩
      refine neNil ((Same.new _ hq1) _ _ hs0) upd_same ?_
      refine ⟨_, rfl, ?_⟩
      rw [dec]
      refine iteF ?_
      have g0 := gO.past hq1 (.lst [])
      have t0 := ktO.trans (KeepT.same (Same.new (HO.lst []) hq1))
      have e0 : m.a = m.a := rfl
      have o0 := om
      obtain ⟨m0, em0⟩ : ∃ x, x = m := ⟨_, rfl⟩
      rw [← em0] at g0 o0
      have e0 : m0.a = m.a := by rw [em0]
      refine ⟨_, rfl, ((sl, _) :: A), wCells wa es ++ B, m0, 10, congrArg (fun x => [V.ref x, V.int 10]) e0.symm, g0, o0, by decide, by decide, fun r1 m1 H1 ra1 rb1 f1 o1 g1 k1 => ?_⟩
      have e1 := f1.trans e0
      have t1 := t0.trans k1
      refine ⟨_, rfl, sm (by show 0 ≤ 1000; decide), fun q2 hq2 => ?_⟩
      refine neNil ((Same.new _ hq2) _ _ (Has.get (A := []) g1 0 rfl)) upd_same ?_
      refine ⟨_, rfl, ?_⟩
      rw [dec]
      refine iteF ?_
      have g1 := Has.past g1 hq2 (.lst [])
      have t1 := t1.trans (KeepT.same (Same.new (HO.lst []) hq2))
      refine ⟨_, rfl, ((sl, _) :: A), wCells wa es ++ B, m1, 10, congrArg (fun x => [V.ref x, V.int 10]) e1.symm, g1, o1, by decide, by decide, fun r2 m2 H2 ra2 rb2 f2 o2 g2 k2 => ?_⟩
      have e2 := f2.trans e1
      have t2 := t1.trans k2
      refine ⟨_, rfl, ((sl, _) :: A), wCells wa es ++ B, m2, 24, congrArg (fun x => [V.ref x, V.int 24]) e2.symm, g2, o2, by decide, by decide, fun r3 m3 H3 ra3 rb3 f3 o3 g3 k3 => ?_⟩
      have e3 := f3.trans e2
      have t3 := t2.trans k3
      refine ⟨_, rfl, sm (by show 0 ≤ 1000; decide), fun q3 hq3 => ?_⟩
      refine eqNil ((Same.new _ hq3) _ _ (Has.get (A := []) g3 0 rfl)) upd_same ?_
      refine ⟨_, rfl, ?_⟩
      rw [dec]
      refine iteT ?_
      have g3 := Has.past g3 hq3 (.lst [])
      have t3 := t3.trans (KeepT.same (Same.new (HO.lst []) hq3))
      generalize hH3 : upd H3 q3 (.lst []) = H3 at g3 t3
      refine ⟨10, rfl, by decide, by decide, fun D hD => ?_⟩
      refine lc_range (lo := 0) (n := (10 : Int).toNat) (fun j H2 => Same H3 H2 ∧ H2 D = some (.lst (((List.range j).filter fun o => (findW es (o : Nat)).isNone).map fun (o : Nat) => V.int (o : Nat)))) ⟨Same.new _ hD, upd_same⟩ ?_ ?_
      · rintro j H2 hj ⟨s2, hD2⟩
        rw [Int.zero_add]
        refine ⟨rfl, _, rfl, _, rfl, wa, _, rfl, ((wat g3).same s2).is (j : Nat), _, rfl, ?_⟩
        rw [List.range_succ, List.filter_append]
        cases q : findW es (j : Nat) with
        | none =>
          refine iteT ?_
          refine ⟨_, rfl, _, hD2, ?_, Same.mut _ s2 hD, ?_⟩
          · rw [List.length_map]
            have := List.length_filter_le (fun o => (findW es ((o : Nat) : Int)).isNone) (List.range j)
            rw [List.length_range] at this
            have hj : j < 10 := hj
            exact small1000 (by omega)
          · rw [upd_same, List.map_append]
            have : ([j].filter fun o => (findW es ((o : Nat) : Int)).isNone) = [j] := by simp [q]
            rw [this]; rfl
        | some x =>
          refine iteF ⟨s2, ?_⟩
          have : ([j].filter fun o => (findW es ((o : Nat) : Int)).isNone) = [] := by simp [q]
          rw [this, List.append_nil]; exact hD2
      · rintro H4 ⟨s2, hD2⟩
        have hD2 : H4 D = some (.lst ((freshW es).map fun (o : Nat) => V.int (o : Nat))) := hD2
        have fp := fresh_pos (es := es) hless
        have fl := fresh_le es
        have g4 := Has.add g3 hD s2 hD2
        have t4 := t3.trans (KeepT.same s2)
        have o4 := o3
        have e4 := e3
        obtain ⟨m4, em4⟩ : ∃ x, x = m3 := ⟨_, rfl⟩
        rw [← em4] at g4 o4 e4
        have fin : ∀ (r : Int), 0 ≤ r → r < ((freshW es).length : Int) → ∃ f : Nat, (freshW es)[r.toNat]? = some f ∧ f ≤ 9 := fun r r0 r1 => by
          have hl : r.toNat < (freshW es).length := by omega
          refine ⟨_, List.getElem?_eq_getElem hl, ?_⟩
          have := (List.mem_filter.mp (List.getElem_mem hl)).1
          have := List.mem_range.mp this
          omega
        refine ⟨_, rfl, _, rfl, _, rfl, D, _, rfl, .inl (SqL.of hD2), _, _, rfl, rfl, _, rfl, ?_⟩
        rw [List.length_map]
        refine ite2 (fun c => ?_) (fun c => ?_)
        · have c := of_decide_eq_true c
          refine ⟨_, rfl, D, _, rfl, .inl (SqL.of hD2), sm (by show 3 ≤ 1000; decide), fun l hl => ?_⟩
          have g4 := Has.cons g4 hl (.lst [V.int ((freshW es).map fun (o : Nat) => V.int (o : Nat)).length, .int 2, .int 1])
          have t4 := t4.trans (KeepT.same (Same.new (HO.lst [V.int ((freshW es).map fun (o : Nat) => V.int (o : Nat)).length, .int 2, .int 1]) hl))
          refine ⟨_, rfl, ((l, _) :: (D, _) :: (sl, _) :: A), wCells wa es ++ B, m4, 3, congrArg (fun x => [V.ref x, V.int 3]) e4.symm, g4, o4, by decide, by decide, fun r5 m5 H5 ra5 rb5 f5 o5 g5 k5 => ?_⟩
          have e5 := f5.trans e4
          have t5 := t4.trans k5
          obtain ⟨v, hv, v1, v2⟩ := pick3 (a := (((freshW es).map fun (o : Nat) => V.int (o : Nat)).length : Int)) (b := 2) (c := 1) (lo := 1) (hi := ((freshW es).length : Int)) ra5 rb5 (by rw [List.length_map]; omega) (by omega) (by omega)
          refine ⟨l, _, _, V.int v, rfl, rfl, SqL.of (Has.get (A := []) g5 0 rfl), at_of (j := r5.toNat) (by omega) hv, ?_⟩
          refine ⟨((l, _) :: (D, _) :: (sl, _) :: A), wCells wa es ++ B, m5, v, congrArg (fun x => [V.ref x, V.int v]) e5.symm, g5, o5, v1, by omega, fun r6 m6 H6 ra6 rb6 f6 o6 g6 k6 => ?_⟩
          have e6 := f6.trans e5
          have t6 := t5.trans k6
          obtain ⟨f, hf, hf9⟩ := fin r6 ra6 (by omega)
          refine ⟨D, _, _, V.int (f : Nat), rfl, rfl, SqL.of (Has.get (A := []) g6 1 rfl), at_of (j := r6.toNat) (by omega) (by rw [List.getElem?_map, hf]; rfl), sm (by show 2 ≤ 1000; decide), fun t ht => ?_⟩
          refine k t (.make (f : Nat)) m6 _ e6 o6 ((Has.tail (Has.tail (Has.tail g6))).past ht _) upd_same ?_
          simp [Lt.ok, Lt.nums, Lt.bnds]; omega
        · have c : ¬ (1 : Int) < ((freshW es).length : Nat) := fun z => c (decide_eq_true z)
          refine ⟨((D, _) :: (sl, _) :: A), wCells wa es ++ B, m4, 1, congrArg (fun x => [V.ref x, V.int 1]) e4.symm, g4, o4, by decide, by decide, fun r5 m5 H5 ra5 rb5 f5 o5 g5 k5 => ?_⟩
          have e5 := f5.trans e4
          have t5 := t4.trans k5
          obtain ⟨f, hf, hf9⟩ := fin r5 ra5 (by omega)
          refine ⟨D, _, _, V.int (f : Nat), rfl, rfl, SqL.of (Has.get (A := []) g5 0 rfl), at_of (j := r5.toNat) (by omega) (by rw [List.getElem?_map, hf]; rfl), sm (by show 2 ≤ 1000; decide), fun t ht => ?_⟩
          refine k t (.make (f : Nat)) m5 _ e5 o5 ((Has.tail (Has.tail g5)).past ht _) upd_same ?_
          simp [Lt.ok, Lt.nums, Lt.bnds]; omega
    · have dec : decide (ys = []) = false := decide_eq_false hy
      have yl : 1 ≤ ys.length := List.length_pos_iff.mpr hy
      have yl2 : (ys.map V.int).length = ys.length := List.length_map _
      have pk : ∀ r : Int, 0 ≤ r → r < ((ys.map V.int).length : Int) → ∃ n, ys[r.toNat]? = some n ∧ n ∈ ys := fun r r0 r1 => by
        have hl : r.toNat < ys.length := by omega
        exact ⟨_, List.getElem?_eq_getElem hl, List.getElem_mem hl⟩
      refine ⟨_, rfl, sm (by show 0 ≤ 1000; decide), fun q1 hq1 => ?_⟩
      refine neNil ((Same.new _ hq1) _ _ hs0) upd_same ?_
      refine ⟨_, rfl, ?_⟩
      rw [dec]
      refine iteT ?_
      have g0 := gO.past hq1 (.lst [])
      have t0 := ktO.trans (KeepT.same (Same.new (HO.lst []) hq1))
      have o0 := om
      obtain ⟨m0, em0⟩ : ∃ x, x = m := ⟨_, rfl⟩
      rw [← em0] at g0 o0
      have e0 : m0.a = m.a := by rw [em0]
      refine ⟨_, rfl, _, rfl, _, rfl, sl, _, rfl, .inl (SqL.of (Has.get (A := []) g0 0 rfl)), ?_⟩
      refine ⟨((sl, _) :: A), wCells wa es ++ B, m0, ((ys.map V.int).length : Int), congrArg (fun x => [V.ref x, V.int ((ys.map V.int).length : Int)]) e0.symm, g0, o0, by omega, by omega, fun r1 m1 H1 ra1 rb1 f1 o1 g1 k1 => ?_⟩
      have e1 := f1.trans e0
      have t1 := t0.trans k1
      obtain ⟨n, hn1, hn2⟩ := pk r1 ra1 rb1
      refine ⟨sl, _, _, V.int n, rfl, rfl, SqL.of (Has.get (A := []) g1 0 rfl), at_of (j := r1.toNat) (by omega) (by rw [List.getElem?_map, hn1]; rfl), ?_⟩
      refine ⟨_, rfl, sm (by show 0 ≤ 1000; decide), fun q2 hq2 => ?_⟩
      refine neNil ((Same.new _ hq2) _ _ (Has.get (A := []) g1 0 rfl)) upd_same ?_
      refine ⟨_, rfl, ?_⟩
      rw [dec]
      refine iteT ?_
      have g1 := Has.past g1 hq2 (.lst [])
      have t1 := t1.trans (KeepT.same (Same.new (HO.lst []) hq2))
      refine ⟨_, rfl, _, rfl, _, rfl, sl, _, rfl, .inl (SqL.of (Has.get (A := []) g1 0 rfl)), ?_⟩
      refine ⟨((sl, _) :: A), wCells wa es ++ B, m1, ((ys.map V.int).length : Int), congrArg (fun x => [V.ref x, V.int ((ys.map V.int).length : Int)]) e1.symm, g1, o1, by omega, by omega, fun r2 m2 H2 ra2 rb2 f2 o2 g2 k2 => ?_⟩
      have e2 := f2.trans e1
      have t2 := t1.trans k2
      obtain ⟨o, ho1, ho2⟩ := pk r2 ra2 rb2
      refine ⟨sl, _, _, V.int o, rfl, rfl, SqL.of (Has.get (A := []) g2 0 rfl), at_of (j := r2.toNat) (by omega) (by rw [List.getElem?_map, ho1]; rfl), ?_⟩
      refine ⟨_, rfl, ((sl, _) :: A), wCells wa es ++ B, m2, 24, congrArg (fun x => [V.ref x, V.int 24]) e2.symm, g2, o2, by decide, by decide, fun r3 m3 H3 ra3 rb3 f3 o3 g3 k3 => ?_⟩
      have e3 := f3.trans e2
      have t3 := t2.trans k3
      refine ⟨_, rfl, sm (by show 0 ≤ 1000; decide), fun q3 hq3 => ?_⟩
      refine eqNil ((Same.new _ hq3) _ _ (Has.get (A := []) g3 0 rfl)) upd_same ?_
      refine ⟨_, rfl, ?_⟩
      rw [dec]
      refine iteF ?_
      have g3 := Has.past g3 hq3 (.lst [])
      have t3 := t3.trans (KeepT.same (Same.new (HO.lst []) hq3))
      generalize hH3 : upd H3 q3 (.lst []) = H3 at g3 t3
      have hn := krng n hn2
      have ho := krng o ho2
      obtain ⟨e, en⟩ := findW_some (kin n hn2)
      have em := findW_mem en
      refine ⟨_, rfl, _, _, rfl, rfl, _, rfl, ?_⟩
      refine ite2 (fun _ => ?_) (fun _ => ?_)
      refine ⟨_, rfl, sl, _, rfl, .inl (SqL.of (Has.get (A := []) g3 0 rfl)), _, _, rfl, rfl, _, rfl, ?_⟩
      refine ite2 (fun cl => ?_) (fun _ => ?_)
      · have hless : es.length < 10 := by have := of_decide_eq_true cl; rw [List.length_map] at this; omega
        refine ⟨10, rfl, by decide, by decide, fun D hD => ?_⟩
        refine lc_range (lo := 0) (n := (10 : Int).toNat) (fun j H2 => Same H3 H2 ∧ H2 D = some (.lst (((List.range j).filter fun o => (findW es (o : Nat)).isNone).map fun (o : Nat) => V.int (o : Nat)))) ⟨Same.new _ hD, upd_same⟩ ?_ ?_
        · rintro j H2 hj ⟨s2, hD2⟩
          rw [Int.zero_add]
          refine ⟨rfl, _, rfl, _, rfl, wa, _, rfl, ((wat g3).same s2).is (j : Nat), _, rfl, ?_⟩
          rw [List.range_succ, List.filter_append]
          cases q : findW es (j : Nat) with
          | none =>
            refine iteT ?_
            refine ⟨_, rfl, _, hD2, ?_, Same.mut _ s2 hD, ?_⟩
            · rw [List.length_map]
              have := List.length_filter_le (fun o => (findW es ((o : Nat) : Int)).isNone) (List.range j)
              rw [List.length_range] at this
              have hj : j < 10 := hj
              exact small1000 (by omega)
            · rw [upd_same, List.map_append]
              have : ([j].filter fun o => (findW es ((o : Nat) : Int)).isNone) = [j] := by simp [q]
              rw [this]; rfl
          | some x =>
            refine iteF ⟨s2, ?_⟩
            have : ([j].filter fun o => (findW es ((o : Nat) : Int)).isNone) = [] := by simp [q]
            rw [this, List.append_nil]; exact hD2
        · rintro H4 ⟨s2, hD2⟩
          have hD2 : H4 D = some (.lst ((freshW es).map fun (o : Nat) => V.int (o : Nat))) := hD2
          have fp := fresh_pos (es := es) hless
          have fl := fresh_le es
          have g4 := Has.add g3 hD s2 hD2
          have t4 := t3.trans (KeepT.same s2)
          have o4 := o3
          have e4 := e3
          obtain ⟨m4, em4⟩ : ∃ x, x = m3 := ⟨_, rfl⟩
          rw [← em4] at g4 o4 e4
          have fin : ∀ (r : Int), 0 ≤ r → r < ((freshW es).length : Int) → ∃ f : Nat, (freshW es)[r.toNat]? = some f ∧ f ≤ 9 := fun r r0 r1 => by
            have hl : r.toNat < (freshW es).length := by omega
            refine ⟨_, List.getElem?_eq_getElem hl, ?_⟩
            have := (List.mem_filter.mp (List.getElem_mem hl)).1
            have := List.mem_range.mp this
            omega
          refine ⟨_, rfl, _, rfl, _, rfl, D, _, rfl, .inl (SqL.of hD2), _, _, rfl, rfl, _, rfl, ?_⟩
          rw [List.length_map]
          refine ite2 (fun c => ?_) (fun c => ?_)
          · have c := of_decide_eq_true c
            refine ⟨_, rfl, D, _, rfl, .inl (SqL.of hD2), sm (by show 3 ≤ 1000; decide), fun l hl => ?_⟩
            have g4 := Has.cons g4 hl (.lst [V.int ((freshW es).map fun (o : Nat) => V.int (o : Nat)).length, .int 2, .int 1])
            have t4 := t4.trans (KeepT.same (Same.new (HO.lst [V.int ((freshW es).map fun (o : Nat) => V.int (o : Nat)).length, .int 2, .int 1]) hl))
            refine ⟨_, rfl, ((l, _) :: (D, _) :: (sl, _) :: A), wCells wa es ++ B, m4, 3, congrArg (fun x => [V.ref x, V.int 3]) e4.symm, g4, o4, by decide, by decide, fun r5 m5 H5 ra5 rb5 f5 o5 g5 k5 => ?_⟩
            have e5 := f5.trans e4
            have t5 := t4.trans k5
            obtain ⟨v, hv, v1, v2⟩ := pick3 (a := (((freshW es).map fun (o : Nat) => V.int (o : Nat)).length : Int)) (b := 2) (c := 1) (lo := 1) (hi := ((freshW es).length : Int)) ra5 rb5 (by rw [List.length_map]; omega) (by omega) (by omega)
            refine ⟨l, _, _, V.int v, rfl, rfl, SqL.of (Has.get (A := []) g5 0 rfl), at_of (j := r5.toNat) (by omega) hv, ?_⟩
            refine ⟨((l, _) :: (D, _) :: (sl, _) :: A), wCells wa es ++ B, m5, v, congrArg (fun x => [V.ref x, V.int v]) e5.symm, g5, o5, v1, by omega, fun r6 m6 H6 ra6 rb6 f6 o6 g6 k6 => ?_⟩
            have e6 := f6.trans e5
            have t6 := t5.trans k6
            obtain ⟨f, hf, hf9⟩ := fin r6 ra6 (by omega)
            refine ⟨D, _, _, V.int (f : Nat), rfl, rfl, SqL.of (Has.get (A := []) g6 1 rfl), at_of (j := r6.toNat) (by omega) (by rw [List.getElem?_map, hf]; rfl), sm (by show 2 ≤ 1000; decide), fun t ht => ?_⟩
            refine k t (.make (f : Nat)) m6 _ e6 o6 ((Has.tail (Has.tail (Has.tail g6))).past ht _) upd_same ?_
            simp [Lt.ok, Lt.nums, Lt.bnds]; omega
          · have c : ¬ (1 : Int) < ((freshW es).length : Nat) := fun z => c (decide_eq_true z)
            refine ⟨((D, _) :: (sl, _) :: A), wCells wa es ++ B, m4, 1, congrArg (fun x => [V.ref x, V.int 1]) e4.symm, g4, o4, by decide, by decide, fun r5 m5 H5 ra5 rb5 f5 o5 g5 k5 => ?_⟩
            have e5 := f5.trans e4
            have t5 := t4.trans k5
            obtain ⟨f, hf, hf9⟩ := fin r5 ra5 (by omega)
            refine ⟨D, _, _, V.int (f : Nat), rfl, rfl, SqL.of (Has.get (A := []) g5 0 rfl), at_of (j := r5.toNat) (by omega) (by rw [List.getElem?_map, hf]; rfl), sm (by show 2 ≤ 1000; decide), fun t ht => ?_⟩
            refine k t (.make (f : Nat)) m5 _ e5 o5 ((Has.tail (Has.tail g5)).past ht _) upd_same ?_
            simp [Lt.ok, Lt.nums, Lt.bnds]; omega
      all_goals
        refine ⟨_, rfl, _, _, rfl, rfl, _, rfl, ?_⟩
        refine ite2 (fun _ => ?_) (fun _ => ?_)
        · refine ⟨_, rfl, _, rfl, sm (by show 2 ≤ 1000; decide), fun l1 hl1 => ?_⟩
          have g3 := Has.cons g3 hl1 (.lst [.int 4, .int 12])
          have t3 := t3.trans (KeepT.same (Same.new (HO.lst [.int 4, .int 12]) hl1))
          refine ⟨_, rfl, ((l1, _) :: (sl, _) :: A), wCells wa es ++ B, m3, 2, congrArg (fun x => [V.ref x, V.int 2]) e3.symm, g3, o3, by decide, by decide, fun r4 m4 H4 ra4 rb4 f4 o4 g4 k4 => ?_⟩
          have e4 := f4.trans e3
          have t4 := t3.trans k4
          obtain ⟨v1, hv1, va1, vb1⟩ := pick2 (a := 4) (b := 12) (lo := 1) (hi := 12) ra4 rb4 (by decide) (by decide)
          refine ⟨l1, _, _, V.int v1, rfl, rfl, SqL.of (Has.get (A := []) g4 0 rfl), at_of (j := r4.toNat) (by omega) hv1, ?_⟩
          refine ⟨((l1, _) :: (sl, _) :: A), wCells wa es ++ B, m4, v1, congrArg (fun x => [V.ref x, V.int v1]) e4.symm, g4, o4, va1, by omega, fun r5 m5 H5 ra5 rb5 f5 o5 g5 k5 => ?_⟩
          have e5 := f5.trans e4
          have t5 := t4.trans k5
          refine ⟨_, _, rfl, rfl, _, rfl, sm (by show 2 ≤ 1000; decide), fun l2 hl2 => ?_⟩
          have g5 := Has.cons g5 hl2 (.lst [.int 3, .int 8])
          have t5 := t5.trans (KeepT.same (Same.new (HO.lst [.int 3, .int 8]) hl2))
          refine ⟨_, rfl, ((l2, _) :: (l1, _) :: (sl, _) :: A), wCells wa es ++ B, m5, 2, congrArg (fun x => [V.ref x, V.int 2]) e5.symm, g5, o5, by decide, by decide, fun r6 m6 H6 ra6 rb6 f6 o6 g6 k6 => ?_⟩
          have e6 := f6.trans e5
          have t6 := t5.trans k6
          obtain ⟨v2, hv2, va2, vb2⟩ := pick2 (a := 3) (b := 8) (lo := 1) (hi := 8) ra6 rb6 (by decide) (by decide)
          refine ⟨l2, _, _, V.int v2, rfl, rfl, SqL.of (Has.get (A := []) g6 0 rfl), at_of (j := r6.toNat) (by omega) hv2, ?_⟩
          refine ⟨((l2, _) :: (l1, _) :: (sl, _) :: A), wCells wa es ++ B, m6, v2, congrArg (fun x => [V.ref x, V.int v2]) e6.symm, g6, o6, va2, by omega, fun r7 m7 H7 ra7 rb7 f7 o7 g7 k7 => ?_⟩
          have e7 := f7.trans e6
          have t7 := t6.trans k7
          refine ⟨_, _, rfl, rfl, sm (by show 4 ≤ 1000; decide), fun t ht => ?_⟩
          refine k t (.size n (1 + r5) (1 + r7)) m7 _ e7 o7 ((Has.tail (Has.tail (Has.tail g7))).past ht _) upd_same ?_
          simp [Lt.ok, Lt.nums, Lt.bnds]; omega
        refine ⟨_, rfl, _, _, rfl, rfl, _, rfl, ?_⟩
        refine ite2 (fun _ => ?_) (fun _ => ?_)
        · have wp3 := wp.keep t3
          have w3 := wat g3
          obtain ⟨x0, y0, r0, v0, mt, W, Hh, hp, ⟨rows, hm1, hm2, hm3⟩, W1, W12, Hh1, Hh8⟩ := wp3 e em.1
          have er0 : rows[0]? = some rows[0] := List.getElem?_eq_getElem (by omega)
          obtain ⟨xs0, hx1, hx2⟩ := hm3 _ (List.mem_of_getElem? er0)
          have emap : (rows.map V.ref)[0]? = some (V.ref rows[0]) := by rw [List.getElem?_map, er0]; rfl
          have eml : (rows.map V.ref).length = Hh := by rw [List.length_map]; exact hm2
          generalize rows.map V.ref = rvs at hm1 emap eml
          generalize rows[0] = row0 at hx1 emap
          refine ⟨_, rfl, _, rfl, wa, _, rfl, w3.get en, e.da, _, rfl, w3.pend em.1, _, _, _, V.ref mt, rfl, rfl, SqT.of hp, at_of (j := 4) rfl rfl, ?_⟩
          refine ⟨_, rfl, _, rfl, _, _, _, V.ref row0, rfl, rfl, SqT.of hm1, at_of (j := 0) rfl emap, _, _, rfl, .inr (SqT.of hx1), ?_⟩
          rw [hx2]
          refine ⟨((sl, _) :: A), wCells wa es ++ B, m3, (W : Int), congrArg (fun x => [V.ref x, V.int (W : Int)]) e3.symm, g3, o3, by omega, by omega, fun r4 m4 H4 ra4 rb4 f4 o4 g4 k4 => ?_⟩
          have e4 := f4.trans e3
          have t4 := t3.trans k4
          refine ⟨_, _, rfl, rfl, _, rfl, _, rfl, _, _, rfl, .inr (SqT.of (k4 _ _ hm1)), ?_⟩
          rw [eml]
          refine ⟨((sl, _) :: A), wCells wa es ++ B, m4, (Hh : Int), congrArg (fun x => [V.ref x, V.int (Hh : Int)]) e4.symm, g4, o4, by omega, by omega, fun r5 m5 H5 ra5 rb5 f5 o5 g5 k5 => ?_⟩
          have e5 := f5.trans e4
          have t5 := t4.trans k5
          refine ⟨_, _, rfl, rfl, _, _, rfl, ?_⟩
          have hm5 := k5 _ _ (k4 _ _ hm1)
          have hx5 := k5 _ _ (k4 _ _ hx1)
          refine ⟨_, rfl, _, rfl, _, _, _, V.ref row0, rfl, rfl, SqT.of hm5, at_of (j := 0) rfl emap, _, _, rfl, .inr (SqT.of hx5), _, rfl, _, _, rfl, rfl, _, _, rfl, rfl, ?_⟩
          rw [hx2]
          refine ⟨((sl, _) :: A), wCells wa es ++ B, m5, ((W : Int) - (1 + r4) + 1), congrArg (fun x => [V.ref x, V.int ((W : Int) - (1 + r4) + 1)]) e5.symm, g5, o5, by omega, by omega, fun r6 m6 H6 ra6 rb6 f6 o6 g6 k6 => ?_⟩
          have e6 := f6.trans e5
          have t6 := t5.trans k6
          refine ⟨_, rfl, _, rfl, _, _, rfl, .inr (SqT.of (k6 _ _ hm5)), _, rfl, _, _, rfl, rfl, _, _, rfl, rfl, ?_⟩
          rw [eml]
          refine ⟨((sl, _) :: A), wCells wa es ++ B, m6, ((Hh : Int) - (1 + r5) + 1), congrArg (fun x => [V.ref x, V.int ((Hh : Int) - (1 + r5) + 1)]) e6.symm, g6, o6, by omega, by omega, fun r7 m7 H7 ra7 rb7 f7 o7 g7 k7 => ?_⟩
          have e7 := f7.trans e6
          have t7 := t6.trans k7
          refine ⟨_, _, rfl, ?_⟩
          refine ⟨_, rfl, _, rfl, _, rfl, _, rfl, _, rfl, ?_⟩
          refine ⟨_, rfl, ((sl, _) :: A), wCells wa es ++ B, m7, 10, congrArg (fun x => [V.ref x, V.int 10]) e7.symm, g7, o7, by decide, by decide, fun r8 m8 H8 ra8 rb8 f8 o8 g8 k8 => ?_⟩
          have e8 := f8.trans e7
          have t8 := t7.trans k8
          refine ⟨sm (by show 7 ≤ 1000; decide), fun t ht => ?_⟩
          refine k t (.paint n r6 r7 (1 + r4) (1 + r5) r8) m8 _ e8 o8 ((Has.tail g8).past ht _) upd_same ?_
          simp [Lt.ok, Lt.nums, Lt.bnds]; omega
        refine ⟨_, rfl, _, _, rfl, rfl, _, rfl, ?_⟩
        refine ite2 (fun _ => ?_) (fun _ => ?_)
        · refine ⟨sm (by show 3 ≤ 1000; decide), fun l1 hl1 => ?_⟩
          have g3 := Has.cons g3 hl1 (.lst [.int 6, .int 3, .int 20])
          have t3 := t3.trans (KeepT.same (Same.new (HO.lst [.int 6, .int 3, .int 20]) hl1))
          refine ⟨_, rfl, ((l1, _) :: (sl, _) :: A), wCells wa es ++ B, m3, 3, congrArg (fun x => [V.ref x, V.int 3]) e3.symm, g3, o3, by decide, by decide, fun r4 m4 H4 ra4 rb4 f4 o4 g4 k4 => ?_⟩
          have e4 := f4.trans e3
          have t4 := t3.trans k4
          obtain ⟨far, hv1, va1, vb1⟩ := pick3 (a := 6) (b := 3) (c := 20) (lo := 3) (hi := 20) ra4 rb4 (by decide) (by decide) (by decide)
          refine ⟨l1, _, _, V.int far, rfl, rfl, SqL.of (Has.get (A := []) g4 0 rfl), at_of (j := r4.toNat) (by omega) hv1, ?_⟩
          refine ⟨_, rfl, _, rfl, _, rfl, _, _, rfl, rfl, .inl ⟨by decide, by decide⟩, _, _, rfl, rfl, ?_⟩
          refine ⟨((l1, _) :: (sl, _) :: A), wCells wa es ++ B, m4, (2 * far + 1), congrArg (fun x => [V.ref x, V.int (2 * far + 1)]) e4.symm, g4, o4, by omega, by omega, fun r5 m5 H5 ra5 rb5 f5 o5 g5 k5 => ?_⟩
          have e5 := f5.trans e4
          have t5 := t4.trans k5
          refine ⟨_, rfl, _, _, rfl, rfl, _, rfl, _, rfl, _, _, rfl, rfl, .inl ⟨by decide, by decide⟩, _, _, rfl, rfl, ?_⟩
          refine ⟨((l1, _) :: (sl, _) :: A), wCells wa es ++ B, m5, (2 * far + 1), congrArg (fun x => [V.ref x, V.int (2 * far + 1)]) e5.symm, g5, o5, by omega, by omega, fun r6 m6 H6 ra6 rb6 f6 o6 g6 k6 => ?_⟩
          have e6 := f6.trans e5
          have t6 := t5.trans k6
          refine ⟨_, rfl, _, _, rfl, rfl, sm (by show 4 ≤ 1000; decide), fun t ht => ?_⟩
          refine k t (.place n (r5 - far) (r6 - far)) m6 _ e6 o6 ((Has.tail (Has.tail g6)).past ht _) upd_same ?_
          simp [Lt.ok, Lt.nums, Lt.bnds]; omega
        refine ⟨_, rfl, _, _, rfl, rfl, _, rfl, ?_⟩
        refine ite2 (fun _ => ?_) (fun _ => ?_)
        · refine ⟨_, rfl, _, rfl, sm (by show 2 ≤ 1000; decide), fun l1 hl1 => ?_⟩
          have g3 := Has.cons g3 hl1 (.lst [.int 3, .int 10])
          have t3 := t3.trans (KeepT.same (Same.new (HO.lst [.int 3, .int 10]) hl1))
          refine ⟨_, rfl, ((l1, _) :: (sl, _) :: A), wCells wa es ++ B, m3, 2, congrArg (fun x => [V.ref x, V.int 2]) e3.symm, g3, o3, by decide, by decide, fun r4 m4 H4 ra4 rb4 f4 o4 g4 k4 => ?_⟩
          have e4 := f4.trans e3
          have t4 := t3.trans k4
          obtain ⟨v1, hv1, va1, vb1⟩ := pick2 (a := 3) (b := 10) (lo := 1) (hi := 10) ra4 rb4 (by decide) (by decide)
          refine ⟨l1, _, _, V.int v1, rfl, rfl, SqL.of (Has.get (A := []) g4 0 rfl), at_of (j := r4.toNat) (by omega) hv1, ?_⟩
          refine ⟨((l1, _) :: (sl, _) :: A), wCells wa es ++ B, m4, v1, congrArg (fun x => [V.ref x, V.int v1]) e4.symm, g4, o4, va1, by omega, fun r5 m5 H5 ra5 rb5 f5 o5 g5 k5 => ?_⟩
          have e5 := f5.trans e4
          have t5 := t4.trans k5
          refine ⟨sm (by show 3 ≤ 1000; decide), fun t ht => ?_⟩
          refine k t (.rank n r5) m5 _ e5 o5 ((Has.tail (Has.tail g5)).past ht _) upd_same ?_
          simp [Lt.ok, Lt.nums, Lt.bnds]; omega
        refine ⟨sm (by show 10 ≤ 1000; decide), fun l1 hl1 => ?_⟩
        have g3 := Has.cons g3 hl1 (.lst [V.str "veil", .str "unveil", .str "unveil", .str "tie", .str "drop", .str "hold", .str "show", .str "show", .str "show", .str "let"])
        have t3 := t3.trans (KeepT.same (Same.new (HO.lst [V.str "veil", .str "unveil", .str "unveil", .str "tie", .str "drop", .str "hold", .str "show", .str "show", .str "show", .str "let"]) hl1))
        refine ⟨_, rfl, ?_⟩
        refine ⟨_, rfl, ((l1, _) :: (sl, _) :: A), wCells wa es ++ B, m3, 9, congrArg (fun x => [V.ref x, V.int 9]) e3.symm, g3, o3, by decide, by decide, fun r4 m4 H4 ra4 rb4 f4 o4 g4 k4 => ?_⟩
        have e4 := f4.trans e3
        have t4 := t3.trans k4
        refine ⟨_, _, rfl, rfl, _, rfl, ?_⟩
        refine ite2 (fun _ => ?_) (fun _ => ?_)
        refine ⟨_, rfl, ((l1, _) :: (sl, _) :: A), wCells wa es ++ B, m4, 12, congrArg (fun x => [V.ref x, V.int 12]) e4.symm, g4, o4, by decide, by decide, fun r5 m5 H5 ra5 rb5 f5 o5 g5 k5 => ?_⟩
        have e5 := f5.trans e4
        have t5 := t4.trans k5
        refine ⟨_, _, rfl, ?_⟩
        obtain ⟨j, hj, J⟩ : ∃ j : Nat, (if (8 : Int) < r5 then 8 else r5) = (j : Int) ∧ j < 10 := ⟨(if (8 : Int) < r5 then 8 else r5).toNat, by split <;> omega, by split <;> omega⟩
        have gW := g5
        have eW := e5
        have oW := o5
        generalize m5 = mW at gW eW oW
        rotate_left
        obtain ⟨j, hj, J⟩ : ∃ j : Nat, (9 : Int) = (j : Int) ∧ j < 10 := ⟨9, rfl, by decide⟩
        have gW := g4
        have eW := e4
        have oW := o4
        generalize m4 = mW at gW eW oW
        all_goals
          obtain ⟨wd, hwd, hz⟩ := wordAt (n := n) J hn.1 hn.2
          refine ⟨l1, _, _, V.str wd, rfl, rfl, SqL.of (Has.get (A := []) gW 0 rfl), at_of (j := j) hj hwd, ?_⟩
          refine ⟨_, rfl, rfl, _, rfl, ?_⟩
          refine ite2 (fun c => ?_) (fun c => ?_)
          · have c := V.str.inj (of_decide_eq_true c)
            refine ⟨_, rfl, _, rfl, _, rfl, sm (by show 3 ≤ 1000; decide), fun t ht => ?_⟩
            refine k t (.tie n o) mW _ eW oW ((Has.tail (Has.tail gW)).past ht _) (by rw [upd_same, c]; rfl) ?_
            simp [Lt.ok, Lt.nums, Lt.bnds]; omega
          refine ⟨_, rfl, rfl, _, rfl, ?_⟩
          refine ite2 (fun c2 => ?_) (fun c2 => ?_)
          · refine ⟨sm (by show 1 ≤ 1000; decide), fun t ht => ?_⟩
            refine k t .let_ mW _ eW oW ((Has.tail (Has.tail gW)).past ht _) upd_same ?_
            simp [Lt.ok, Lt.nums, Lt.bnds]
          rcases hz with hz | hz | ⟨z, hz, hzo⟩
          · exact absurd (decide_eq_true (by rw [hz])) c
          · exact absurd (decide_eq_true (by rw [hz])) c2
          · refine ⟨_, rfl, _, rfl, sm (by show 2 ≤ 1000; decide), fun t ht => ?_⟩
            exact k t z mW _ eW oW ((Has.tail (Has.tail gW)).past ht _) (by rw [upd_same, hz]) hzo
end
end SH
set_option Elab.async false
set_option linter.all false
set_option maxRecDepth 100000
namespace SH
open PySem PySem.Spec PyProof.Rows L2
abbrev sBook : Stmt := top 29
theorem has_mid {H : Hp} {c : Addr × HO} {A M W B : Cells} (h : Has H (c :: (A ++ (M ++ (W ++ B))))) : Has H (A ++ (M ++ (c :: B))) := by
  have h1 : Has H (c :: (A ++ (M ++ B))) := h.sub (List.Sublist.cons₂ _ (List.Sublist.append_left (List.Sublist.append_left (List.sublist_append_right _ _) _) _))
  refine h1.perm ?_
  rw [← List.append_assoc, ← List.append_assoc]
  exact List.perm_middle.symm
section
variable {P : Program} {w : World} {K : PySem.W.Frag} {mg : Str → Option Value} {base : Heap}
abbrev nBook : List Str := ["_law_h", "_law_many", "_law_w", "_law_found", "_law_odd_here", "_law_k", "_law_letter_here"]
theorem scBook : FnScope nBook ["_law_h", "_law_many"] (defScope sBook) := ⟨rfl, rfl, rfl, by decide +kernel, rfl, by decide +kernel, by decide +kernel⟩
def spBook : Sp := fun vs H Q _ => ∃ (A B : Cells) (m : MixH) (many : Int), vs = [.ref m.a, .int many] ∧ Has H (A ++ (mixCells m ++ B)) ∧ MixOk m ∧ 0 ≤ many ∧ many ≤ 900 ∧
  ∀ fl ts zs m' H', m'.a = m.a → MixOk m' → Has H' (A ++ (mixCells m' ++ ((fl, .lst (ts.map V.ref)) :: B))) → RowAt H' ts zs → (∀ z ∈ zs, z.ok) → zs.length ≤ 900 → KeepT H H' → Q (.ref fl) H'
set_option maxHeartbeats 0 in
theorem ok_book {f fN fO fL fD : Addr} {fd fdN fdO fdL fdD : FuncData} (F : Fun K "_law_book" "_law_book" sBook f fd) (T : TxtG mg)
    (GN : FnOk P w K mg base CX0 1 fN fdN ["_law_h", "_law_many"] spNext) (bN : Binds K fdN ["_law_h", "_law_many"] []) (gN : mg "_law_next" = some (.ref fN)) (kN : PySem.W.keepIn K (.ref fN) = true)
    (GO : FnOk P w K mg base CX0 2 fO fdO ["_law_h", "_law_w"] spOdd) (bO : Binds K fdO ["_law_h", "_law_w"] []) (gO : mg "_law_odd" = some (.ref fO)) (kO : PySem.W.keepIn K (.ref fO) = true)
    (GL : FnOk P w K mg base CX0 2 fL fdL ["_law_h", "_law_w"] spLetter) (bL : Binds K fdL ["_law_h", "_law_w"] []) (gL : mg "_law_letter" = some (.ref fL)) (kL : PySem.W.keepIn K (.ref fL) = true)
    (GD : FnOk P w K mg base CX0 5 fD fdD ["_law_w", "_law_letter_here"] spDoes) (bD : Binds K fdD ["_law_w", "_law_letter_here"] []) (gD : mg "_law_does" = some (.ref fD)) (kD : PySem.W.keepIn K (.ref fD) = true) :
    FnOk P w K mg base CX0 6 f fd ["_law_h", "_law_many"] spBook := by
  have GN := keep_t GN
  have GO := keep_t GO
  have GL := keep_t GL
  refine F.ok scBook (fun vs H Q E h => ?_) (fun cdv A0 outer s0 H vs Q E hr h => ?_)
  · obtain ⟨A, B, m, many, rfl, _⟩ := h
    rfl
  · obtain ⟨A, B, m, many, rfl, hh, om, mn0, mn1, k⟩ := h
    have hu := hu_of hr
    refine ⟨_, (pss_cons (ps_set (i := 2) scBook.nd rfl (Or.inl rfl) pe_dnewK) (pss_cons (ps_set (i := 3) scBook.nd rfl (Or.inl rfl) (pe_lst pa_nil)) (pss_cons (ps_set (i := 4) scBook.nd rfl (Or.inl rfl) (pe_ix ix_list (pe_lst (pa_cons pe_int (pa_cons pe_int (pa_cons pe_int pa_nil)))) (pe_call GN (hr.mono (by decide)) rfl gN kN bN .nil pass0 (pa_cons (pv 0) (pa_cons pe_int pa_nil))) (fun _ _ => rfl))) (pss_cons (ps_for PassesOwn.never rfl (pi_range1 rfl T.range (pa_cons (pe_call GN (hr.mono (by decide)) rfl gN kN bN .nil pass0 (pa_cons (pv 0) (pa_cons (pe_op op_add (pv 1) pe_int) pa_nil))) pa_nil)) (pg_name (i := 5) scBook.nd rfl (Or.inl rfl)) (pss_cons (ps_set (i := 6) scBook.nd rfl (Or.inl rfl) (pe_ifExp (PW.pt (pw_and (pt_cmpR op_gt (pv 4) pe_int (nomark _)) (pw_and1 (pt_cmpR op_eq (pe_call GN (hr.mono (by decide)) rfl gN kN bN .nil pass0 (pa_cons (pv 0) (pa_cons (pv 4) pa_nil))) pe_int (nomark _))))) (pe_call GO (hr.mono (by decide)) rfl gO kO bO .nil pass0 (pa_cons (pv 0) (pa_cons (pv 2) pa_nil))) (pe_call GL (hr.mono (by decide)) rfl gL kL bL .nil pass0 (pa_cons (pv 0) (pa_cons (pv 2) pa_nil))))) (pss_cons (ps_expr (pe_bm PySem.F.plainAttrs_list PySem.F.slot_list_append PySem.F.type_list_append mt_append (pv 3) (pa_cons (pv 6) pa_nil))) (pss_one (ps_if (pt_not (pt_val (pe_ix ix_tup (pe_call GD hr rfl gD kD bD .nil pass0 (pa_cons (pv 2) (pa_cons (pv 6) pa_nil))) pe_int (fun _ _ => rfl)))) (pss_one (ps_set (i := 2) scBook.nd rfl (Or.inl rfl) pe_dnewK)) pss_nil))))) (pss_one (ps_ret (pv 3))))))), ?_⟩
    have sm : ∀ {n : Nat}, n ≤ 1000 → n ≤ sizeLine := small
    refine fun wa hwa => ⟨sm (by show 0 ≤ 1000; decide), fun fl hfl => ⟨sm (by show 3 ≤ 1000; decide), fun l hl => ?_⟩⟩
    have g0 : Has _ (A ++ (mixCells m ++ (wCells wa [] ++ B))) := hh.newAt hwa (.dK [])
    have g0 := (g0.cons hfl (.lst [])).cons hl (.lst [.int 1, .int 40, .int 400])
    have t0 : KeepT H _ := KeepT.same ((Same.new (HO.dK []) hwa).trans ((Same.new (HO.lst []) hfl).trans (Same.new (HO.lst [.int 1, .int 40, .int 400]) hl)))
    have o0 := om
    obtain ⟨m0, em0⟩ : ∃ x, x = m := ⟨_, rfl⟩
    rw [← em0] at g0 o0
    have e0 : m0.a = m.a := by rw [em0]
    refine ⟨_, rfl, ((l, _) :: (fl, _) :: A), wCells wa [] ++ B, m0, 3, congrArg (fun x => [V.ref x, V.int 3]) e0.symm, g0, o0, by decide, by decide, fun r1 m1 H1 ra1 rb1 f1 o1 g1 k1 => ?_⟩
    have e1 := f1.trans e0
    have t1 := t0.trans k1
    obtain ⟨od, hod, od1, od2⟩ := pick3 (a := 1) (b := 40) (c := 400) (lo := 1) (hi := 400) ra1 rb1 (by decide) (by decide) (by decide)
    refine ⟨l, _, _, V.int od, rfl, rfl, SqL.of (Has.get (A := []) g1 0 rfl), at_of (j := r1.toNat) (by omega) hod, ?_⟩
    have g1 := Has.tail g1
    refine ⟨_, rfl, _, rfl, _, _, rfl, rfl, ?_⟩
    refine ⟨((fl, _) :: A), wCells wa [] ++ B, m1, (many + 1), congrArg (fun x => [V.ref x, V.int (many + 1)]) e1.symm, g1, o1, by omega, by omega, fun r2 m2 H2 ra2 rb2 f2 o2 g2 k2 => ?_⟩
    have e2 := f2.trans e1
    have t2 := t1.trans k2
    refine ⟨r2, rfl, by omega, by omega, ?_⟩
    refine for_range (lo := 0) (n := r2.toNat) (fun i σ H3 => ∃ wa fl v5 v6 m3 es ts zs, σ = [some (.ref m.a), some (.int many), some (.ref wa), some (.ref fl), some (.int od), v5, v6] ∧ m3.a = m.a ∧ MixOk m3 ∧ WOk (es.map WE.key) ∧ WPend H3 es ∧ RowAt H3 ts zs ∧ (∀ z ∈ zs, z.ok) ∧ zs.length = i ∧ KeepT H H3 ∧
      Has H3 ((fl, HO.lst (ts.map V.ref)) :: (A ++ (mixCells m3 ++ (wCells wa es ++ B))))) ⟨wa, fl, none, none, m2, [], [], [], rfl, e2, o2, WOk.nil, fun _ h => (by cases h), .nil, fun _ h => (by cases h), rfl, t2, g2⟩ ?_ ?_
    · rintro i σ H3 hi ⟨wa, fl, v5, v6, m3, es, ts, zs, rfl, e3, o3, ok, wp, R, hzs, hzl, t3, g3⟩
      refine ⟨_, rfl, _, _, rfl, rfl, _, rfl, ?_⟩
      refine ite2 (fun _ => ?_) (fun _ => ?_)
      refine ⟨_, rfl, _, rfl, ((fl, _) :: A), wCells wa es ++ B, m3, od, congrArg (fun x => [V.ref x, V.int od]) e3.symm, g3, o3, od1, by omega, fun r4 m4 H4 ra4 rb4 f4 o4 g4 k4 => ?_⟩
      have e4 := f4.trans e3
      have t4 := t3.trans k4
      refine ⟨rfl, _, rfl, ?_⟩
      refine ite2 (fun _ => ?_) (fun _ => ?_)
      refine ⟨_, rfl, _, rfl, ((fl, _) :: A), wCells wa es ++ B, m4, V.ref wa, congrArg (fun x => [V.ref x, V.ref wa]) e4.symm, g4, o4, fun t z mX HX fX oX gX htz hzo kX0 => ?_⟩
      have eX := fX.trans e4
      have tX := t4.trans kX0
      have kX := k4.trans kX0
      rotate_left
      refine ⟨_, rfl, _, rfl, ((fl, _) :: A), B, m4, wa, es, congrArg (fun x => [V.ref x, V.ref wa]) e4.symm, g4, o4, ok, wp.keep k4, fun t z mX HX fX oX gX htz hzo kX0 => ?_⟩
      have eX := fX.trans e4
      have tX := t4.trans kX0
      have kX := k4.trans kX0
      rotate_left
      refine ⟨_, rfl, _, rfl, ((fl, _) :: A), B, m3, wa, es, congrArg (fun x => [V.ref x, V.ref wa]) e3.symm, g3, o3, ok, wp, fun t z mX HX fX oX gX htz hzo kX => ?_⟩
      have eX := fX.trans e3
      have tX := t3.trans kX
      all_goals
        have R1 := R.keep kX
        have hfl := Has.get (A := []) gX 0 rfl
        refine ⟨_, rfl, .inl ⟨rfl, _, SqL.of hfl⟩, _, rfl, fl, _, _, rfl, rfl, hfl, by rw [List.length_map, paired_len R, hzl]; exact small1000 (by omega), ?_⟩
        have g7 := Has.set (A := []) gX 0 rfl (.lst (ts.map V.ref ++ [.ref t]))
        have g7 : Has (upd HX fl (.lst (ts.map V.ref ++ [.ref t]))) ((((fl, HO.lst ((ts ++ [t]).map V.ref)) :: A) ++ mixCells mX) ++ (wCells wa es ++ B)) := Has.unassoc (A := (fl, HO.lst ((ts ++ [t]).map V.ref)) :: A) (g7.re (by rw [List.map_append]; rfl))
        have R2 := paired_snoc (R1.wr hfl (.lst (ts.map V.ref ++ [.ref t]))) (upd_tup (fun xs e => by rw [hfl] at e; cases e) _ _ htz)
        have tX2 := tX.trans (upd_tup (p := fl) (o := .lst (ts.map V.ref ++ [.ref t])) (fun xs e => by rw [hfl] at e; cases e))
        have wp7 := (wp.keep kX).keep (upd_tup (p := fl) (o := .lst (ts.map V.ref ++ [.ref t])) (fun xs e => by rw [hfl] at e; cases e))
        refine ⟨_, rfl, _, rfl, _, B, wa, t, es, z, rfl, g7, ok, wp7, upd_tup (fun xs e => by rw [hfl] at e; cases e) _ _ htz, hzo, fun b r x1 x2 es' H8 k8 hr8 ok8 wp8 g8 => ?_⟩
        refine ⟨_, _, _, V.bl b, rfl, rfl, SqT.of hr8, at_of (j := 0) rfl rfl, _, rfl, ?_⟩
        have R8 := RowAt.keep R2 k8
        have t8 := tX2.trans k8
        have z8 : ∀ y ∈ zs ++ [z], y.ok := fun y hy => by
          rcases List.mem_append.mp hy with h | h
          · exact hzs y h
          · rw [List.mem_singleton.mp h]; exact hzo
        have l8 : (zs ++ [z]).length = i + 1 := by rw [List.length_append, hzl]; rfl
        cases b with
        | true =>
          refine iteF ?_
          exact ⟨wa, fl, _, _, mX, es', ts ++ [t], zs ++ [z], rfl, eX, oX, ok8, wp8, R8, z8, l8, t8, Has.assoc (A := (fl, HO.lst ((ts ++ [t]).map V.ref)) :: A) g8⟩
        | false =>
          refine iteT ?_
          intro d hd
          have s9 := Same.new (HO.dK []) hd
          have g9 := Has.new g8 hd (.dK [])
          have g9 : Has (upd H8 d (.dK [])) ((((fl, HO.lst ((ts ++ [t]).map V.ref)) :: A) ++ mixCells mX) ++ (wCells d [] ++ B)) := g9.sub (List.Sublist.append_left (List.Sublist.cons₂ _ (List.sublist_append_right _ _)) _)
          exact ⟨d, fl, _, _, mX, [], ts ++ [t], zs ++ [z], rfl, eX, oX, WOk.nil, fun _ h => (by cases h), R8.keep (KeepT.same s9), z8, l8, t8.trans (KeepT.same s9), Has.assoc (A := (fl, HO.lst ((ts ++ [t]).map V.ref)) :: A) g9⟩
    · rintro σ H3 ⟨wa, fl, v5, v6, m3, es, ts, zs, rfl, e3, o3, ok, wp, R, hzs, hzl, t3, g3⟩
      exact ⟨_, rfl, k fl ts zs m3 H3 e3 o3 (has_mid g3) R hzs (by omega) t3⟩
end
end SH
set_option Elab.async false
set_option linter.all false
set_option maxRecDepth 100000
namespace SH
open PySem PySem.Spec PyProof.Rows L2 StX
def nS (i : Int) : Str := Str.ofString (toString i)
def nums41 : List Int := (List.range 41).map fun k => ((k : Nat) : Int) - 20
theorem mem41 {n : Int} (h0 : -20 ≤ n) (h1 : n ≤ 20) : n ∈ nums41 := by
  refine List.mem_map.mpr ⟨(n + 20).toNat, List.mem_range.mpr (by omega), by omega⟩
theorem num_int : ∀ {n : Int}, n ∈ nums41 → PySem.intText? (nS n) = some n := fun h => of_decide_eq_true (List.all_eq_true.mp (show (nums41.all fun n => decide (PySem.intText? (nS n) = some n)) = true by decide +kernel) _ h)
theorem num_len : ∀ {n : Int}, n ∈ nums41 → (Txt.removeprefix (nS n) "-").length = 1 ∨ (Txt.removeprefix (nS n) "-").length = 2 := fun h => of_decide_eq_true (List.all_eq_true.mp (show (nums41.all fun n => decide ((Txt.removeprefix (nS n) "-").length = 1 ∨ (Txt.removeprefix (nS n) "-").length = 2)) = true by decide +kernel) _ h)
theorem num_dig : ∀ {n : Int}, n ∈ nums41 → ∀ c ∈ (Txt.removeprefix (nS n) "-").cps.toList, c ∈ ("0123456789" : Str).cps.toList := fun h c hc => of_decide_eq_true (List.all_eq_true.mp (List.all_eq_true.mp (show (nums41.all fun n => (Txt.removeprefix (nS n) "-").cps.toList.all fun c => decide (c ∈ ("0123456789" : Str).cps.toList)) = true by decide +kernel) _ h) c hc)
theorem num_sep : ∀ {n : Int}, n ∈ nums41 → ∀ c ∈ (nS n).cps.toList, c ≠ 32 ∧ c ≠ 10 := fun h c hc => of_decide_eq_true (List.all_eq_true.mp (List.all_eq_true.mp (show (nums41.all fun n => (nS n).cps.toList.all fun c => decide (c ≠ 32 ∧ c ≠ 10)) = true by decide +kernel) _ h) c hc)
theorem num_short : ∀ {n : Int}, n ∈ nums41 → (nS n).length ≤ 3 ∧ 1 ≤ (nS n).length := fun h => of_decide_eq_true (List.all_eq_true.mp (show (nums41.all fun n => decide ((nS n).length ≤ 3 ∧ 1 ≤ (nS n).length)) = true by decide +kernel) _ h)
structure TxtP (mg : Str → Option Value) : Prop where
  str : mg "str" = none
  int : mg "int" = none
  len : mg "len" = none
  all : mg "all" = none
  tuple : mg "tuple" = none
  max : mg "max" = none
  enumerate : mg "enumerate" = none
  range : mg "range" = none
  list : mg "list" = none
  isinst : mg "isinstance" = none
  bool : mg "bool" = none
  figures : ∃ t, mg "FIGURES" = some (.str "0123456789" t)
  most : ∃ t, mg "MOST_CLIENTS" = some (.int 5 t)
def rStr : List V → Hp → VK → Prop := fun xs H Q => (∃ i, xs = [.int i] ∧ i.natAbs.log2 < 1920 ∧ Q (.str (toString i)) H) ∨ (∃ a, xs = [.str a] ∧ Q (.str a) H)
theorem call_strA {X : Cx} : CallR X (.type "str") rStr := CallR.or call_str_int SkE.call_str_str
abbrev sRowOf : Stmt := top 14
abbrev sNum : Stmt := top 16
theorem log41 {n : Int} (h0 : -20 ≤ n) (h1 : n ≤ 20) : n.natAbs.log2 < 1920 := by
  have : n.natAbs ≤ 20 := by omega
  have h2 : n.natAbs < 2 ^ 5 := by omega
  by_cases c : n.natAbs = 0
  · rw [c]; decide
  · have := (Nat.log2_lt c).mpr h2
    omega
section
variable {P : Program} {w : World} {K : PySem.W.Frag} {mg : Str → Option Value} {base : Heap}
abbrev nNum : List Str := ["word", "figures", "number", "sign"]
theorem scNum : FnScope nNum ["word"] (defScope sNum) := ⟨rfl, rfl, rfl, by decide +kernel, rfl, by decide +kernel, by decide +kernel⟩
def spNum : Sp := fun vs H Q _ => ∃ n : Int, vs = [.str (nS n)] ∧ -20 ≤ n ∧ n ≤ 20 ∧ ∀ H', Same H H' → Q (.int n) H'
theorem ok_num {f : Addr} {fd : FuncData} (F : Fun K "number_of" "number_of" sNum f fd) (T : TxtP mg) : FnOk P w K mg base CX0 1 f fd ["word"] spNum := by
  obtain ⟨tF, hF⟩ := T.figures
  refine F.ok scNum (fun vs H Q E h => ?_) (fun cdv A0 outer s0 H vs Q E hr h => ?_)
  · obtain ⟨n, rfl, _⟩ := h
    rfl
  · obtain ⟨n, rfl, n0, n1, k⟩ := h
    refine ⟨_, (pss_cons (ps_set (i := 1) scNum.nd rfl (Or.inl rfl) (pe_m1 PySem.F.slot_str_removeprefix PySem.F.type_str_removeprefix mt_removeprefix (pv 0) pe_str)) (pss_cons (ps_if (PW.pt (pw_or (pt_cmpR op_notIn_seq (pe_callB call_len_str (by rfl) T.len PySem.boot_len (pa_cons (pv 1) pa_nil)) (pe_tup (pa_cons pe_int (pa_cons pe_int pa_nil))) (by rfl)) (pw_or1 (pt_not (pt_val (pe_callB (cr_all rfl) (by rfl) T.all (by decide +kernel) (pa_cons (pe_lc (own := [("sign", 3)]) (g := gName 3) (te := tOp (fun x y H Q => ∃ (c : Nat) (z : Str), x = .str ⟨#[c]⟩ ∧ y = .str z ∧ Q (.bl (decide (c ∈ z.cps.toList))) H) (tVar 3) (tC (.str "0123456789"))) (by rfl) scNum.nd (pi_str (pv 1)) (blkOk_by (own := [("sign", 3)]) (N := nNum) (sc := defScope sNum) (by decide +kernel)) (fun _ _ _ _ _ => (pg_name (i := 3) scNum.nd rfl (Or.inl rfl))) (fun _ _ _ _ _ => pts_nil) (fun _ _ _ _ _ => pe_cmpR op_in_sign (pv 3) (pe_glob rfl hF ⟨_, rfl⟩) rfl)) pa_nil))))))) (pss_one (ps_ret pe_non)) pss_nil) (pss_cons (ps_set (i := 2) scNum.nd rfl (Or.inl rfl) (pe_callTy call_int_str (by rfl) T.int (by decide +kernel) (pa_cons (pv 0) pa_nil))) (pss_cons (ps_if (pt_cmpR op_ne (pe_callTy call_strA (by rfl) T.str (by decide +kernel) (pa_cons (pv 2) pa_nil)) (pv 0) (nomark _)) (pss_one (ps_ret pe_non)) pss_nil) (pss_one (ps_ret (pv 2))))))), ?_⟩
    have hm := mem41 n0 n1
    have hl := num_len hm
    have hd := num_dig hm
    have hs := num_short hm
    have sm : ∀ {n : Nat}, n ≤ 1000 → n ≤ sizeLine := small
    refine ⟨_, rfl, ⟨_, rfl⟩, _, _, rfl, rfl, sm (by omega), ?_⟩
    generalize Txt.removeprefix (nS n) "-" = fg at hl hd
    refine ⟨_, rfl, _, rfl, sm (by omega), sm (by show 2 ≤ 1000; decide), fun q hq => ?_⟩
    have s1 := Same.new (HO.tup [.int 1, .int 2]) hq
    refine ⟨q, _, rfl, .inr (SqT.of upd_same), rfl, rfl, _, rfl, ?_⟩
    have hin : inV (V.int (fg.length : Nat)) [.int 1, .int 2] = true := by
      rcases hl with e | e <;> rw [e] <;> rfl
    rw [hin]
    refine iteF ?_
    refine ⟨_, rfl, _, rfl, fun D hD => ?_⟩
    refine lc_it (walk_str (z := fg)) (fun i H2 => Same H H2 ∧ H2 D = some (.lst ((List.replicate i true).map V.bl))) ⟨s1.trans (Same.new _ hD), upd_same⟩ (fun _ _ _ _ => trivial) ?_ ?_
    · rintro i x H2 H3 hi ⟨s2, hD2⟩ ⟨rfl, c, hc, rfl⟩
      have hcm : c ∈ fg.cps.toList := by
        rw [← Array.getElem?_toList] at hc
        exact List.mem_of_getElem? hc
      refine ⟨rfl, _, rfl, c, _, rfl, rfl, ?_⟩
      rw [decide_eq_true (hd c hcm)]
      refine ⟨_, hD2, ?_, Same.mut _ s2 (s1.free hD), ?_⟩
      · rw [List.length_map, List.length_replicate]
        have hfl : fg.cps.size = fg.length := rfl
        exact small1000 (by omega)
      · rw [upd_same, List.replicate_succ', List.map_append]; rfl
    · rintro H2 ⟨s2, hD2⟩
      refine ⟨D, List.replicate fg.cps.size true, rfl, SqL.of hD2, ?_⟩
      have ha : (List.replicate fg.cps.size true).all id = true := by simp
      rw [ha]
      refine ⟨_, rfl, iteF ?_⟩
      refine ⟨_, rfl, _, n, rfl, num_int hm, by omega, ?_⟩
      refine ⟨_, rfl, .inl ⟨n, rfl, log41 n0 n1, _, rfl, rfl, _, rfl, ?_⟩⟩
      rw [show decide (V.str (toString n) = V.str (nS n)) = true from decide_eq_true rfl]
      refine iteF ?_
      exact ⟨_, rfl, k H2 s2⟩
/-- a letter's row -/
def wordsS (c : Int) (z : Lt) : List Str := nS c :: z.word :: z.nums.map nS
def rowS (c : Int) (z : Lt) : Str := Txt.join " " (wordsS c z)
theorem Lt.num41 {z : Lt} (h : z.ok) : ∀ n ∈ z.nums, -20 ≤ n ∧ n ≤ 20 := by
  intro n hn
  cases z <;> simp only [Lt.ok, Lt.nums, Lt.bnds, List.zip_cons_cons, List.zip_nil_right, List.mem_cons, List.not_mem_nil, or_false, forall_eq_or_imp, forall_eq] at h hn
  all_goals first
    | (rcases hn with rfl | rfl | rfl | rfl | rfl | rfl <;> omega)
    | (rcases hn with rfl | rfl | rfl <;> omega)
    | (rcases hn with rfl | rfl <;> omega)
    | (subst hn; omega)
def strOf : V → Str
  | .int i => nS i
  | .str a => a
  | _ => ""
abbrev nRowOf : List Str := ["client", "letter", "word"]
theorem scRowOf : FnScope nRowOf ["client", "letter"] (defScope sRowOf) := ⟨rfl, rfl, rfl, by decide +kernel, rfl, by decide +kernel, by decide +kernel⟩
def spRowOf : Sp := fun vs H Q _ => ∃ (c : Int) (t : Addr) (z : Lt), vs = [.int c, .ref t] ∧ 0 ≤ c ∧ c ≤ 4 ∧ H t = some (.tup z.vals) ∧ z.ok ∧ ∀ H', Same H H' → Q (.str (rowS c z)) H'
theorem ok_rowOf {f : Addr} {fd : FuncData} (F : Fun K "row_of" "row_of" sRowOf f fd) (T : TxtP mg) : FnOk P w K mg base CX0 1 f fd ["client", "letter"] spRowOf := by
  refine F.ok scRowOf (fun vs H Q E h => ?_) (fun cdv A0 outer s0 H vs Q E hr h => ?_)
  · obtain ⟨c, t, z, rfl, _⟩ := h
    rfl
  · obtain ⟨c, t, z, rfl, c0, c4, ht, hz, k⟩ := h
    refine ⟨_, (pss_one (ps_ret (pe_join pe_str (pe_lc (own := [("word", 2)]) (g := gName 2) (te := tCB rStr (tCons (tVar 2) tNil)) (by rfl) scRowOf.nd (pi_tup (pe_tup (pa_cons (pv 0) (pa_star (pv 1) pa_nil)))) (blkOk_by (own := [("word", 2)]) (N := nRowOf) (sc := defScope sRowOf) (by decide +kernel)) (fun _ _ _ _ _ => (pg_name (i := 2) scRowOf.nd rfl (Or.inl rfl))) (fun _ _ _ _ _ => pts_nil) (fun _ _ _ _ _ => (pe_callTy call_strA (by rfl) T.str (by decide +kernel) (pa_cons (pv 2) pa_nil))))))), ?_⟩
    have sm : ∀ {n : Nat}, n ≤ 1000 → n ≤ sizeLine := small
    have hzl := z.nlen
    have hn := Lt.num41 hz
    refine ⟨⟨_, rfl⟩, _, rfl, _, rfl, t, z.vals, rfl, .inl (SqT.of ht), ?_⟩
    have enil : z.vals ++ [] = z.vals := List.append_nil _
    refine ⟨sm (by show (V.int c :: (z.vals ++ [])).length ≤ 1000; rw [enil]; unfold Lt.vals; simp only [List.length_cons, List.length_map]; omega), fun q hq => ?_⟩
    have s1 := Same.new (HO.tup (.int c :: (z.vals ++ []))) hq
    have hq1 : upd H q (.tup (V.int c :: (z.vals ++ []))) q = some (.tup (V.int c :: z.vals)) := by rw [enil]; exact upd_same
    refine ⟨q, rfl, ⟨_, SqT.of hq1⟩, fun D hD => ?_⟩
    refine lc_tup (K := K) (a := q) (xs := .int c :: z.vals) (fun i H2 => Same H H2 ∧ H2 q = some (.tup (.int c :: z.vals)) ∧ H2 D = some (.lst (((wordsS c z).take i).map V.str))) ⟨s1.trans (Same.new _ hD), by rw [upd_ne (ne_of_none hq1 hD)]; exact hq1, upd_same⟩ (fun i H2 _ p => SqT.of p.2.1) ?_ ?_
    · rintro i x H2 hx ⟨s2, hq2, hD2⟩
      refine ⟨rfl, _, rfl, ?_⟩
      have hD0 := s1.free hD
      have il : i < (wordsS c z).length := by
        have := (List.getElem?_eq_some_iff.mp hx).1
        unfold Lt.vals at this
        unfold wordsS
        simpa using this
      have ew : (wordsS c z)[i]? = some (strOf x) ∧ ((∃ n, x = .int n ∧ -20 ≤ n ∧ n ≤ 20) ∨ ∃ a, x = .str a) := by
        match i, hx with
        | 0, hx => obtain rfl := Option.some.inj hx; exact ⟨rfl, .inl ⟨c, rfl, by omega, by omega⟩⟩
        | 1, hx => obtain rfl := Option.some.inj hx; exact ⟨rfl, .inr ⟨_, rfl⟩⟩
        | i + 2, hx =>
          have hx : (z.nums.map V.int)[i]? = some x := hx
          rw [List.getElem?_map] at hx
          cases en : z.nums[i]? with
          | none => rw [en] at hx; cases hx
          | some n =>
            rw [en] at hx
            obtain rfl : V.int n = x := Option.some.inj hx
            refine ⟨?_, .inl ⟨n, rfl, hn n (List.mem_of_getElem? en)⟩⟩
            show (z.nums.map nS)[i]? = _
            rw [List.getElem?_map, en]; rfl
      have fin : ∃ acc, H2 D = some (.lst acc) ∧ acc.length < sizeLine ∧ (Same H (upd H2 D (.lst (acc ++ [.str (strOf x)]))) ∧ upd H2 D (.lst (acc ++ [.str (strOf x)])) q = some (.tup (.int c :: z.vals)) ∧ upd H2 D (.lst (acc ++ [.str (strOf x)])) D = some (.lst (((wordsS c z).take (i + 1)).map V.str))) := by
        refine ⟨_, hD2, ?_, Same.mut _ s2 hD0, ?_, ?_⟩
        · rw [List.length_map, List.length_take]
          unfold wordsS
          simp only [List.length_cons, List.length_map]
          exact small1000 (by omega)
        · rw [upd_ne (ne_of_none hq1 hD)]; exact hq2
        · rw [upd_same, List.take_add_one, ew.1, List.map_append]; rfl
      rcases ew.2 with ⟨n, rfl, na, nb⟩ | ⟨a, rfl⟩
      · exact .inl ⟨n, rfl, log41 na nb, fin⟩
      · exact .inr ⟨a, rfl, fin⟩
    · rintro H2 ⟨s2, hq2, hD2⟩
      have wl : (.int c :: z.vals : List V).length = (wordsS c z).length := by unfold wordsS Lt.vals; simp
      rw [wl, List.take_length] at hD2
      refine ⟨_, D, wordsS c z, rfl, rfl, .inl (SqL.of hD2), ?_, k H2 s2⟩
      have each : ∀ a ∈ wordsS c z, a.length ≤ 6 := by
        intro a ha
        unfold wordsS at ha
        rcases List.mem_cons.mp ha with rfl | ha
        · have := num_short (mem41 (n := c) (by omega) (by omega)); omega
        rcases List.mem_cons.mp ha with rfl | ha
        · cases z <;> exact of_decide_eq_true (by kernel_rfl)
        · obtain ⟨n, h1, rfl⟩ := List.mem_map.mp ha
          have := num_short (mem41 (hn n h1).1 (hn n h1).2); omega
      have hsum : ∀ l : List Str, (∀ a ∈ l, a.length ≤ 6) → (l.map (·.length)).sum ≤ 6 * l.length := by
        intro l
        induction l with
        | nil => intro _; exact Nat.le_refl _
        | cons a l ih =>
          intro h
          have h1 := h a List.mem_cons_self
          have h2 := ih fun b hb => h b (List.mem_cons_of_mem _ hb)
          simp only [List.map_cons, List.sum_cons, List.length_cons]
          omega
      have h1 := hsum _ each
      have h2 : (wordsS c z).length ≤ 8 := by unfold wordsS; simp only [List.length_cons, List.length_map]; omega
      have h3 : (" " : Str).length = 1 := by kernel_rfl
      rw [h3]; omega
end
end SH
set_option Elab.async false
set_option linter.all false
set_option maxRecDepth 100000
namespace SH
open PySem PySem.Spec PyProof.Rows L2 StX TL
abbrev sCheck : Stmt := top 13
abbrev sWr : Stmt := top 15
def BookAt (H : Hp) (c : Addr × List Addr) (zs : List Lt) : Prop := H c.1 = some (.lst (c.2.map V.ref)) ∧ RowAt H c.2 zs
def BooksAt (H : Hp) (ba : Addr) (cs : List (Addr × List Addr)) (zss : List (List Lt)) : Prop := H ba = some (.lst (cs.map fun c => V.ref c.1)) ∧ Paired (BookAt H) cs zss
def BooksOk (zss : List (List Lt)) : Prop := zss.length ≤ 5 ∧ ∀ zs ∈ zss, zs.length ≤ 900 ∧ ∀ z ∈ zs, z.ok
theorem BookAt.same {H H' : Hp} {c : Addr × List Addr} {zs : List Lt} (h : BookAt H c zs) (s : Same H H') : BookAt H' c zs := ⟨s _ _ h.1, h.2.same s⟩
theorem BooksAt.same {H H' : Hp} {ba : Addr} {cs : List (Addr × List Addr)} {zss : List (List Lt)} (h : BooksAt H ba cs zss) (s : Same H H') : BooksAt H' ba cs zss := ⟨s _ _ h.1, Paired.mapP h.2 fun _ _ e => e.same s⟩
theorem BooksAt.ix {H : Hp} {ba : Addr} {cs : List (Addr × List Addr)} {zss : List (List Lt)} (h : BooksAt H ba cs zss) {i : Nat} {v : V} (e : (cs.map fun c => V.ref c.1)[i]? = some v) : ∃ c zs, cs[i]? = some c ∧ zss[i]? = some zs ∧ v = .ref c.1 ∧ BookAt H c zs := by
  rw [List.getElem?_map] at e
  cases q : cs[i]? with
  | none => rw [q] at e; cases e
  | some c =>
    rw [q] at e
    have hl := paired_len h.2
    have hi := (List.getElem?_eq_some_iff.mp q).1
    have ez : zss[i]? = some zss[i] := List.getElem?_eq_getElem (by omega)
    exact ⟨c, _, rfl, ez, (Option.some.inj e).symm, paired_ix h.2 q ez⟩
theorem RowAt.ix {H : Hp} {ts : List Addr} {zs : List Lt} (h : RowAt H ts zs) {i : Nat} {v : V} (e : (ts.map V.ref)[i]? = some v) : ∃ t z, ts[i]? = some t ∧ zs[i]? = some z ∧ v = .ref t ∧ H t = some (.tup z.vals) := by
  rw [List.getElem?_map] at e
  cases q : ts[i]? with
  | none => rw [q] at e; cases e
  | some t =>
    rw [q] at e
    have hl := paired_len h
    have hi := (List.getElem?_eq_some_iff.mp q).1
    have ez : zs[i]? = some zs[i] := List.getElem?_eq_getElem (by omega)
    exact ⟨t, _, rfl, ez, (Option.some.inj e).symm, paired_ix (R := fun (t : Addr) (z : Lt) => H t = some (.tup z.vals)) h q ez⟩
def rowsFrom : Nat → List (List Lt) → List Str
  | _, [] => []
  | k, zs :: r => zs.map (rowS (k : Nat)) ++ rowsFrom (k + 1) r
theorem rowsFrom_app (k : Nat) (l : List (List Lt)) (zs : List Lt) : rowsFrom k (l ++ [zs]) = rowsFrom k l ++ zs.map (rowS ((k + l.length : Nat) : Int)) := by
  induction l generalizing k with
  | nil => simp [rowsFrom]
  | cons a l ih =>
    show a.map _ ++ rowsFrom (k + 1) (l ++ [zs]) = _
    rw [ih, List.length_cons, show k + 1 + l.length = k + (l.length + 1) by omega]
    simp [rowsFrom]
theorem rowsFrom_len {k : Nat} {l : List (List Lt)} (h : ∀ zs ∈ l, zs.length ≤ 900) : (rowsFrom k l).length ≤ 900 * l.length := by
  induction l generalizing k with
  | nil => simp [rowsFrom]
  | cons a l ih =>
    have h1 := h a List.mem_cons_self
    have h2 := ih (k := k + 1) fun b hb => h b (List.mem_cons_of_mem _ hb)
    simp only [rowsFrom, List.length_append, List.length_map, List.length_cons]
    omega
def textB (zss : List (List Lt)) : Str := Txt.join "\n" (rowsFrom 0 zss)
theorem word_short (z : Lt) : z.word.length ≤ 6 := by
  cases z <;> exact of_decide_eq_true (by kernel_rfl)
theorem words_short {c : Int} {z : Lt} (c0 : 0 ≤ c) (c4 : c ≤ 4) (hz : z.ok) : ∀ a ∈ wordsS c z, a.length ≤ 6 := by
  intro a ha
  unfold wordsS at ha
  rcases List.mem_cons.mp ha with rfl | ha
  · have := num_short (mem41 (n := c) (by omega) (by omega)); omega
  rcases List.mem_cons.mp ha with rfl | ha
  · exact word_short z
  · obtain ⟨n, h1, rfl⟩ := List.mem_map.mp ha
    have h2 := Lt.num41 hz n h1
    have := num_short (mem41 h2.1 h2.2); omega
theorem len_tl (x : Str) : (tl x).length = x.length := by
  show x.cps.toList.length = x.cps.size
  simp
theorem joinL_len {S : List Nat} {m : Nat} : ∀ (ps : List (List Nat)), (∀ p ∈ ps, p.length ≤ m) → (joinL S ps).length ≤ ps.length * (m + S.length)
  | [], _ => by simp [joinL]
  | [p], h => by
    have := h p List.mem_cons_self
    simp only [joinL, List.length_cons, List.length_nil]; omega
  | p :: q :: r, h => by
    have h1 := h p List.mem_cons_self
    have h2 := joinL_len (S := S) (q :: r) fun x hx => h x (List.mem_cons_of_mem _ hx)
    simp only [joinL, List.length_append, List.length_cons] at h2 ⊢
    have e : (r.length + 1 + 1) * (m + S.length) = (r.length + 1) * (m + S.length) + (m + S.length) := by rw [Nat.succ_mul]
    rw [e]; omega
theorem tl_joinT (y : Str) (ps : List Str) : tl (Txt.join y ps) = joinL (tl y) (ps.map tl) := by rw [join_eq, tl_join]
theorem row_short {c : Int} {z : Lt} (c0 : 0 ≤ c) (c4 : c ≤ 4) (hz : z.ok) : (rowS c z).length ≤ 56 := by
  rw [← len_tl]
  unfold rowS
  rw [tl_joinT]
  have h := joinL_len (S := tl " ") (m := 6) ((wordsS c z).map tl) fun p hp => by
    obtain ⟨a, ha, rfl⟩ := List.mem_map.mp hp
    rw [len_tl]; exact words_short c0 c4 hz a ha
  have h1 : (tl " ").length = 1 := by kernel_rfl
  rw [h1, List.length_map] at h
  have h2 : (wordsS c z).length ≤ 8 := by
    have := z.nlen
    unfold wordsS; simp only [List.length_cons, List.length_map]; omega
  have h3 := Nat.mul_le_mul_right (6 + 1) h2
  omega
theorem sum_short {m : Nat} : ∀ l : List Str, (∀ a ∈ l, a.length ≤ m) → (l.map (·.length)).sum ≤ l.length * m
  | [], _ => by simp
  | a :: l, h => by
    have h1 := h a List.mem_cons_self
    have h2 := sum_short l fun b hb => h b (List.mem_cons_of_mem _ hb)
    simp only [List.map_cons, List.sum_cons, List.length_cons, Nat.succ_mul]
    omega
theorem rows_short {l : List (List Lt)} {k : Nat} (hl : k + l.length ≤ 5) (h : ∀ zs ∈ l, ∀ z ∈ zs, z.ok) : ∀ a ∈ rowsFrom k l, a.length ≤ 56 := by
  induction l generalizing k with
  | nil => intro a ha; cases ha
  | cons zs l ih =>
    intro a ha
    simp only [List.length_cons] at hl
    rcases List.mem_append.mp ha with ha | ha
    · obtain ⟨z, hz, rfl⟩ := List.mem_map.mp ha
      exact row_short (by omega) (by omega) (h zs List.mem_cons_self z hz)
    · exact ih (k := k + 1) (by omega) (fun y hy => h y (List.mem_cons_of_mem _ hy)) a ha
section
variable {P : Program} {w : World} {K : PySem.W.Frag} {mg : Str → Option Value} {base : Heap}
abbrev nCheck : List Str := ["books", "letters", "letter"]
theorem scCheck : FnScope nCheck ["books"] (defScope sCheck) := ⟨rfl, rfl, rfl, by decide +kernel, rfl, by decide +kernel, by decide +kernel⟩
def spCheck : Sp := fun vs H Q _ => ∃ (ba : Addr) (cs : List (Addr × List Addr)) (zss : List (List Lt)), vs = [.ref ba] ∧ BooksAt H ba cs zss ∧ BooksOk zss ∧ ∀ H', Same H H' → Q .non H'
theorem ok_check {f fI : Addr} {fd fdI : FuncData} (F : Fun K "check_books" "check_books" sCheck f fd) (T : TxtP mg)
    (GI : FnOk P w K mg base CX0 3 fI fdI ["letter"] spIsLet) (bI : Binds K fdI ["letter"] []) (gI : mg "is_letter" = some (.ref fI)) (kI : PySem.W.keepIn K (.ref fI) = true) :
    FnOk P w K mg base CX0 4 f fd ["books"] spCheck := by
  obtain ⟨tk, hmost⟩ := T.most
  refine F.ok scCheck (fun vs H Q E h => ?_) (fun cdv A0 outer s0 H vs Q E hr h => ?_)
  · obtain ⟨ba, cs, zss, rfl, _⟩ := h
    rfl
  · obtain ⟨ba, cs, zss, rfl, hb, bo, k⟩ := h
    refine ⟨_, (pss_cons (ps_if (pt_cmpR op_gt (pe_callB call_len_seq (by rfl) T.len PySem.boot_len (pa_cons (pv 0) pa_nil)) (pe_glob rfl hmost (v := .int 5) ⟨tk, rfl⟩) (nomark _)) pss_never pss_nil) (pss_one (ps_for PassesOwn.never rfl (pi_list (pv 0)) (pg_name (i := 1) scCheck.nd rfl (Or.inl rfl)) (pss_one (ps_for PassesOwn.never rfl (pi_list (pv 1)) (pg_name (i := 2) scCheck.nd rfl (Or.inl rfl)) (pss_one (ps_if (pt_not (pt_val (pe_call GI hr rfl gI kI bI .nil pass0 (pa_cons (pv 2) pa_nil)))) pss_never pss_nil))))))), ?_⟩
    have hcl : cs.length ≤ 5 := by rw [paired_len hb.2]; exact bo.1
    refine ⟨_, rfl, ba, _, rfl, .inl (SqL.of hb.1), _, _, rfl, rfl, _, rfl, ?_⟩
    rw [List.length_map, decide_eq_false (by omega)]
    refine iteF ?_
    refine ⟨_, rfl, ba, rfl, ⟨_, SqL.of hb.1⟩, for_list (K := K) (a := ba) (xs := cs.map fun c => V.ref c.1) (fun i σ H2 => ∃ v1 v2, σ = [some (.ref ba), v1, v2] ∧ Same H H2) ⟨none, none, rfl, Same.refl H⟩ (fun i σ H2 _ ⟨_, _, _, s⟩ => SqL.of (s _ _ hb.1)) ?_ ?_⟩
    · rintro i x σ H2 hx ⟨v1, v2, rfl, s2⟩
      obtain ⟨c, zs, ec, ez, rfl, bat⟩ := hb.ix hx
      have bat2 := bat.same s2
      have hzs := bo.2 zs (List.mem_of_getElem? ez)
      refine ⟨_, rfl, c.1, rfl, ⟨_, SqL.of bat2.1⟩, for_list (K := K) (a := c.1) (xs := c.2.map V.ref) (fun i σ H3 => ∃ v2, σ = [some (.ref ba), some (.ref c.1), v2] ∧ Same H H3) ⟨_, rfl, s2⟩ (fun i σ H3 _ ⟨_, _, s⟩ => SqL.of (bat.same s).1) ?_ ?_⟩
      · rintro j y σ H3 hy ⟨v2, rfl, s3⟩
        obtain ⟨t, z, et, ez2, rfl, ht⟩ := (bat.same s3).2.ix hy
        refine ⟨_, rfl, t, z, rfl, ht, hzs.2 z (List.mem_of_getElem? ez2), fun H4 s4 => ⟨_, rfl, iteF ?_⟩⟩
        exact ⟨_, rfl, s3.trans s4⟩
      · rintro σ H3 ⟨v2, rfl, s3⟩
        exact ⟨_, _, rfl, s3⟩
    · rintro σ H2 ⟨v1, v2, rfl, s2⟩
      exact k H2 s2
abbrev nWr : List Str := ["books", "client", "letters", "letter"]
theorem scWr : FnScope nWr ["books"] (defScope sWr) := ⟨rfl, rfl, rfl, by decide +kernel, rfl, by decide +kernel, by decide +kernel⟩
def spWr : Sp := fun vs H Q _ => ∃ (ba : Addr) (cs : List (Addr × List Addr)) (zss : List (List Lt)), vs = [.ref ba] ∧ BooksAt H ba cs zss ∧ BooksOk zss ∧ ∀ H', Same H H' → Q (.str (textB zss)) H'
theorem ok_written {f fC fR : Addr} {fd fdC fdR : FuncData} (F : Fun K "written" "written" sWr f fd) (T : TxtP mg)
    (GC : FnOk P w K mg base CX0 4 fC fdC ["books"] spCheck) (bC : Binds K fdC ["books"] []) (gC : mg "check_books" = some (.ref fC)) (kC : PySem.W.keepIn K (.ref fC) = true)
    (GR : FnOk P w K mg base CX0 1 fR fdR ["client", "letter"] spRowOf) (bR : Binds K fdR ["client", "letter"] []) (gR : mg "row_of" = some (.ref fR)) (kR : PySem.W.keepIn K (.ref fR) = true) :
    FnOk P w K mg base CX0 5 f fd ["books"] spWr := by
  refine F.ok scWr (fun vs H Q E h => ?_) (fun cdv A0 outer s0 H vs Q E hr h => ?_)
  · obtain ⟨ba, cs, zss, rfl, _⟩ := h
    rfl
  · obtain ⟨ba, cs, zss, rfl, hb, bo, k⟩ := h
    refine ⟨_, (pss_cons (ps_expr (pe_call GC hr rfl gC kC bC .nil pass0 (pa_cons (pv 0) pa_nil))) (pss_one (ps_ret (pe_join pe_str (pe_lc2 (own := [("client", 1), ("letters", 2), ("letter", 3)]) (vs1 := [3]) (g := gTup K 2 (gCons (gName 1) (gCons (gName 2) gNil))) (g1 := gName 3) (tt := tYes) (wi1 := iList K (tVar 2)) (tt1 := tYes) (te := tCall spRowOf [] E0 (tCons (tVar 1) (tCons (tVar 3) tNil))) (by rfl) scWr.nd (pi_enum (by rfl) T.enumerate (pa_cons (pv 0) pa_nil)) (blkOk_by (own := [("client", 1), ("letters", 2), ("letter", 3)]) (N := nWr) (sc := defScope sWr) (by decide +kernel)) (by decide) (fun _ _ _ _ _ => (pg_tup rfl (pgs_cons (pg_name (i := 1) scWr.nd rfl (Or.inl rfl)) (pgs_cons (pg_name (i := 2) scWr.nd rfl (Or.inl rfl)) pgs_nil)))) (fun _ _ _ _ _ => pts_nil) (fun _ _ _ _ _ => pi_list (pv 2)) (fun _ _ _ _ _ => (pg_name (i := 3) scWr.nd rfl (Or.inl rfl))) (fun _ _ _ _ _ => pts_nil) (fun _ _ _ _ _ => (pe_call GR (hr.mono (by decide)) rfl gR kR bR .nil pass0 (pa_cons (pv 1) (pa_cons (pv 3) pa_nil))))))))), ?_⟩
    have hcl := paired_len hb.2
    refine ⟨_, rfl, ba, cs, zss, rfl, hb, bo, fun H1 s1 => ?_⟩
    have hb1 := hb.same s1
    refine ⟨⟨_, rfl⟩, _, rfl, ba, _, rfl, SqL.of hb1.1, fun D hD => ?_⟩
    have hD0 := s1.free hD
    refine out_it (w := walk_enum (K := K) (a := ba) (xs := cs.map fun c => V.ref c.1)) (fun i H2 => Same H H2 ∧ H2 D = some (.lst ((rowsFrom 0 (zss.take i)).map V.str))) ⟨s1.trans (Same.new _ hD), upd_same⟩ (fun i H2 _ p => SqL.of (p.1 _ _ hb.1)) ?_ ?_
    · rintro i x H2 H3 hi ⟨s2, hD2⟩ ⟨Tp, x1, x2, rfl, hT, rfl, e1, e2⟩
      obtain rfl : V.int (i : Nat) = x1 := Option.some.inj e1
      obtain ⟨c, zs, ec, ez, rfl, bat⟩ := hb.ix e2
      have hzs := bo.2 zs (List.mem_of_getElem? ez)
      have hi5 : i ≤ 4 := by have := (List.getElem?_eq_some_iff.mp ez).1; have := bo.1; omega
      have s3 := s2.trans (Same.new (HO.tup [V.int (i : Nat), V.ref c.1]) hT)
      have hD3 : upd H2 Tp (.tup [V.int (i : Nat), V.ref c.1]) D = some (.lst ((rowsFrom 0 (zss.take i)).map V.str)) := by rw [upd_ne (ne_of_none hD2 hT)]; exact hD2
      refine ⟨Tp, _, rfl, SqT.of upd_same, rfl, _, _, rfl, _, _, rfl, rfl, rfl, ?_⟩
      refine ⟨_, rfl, c.1, rfl, ⟨_, SqL.of (bat.same s3).1⟩, ?_⟩
      refine out_it (w := walk_list (K := K) (a := c.1) (xs := c.2.map V.ref)) (fun j H4 => Same H H4 ∧ H4 D = some (.lst ((rowsFrom 0 (zss.take i) ++ (zs.take j).map (rowS (i : Nat))).map V.str))) ⟨s3, by rw [List.take_zero, List.map_nil, List.append_nil]; exact hD3⟩ (fun j H4 _ p => SqL.of (bat.same p.1).1) ?_ ?_
      · rintro j y H4 H5 hj ⟨s4, hD4⟩ ⟨rfl, ey⟩
        obtain ⟨t, z, et, ez2, rfl, ht⟩ := (bat.same s4).2.ix ey
        have htk : zss.take i ++ [zs] = zss.take (i + 1) := by rw [List.take_add_one, ez]; rfl
        refine ⟨rfl, _, rfl, _, rfl, (i : Nat), t, z, rfl, by omega, by omega, ht, hzs.2 z (List.mem_of_getElem? ez2), fun H6 s6 => ⟨_, s6 _ _ hD4, ?_, Same.mut _ (s4.trans s6) hD0, ?_⟩⟩
        · rw [List.length_map, List.length_append, List.length_map]
          have h1 := rowsFrom_len (k := 0) (l := zss.take i) fun y hy => (bo.2 y (List.mem_of_mem_take hy)).1
          have h2 : (zs.take j).length ≤ 900 := by rw [List.length_take]; omega
          have h3 : (zss.take i).length ≤ 4 := by rw [List.length_take]; omega
          have h4 := Nat.mul_le_mul_left 900 h3
          rw [sizeLine_eq]; omega
        · rw [upd_same, List.take_add_one (l := zs), ez2]
          simp
      · rintro H4 ⟨s4, hD4⟩
        refine ⟨s4, ?_⟩
        have hl := paired_len bat.2
        rw [List.length_map, hl, List.take_length] at hD4
        rw [hD4, List.take_add_one, ez]
        have := rowsFrom_app 0 (zss.take i) zs
        rw [show (some zs).toList = [zs] from rfl, this]
        have hlt : (zss.take i).length = i := by
          have := (List.getElem?_eq_some_iff.mp ez).1
          rw [List.length_take]; omega
        rw [hlt, Nat.zero_add]
    · rintro H2 ⟨s2, hD2⟩
      rw [List.length_map, hcl, List.take_length] at hD2
      refine ⟨_, D, _, rfl, rfl, .inl (SqL.of hD2), ?_, k H2 s2⟩
      have h0 := rows_short (k := 0) (l := zss) (by have := bo.1; omega) fun y hy => (bo.2 y hy).2
      have h1 := sum_short _ h0
      have h2 := rowsFrom_len (k := 0) (l := zss) fun y hy => (bo.2 y hy).1
      have h3 := Nat.mul_le_mul_left 900 bo.1
      have h4 : ("\n" : Str).length = 1 := by kernel_rfl
      rw [h4]; omega
end
end SH
set_option Elab.async false
set_option linter.all false
set_option maxRecDepth 100000
namespace SH
open PySem PySem.Spec PyProof.Rows L2 StX TL
/-! letters by client, in turn -/
def flat : Nat → List (List Lt) → List (Nat × Lt)
  | _, [] => []
  | k, zs :: r => zs.map (fun z => (k, z)) ++ flat (k + 1) r
theorem rowsFrom_flat (k : Nat) (l : List (List Lt)) : rowsFrom k l = (flat k l).map fun p => rowS (p.1 : Nat) p.2 := by
  induction l generalizing k with
  | nil => rfl
  | cons zs l ih =>
    show zs.map _ ++ rowsFrom (k + 1) l = (zs.map _ ++ flat (k + 1) l).map _
    rw [List.map_append, ih, List.map_map]; rfl
theorem flat_app (k : Nat) (l : List (List Lt)) (zs : List Lt) : flat k (l ++ [zs]) = flat k l ++ zs.map fun z => (k + l.length, z) := by
  induction l generalizing k with
  | nil => simp [flat]
  | cons a l ih =>
    show a.map _ ++ flat (k + 1) (l ++ [zs]) = _
    rw [ih, List.length_cons, show k + 1 + l.length = k + (l.length + 1) by omega]
    simp [flat]
theorem flat_mem {k : Nat} {l : List (List Lt)} {p : Nat × Lt} (h : p ∈ flat k l) : k ≤ p.1 ∧ p.1 < k + l.length ∧ ∃ zs ∈ l, p.2 ∈ zs := by
  induction l generalizing k with
  | nil => cases h
  | cons zs l ih =>
    rcases List.mem_append.mp h with h | h
    · obtain ⟨z, hz, rfl⟩ := List.mem_map.mp h
      exact ⟨Nat.le_refl _, by simp only [List.length_cons]; omega, zs, List.mem_cons_self, hz⟩
    · obtain ⟨h1, h2, y, hy, h3⟩ := ih h
      exact ⟨by omega, by simp only [List.length_cons]; omega, y, List.mem_cons_of_mem _ hy, h3⟩
theorem pw_all {α : Type} {R : α → α → Prop} (h : ∀ a b, R a b) : ∀ l : List α, l.Pairwise R
  | [] => .nil
  | a :: l => .cons (fun b _ => h a b) (pw_all h l)
theorem flat_pw (k : Nat) (l : List (List Lt)) : (flat k l).Pairwise fun a b => a.1 ≤ b.1 := by
  induction l generalizing k with
  | nil => exact .nil
  | cons zs l ih =>
    refine List.pairwise_append.mpr ⟨?_, ih (k + 1), fun a ha b hb => ?_⟩
    · rw [List.pairwise_map]
      exact pw_all (fun _ _ => Nat.le_refl _) _
    · obtain ⟨z, _, rfl⟩ := List.mem_map.mp ha
      have := (flat_mem hb).1
      show k ≤ b.1
      omega
theorem pw_take {α : Type} {R : α → α → Prop} {l : List α} (h : l.Pairwise R) {i : Nat} {x : α} (e : l[i]? = some x) : ∀ y ∈ l.take i, R y x := by
  intro y hy
  have hi := (List.getElem?_eq_some_iff.mp e)
  have : l = l.take i ++ x :: l.drop (i + 1) := by
    rw [← hi.2, List.getElem_cons_drop, List.take_append_drop]
  rw [this] at h
  exact (List.pairwise_append.mp h).2.2 y hy x List.mem_cons_self
def padB (bs : List (List Lt)) (n : Nat) : List (List Lt) := bs ++ List.replicate (n - bs.length) []
def stepB (bs : List (List Lt)) (p : Nat × Lt) : List (List Lt) := (padB bs (p.1 + 1)).set p.1 ((padB bs (p.1 + 1)).getD p.1 [] ++ [p.2])
def bk (L : List (Nat × Lt)) : List (List Lt) := L.foldl stepB []
theorem padB_len (bs : List (List Lt)) (n : Nat) : (padB bs n).length = max bs.length n := by
  unfold padB
  rw [List.length_append, List.length_replicate]; omega
theorem padB_id {bs : List (List Lt)} {n : Nat} (h : n ≤ bs.length) : padB bs n = bs := by
  unfold padB
  rw [Nat.sub_eq_zero_of_le h]; simp
theorem padB_succ {bs : List (List Lt)} {n : Nat} (h : bs.length ≤ n) : padB bs (n + 1) = padB bs n ++ [[]] := by
  unfold padB
  rw [show n + 1 - bs.length = (n - bs.length) + 1 by omega, List.replicate_succ', List.append_assoc]
theorem stepB_len (bs : List (List Lt)) (p : Nat × Lt) : (stepB bs p).length = max bs.length (p.1 + 1) := by
  unfold stepB
  rw [List.length_set, padB_len]
theorem step_last (l : List (List Lt)) (ys : List Lt) (z : Lt) : stepB (l ++ [ys]) (l.length, z) = l ++ [ys ++ [z]] := by
  unfold stepB
  rw [padB_id (by simp)]
  simp
theorem fold_last (l : List (List Lt)) (ys zs : List Lt) : (zs.map fun z => (l.length, z)).foldl stepB (l ++ [ys]) = l ++ [ys ++ zs] := by
  induction zs generalizing ys with
  | nil => simp
  | cons z zs ih =>
    show (zs.map _).foldl stepB (stepB (l ++ [ys]) (l.length, z)) = _
    rw [step_last, ih]
    simp
theorem fold_new {b l : List (List Lt)} (hp : padB b l.length = l) (hb : b.length ≤ l.length) (z : Lt) (zs : List Lt) : ((z :: zs).map fun z => (l.length, z)).foldl stepB b = l ++ [z :: zs] := by
  show (zs.map _).foldl stepB (stepB b (l.length, z)) = _
  have e : stepB b (l.length, z) = l ++ [[z]] := by
    unfold stepB
    rw [padB_succ hb, hp]
    simp
  rw [e, fold_last]; rfl
theorem bk_pad : ∀ (n : Nat) (l : List (List Lt)), l.length = n → padB (bk (flat 0 l)) l.length = l ∧ (bk (flat 0 l)).length ≤ l.length
  | 0, l, h => by
    have : l = [] := List.eq_nil_of_length_eq_zero h
    subst this
    exact ⟨rfl, Nat.le_refl _⟩
  | n + 1, l, h => by
    rcases List.eq_nil_or_concat l with e | ⟨l', zs, e⟩
    · subst e; cases h
    · subst e
      rw [List.concat_eq_append] at h ⊢
      obtain ⟨h1, h2⟩ := bk_pad n l' (by simpa using h)
      rw [flat_app, Nat.zero_add]
      have eb : bk (flat 0 l' ++ zs.map fun z => (l'.length, z)) = (zs.map fun z => (l'.length, z)).foldl stepB (bk (flat 0 l')) := by unfold bk; rw [List.foldl_append]
      rw [eb, List.length_append, List.length_singleton]
      cases zs with
      | nil =>
        rw [List.map_nil, List.foldl_nil]
        exact ⟨by rw [padB_succ h2, h1], by omega⟩
      | cons z zs =>
        rw [fold_new h1 h2]
        exact ⟨padB_id (by simp), by simp⟩
theorem bk_last (l : List (List Lt)) {zs : List Lt} (h : zs ≠ []) : bk (flat 0 (l ++ [zs])) = l ++ [zs] := by
  obtain ⟨h1, h2⟩ := bk_pad _ l rfl
  rw [flat_app, Nat.zero_add]
  unfold bk
  rw [List.foldl_append]
  cases zs with
  | nil => exact absurd rfl h
  | cons z zs => exact fold_new h1 h2 z zs
theorem bk_le {P : List (Nat × Lt)} {k : Nat} (h : ∀ p ∈ P, p.1 ≤ k) : (bk P).length ≤ k + 1 := by
  have gen : ∀ (P : List (Nat × Lt)) (b : List (List Lt)), (∀ p ∈ P, p.1 ≤ k) → b.length ≤ k + 1 → (P.foldl stepB b).length ≤ k + 1 := by
    intro P
    induction P with
    | nil => intro b _ hb; exact hb
    | cons p P ih =>
      intro b hp hb
      refine ih (stepB b p) (fun q hq => hp q (List.mem_cons_of_mem _ hq)) ?_
      have := hp p List.mem_cons_self
      rw [stepB_len]; omega
  exact gen P [] h (by simp)
/-- up to the last one that has some -/
def IsTrim (zss : List (List Lt)) (m : Nat) : Prop := m ≤ zss.length ∧ (∀ i zs, m ≤ i → zss[i]? = some zs → zs = []) ∧ (m = 0 ∨ ∃ zs, zss[m - 1]? = some zs ∧ zs ≠ [])
theorem flat_nils {l : List (List Lt)} (h : ∀ zs ∈ l, zs = []) (k : Nat) : flat k l = [] := by
  induction l generalizing k with
  | nil => rfl
  | cons zs l ih =>
    show zs.map _ ++ flat (k + 1) l = []
    rw [h zs List.mem_cons_self, ih fun y hy => h y (List.mem_cons_of_mem _ hy)]; rfl
theorem flat_split (k : Nat) (l r : List (List Lt)) : flat k (l ++ r) = flat k l ++ flat (k + l.length) r := by
  induction l generalizing k with
  | nil => simp [flat]
  | cons a l ih =>
    show a.map _ ++ flat (k + 1) (l ++ r) = _
    rw [ih, List.length_cons, show k + 1 + l.length = k + (l.length + 1) by omega]
    simp [flat]
theorem bk_trim {zss : List (List Lt)} {m : Nat} (h : IsTrim zss m) : bk (flat 0 zss) = zss.take m := by
  obtain ⟨h1, h2, h3⟩ := h
  have e : flat 0 zss = flat 0 (zss.take m) := by
    have := flat_split 0 (zss.take m) (zss.drop m)
    rw [List.take_append_drop] at this
    rw [this, flat_nils (l := zss.drop m), List.append_nil]
    intro zs hz
    obtain ⟨j, hj, q⟩ := List.getElem_of_mem hz
    rw [List.getElem_drop] at q
    rw [List.length_drop] at hj
    exact h2 (m + j) zs (by omega) (by rw [List.getElem?_eq_getElem (by omega), q])
  rw [e]
  rcases h3 with rfl | ⟨zs, h4, h5⟩
  · rfl
  · have hm : m - 1 < zss.length := (List.getElem?_eq_some_iff.mp h4).1
    cases m with
    | zero => rfl
    | succ m =>
      have h4 : zss[m]? = some zs := h4
      rw [List.take_add_one, h4]
      exact bk_last _ h5
/-! the texts -/
theorem joinL_mem {S : List Nat} {c : Nat} : ∀ {ps : List (List Nat)}, c ∈ joinL S ps → c ∈ S ∨ ∃ p ∈ ps, c ∈ p
  | [], h => by cases h
  | [p], h => .inr ⟨p, List.mem_cons_self, h⟩
  | p :: q :: r, h => by
    rcases List.mem_append.mp h with h | h
    · exact .inr ⟨p, List.mem_cons_self, h⟩
    · rcases List.mem_append.mp h with h | h
      · exact .inl h
      · rcases joinL_mem h with h | ⟨x, hx, h⟩
        · exact .inl h
        · exact .inr ⟨x, List.mem_cons_of_mem _ hx, h⟩
theorem word_sep (z : Lt) : ∀ c ∈ tl z.word, c ≠ 32 ∧ c ≠ 10 := by
  have g : ∀ s : Str, ((tl s).all fun c => decide (c ≠ 32 ∧ c ≠ 10)) = true → ∀ c ∈ tl s, c ≠ 32 ∧ c ≠ 10 := fun s h c hc => of_decide_eq_true (List.all_eq_true.mp h c hc)
  cases z <;> exact g _ (by kernel_rfl)
theorem words_sep {c : Int} {z : Lt} (c0 : 0 ≤ c) (c4 : c ≤ 4) (hz : z.ok) : ∀ a ∈ wordsS c z, ∀ x ∈ tl a, x ≠ 32 ∧ x ≠ 10 := by
  intro a ha
  unfold wordsS at ha
  rcases List.mem_cons.mp ha with rfl | ha
  · exact num_sep (mem41 (n := c) (by omega) (by omega))
  rcases List.mem_cons.mp ha with rfl | ha
  · exact word_sep z
  · obtain ⟨n, h1, rfl⟩ := List.mem_map.mp ha
    have h2 := Lt.num41 hz n h1
    exact num_sep (mem41 h2.1 h2.2)
theorem tl_sp : tl (" " : Str) = [32] := by kernel_rfl
theorem tl_nl : tl ("\n" : Str) = [10] := by kernel_rfl
theorem row_nl {c : Int} {z : Lt} (c0 : 0 ≤ c) (c4 : c ≤ 4) (hz : z.ok) : 10 ∉ tl (rowS c z) := by
  intro h
  unfold rowS at h
  rw [tl_joinT, tl_sp] at h
  rcases joinL_mem h with h | ⟨p, hp, h⟩
  · have := List.mem_singleton.mp h; omega
  · obtain ⟨a, ha, rfl⟩ := List.mem_map.mp hp
    exact (words_sep c0 c4 hz a ha 10 h).2 rfl
theorem row_split {c : Int} {z : Lt} (c0 : 0 ≤ c) (c4 : c ≤ 4) (hz : z.ok) : Txt.split (rowS c z) " " = wordsS c z :=
  split_join tl_sp (by kernel_rfl) (by unfold wordsS; simp) fun p hp h => (words_sep c0 c4 hz p hp 32 h).1 rfl
theorem rows_nl {zss : List (List Lt)} (bo : BooksOk zss) : ∀ a ∈ rowsFrom 0 zss, 10 ∉ tl a := by
  intro a ha
  rw [rowsFrom_flat] at ha
  obtain ⟨p, hp, rfl⟩ := List.mem_map.mp ha
  obtain ⟨_, h2, zs, h3, h4⟩ := flat_mem hp
  have := bo.1
  exact row_nl (by omega) (by omega) ((bo.2 zs h3).2 _ h4)
theorem text_split {zss : List (List Lt)} (bo : BooksOk zss) (h : rowsFrom 0 zss ≠ []) : Txt.split (textB zss) "\n" = rowsFrom 0 zss :=
  split_join tl_nl (by kernel_rfl) h (rows_nl bo)
theorem text_len {zss : List (List Lt)} (bo : BooksOk zss) : (textB zss).length ≤ 300000 := by
  rw [← len_tl]
  unfold textB
  rw [tl_joinT, tl_nl]
  have h0 := rows_short (k := 0) (l := zss) (by have := bo.1; omega) fun y hy => (bo.2 y hy).2
  have h1 := joinL_len (S := [10]) (m := 56) ((rowsFrom 0 zss).map tl) fun p hp => by
    obtain ⟨a, ha, rfl⟩ := List.mem_map.mp hp
    rw [len_tl]; exact h0 a ha
  rw [List.length_map] at h1
  have h2 := rowsFrom_len (k := 0) (l := zss) fun y hy => (bo.2 y hy).1
  have h3 := Nat.mul_le_mul_left 900 bo.1
  have h4 : (rowsFrom 0 zss).length ≤ 4500 := by omega
  have h5 := Nat.mul_le_mul_right (56 + [10].length) h4
  have : [10].length = 1 := rfl
  omega
theorem text_empty {zss : List (List Lt)} : textB zss = "" ↔ rowsFrom 0 zss = [] := by
  constructor
  · intro h
    cases e : rowsFrom 0 zss with
    | nil => rfl
    | cons a r =>
      exfalso
      have ha : a ∈ rowsFrom 0 zss := by rw [e]; exact List.mem_cons_self
      rw [rowsFrom_flat] at ha
      obtain ⟨p, hp, rfl⟩ := List.mem_map.mp ha
      have ht : tl (textB zss) = [] := by rw [h]; rfl
      unfold textB at ht
      rw [tl_joinT, e] at ht
      have hrow : tl (rowS (p.1 : Nat) p.2) ≠ [] := by
        unfold rowS wordsS
        rw [tl_joinT, tl_sp]
        show tl (nS _) ++ ([32] ++ _) ≠ []
        simp
      cases r with
      | nil => exact hrow ht
      | cons b r =>
        have : tl (rowS (p.1 : Nat) p.2) ++ (tl "\n" ++ joinL (tl "\n") (((b :: r)).map tl)) = [] := ht
        rw [tl_nl] at this
        simp at this
  · intro h
    unfold textB
    rw [h]; kernel_rfl
end SH
set_option Elab.async false
set_option linter.all false
set_option maxRecDepth 100000
namespace SH
open PySem PySem.Spec PyProof.Rows L2 StX TL
abbrev sRead : Stmt := top 17
def bkCells (bl : Addr) (cs : List (Addr × List Addr)) : Cells := (bl, .lst (cs.map fun c => V.ref c.1)) :: cs.map fun c => (c.1, HO.lst (c.2.map V.ref))
structure RI (H0 H : Hp) (X : Addr × HO) (bl : Addr) (cs : List (Addr × List Addr)) (bs : List (List Lt)) : Prop where
  has : Has H (X :: bkCells bl cs)
  row : Paired (fun (c : Addr × List Addr) (zs : List Lt) => RowAt H c.2 zs) cs bs
  same : Same H0 H
  fb : H0 bl = none
  fc : ∀ c ∈ cs, H0 c.1 = none
theorem RI.sm {H0 H H' : Hp} {X : Addr × HO} {bl : Addr} {cs : List (Addr × List Addr)} {bs : List (List Lt)} (h : RI H0 H X bl cs bs) (s : Same H H') : RI H0 H' X bl cs bs :=
  ⟨h.has.same s, Paired.mapP h.row fun _ _ e => e.same s, h.same.trans s, h.fb, h.fc⟩
theorem RI.bl {H0 H : Hp} {X : Addr × HO} {bl : Addr} {cs : List (Addr × List Addr)} {bs : List (List Lt)} (h : RI H0 H X bl cs bs) : H bl = some (.lst (cs.map fun c => V.ref c.1)) := Has.get (A := []) h.has 1 rfl
theorem RI.len {H0 H : Hp} {X : Addr × HO} {bl : Addr} {cs : List (Addr × List Addr)} {bs : List (List Lt)} (h : RI H0 H X bl cs bs) : cs.length = bs.length := paired_len h.row
theorem RI.more {H0 H : Hp} {X : Addr × HO} {bl nl : Addr} {cs : List (Addr × List Addr)} {bs : List (List Lt)} (h : RI H0 H X bl cs bs) (hn : H nl = none) :
    RI H0 (upd (upd H nl (.lst [])) bl (.lst (cs.map (fun c => V.ref c.1) ++ [V.ref nl]))) X bl (cs ++ [(nl, [])]) (bs ++ [[]]) := by
  have g1 : Has (upd H nl (.lst [])) ((X :: bkCells bl cs) ++ [(nl, HO.lst [])]) := Has.new (T := []) (by rw [List.append_nil]; exact h.has) hn _
  have g2 := Has.set (A := []) g1 1 (o := .lst (cs.map fun c => V.ref c.1)) rfl (.lst (cs.map (fun c => V.ref c.1) ++ [V.ref nl]))
  have s1 := Same.new (HO.lst []) hn
  have kt : KeepT (upd H nl (.lst [])) (upd (upd H nl (.lst [])) bl (.lst (cs.map (fun c => V.ref c.1) ++ [V.ref nl]))) := upd_tup fun xs e => by rw [s1 _ _ h.bl] at e; cases e
  refine ⟨g2.re ?_, paired_snoc (Paired.mapP h.row fun _ _ e => (e.same s1).keep kt) .nil, Same.mut _ (h.same.trans s1) h.fb, h.fb, fun c hc => ?_⟩
  · show X :: (bl, _) :: (cs.map _ ++ [(nl, HO.lst [])]) = _
    unfold bkCells
    rw [List.map_append, List.map_append]; rfl
  · rcases List.mem_append.mp hc with hc | hc
    · exact h.fc c hc
    · rw [List.mem_singleton.mp hc]; exact h.same.free hn
theorem RI.put {H0 H : Hp} {X : Addr × HO} {bl t : Addr} {cs : List (Addr × List Addr)} {bs : List (List Lt)} {k : Nat} {c : Addr × List Addr} {zs : List Lt} {z : Lt} (h : RI H0 H X bl cs bs) (hc : cs[k]? = some c) (hz : bs[k]? = some zs) (ht : H t = some (.tup z.vals)) :
    RI H0 (upd H c.1 (.lst (c.2.map V.ref ++ [V.ref t]))) X bl (cs.set k (c.1, c.2 ++ [t])) (bs.set k (zs ++ [z])) := by
  have hk := (List.getElem?_eq_some_iff.mp hc).1
  have e1 : (X :: bkCells bl cs)[k + 2]? = some (c.1, HO.lst (c.2.map V.ref)) := by
    show (cs.map fun c => (c.1, HO.lst (c.2.map V.ref)))[k]? = _
    rw [List.getElem?_map, hc]; rfl
  have hold := h.has.mem (List.mem_of_getElem? e1)
  have g2 := h.has.set0 (k + 2) e1 (.lst (c.2.map V.ref ++ [V.ref t]))
  have kt : KeepT H (upd H c.1 (.lst (c.2.map V.ref ++ [V.ref t]))) := upd_tup fun xs e => by rw [hold] at e; cases e
  refine ⟨g2.re ?_, ?_, Same.mut _ h.same (h.fc c (List.mem_of_getElem? hc)), h.fb, fun c' hc' => ?_⟩
  · have h1 : (cs.map fun c => V.ref c.1).set k (V.ref c.1) = cs.map fun c => V.ref c.1 := by
      refine List.ext_getElem? fun j => ?_
      by_cases q : k = j
      · subst q
        rw [List.getElem?_set_self (by rw [List.length_map]; exact hk), List.getElem?_map, hc]; rfl
      · rw [List.getElem?_set_ne q]
    refine congrArg (X :: ·) ?_
    refine congr (congrArg List.cons (congrArg (Prod.mk bl) (congrArg HO.lst ?_))) ?_
    · rw [List.map_set]; exact h1.symm
    · rw [List.map_set]
      show List.set _ _ _ = List.set _ _ _
      refine congrArg (List.set _ k) ?_
      show (c.1, HO.lst (c.2.map V.ref ++ [V.ref t])) = (c.1, HO.lst ((c.2 ++ [t]).map V.ref))
      rw [List.map_append]; rfl
  · have go : ∀ {cs : List (Addr × List Addr)} {bs : List (List Lt)} {k : Nat}, Paired (fun (d : Addr × List Addr) (zs : List Lt) => RowAt H d.2 zs) cs bs → cs[k]? = some c → bs[k]? = some zs →
        Paired (fun (d : Addr × List Addr) (zs : List Lt) => RowAt (upd H c.1 (.lst (c.2.map V.ref ++ [V.ref t]))) d.2 zs) (cs.set k (c.1, c.2 ++ [t])) (bs.set k (zs ++ [z])) := by
      intro cs bs k p
      induction p generalizing k with
      | nil => intro q _; simp at q
      | @cons a b as bs r rest ih =>
        intro q1 q2
        cases k with
        | zero =>
          obtain rfl : a = c := Option.some.inj q1
          obtain rfl : b = zs := Option.some.inj q2
          exact .cons (paired_snoc (RowAt.keep r kt) (kt _ _ ht)) (Paired.mapP rest fun _ _ e => RowAt.keep e kt)
        | succ k => exact .cons (RowAt.keep r kt) (ih q1 q2)
    exact go h.row hc hz
  · rcases List.mem_or_eq_of_mem_set hc' with q | q
    · exact h.fc c' q
    · rw [q]; exact h.fc c (List.mem_of_getElem? hc)
theorem cut12 (a b : V) (r : List V) : cutV (a :: b :: r) (some 1) (some 2) = [b] := by
  unfold cutV
  rw [show (1 : Int) = ((1 : Nat) : Int) from rfl, show (2 : Int) = ((2 : Nat) : Int) from rfl, HT.sIx_nat, HT.sIx_nat]
  have h1 : min 1 (a :: b :: r).length = 1 := by simp only [List.length_cons]; omega
  have h2 : min 2 (a :: b :: r).length = 2 := by simp only [List.length_cons]; omega
  rw [h1, h2]; rfl
section
variable {P : Program} {w : World} {K : PySem.W.Frag} {mg : Str → Option Value} {base : Heap}
abbrev nRead : List Str := ["text", "books", "line", "row", "words", "client", "letter", "word"]
theorem scRead : FnScope nRead ["text"] (defScope sRead) := ⟨rfl, rfl, rfl, by decide +kernel, rfl, by decide +kernel, by decide +kernel⟩
def spRead : Sp := fun vs H Q _ => ∃ (zss : List (List Lt)), vs = [.str (textB zss)] ∧ BooksOk zss ∧ ∀ ba cs H', Same H H' → H ba = none → BooksAt H' ba cs (bk (flat 0 zss)) → Q (.ref ba) H'
set_option maxHeartbeats 0 in
theorem ok_read {f fN fW fI : Addr} {fd fdN fdW fdI : FuncData} (F : Fun K "read" "read" sRead f fd) (T : TxtP mg)
    (GN : FnOk P w K mg base CX0 1 fN fdN ["word"] spNum) (bN : Binds K fdN ["word"] []) (gN : mg "number_of" = some (.ref fN)) (kN : PySem.W.keepIn K (.ref fN) = true)
    (GW : FnOk P w K mg base CX0 1 fW fdW ["value", "least", "greatest"] spWithin) (bW : Binds K fdW ["value", "least", "greatest"] []) (gW : mg "is_within" = some (.ref fW)) (kW : PySem.W.keepIn K (.ref fW) = true)
    (GI : FnOk P w K mg base CX0 3 fI fdI ["letter"] spIsLet) (bI : Binds K fdI ["letter"] []) (gI : mg "is_letter" = some (.ref fI)) (kI : PySem.W.keepIn K (.ref fI) = true) :
    FnOk P w K mg base CX0 4 f fd ["text"] spRead := by
  obtain ⟨tk, hmost⟩ := T.most
  refine F.ok scRead (fun vs H Q E h => ?_) (fun cdv A0 outer s0 H vs Q E hr h => ?_)
  · obtain ⟨zss, rfl, _⟩ := h
    rfl
  · obtain ⟨zss, rfl, bo, k⟩ := h
    refine ⟨_, (pss_cons (ps_set (i := 1) scRead.nd rfl (Or.inl rfl) (pe_lst pa_nil)) (pss_cons (ps_if (pt_cmpR op_eq (pv 0) pe_str (nomark _)) (pss_one (ps_ret (pv 1))) pss_nil) (pss_cons (ps_for PassesOwn.never rfl (pi_enum (by rfl) T.enumerate (pa_cons (pe_split (pv 0) pe_str) pa_nil)) (pg_tup (by rfl) (pgs_cons (pg_name (i := 2) scRead.nd rfl (Or.inl rfl)) (pgs_cons (pg_name (i := 3) scRead.nd rfl (Or.inl rfl)) pgs_nil))) (pss_cons (ps_set (i := 4) scRead.nd rfl (Or.inl rfl) (pe_split (pv 3) pe_str)) (pss_cons (ps_set (i := 5) scRead.nd rfl (Or.inl rfl) (pe_call GN (hr.mono (by decide)) rfl gN kN bN .nil pass0 (pa_cons (pe_ix ix_list (pv 4) pe_int (fun _ _ => rfl)) pa_nil))) (pss_cons (ps_set (i := 6) scRead.nd rfl (Or.inl rfl) (pe_callTy call_tuple_of (by rfl) T.tuple (show bootBuiltins "tuple" = some (.type "tuple") by decide +kernel) (pa_cons (pe_op op_cat (pe_slice sl_list (pv 4) (po_some pe_int) (po_some pe_int)) (pe_lc (own := [("word", 7)]) (g := gName 7) (te := tCall spNum [] E0 (tCons (tVar 7) tNil)) (by rfl) scRead.nd (pi_list (pe_slice sl_list (pv 4) (po_some pe_int) po_none)) (blkOk_by (own := [("word", 7)]) (N := nRead) (sc := defScope sRead) (by decide +kernel)) (fun _ _ _ _ _ => (pg_name (i := 7) scRead.nd rfl (Or.inl rfl))) (fun _ _ _ _ _ => pts_nil) (fun _ _ _ _ _ => (pe_call GN (hr.mono (by decide)) rfl gN kN bN .nil pass0 (pa_cons (pv 7) pa_nil))))) pa_nil))) (pss_cons (ps_if (PW.pt (pw_or (pt_not (pt_val (pe_call GW (hr.mono (by decide)) rfl gW kW bW .nil pass0 (pa_cons (pv 5) (pa_cons (pe_callB (call_max2 rfl) (by rfl) T.max (by decide +kernel) (pa_cons pe_int (pa_cons (pe_op op_sub (pe_callB call_len_seq (by rfl) T.len PySem.boot_len (pa_cons (pv 1) pa_nil)) pe_int) pa_nil))) (pa_cons (pe_op op_sub (pe_glob rfl hmost (v := .int 5) ⟨tk, rfl⟩) pe_int) pa_nil)))))) (pw_or1 (pt_not (pt_val (pe_call GI hr rfl gI kI bI .nil pass0 (pa_cons (pv 6) pa_nil))))))) pss_never pss_nil) (pss_cons (ps_while PassesOwn.never (pt_cmpR op_le (pe_callB call_len_seq (by rfl) T.len PySem.boot_len (pa_cons (pv 1) pa_nil)) (pv 5) (nomark _)) (pss_one (ps_expr (pe_bm PySem.F.plainAttrs_list PySem.F.slot_list_append PySem.F.type_list_append mt_append (pv 1) (pa_cons (pe_lst pa_nil) pa_nil))))) (pss_one (ps_expr (pe_bm PySem.F.plainAttrs_list PySem.F.slot_list_append PySem.F.type_list_append mt_append (pe_ix ix_list (pv 1) (pv 5) (fun _ _ => rfl)) (pa_cons (pv 6) pa_nil)))))))))) (pss_one (ps_ret (pv 1)))))), ?_⟩
    have sm : ∀ {n : Nat}, n ≤ 1000 → n ≤ sizeLine := small
    refine ⟨sm (by show 0 ≤ 1000; decide), fun bl hbl => ?_⟩
    refine ⟨_, rfl, rfl, _, rfl, ?_⟩
    by_cases he : rowsFrom 0 zss = []
    · rw [decide_eq_true (show V.str (textB zss) = V.str "" by rw [text_empty.mpr he])]
      refine iteT ?_
      refine ⟨_, rfl, k bl [] _ (Same.new _ hbl) hbl ?_⟩
      have : flat 0 zss = [] := by
        rw [rowsFrom_flat] at he
        exact List.map_eq_nil_iff.mp he
      rw [this]
      exact ⟨upd_same, .nil⟩
    rw [decide_eq_false (fun z => he (text_empty.mp (V.str.inj z)))]
    refine iteF ?_
    have hlen := text_len bo
    refine ⟨_, rfl, ⟨_, rfl⟩, _, _, rfl, rfl, by kernel_rfl, by rw [sizeLine_eq]; omega, fun rl hrl => ?_⟩
    rw [text_split bo he]
    have hbl0 := hbl
    have nbr : bl ≠ rl := ne_of_none (upd_same : upd H bl (.lst []) bl = _) hrl
    have r0 : RI H (upd (upd H bl (.lst [])) rl (.lst ((rowsFrom 0 zss).map V.str))) (rl, .lst ((rowsFrom 0 zss).map V.str)) bl [] [] := by
      refine ⟨?_, .nil, (Same.new _ hbl).trans (Same.new _ hrl), hbl, fun _ h => (by cases h)⟩
      exact Has.cons (L := bkCells bl []) ⟨fun c hc => by rw [List.mem_singleton.mp hc]; exact upd_same, by simp [bkCells]⟩ hrl _
    have eL := rowsFrom_flat 0 zss
    have hmem := fun p hp => flat_mem (p := p) (k := 0) (l := zss) hp
    have hpw := flat_pw 0 zss
    refine ⟨rl, _, rfl, SqL.of upd_same, ?_⟩
    refine for_it (w := walk_enum (K := K) (a := rl) (xs := (rowsFrom 0 zss).map V.str)) (fun i σ H2 => ∃ v2 v3 v4 v5 v6 cs, σ = [some (.str (textB zss)), some (.ref bl), v2, v3, v4, v5, v6, none] ∧ RI H H2 (rl, .lst ((rowsFrom 0 zss).map V.str)) bl cs (bk ((flat 0 zss).take i)))
      ⟨none, none, none, none, none, [], rfl, r0⟩ (fun i σ H2 _ ⟨_, _, _, _, _, _, _, r⟩ => SqL.of (Has.get (A := []) r.has 0 rfl)) ?_ ?_
    · rintro i x σ H2 H3 hi ⟨v2, v3, v4, v5, v6, cs, rfl, r2⟩ ⟨Tp, x1, x2, rfl, hT, rfl, e1, e2⟩
      obtain rfl : V.int (i : Nat) = x1 := Option.some.inj e1
      have hi : i < (flat 0 zss).length := by rw [eL] at hi; simpa using hi
      have ep : (flat 0 zss)[i]? = some (flat 0 zss)[i] := List.getElem?_eq_getElem hi
      have hm := hmem _ (List.getElem_mem hi)
      have hbefore := pw_take hpw ep
      have e2 : ((rowsFrom 0 zss).map V.str)[i]? = some x2 := e2
      rw [eL, List.getElem?_map, List.getElem?_map, ep] at e2
      have etk : (flat 0 zss).take (i + 1) = (flat 0 zss).take i ++ [(flat 0 zss)[i]] := by rw [List.take_add_one, ep]; rfl
      rw [etk]
      generalize (flat 0 zss)[i] = p at ep hm hbefore e2
      obtain ⟨kk, z⟩ := p
      obtain rfl : V.str (rowS (kk : Nat) z) = x2 := Option.some.inj e2
      obtain ⟨_, hk5, zs0, hz1, hz2⟩ := hm
      have hk4 : kk ≤ 4 := by have := bo.1; omega
      have hz := (bo.2 zs0 hz1).2 z hz2
      have hble := bk_le (k := kk) hbefore
      have hrow := row_short (c := (kk : Nat)) (z := z) (by omega) (by omega) hz
      refine ⟨Tp, _, rfl, SqT.of upd_same, rfl, _, _, rfl, _, _, rfl, rfl, ?_⟩
      have r3 := r2.sm (Same.new (HO.tup [V.int (i : Nat), V.str (rowS (kk : Nat) z)]) hT)
      generalize upd H2 Tp (.tup [V.int (i : Nat), V.str (rowS (kk : Nat) z)]) = H3 at r3
      refine ⟨_, rfl, ⟨_, rfl⟩, _, _, rfl, rfl, by kernel_rfl, sm (by omega), fun wl hwl => ?_⟩
      rw [row_split (by omega) (by omega) hz]
      have r4 := r3.sm (Same.new (HO.lst ((wordsS (kk : Nat) z).map V.str)) hwl)
      have hw4 : upd H3 wl (.lst ((wordsS (kk : Nat) z).map V.str)) wl = some (.lst ((wordsS (kk : Nat) z).map V.str)) := upd_same
      generalize upd H3 wl (.lst ((wordsS (kk : Nat) z).map V.str)) = H4 at r4 hw4
      refine ⟨_, rfl, _, _, _, V.str (nS (kk : Nat)), rfl, rfl, SqL.of hw4, at_of (j := 0) rfl rfl, (kk : Nat), rfl, by omega, by omega, fun H5 s5 => ?_⟩
      have r5 := r4.sm s5
      have hw5 := s5 _ _ hw4
      refine ⟨_, rfl, _, rfl, _, rfl, wl, _, rfl, SqL.of hw5, fun q1 hq1 => ?_⟩
      have ec1 : cutV ((wordsS (kk : Nat) z).map V.str) (some 1) (some 2) = [V.str z.word] := cut12 _ _ _
      rw [ec1]
      have s6 := Same.new (HO.lst [V.str z.word]) hq1
      have h61 : upd H5 q1 (.lst [V.str z.word]) q1 = some (.lst [V.str z.word]) := upd_same
      have r6 := r5.sm s6
      have hw6 := s6 _ _ hw5
      generalize upd H5 q1 (.lst [V.str z.word]) = H6 at r6 hw6 h61
      refine ⟨_, rfl, _, rfl, wl, _, rfl, SqL.of hw6, fun q2 hq2 => ?_⟩
      have ec2 : cutV ((wordsS (kk : Nat) z).map V.str) (some 2) none = (z.nums.map nS).map V.str := by
        rw [show (2 : Int) = ((2 : Nat) : Int) from rfl, cut_drop]; rfl
      rw [ec2]
      have s7 := Same.new (HO.lst ((z.nums.map nS).map V.str)) hq2
      have h72 : upd H6 q2 (.lst ((z.nums.map nS).map V.str)) q2 = some (.lst ((z.nums.map nS).map V.str)) := upd_same
      have r7 := r6.sm s7
      have h71 := s7 _ _ h61
      generalize upd H6 q2 (.lst ((z.nums.map nS).map V.str)) = H7 at r7 h71 h72
      refine ⟨q2, rfl, ⟨_, SqL.of h72⟩, fun D hD => ?_⟩
      have hzn := z.nlen
      refine lc_list (K := K) (a := q2) (xs := (z.nums.map nS).map V.str) (fun j H8 => Same H7 H8 ∧ H8 D = some (.lst ((z.nums.take j).map V.int))) ⟨Same.new _ hD, upd_same⟩ (fun j H8 _ p => SqL.of (p.1 _ _ h72)) ?_ ?_
      · rintro j y H8 hy ⟨s8, hD8⟩
        rw [List.getElem?_map, List.getElem?_map] at hy
        cases en : z.nums[j]? with
        | none => rw [en] at hy; cases hy
        | some n =>
          rw [en] at hy
          obtain rfl : V.str (nS n) = y := Option.some.inj hy
          have hn := Lt.num41 hz n (List.mem_of_getElem? en)
          refine ⟨rfl, _, rfl, n, rfl, hn.1, hn.2, fun H9 s9 => ⟨_, s9 _ _ hD8, ?_, Same.mut _ (s8.trans s9) hD, ?_⟩⟩
          · rw [List.length_map, List.length_take]; exact small1000 (by omega)
          · rw [upd_same, List.take_add_one, en, List.map_append]; rfl
      · rintro H8 ⟨s8, hD8⟩
        rw [List.length_map, List.length_map, List.take_length] at hD8
        have r8 := r7.sm s8
        refine ⟨q1, D, _, _, rfl, rfl, s8 _ _ h71, hD8, sm (by simp only [List.length_cons, List.length_nil, List.length_map]; omega), fun q3 hq3 => ?_⟩
        have s9 := Same.new (HO.lst ([V.str z.word] ++ z.nums.map V.int)) hq3
        have r9 := r8.sm s9
        refine ⟨q3, _, rfl, .inl ⟨SqL.of upd_same, fun t ht => ?_⟩⟩
        have s10 := Same.new (HO.tup ([V.str z.word] ++ z.nums.map V.int)) ht
        have r10 := r9.sm s10
        have ht10 : upd (upd H8 q3 (.lst ([V.str z.word] ++ z.nums.map V.int))) t (.tup ([V.str z.word] ++ z.nums.map V.int)) t = some (.tup z.vals) := upd_same
        generalize upd (upd H8 q3 (.lst ([V.str z.word] ++ z.nums.map V.int))) t (.tup ([V.str z.word] ++ z.nums.map V.int)) = H10 at r10 ht10
        have hl10 := r10.len
        refine ⟨_, rfl, _, rfl, bl, _, rfl, .inl (SqL.of r10.bl), _, _, rfl, rfl, _, _, rfl, _, _, rfl, rfl, (kk : Nat), _, _, rfl, ?_⟩
        rw [List.length_map, hl10]
        have hb1 : decide ((if (((bk ((flat 0 zss).take i)).length : Nat) : Int) - 1 > 0 then (((bk ((flat 0 zss).take i)).length : Nat) : Int) - 1 else 0) ≤ ((kk : Nat) : Int)) = true := decide_eq_true (by split <;> omega)
        have hb2 : decide (((kk : Nat) : Int) ≤ 5 - 1) = true := decide_eq_true (by omega)
        refine ⟨_, rfl, ?_⟩
        rw [hb1, hb2]
        refine iteF ?_
        refine ⟨_, rfl, t, z, rfl, ht10, hz, fun H11 s11 => ⟨_, rfl, iteF ?_⟩⟩
        have r11 := r10.sm s11
        have ht11 := s11 _ _ ht10
        refine while_by (fun σ H12 => ∃ cs m, σ = [some (.str (textB zss)), some (.ref bl), some (.int (i : Nat)), some (.str (rowS (kk : Nat) z)), some (.ref wl), some (.int (kk : Nat)), some (.ref t), none] ∧ H12 t = some (.tup z.vals) ∧
          RI H H12 (rl, .lst ((rowsFrom 0 zss).map V.str)) bl cs (bk ((flat 0 zss).take i) ++ List.replicate m []) ∧ (m = 0 ∨ (bk ((flat 0 zss).take i)).length + m ≤ kk + 1))
          (fun _ H12 => kk + 1 - (match H12 bl with | some (.lst xs) => xs.length | _ => 0)) ⟨cs, 0, rfl, ht11, by simpa using r11, .inl rfl⟩ ?_ ?_
        · rintro σ H12 ⟨cs, m, rfl, ht12, r12, hm⟩
          have hl12 := r12.len
          rw [List.length_append, List.length_replicate] at hl12
          refine ⟨_, rfl, bl, _, rfl, .inl (SqL.of r12.bl), _, rfl, _, _, rfl, rfl, _, rfl, ?_⟩
          rw [List.length_map, hl12]
          refine ite2 (fun c => ?_) (fun c => ?_)
          · have c := of_decide_eq_true c
            refine ⟨_, rfl, .inl ⟨rfl, _, SqL.of r12.bl⟩, sm (by show 0 ≤ 1000; decide), fun nl hnl => ?_⟩
            have s13 := Same.new (HO.lst []) hnl
            have r13 := r12.more hnl
            refine ⟨bl, _, _, rfl, rfl, s13 _ _ r12.bl, by rw [List.length_map, hl12]; exact small1000 (by omega), ?_⟩
            refine ⟨⟨cs ++ [(nl, [])], m + 1, rfl, ?_, ?_, .inr (by omega)⟩, ?_⟩
            · rw [upd_ne (by intro q; have := s13 _ _ r12.bl; rw [← q, s13 _ _ ht12] at this; cases this)]
              exact s13 _ _ ht12
            · rw [List.replicate_succ', ← List.append_assoc]
              exact r13
            · have e1 := r13.bl
              have e2 := r12.bl
              show kk + 1 - (match (upd (upd H12 nl (.lst [])) bl (.lst (cs.map (fun c => V.ref c.1) ++ [V.ref nl]))) bl with | some (.lst xs) => xs.length | _ => 0) < kk + 1 - (match H12 bl with | some (.lst xs) => xs.length | _ => 0)
              rw [e1, e2]
              simp only [List.length_map, List.length_append, List.length_cons, List.length_nil]
              omega
          · have c : ¬ (((bk ((flat 0 zss).take i)).length + m : Nat) : Int) ≤ (kk : Nat) := fun q => c (decide_eq_true q)
            have epad : bk ((flat 0 zss).take i) ++ List.replicate m [] = padB (bk ((flat 0 zss).take i)) (kk + 1) := by
              unfold padB
              congr 2
              rcases hm with rfl | hm <;> omega
            rw [epad] at r12
            have hpl := padB_len (bk ((flat 0 zss).take i)) (kk + 1)
            have hl13 := r12.len
            have ecs : cs[kk]? = some cs[kk] := List.getElem?_eq_getElem (by omega)
            have ebs : (padB (bk ((flat 0 zss).take i)) (kk + 1))[kk]? = some ((padB (bk ((flat 0 zss).take i)) (kk + 1)).getD kk []) := by
              rw [List.getD_eq_getElem?_getD]
              have : (padB (bk ((flat 0 zss).take i)) (kk + 1))[kk]? = some (padB (bk ((flat 0 zss).take i)) (kk + 1))[kk] := List.getElem?_eq_getElem (by omega)
              rw [this]; rfl
            generalize cs[kk] = c at ecs
            have hcell : H12 c.1 = some (.lst (c.2.map V.ref)) := r12.has.mem (by
              refine List.mem_cons_of_mem _ (List.mem_cons_of_mem _ (List.mem_map.mpr ⟨c, List.mem_of_getElem? ecs, rfl⟩)))
            have hcl : c.2.length ≤ 4500 := by
              have h1 := paired_ix r12.row ecs ebs
              have h2 := paired_len h1
              have gen : ∀ (P : List (Nat × Lt)) (j : Nat) (zs : List Lt), (bk P)[j]? = some zs → zs.length ≤ P.length := by
                intro P
                have : ∀ (P : List (Nat × Lt)) (b : List (List Lt)) (n : Nat), (∀ (j : Nat) (zs : List Lt), b[j]? = some zs → zs.length ≤ n) → ∀ (j : Nat) (zs : List Lt), (P.foldl stepB b)[j]? = some zs → zs.length ≤ n + P.length := by
                  intro P
                  induction P with
                  | nil => intro b n hb j zs h; exact hb j zs h
                  | cons p P ih =>
                    intro b n hb j zs h
                    have hpad : ∀ (j : Nat) (zs : List Lt), (padB b (p.1 + 1))[j]? = some zs → zs.length ≤ n := by
                      intro j zs h
                      unfold padB at h
                      rw [List.getElem?_append] at h
                      split at h
                      · exact hb j zs h
                      · have := List.mem_of_getElem? h
                        rw [(List.mem_replicate.mp this).2]; exact Nat.zero_le _
                    have := ih (stepB b p) (n + 1) (fun j zs h => by
                      unfold stepB at h
                      by_cases e : p.1 = j
                      · subst e
                        rw [List.getElem?_set_self (by rw [padB_len]; omega)] at h
                        have h := Option.some.inj h
                        rw [← h, List.length_append, List.getD_eq_getElem?_getD]
                        cases q : (padB b (p.1 + 1))[p.1]? with
                        | none => simp
                        | some y => have := hpad _ _ q; simp; omega
                      · rw [List.getElem?_set_ne e] at h
                        have := hpad j zs h; omega) j zs h
                    simp only [List.length_cons]; omega
                intro j zs h
                have := this P [] 0 (fun j zs h => by simp at h) j zs h
                omega
              have hfl : ((flat 0 zss).take i).length ≤ 4500 := by
                have h3 := rowsFrom_len (k := 0) (l := zss) fun y hy => (bo.2 y hy).1
                rw [rowsFrom_flat, List.length_map] at h3
                have h4 := Nat.mul_le_mul_left 900 bo.1
                rw [List.length_take]; omega
              have : ((padB (bk ((flat 0 zss).take i)) (kk + 1)).getD kk []).length ≤ 4500 := by
                have e := ebs
                generalize (padB (bk ((flat 0 zss).take i)) (kk + 1)).getD kk [] = y at e
                unfold padB at e
                rw [List.getElem?_append] at e
                split at e
                · exact Nat.le_trans (gen _ _ _ e) hfl
                · have := List.mem_of_getElem? e
                  rw [(List.mem_replicate.mp this).2]; exact Nat.zero_le _
              omega
            refine ⟨_, rfl, _, rfl, _, _, _, V.ref c.1, rfl, rfl, SqL.of r12.bl, at_of (j := kk) rfl (by rw [List.getElem?_map, ecs]; rfl), .inl ⟨rfl, _, SqL.of hcell⟩, _, rfl, c.1, _, _, rfl, rfl, hcell, by rw [List.length_map, sizeLine_eq]; omega, ?_⟩
            refine ⟨_, _, _, _, _, cs.set kk (c.1, c.2 ++ [t]), rfl, ?_⟩
            have r13 := r12.put ecs ebs ht12
            have ebk : bk ((flat 0 zss).take i ++ [(kk, z)]) = (padB (bk ((flat 0 zss).take i)) (kk + 1)).set kk ((padB (bk ((flat 0 zss).take i)) (kk + 1)).getD kk [] ++ [z]) := by
              unfold bk
              rw [List.foldl_append]; rfl
            rw [ebk]
            exact r13
        · intro σ H Q1 Q2 imp hq
          obtain ⟨v, e1, p, ys, e2, h, v5, e5, i, j, e6, e7, b, e8, q⟩ := hq
          exact ⟨v, e1, p, ys, e2, h, v5, e5, i, j, e6, e7, b, e8, imp _ _ q⟩
    · rintro σ H2 ⟨v2, v3, v4, v5, v6, cs, rfl, r2⟩
      rw [List.length_map, eL, List.length_map, List.take_length] at r2
      refine ⟨_, rfl, k bl cs H2 r2.same r2.fb ⟨r2.bl, ?_⟩⟩
      have hcell : ∀ c ∈ cs, H2 c.1 = some (.lst (c.2.map V.ref)) := fun c hc => r2.has.mem (List.mem_cons_of_mem _ (List.mem_cons_of_mem _ (List.mem_map.mpr ⟨c, hc, rfl⟩)))
      have gen : ∀ {cs : List (Addr × List Addr)} {bs : List (List Lt)}, (∀ c ∈ cs, H2 c.1 = some (.lst (c.2.map V.ref))) → Paired (fun (c : Addr × List Addr) (zs : List Lt) => RowAt H2 c.2 zs) cs bs → Paired (BookAt H2) cs bs := by
        intro cs bs hc p
        induction p with
        | nil => exact .nil
        | cons r _ ih => exact .cons ⟨hc _ List.mem_cons_self, r⟩ (ih fun c h => hc c (List.mem_cons_of_mem _ h))
      exact gen hcell r2.row
end
end SH
set_option Elab.async false
set_option linter.all false
set_option maxRecDepth 100000
namespace SH
open PySem PySem.Spec PyProof.Rows L2 StX TL
abbrev sAlike : Stmt := top 21
/-- the same data, d deep -/
def R0 (v u : V) : Prop := (∃ i, v = .int i ∧ u = .int i) ∨ ∃ a, v = .str a ∧ u = .str a
def RD (H : Hp) : Nat → V → V → Prop
  | 0, v, u => R0 v u
  | d + 1, v, u => R0 v u ∨ ∃ (a b : Addr) (xs ys : List V), v = .ref a ∧ u = .ref b ∧ ((H a = some (.tup xs) ∧ H b = some (.tup ys)) ∨ (H a = some (.lst xs) ∧ H b = some (.lst ys))) ∧ xs.length = ys.length ∧ ys.length ≤ 1000 ∧ ∀ (i : Nat) x y, xs[i]? = some x → ys[i]? = some y → RD H d x y
theorem RD.same {H H' : Hp} (s : Same H H') : ∀ {d : Nat} {v u : V}, RD H d v u → RD H' d v u
  | 0, _, _, h => h
  | d + 1, _, _, h => by
    rcases h with h | ⟨a, b, xs, ys, e1, e2, h1, h2, h3, h4⟩
    · exact .inl h
    · refine .inr ⟨a, b, xs, ys, e1, e2, ?_, h2, h3, fun i x y q1 q2 => (h4 i x y q1 q2).same s⟩
      rcases h1 with ⟨p, q⟩ | ⟨p, q⟩
      · exact .inl ⟨s _ _ p, s _ _ q⟩
      · exact .inr ⟨s _ _ p, s _ _ q⟩
theorem kit2 {K : PySem.W.Frag} {a b c : String} {r1 r2 : Bool} (h1 : kitB a b = some r1) (h2 : kitB a c = some r2) : PySem.W.kitAny K (.type a) [.type b, .type c] = some (r1 || r2) := by
  refine kitAny_cons (kit_ty h1) (fun e => ?_) (fun e => by rw [e]; rfl)
  rw [e, Bool.false_or]
  refine kitAny_cons (kit_ty h2) (fun e => by rw [e]; rfl) (fun e => e)
section
variable {P : Program} {w : World} {K : PySem.W.Frag} {mg : Str → Option Value} {base : Heap}
abbrev nAlike : List Str := ["_law_found", "_law_due", "_law_k"]
theorem scAlike : FnScope nAlike ["_law_found", "_law_due"] (defScope sAlike) := ⟨rfl, rfl, rfl, by decide +kernel, rfl, by decide +kernel, by decide +kernel⟩
def spAlike (d : Nat) : Sp := fun vs H Q _ => ∃ v u, vs = [v, u] ∧ RD H d v u ∧ ∀ H', Same H H' → Q (.bl true) H'
theorem ok_alike {f : Addr} {fd : FuncData} (F : Fun K "_law_alike" "_law_alike" sAlike f fd) (bF : Binds K fd ["_law_found", "_law_due"] []) (gF : mg "_law_alike" = some (.ref f)) (T : TxtP mg) :
    ∀ d, FnOk P w K mg base CX0 (d + 1) f fd ["_law_found", "_law_due"] (spAlike d)
  | 0 => by
    refine F.ok scAlike (fun vs H Q E h => ?_) (fun cdv A0 outer s0 H vs Q E hr h => ?_)
    · obtain ⟨v, u, rfl, _⟩ := h
      rfl
    · obtain ⟨v, u, rfl, hR, k⟩ := h
      have sm : ∀ {n : Nat}, n ≤ 1000 → n ≤ sizeLine := small
      refine ⟨_, (pss_cons (ps_if (pt_val (pe_callB call_isiT (by rfl) T.isinst (by decide +kernel) (pa_cons (pv 1) (pa_cons (pe_tup (pa_cons (pe_bltn (v := .ty "tuple") (by rfl) T.tuple (by decide +kernel) rfl) (pa_cons (pe_bltn (v := .ty "list") (by rfl) T.list (by decide +kernel) rfl) pa_nil))) pa_nil)))) pss_never pss_nil) (pss_cons (ps_if (pt_cmpR op_isN (pv 1) pe_non (nomark _)) (pss_one (ps_ret (pe_cmpR op_isN (pv 0) pe_non (nomark _)))) pss_nil) (pss_cons (ps_if (pt_val (pe_callB call_isi (by rfl) T.isinst (by decide +kernel) (pa_cons (pv 1) (pa_cons (pe_bltn (v := .ty "str") (by rfl) T.str (by decide +kernel) rfl) pa_nil)))) (pss_one (ps_ret (pe_and (pe_callB call_isi (by rfl) T.isinst (by decide +kernel) (pa_cons (pv 0) (pa_cons (pe_bltn (v := .ty "str") (by rfl) T.str (by decide +kernel) rfl) pa_nil))) (pe_one (pe_cmpR op_eq (pv 0) (pv 1) (nomark _)))))) pss_nil) (pss_cons (ps_if (PW.pt (pw_or (pt_val (pe_callB call_isi (by rfl) T.isinst (by decide +kernel) (pa_cons (pv 1) (pa_cons (pe_bltn (v := .ty "bool") (by rfl) T.bool (by decide +kernel) rfl) pa_nil)))) (pw_or1 (pt_val (pe_callB call_isi (by rfl) T.isinst (by decide +kernel) (pa_cons (pv 0) (pa_cons (pe_bltn (v := .ty "bool") (by rfl) T.bool (by decide +kernel) rfl) pa_nil))))))) pss_never pss_nil) (pss_one (ps_ret (pe_and (pe_callB call_isi (by rfl) T.isinst (by decide +kernel) (pa_cons (pv 0) (pa_cons (pe_bltn (v := .ty "int") (by rfl) T.int (by decide +kernel) rfl) pa_nil))) (pe_one (pe_cmpR op_eq (pv 0) (pv 1) (nomark _)))))))))), ?_⟩
      rcases hR with ⟨i, rfl, rfl⟩ | ⟨a, rfl, rfl⟩
      · refine ⟨_, rfl, sm (by show 2 ≤ 1000; decide), fun q hq => ?_⟩
        refine ⟨V.int i, q, _, _, _, false, rfl, upd_same, .cons (.ty _) (.cons (.ty _) .nil), tyInt, kit2 (a := "int") (b := "tuple") (c := "list") (r1 := false) (r2 := false) (by decide +kernel) (by decide +kernel), _, rfl, iteF ?_⟩
        have s1 := Same.new (HO.tup [V.ty "tuple", V.ty "list"]) hq
        refine ⟨_, rfl, rfl, _, rfl, iteF ?_⟩
        refine ⟨_, rfl, _, _, _, _, false, rfl, by first | exact .ty _ | constructor, tyInt, kit_ty (by decide +kernel), _, rfl, iteF ?_⟩
        refine ⟨_, rfl, _, _, _, _, false, rfl, by first | exact .ty _ | constructor, tyInt, kit_ty (by decide +kernel), _, rfl, iteF ?_⟩
        refine ⟨_, rfl, _, _, _, _, false, rfl, by first | exact .ty _ | constructor, tyInt, kit_ty (by decide +kernel), _, rfl, iteF ?_⟩
        refine ⟨_, rfl, _, _, _, _, true, rfl, by first | exact .ty _ | constructor, tyInt, kit_ty (by decide +kernel), _, rfl, iteT ?_⟩
        refine ⟨_, rfl, _, rfl, rfl, ?_⟩
        rw [decide_eq_true (show V.int i = V.int i from rfl)]
        exact k _ s1
      · refine ⟨_, rfl, sm (by show 2 ≤ 1000; decide), fun q hq => ?_⟩
        refine ⟨V.str a, q, _, _, _, false, rfl, upd_same, .cons (.ty _) (.cons (.ty _) .nil), .base (.str a), kit2 (a := "str") (b := "tuple") (c := "list") (r1 := false) (r2 := false) (by decide +kernel) (by decide +kernel), _, rfl, iteF ?_⟩
        have s1 := Same.new (HO.tup [V.ty "tuple", V.ty "list"]) hq
        refine ⟨_, rfl, rfl, _, rfl, iteF ?_⟩
        refine ⟨_, rfl, _, _, _, _, true, rfl, by first | exact .ty _ | constructor, .base (.str a), kit_ty (by decide +kernel), _, rfl, iteT ?_⟩
        refine ⟨_, rfl, _, _, _, _, true, rfl, by first | exact .ty _ | constructor, .base (.str a), kit_ty (by decide +kernel), _, rfl, iteT ?_⟩
        refine ⟨_, rfl, _, rfl, rfl, ?_⟩
        rw [decide_eq_true (show V.str a = V.str a from rfl)]
        exact k _ s1
  | d + 1 => by
    have GF := ok_alike F bF gF T d
    refine F.ok scAlike (fun vs H Q E h => ?_) (fun cdv A0 outer s0 H vs Q E hr h => ?_)
    · obtain ⟨v, u, rfl, _⟩ := h
      rfl
    · obtain ⟨v, u, rfl, hR, k⟩ := h
      have sm : ∀ {n : Nat}, n ≤ 1000 → n ≤ sizeLine := small
      refine ⟨_, (pss_cons (ps_if (pt_val (pe_callB call_isiT (by rfl) T.isinst (by decide +kernel) (pa_cons (pv 1) (pa_cons (pe_tup (pa_cons (pe_bltn (v := .ty "tuple") (by rfl) T.tuple (by decide +kernel) rfl) (pa_cons (pe_bltn (v := .ty "list") (by rfl) T.list (by decide +kernel) rfl) pa_nil))) pa_nil)))) (pss_cons (ps_if (PW.pt (pw_or (pt_not (pt_val (pe_callB call_isiT (by rfl) T.isinst (by decide +kernel) (pa_cons (pv 0) (pa_cons (pe_tup (pa_cons (pe_bltn (v := .ty "tuple") (by rfl) T.tuple (by decide +kernel) rfl) (pa_cons (pe_bltn (v := .ty "list") (by rfl) T.list (by decide +kernel) rfl) pa_nil))) pa_nil))))) (pw_or1 (pt_cmpR op_ne (pe_callB call_isi (by rfl) T.isinst (by decide +kernel) (pa_cons (pv 0) (pa_cons (pe_bltn (v := .ty "list") (by rfl) T.list (by decide +kernel) rfl) pa_nil))) (pe_callB call_isi (by rfl) T.isinst (by decide +kernel) (pa_cons (pv 1) (pa_cons (pe_bltn (v := .ty "list") (by rfl) T.list (by decide +kernel) rfl) pa_nil))) (nomark _))))) (pss_one (ps_ret pe_bl)) pss_nil) (pss_cons (ps_if (pt_cmpR op_ne (pe_callB call_len_seq (by rfl) T.len PySem.boot_len (pa_cons (pv 0) pa_nil)) (pe_callB call_len_seq (by rfl) T.len PySem.boot_len (pa_cons (pv 1) pa_nil)) (nomark _)) (pss_one (ps_ret pe_bl)) pss_nil) (pss_one (ps_ret (pe_cmpR (op_eqD hr.units) (pe_lc (own := [("_law_k", 2)]) (g := gName 2) (te := tVar 2) (tt := tNot (tB (tCall (spAlike d) [] E0 (tCons (tOp (rIx K) (tVar 0) (tVar 2)) (tCons (tOp (rIx K) (tVar 1) (tVar 2)) tNil))))) (by rfl) scAlike.nd (pi_range1 rfl T.range (pa_cons (pe_callB call_len_seq (by rfl) T.len PySem.boot_len (pa_cons (pv 1) pa_nil)) pa_nil)) (blkOk_by (own := [("_law_k", 2)]) (N := nAlike) (sc := defScope sAlike) (by decide +kernel)) (fun _ _ _ _ _ => (pg_name (i := 2) scAlike.nd rfl (Or.inl rfl))) (fun _ _ _ _ _ => pts_one (pt_not (pt_val (pe_call GF hr rfl gF F.kp bF .nil pass0 (pa_cons (pe_ix ix_seq (pv 0) (pv 2) (fun _ _ => rfl)) (pa_cons (pe_ix ix_seq (pv 1) (pv 2) (fun _ _ => rfl)) pa_nil)))))) (fun _ _ _ _ _ => pv 2)) (pe_lst pa_nil) (nomark _)))))) pss_nil) (pss_cons (ps_if (pt_cmpR op_isN (pv 1) pe_non (nomark _)) (pss_one (ps_ret (pe_cmpR op_isN (pv 0) pe_non (nomark _)))) pss_nil) (pss_cons (ps_if (pt_val (pe_callB call_isi (by rfl) T.isinst (by decide +kernel) (pa_cons (pv 1) (pa_cons (pe_bltn (v := .ty "str") (by rfl) T.str (by decide +kernel) rfl) pa_nil)))) (pss_one (ps_ret (pe_and (pe_callB call_isi (by rfl) T.isinst (by decide +kernel) (pa_cons (pv 0) (pa_cons (pe_bltn (v := .ty "str") (by rfl) T.str (by decide +kernel) rfl) pa_nil))) (pe_one (pe_cmpR op_eq (pv 0) (pv 1) (nomark _)))))) pss_nil) (pss_cons (ps_if (PW.pt (pw_or (pt_val (pe_callB call_isi (by rfl) T.isinst (by decide +kernel) (pa_cons (pv 1) (pa_cons (pe_bltn (v := .ty "bool") (by rfl) T.bool (by decide +kernel) rfl) pa_nil)))) (pw_or1 (pt_val (pe_callB call_isi (by rfl) T.isinst (by decide +kernel) (pa_cons (pv 0) (pa_cons (pe_bltn (v := .ty "bool") (by rfl) T.bool (by decide +kernel) rfl) pa_nil))))))) pss_never pss_nil) (pss_one (ps_ret (pe_and (pe_callB call_isi (by rfl) T.isinst (by decide +kernel) (pa_cons (pv 0) (pa_cons (pe_bltn (v := .ty "int") (by rfl) T.int (by decide +kernel) rfl) pa_nil))) (pe_one (pe_cmpR op_eq (pv 0) (pv 1) (nomark _)))))))))), ?_⟩
      rcases hR with (⟨i, rfl, rfl⟩ | ⟨a, rfl, rfl⟩) | ⟨a, b, xs, ys, rfl, rfl, hab, hl, hl2, hR⟩
      · refine ⟨_, rfl, sm (by show 2 ≤ 1000; decide), fun q hq => ?_⟩
        refine ⟨V.int i, q, _, _, _, false, rfl, upd_same, .cons (.ty _) (.cons (.ty _) .nil), tyInt, kit2 (a := "int") (b := "tuple") (c := "list") (r1 := false) (r2 := false) (by decide +kernel) (by decide +kernel), _, rfl, iteF ?_⟩
        have s1 := Same.new (HO.tup [V.ty "tuple", V.ty "list"]) hq
        refine ⟨_, rfl, rfl, _, rfl, iteF ?_⟩
        refine ⟨_, rfl, _, _, _, _, false, rfl, by first | exact .ty _ | constructor, tyInt, kit_ty (by decide +kernel), _, rfl, iteF ?_⟩
        refine ⟨_, rfl, _, _, _, _, false, rfl, by first | exact .ty _ | constructor, tyInt, kit_ty (by decide +kernel), _, rfl, iteF ?_⟩
        refine ⟨_, rfl, _, _, _, _, false, rfl, by first | exact .ty _ | constructor, tyInt, kit_ty (by decide +kernel), _, rfl, iteF ?_⟩
        refine ⟨_, rfl, _, _, _, _, true, rfl, by first | exact .ty _ | constructor, tyInt, kit_ty (by decide +kernel), _, rfl, iteT ?_⟩
        refine ⟨_, rfl, _, rfl, rfl, ?_⟩
        rw [decide_eq_true (show V.int i = V.int i from rfl)]
        exact k _ s1
      · refine ⟨_, rfl, sm (by show 2 ≤ 1000; decide), fun q hq => ?_⟩
        refine ⟨V.str a, q, _, _, _, false, rfl, upd_same, .cons (.ty _) (.cons (.ty _) .nil), .base (.str a), kit2 (a := "str") (b := "tuple") (c := "list") (r1 := false) (r2 := false) (by decide +kernel) (by decide +kernel), _, rfl, iteF ?_⟩
        have s1 := Same.new (HO.tup [V.ty "tuple", V.ty "list"]) hq
        refine ⟨_, rfl, rfl, _, rfl, iteF ?_⟩
        refine ⟨_, rfl, _, _, _, _, true, rfl, by first | exact .ty _ | constructor, .base (.str a), kit_ty (by decide +kernel), _, rfl, iteT ?_⟩
        refine ⟨_, rfl, _, _, _, _, true, rfl, by first | exact .ty _ | constructor, .base (.str a), kit_ty (by decide +kernel), _, rfl, iteT ?_⟩
        refine ⟨_, rfl, _, rfl, rfl, ?_⟩
        rw [decide_eq_true (show V.str a = V.str a from rfl)]
        exact k _ s1
      · refine ⟨_, rfl, sm (by show 2 ≤ 1000; decide), fun q hq => ?_⟩
        have s1 := Same.new (HO.tup [V.ty "tuple", V.ty "list"]) hq
        have hq1 : upd H q (.tup [V.ty "tuple", V.ty "list"]) q = some (.tup [V.ty "tuple", V.ty "list"]) := upd_same
        generalize upd H q (.tup [V.ty "tuple", V.ty "list"]) = H1 at s1 hq1
        obtain ⟨tn, tb, kb, h1⟩ : ∃ (tn : String) (tb : Bool), PySem.W.kitAny K (.type tn) [.type "tuple", .type "list"] = some true ∧ (PySem.W.kitOne K (.type tn) (.type "list") = some tb ∧ ∀ H2, Same H H2 → TyX K H2 (.ref a) (.type tn) ∧ TyX K H2 (.ref b) (.type tn)) := by
          rcases hab with ⟨ha, hb⟩ | ⟨ha, hb⟩
          · exact ⟨"tuple", false, kit2 (r1 := true) (r2 := false) (by decide +kernel) (by decide +kernel), kit_ty (by decide +kernel), fun H2 s => ⟨.base (.tup (s _ _ ha)), .base (.tup (s _ _ hb))⟩⟩
          · exact ⟨"list", true, kit2 (r1 := false) (r2 := true) (by decide +kernel) (by decide +kernel), kit_ty (by decide +kernel), fun H2 s => ⟨.base (.lst (s _ _ ha)), .base (.lst (s _ _ hb))⟩⟩
        have sq : ∀ H2, Same H H2 → (SqL K H2 a xs ∨ SqT K H2 a xs) ∧ (SqL K H2 b ys ∨ SqT K H2 b ys) := fun H2 s => by
          rcases hab with ⟨ha, hb⟩ | ⟨ha, hb⟩
          · exact ⟨.inr (SqT.of (s _ _ ha)), .inr (SqT.of (s _ _ hb))⟩
          · exact ⟨.inl (SqL.of (s _ _ ha)), .inl (SqL.of (s _ _ hb))⟩
        refine ⟨V.ref b, q, _, _, _, true, rfl, hq1, .cons (.ty _) (.cons (.ty _) .nil), (h1.2 H1 s1).2, kb, _, rfl, iteT ?_⟩
        refine ⟨_, rfl, sm (by show 2 ≤ 1000; decide), fun q2 hq2 => ?_⟩
        have s2 := s1.trans (Same.new (HO.tup [V.ty "tuple", V.ty "list"]) hq2)
        have hq22 : upd H1 q2 (.tup [V.ty "tuple", V.ty "list"]) q2 = some (.tup [V.ty "tuple", V.ty "list"]) := upd_same
        generalize upd H1 q2 (.tup [V.ty "tuple", V.ty "list"]) = H2 at s2 hq22
        refine ⟨V.ref a, q2, _, _, _, true, rfl, hq22, .cons (.ty _) (.cons (.ty _) .nil), (h1.2 H2 s2).1, kb, _, rfl, iteF ?_⟩
        refine ⟨_, rfl, _, _, _, _, tb, rfl, by first | exact .ty _ | constructor, (h1.2 H2 s2).1, h1.1, _, rfl, _, _, _, _, tb, rfl, by first | exact .ty _ | constructor, (h1.2 H2 s2).2, h1.1, rfl, _, rfl, ?_⟩
        rw [decide_eq_true (show V.bl tb = V.bl tb from rfl)]
        refine iteF ?_
        refine ⟨_, rfl, a, xs, rfl, (sq H2 s2).1, _, rfl, b, ys, rfl, (sq H2 s2).2, rfl, _, rfl, ?_⟩
        rw [hl, decide_eq_true (show V.int (ys.length : Nat) = V.int (ys.length : Nat) from rfl)]
        refine iteF ?_
        refine ⟨_, rfl, b, ys, rfl, (sq H2 s2).2, (ys.length : Nat), rfl, by omega, by omega, fun D hD => ?_⟩
        have hD0 := s2.free hD
        refine lc_range (lo := 0) (n := ((ys.length : Nat) : Int).toNat) (fun j H3 => Same H H3 ∧ H3 D = some (.lst (([] : List Int).map V.int))) ⟨s2.trans (Same.new _ hD), upd_same⟩ ?_ ?_
        · rintro j H3 hj ⟨s3, hD3⟩
          rw [Int.zero_add]
          have hj : j < ys.length := by simpa using hj
          have ey : ys[j]? = some ys[j] := List.getElem?_eq_getElem hj
          have ex : xs[j]? = some xs[j] := List.getElem?_eq_getElem (by omega)
          have hr := hR j _ _ ex ey
          refine ⟨rfl, ?_⟩
          have fin : ∀ H4, Same H3 H4 → ∃ kk, V.bl true = .bl kk ∧ (if (!kk) = true then tVar 2 (wipe ([some (V.ref a), some (V.ref b), none] : L2.St) [2] |>.set 2 (some (V.int (j : Nat)))) H4 (fun y H5 => ∃ acc, H5 D = some (.lst acc) ∧ acc.length < sizeLine ∧ (Same H (upd H5 D (.lst (acc ++ [y]))) ∧ (upd H5 D (.lst (acc ++ [y]))) D = some (.lst (([] : List Int).map V.int)))) else (Same H H4 ∧ H4 D = some (.lst (([] : List Int).map V.int)))) := fun H4 s4 =>
            ⟨true, rfl, iteF ⟨s3.trans s4, s4 _ _ hD3⟩⟩
          have ia : ∀ {Q : VK}, Q xs[j] H3 → rIx K (.ref a) (.int (j : Nat)) H3 Q := fun {Q} hQ => by
            rcases (sq H3 s3).1 with h | h
            · exact .inl ⟨_, _, _, _, rfl, rfl, h, at_of (j := j) rfl ex, hQ⟩
            · exact .inr (.inl ⟨_, _, _, _, rfl, rfl, h, at_of (j := j) rfl ex, hQ⟩)
          have ib : ∀ {Q : VK}, Q ys[j] H3 → rIx K (.ref b) (.int (j : Nat)) H3 Q := fun {Q} hQ => by
            rcases (sq H3 s3).2 with h | h
            · exact .inl ⟨_, _, _, _, rfl, rfl, h, at_of (j := j) rfl ey, hQ⟩
            · exact .inr (.inl ⟨_, _, _, _, rfl, rfl, h, at_of (j := j) rfl ey, hQ⟩)
          refine ⟨_, rfl, _, rfl, ia ⟨_, rfl, _, rfl, ib ?_⟩⟩
          exact ⟨xs[j], ys[j], rfl, hr.same s3, fin⟩
        · rintro H3 ⟨s3, hD3⟩
          refine ⟨sm (by show 0 ≤ 1000; decide), fun q4 hq4 => ?_⟩
          have s4 := Same.new (HO.lst []) hq4
          refine eqNil (s4 _ _ hD3) upd_same ?_
          exact k _ (s3.trans s4)
end
end SH
set_option Elab.async false
set_option linter.all false
set_option maxRecDepth 100000
namespace SH
open PySem PySem.Spec PyProof.Rows L2 StX TL
/-! letters as data -/
def ltD (z : Lt) : PyData := .tuple (.str z.word :: z.nums.map PyData.int)
def bkD (zs : List Lt) : PyData := .list (zs.map ltD)
def bsD (zss : List (List Lt)) : PyData := .list (zss.map bkD)
theorem can_ints : ∀ ns : List Int, PyData.canLayAll0 (ns.map PyData.int) = true
  | [] => by simp [PyData.canLayAll0]
  | n :: ns => by simp [PyData.canLayAll0, PyData.canLay0, can_ints ns]
theorem dep_ints : ∀ ns : List Int, PyData.depthAll (ns.map PyData.int) = 0
  | [] => by simp [PyData.depthAll]
  | n :: ns => by simp [PyData.depthAll, PyData.depth, dep_ints ns]
theorem can_all {α : Type} {f : α → PyData} (h : ∀ a, (f a).canLay0 = true) : ∀ l : List α, PyData.canLayAll0 (l.map f) = true
  | [] => by simp [PyData.canLayAll0]
  | a :: l => by simp [PyData.canLayAll0, h a, can_all h l]
theorem dep_all {α : Type} {f : α → PyData} {n : Nat} (h : ∀ a, (f a).depth ≤ n) : ∀ l : List α, PyData.depthAll (l.map f) ≤ n
  | [] => by simp [PyData.depthAll]
  | a :: l => by
    have h1 := h a
    have h2 := dep_all h l
    rw [List.map_cons, PyData.depthAll]
    omega
theorem word_ok (z : Lt) : PyData.strOk z.word = true := by cases z <;> kernel_rfl
theorem lt_can (z : Lt) : (ltD z).canLay0 = true := by
  unfold ltD
  simp [PyData.canLay0, PyData.canLayAll0, word_ok z, can_ints]
theorem lt_dep (z : Lt) : (ltD z).depth ≤ 1 := by
  unfold ltD
  simp [PyData.depth, PyData.depthAll, dep_ints]
theorem bk_can (zs : List Lt) : (bkD zs).canLay0 = true := by
  unfold bkD
  rw [PyData.canLay0]; exact can_all lt_can zs
theorem bk_dep (zs : List Lt) : (bkD zs).depth ≤ 2 := by
  unfold bkD
  rw [PyData.depth]; have := dep_all lt_dep zs; omega
theorem bs_can (zss : List (List Lt)) : (bsD zss).canLay0 = true := by
  unfold bsD
  rw [PyData.canLay0]; exact can_all bk_can zss
theorem bs_dep (zss : List (List Lt)) : (bsD zss).depth ≤ 3 := by
  unfold bsD
  rw [PyData.depth]; have := dep_all bk_dep zss; omega
theorem bk_shaped (zs : List Lt) : SeqAt.shaped (bkD zs) = true := by
  unfold SeqAt.shaped
  rw [bk_can, decide_eq_true (by have := bk_dep zs; omega)]; rfl
theorem bs_shaped (zss : List (List Lt)) : SeqAt.shaped (bsD zss) = true := by
  unfold SeqAt.shaped
  rw [bs_can, decide_eq_true (by have := bs_dep zss; omega)]; rfl
theorem eqv_bkNil (zs : List Lt) : PyData.eqv (bkD zs) (.list []) = decide (zs = []) := by
  cases zs with
  | nil => rfl
  | cons z zs => rfl
theorem dp_row {K : PySem.W.Frag} {H : Hp} : ∀ {ts : List Addr} {zs : List Lt}, RowAt H ts zs → DpAll K H (ts.map V.ref) (zs.map ltD) := by
  intro ts zs h
  unfold RowAt at h
  induction h with
  | nil => exact .nil
  | cons a _ ih => exact .cons (.tup (SqT.of a) (.cons (.str _) (dp_ints _))) ih
theorem dp_books {K : PySem.W.Frag} {H : Hp} {cs : List (Addr × List Addr)} {zss : List (List Lt)} (h : Paired (BookAt H) cs zss) : DpAll K H (cs.map fun c => V.ref c.1) (zss.map bkD) := by
  induction h with
  | nil => exact .nil
  | cons a _ ih => exact .cons (.lst (SqL.of a.1) (dp_row a.2)) ih
/-! a row, word by word -/
def rowAcc (k : Nat) (z : Lt) (j : Nat) : Str := (z.nums.take j).foldl (fun s n => s ++ " " ++ nS n) (nS (k : Nat) ++ " " ++ z.word)
theorem tl_fold (ws : List Str) (s : Str) : tl (ws.foldl (fun (s w : Str) => s ++ " " ++ w) s) = tl s ++ (ws.map fun w => 32 :: tl w).flatten := by
  induction ws generalizing s with
  | nil => simp
  | cons w ws ih =>
    rw [List.foldl_cons, ih, tl_append, tl_append, tl_sp]
    simp
theorem joinL_fold (a : List Nat) (ps : List (List Nat)) : joinL [32] (a :: ps) = a ++ (ps.map fun p => 32 :: p).flatten := by
  induction ps generalizing a with
  | nil => simp [joinL]
  | cons p ps ih =>
    rw [joinL, ih]
    simp
theorem rowAcc_eq (k : Nat) (z : Lt) : rowAcc k z z.nums.length = rowS (k : Nat) z := by
  refine ext_tl ?_
  unfold rowAcc rowS wordsS
  rw [List.take_length, tl_joinT, tl_sp]
  have e : z.nums.foldl (fun s n => s ++ " " ++ nS n) (nS (k : Nat) ++ " " ++ z.word) = (z.word :: z.nums.map nS).foldl (fun (s w : Str) => s ++ " " ++ w) (nS (k : Nat)) := by
    rw [List.foldl_cons, List.foldl_map]
  rw [e, tl_fold]
  show _ = joinL [32] (tl (nS (k : Nat)) :: (z.word :: z.nums.map nS).map tl)
  rw [joinL_fold]
  refine congrArg (fun x => tl (nS (k : Nat)) ++ List.flatten x) ?_
  rw [List.map_map]; rfl
theorem rowAcc_succ {k : Nat} {z : Lt} {j : Nat} {n : Int} (h : z.nums[j]? = some n) : rowAcc k z (j + 1) = rowAcc k z j ++ " " ++ nS n := by
  unfold rowAcc
  rw [List.take_add_one, h, List.foldl_append]; rfl
theorem len_app (x y : Str) : (x ++ y).length = x.length + y.length := by
  rw [← len_tl, tl_append, List.length_append, len_tl, len_tl]
theorem sp_len : (" " : Str).length = 1 := by kernel_rfl
theorem rowAcc_len {k : Nat} {z : Lt} (hk : k ≤ 4) (hz : z.ok) : ∀ j, (rowAcc k z j).length ≤ 10 + 4 * j
  | 0 => by
    unfold rowAcc
    have h1 := num_short (mem41 (n := (k : Nat)) (by omega) (by omega))
    have h2 := word_short z
    show (nS (k : Nat) ++ " " ++ z.word).length ≤ _
    rw [len_app, len_app, sp_len]; omega
  | j + 1 => by
    have ih := rowAcc_len hk hz j
    cases e : z.nums[j]? with
    | none =>
      have hl := List.getElem?_eq_none_iff.mp e
      have : rowAcc k z (j + 1) = rowAcc k z j := by
        unfold rowAcc
        rw [List.take_of_length_le (by omega), List.take_of_length_le hl]
      rw [this]; omega
    | some n =>
      rw [rowAcc_succ e, len_app, len_app, sp_len]
      have h2 := Lt.num41 hz n (List.mem_of_getElem? e)
      have := num_short (mem41 h2.1 h2.2)
      omega
/-! the last client that told some -/
def manyL (zss : List (List Lt)) (j : Nat) : List Int := ((List.range j).filter fun k => !decide (zss.getD k [] = [])).map fun (k : Nat) => ((k : Nat) : Int) + 1
theorem many_trim {zss : List (List Lt)} {m : Int} (hm : m ∈ manyL zss zss.length ++ [0]) (hle : ∀ y ∈ manyL zss zss.length ++ [0], y ≤ m) : 0 ≤ m ∧ IsTrim zss m.toNat := by
  have h0 : (0 : Int) ≤ m := hle 0 (by simp)
  refine ⟨h0, ?_, fun i zs hi e => ?_, ?_⟩
  · rcases List.mem_append.mp hm with h | h
    · obtain ⟨k, hk, rfl⟩ := List.mem_map.mp h
      have := List.mem_range.mp (List.mem_filter.mp hk).1
      omega
    · rw [List.mem_singleton.mp h]; exact Nat.zero_le _
  · by_cases c : zs = []
    · exact c
    · exfalso
      have hil := (List.getElem?_eq_some_iff.mp e).1
      have : ((i : Nat) : Int) + 1 ∈ manyL zss zss.length ++ [0] := List.mem_append_left _ (List.mem_map.mpr ⟨i, List.mem_filter.mpr ⟨List.mem_range.mpr hil, by
        rw [List.getD_eq_getElem?_getD, e]; show (!decide (zs = [])) = true; rw [decide_eq_false c]; rfl⟩, rfl⟩)
      have := hle _ this
      omega
  · rcases List.mem_append.mp hm with h | h
    · obtain ⟨k, hk, rfl⟩ := List.mem_map.mp h
      obtain ⟨h1, h2⟩ := List.mem_filter.mp hk
      have h1 := List.mem_range.mp h1
      refine .inr ⟨zss[k], ?_, ?_⟩
      · have : (((k : Nat) : Int) + 1).toNat - 1 = k := by omega
        rw [this]; exact List.getElem?_eq_getElem h1
      · intro z
        rw [List.getD_eq_getElem?_getD, List.getElem?_eq_getElem h1] at h2
        have h2 : (!decide (zss[k] = [])) = true := h2
        rw [decide_eq_true z] at h2; cases h2
    · rw [List.mem_singleton.mp h]; exact .inl rfl
theorem rd_books {H : Hp} {a b : Addr} {cs cs' : List (Addr × List Addr)} {zss : List (List Lt)} (h : BooksAt H a cs zss) (h' : BooksAt H b cs' zss) (bo : BooksOk zss) : RD H 3 (.ref a) (.ref b) := by
  have l1 := paired_len h.2
  have l2 := paired_len h'.2
  have b1 := bo.1
  refine .inr ⟨a, b, _, _, rfl, rfl, .inr ⟨h.1, h'.1⟩, by rw [List.length_map, List.length_map, l1, l2], by rw [List.length_map, l2]; omega, fun i x y e1 e2 => ?_⟩
  obtain ⟨c, zs, ec, ez, rfl, bat⟩ := h.ix e1
  obtain ⟨c', zs', ec', ez', rfl, bat'⟩ := h'.ix e2
  rw [ez] at ez'
  obtain rfl := Option.some.inj ez'
  have m1 := paired_len bat.2
  have m2 := paired_len bat'.2
  have hz := bo.2 zs (List.mem_of_getElem? ez)
  refine .inr ⟨c.1, c'.1, _, _, rfl, rfl, .inr ⟨bat.1, bat'.1⟩, by rw [List.length_map, List.length_map, m1, m2], by rw [List.length_map, m2]; omega, fun j x y e1 e2 => ?_⟩
  obtain ⟨t, z, et, ez1, rfl, ht⟩ := bat.2.ix e1
  obtain ⟨t', z', et', ez2, rfl, ht'⟩ := bat'.2.ix e2
  rw [ez1] at ez2
  obtain rfl := Option.some.inj ez2
  refine .inr ⟨t, t', _, _, rfl, rfl, .inl ⟨ht, ht'⟩, rfl, ?_, fun q x y e1 e2 => ?_⟩
  · have := z.nlen
    unfold Lt.vals
    simp only [List.length_cons, List.length_map]; omega
  · rw [e1] at e2
    obtain rfl := Option.some.inj e2
    match q, e1 with
    | 0, e1 => exact .inr ⟨_, (Option.some.inj e1).symm, (Option.some.inj e1).symm⟩
    | q + 1, e1 =>
      have e1 : (z.nums.map V.int)[q]? = some x := e1
      rw [List.getElem?_map] at e1
      cases en : z.nums[q]? with
      | none => rw [en] at e1; cases e1
      | some n => rw [en] at e1; exact .inl ⟨n, (Option.some.inj e1).symm, (Option.some.inj e1).symm⟩
def kp (sp : Sp) : Sp := fun vs H Q E => sp vs H (fun v H' => KeepT H H' → Q v H') E
theorem books_of {H : Hp} {L : Cells} {D : Addr} {cs : List (Addr × List Addr)} {zss : List (List Lt)} (g : Has H (L ++ bkCells D cs)) (p : Paired (fun (c : Addr × List Addr) (zs : List Lt) => RowAt H c.2 zs) cs zss) : BooksAt H D cs zss := by
  refine ⟨g.get 0 rfl, ?_⟩
  have hc : ∀ c ∈ cs, H c.1 = some (.lst (c.2.map V.ref)) := fun c hc => g.mem (List.mem_append_right _ (List.mem_cons_of_mem _ (List.mem_map.mpr ⟨c, hc, rfl⟩)))
  clear g
  induction p with
  | nil => exact .nil
  | cons r _ ih => exact .cons ⟨hc _ List.mem_cons_self, r⟩ (ih fun c h => hc c (List.mem_cons_of_mem _ h))
end SH
set_option Elab.async false
set_option linter.all false
set_option maxRecDepth 100000
namespace SH
open PySem PySem.Spec PyProof.Rows L2 StX TL
abbrev sLaw : Stmt := top 30
section
variable {P : Program} {w : World} {K : PySem.W.Frag} {mg : Str → Option Value} {base : Heap}
abbrev nLaw : List Str := ["_law_script", "_law_h", "_law_turn", "_law_k", "_law_books", "_law_rows", "_law_letter_here", "_law_row", "_law_part", "_law_many", "_law_handed", "_law_text", "_law_book_here"]
theorem scLaw : FnScope nLaw ["_law_script"] (defScope sLaw) := ⟨rfl, rfl, rfl, by decide +kernel, rfl, by decide +kernel, by decide +kernel⟩
def spLaw : Sp := fun vs H Q _ => ∃ (a : Addr) (ns : List Int), vs = [.ref a] ∧ SqL K H a (ns.map V.int) ∧ ns.length ≤ 63 ∧ ∀ H', Q (.bl true) H'
set_option maxHeartbeats 0 in
theorem ok_law {f fM fN fB fWr fRe fA : Addr} {fd fdM fdN fdB fdWr fdRe fdA : FuncData} (F : Fun K "law" "law" sLaw f fd) (T : TxtP mg)
    (GM : FnOk P w K mg base CX0 1 fM fdM ["_law_script", "_law_seed"] (spMix (K := K))) (bM : Binds K fdM ["_law_script", "_law_seed"] []) (gM : mg "_law_mix" = some (.ref fM)) (kM : PySem.W.keepIn K (.ref fM) = true)
    (GN0 : FnOk P w K mg base CX0 1 fN fdN ["_law_h", "_law_many"] spNext) (bN : Binds K fdN ["_law_h", "_law_many"] []) (gN : mg "_law_next" = some (.ref fN)) (kN : PySem.W.keepIn K (.ref fN) = true)
    (GB : FnOk P w K mg base CX0 6 fB fdB ["_law_h", "_law_many"] spBook) (bB : Binds K fdB ["_law_h", "_law_many"] []) (gB : mg "_law_book" = some (.ref fB)) (kB : PySem.W.keepIn K (.ref fB) = true)
    (GWr : FnOk P w K mg base CX0 5 fWr fdWr ["books"] spWr) (bWr : Binds K fdWr ["books"] []) (gWr : mg "written" = some (.ref fWr)) (kWr : PySem.W.keepIn K (.ref fWr) = true)
    (GRe : FnOk P w K mg base CX0 4 fRe fdRe ["text"] spRead) (bRe : Binds K fdRe ["text"] []) (gRe : mg "read" = some (.ref fRe)) (kRe : PySem.W.keepIn K (.ref fRe) = true)
    (GA : FnOk P w K mg base CX0 4 fA fdA ["_law_found", "_law_due"] (spAlike 3)) (bA : Binds K fdA ["_law_found", "_law_due"] []) (gA : mg "_law_alike" = some (.ref fA)) (kA : PySem.W.keepIn K (.ref fA) = true) :
    FnOk P w K mg base CX0 7 f fd ["_law_script"] (spLaw (K := K)) := by
  have GN : FnOk P w K mg base CX0 1 fN fdN ["_law_h", "_law_many"] (kp spNext) := keep_t GN0
  refine F.ok scLaw (fun vs H Q E h => ?_) (fun cdv A0 outer s0 H vs Q E hr h => ?_)
  · obtain ⟨a, ns, rfl, _⟩ := h
    rfl
  · obtain ⟨sa, ns, rfl, hs, hnl, k⟩ := h
    refine ⟨_, (pss_cons (ps_set (i := 1) scLaw.nd rfl (Or.inr rfl) (pe_call GM (hr.mono (by decide)) rfl gM kM bM .nil pass0 (pa_cons (pv 0) (pa_cons pe_int pa_nil)))) (pss_cons (ps_for PassesOwn.never rfl (pi_range1 rfl T.range (pa_cons pe_int pa_nil)) (pg_name (i := 2) scLaw.nd rfl (Or.inl rfl)) (pss_cons (ps_set (i := 4) scLaw.nd rfl (Or.inr rfl) (pe_lc (own := [("_law_k", 3)]) (g := gName 3) (te := tCall spBook [] E0 (tCons (tVar 1) (tCons (tOp (rIxL K) (tLst (tCons (tC (.int 0)) (tCons (tC (.int 9)) (tCons (tC (.int 40)) tNil)))) (tCall (kp spNext) [] E0 (tCons (tVar 1) (tCons (tC (.int 3)) tNil)))) tNil))) (by rfl) scLaw.nd (pi_range1 rfl T.range (pa_cons (pe_call GN (hr.mono (by decide)) rfl gN kN bN .nil pass0 (pa_cons (pv 1) (pa_cons pe_int pa_nil))) pa_nil)) (blkOk_by (own := [("_law_k", 3)]) (N := nLaw) (sc := defScope sLaw) (by decide +kernel)) (fun _ _ _ _ _ => (pg_name (i := 3) scLaw.nd rfl (Or.inl rfl))) (fun _ _ _ _ _ => pts_nil) (fun _ _ _ _ _ => (pe_call GB hr rfl gB kB bB .nil pass0 (pa_cons (pv 1) (pa_cons (pe_ix ix_list (pe_lst (pa_cons pe_int (pa_cons pe_int (pa_cons pe_int pa_nil)))) (pe_call GN (hr.mono (by decide)) rfl gN kN bN .nil pass0 (pa_cons (pv 1) (pa_cons pe_int pa_nil))) (fun _ _ => rfl)) pa_nil)))))) (pss_cons (ps_set (i := 5) scLaw.nd rfl (Or.inl rfl) (pe_lst pa_nil)) (pss_cons (ps_for PassesOwn.never rfl (pi_range1 rfl T.range (pa_cons (pe_callB call_len_seq (by rfl) T.len PySem.boot_len (pa_cons (pv 4) pa_nil)) pa_nil)) (pg_name (i := 3) scLaw.nd rfl (Or.inl rfl)) (pss_one (ps_for PassesOwn.never rfl (pi_list (pe_ix ix_list (pv 4) (pv 3) (fun _ _ => rfl))) (pg_name (i := 6) scLaw.nd rfl (Or.inl rfl)) (pss_cons (ps_set (i := 7) scLaw.nd rfl (Or.inl rfl) (pe_op op_add_str (pe_op op_add_str (pe_callTy call_strA (by rfl) T.str (by decide +kernel) (pa_cons (pv 3) pa_nil)) pe_str) (pe_ix ix_tup (pv 6) pe_int (fun _ _ => rfl)))) (pss_cons (ps_for PassesOwn.never rfl (pi_tup (pe_slice sl_tupA (pv 6) (po_some pe_int) po_none)) (pg_name (i := 8) scLaw.nd rfl (Or.inl rfl)) (pss_one (ps_set (i := 7) scLaw.nd rfl (Or.inl rfl) (pe_op op_add_str (pe_op op_add_str (pv 7) pe_str) (pe_callTy call_strA (by rfl) T.str (by decide +kernel) (pa_cons (pv 8) pa_nil)))))) (pss_one (ps_expr (pe_bm PySem.F.plainAttrs_list PySem.F.slot_list_append PySem.F.type_list_append mt_append (pv 5) (pa_cons (pv 7) pa_nil))))))))) (pss_cons (ps_set (i := 9) scLaw.nd rfl (Or.inl rfl) (pe_callB (cr_max rfl) (by rfl) T.max (by decide +kernel) (pa_cons (pe_op op_cat (pe_lc (own := [("_law_k", 3)]) (g := gName 3) (te := tOp (rI0 fun i j => .int (i + j)) (tVar 3) (tC (.int 1))) (tt := tTest (tOp (rNeD K) (tOp (rIxL K) (tVar 4) (tVar 3)) (tLst tNil))) (by rfl) scLaw.nd (pi_range1 rfl T.range (pa_cons (pe_callB call_len_seq (by rfl) T.len PySem.boot_len (pa_cons (pv 4) pa_nil)) pa_nil)) (blkOk_by (own := [("_law_k", 3)]) (N := nLaw) (sc := defScope sLaw) (by decide +kernel)) (fun _ _ _ _ _ => (pg_name (i := 3) scLaw.nd rfl (Or.inl rfl))) (fun _ _ _ _ _ => pts_one (pt_cmpR (op_neD hr.units) (pe_ix ix_list (pv 4) (pv 3) (fun _ _ => rfl)) (pe_lst pa_nil) (nomark _))) (fun _ _ _ _ _ => (pe_op op_add (pv 3) pe_int))) (pe_lst (pa_cons pe_int pa_nil))) pa_nil))) (pss_cons (ps_setLc (i := 10) (own := [("_law_book_here", 12)]) (g := gName 12) (te := tCB (fun xs H Q => ∃ p ys, xs = [.ref p] ∧ (SqL K H p ys ∨ SqT K H p ys) ∧ ∀ l, H l = none → Q (.ref l) (upd H l (.lst ys))) (tCons (tVar 12) tNil)) (by rfl) scLaw.nd rfl rfl (sw_true rfl rfl rfl (by decide +kernel)) (pi_list (pv 4)) (blkOk_by (own := [("_law_book_here", 12)]) (N := nLaw) (sc := defScope sLaw) (by decide +kernel)) (fun _ _ _ _ _ => (pg_name (i := 12) scLaw.nd rfl (Or.inl rfl))) (fun _ _ _ _ _ => pts_nil) (fun _ _ _ _ _ => (pe_callTy call_list_of (by rfl) T.list (show bootBuiltins "list" = some (.type "list") by decide +kernel) (pa_cons (pv 12) pa_nil)))) (pss_cons (ps_set (i := 11) scLaw.nd rfl (Or.inl rfl) (pe_join pe_str (pv 5))) (pss_cons (ps_if (PW.pt (pw_or (pt_not (pt_val (pe_call GA (hr.mono (by decide)) rfl gA kA bA .nil pass0 (pa_cons (pe_call GWr (hr.mono (by decide)) rfl gWr kWr bWr .nil pass0 (pa_cons (pv 10) pa_nil)) (pa_cons (pv 11) pa_nil))))) (pw_or (pt_cmpR (op_neD hr.units) (pv 10) (pv 4) (nomark _)) (pw_or1 (pt_not (pt_val (pe_call GA (hr.mono (by decide)) rfl gA kA bA .nil pass0 (pa_cons (pe_call GRe (hr.mono (by decide)) rfl gRe kRe bRe .nil pass0 (pa_cons (pv 11) pa_nil)) (pa_cons (pe_slice sl_list (pv 4) po_none (po_some (pv 9))) pa_nil))))))))) (pss_one (ps_ret pe_bl)) pss_nil) (pss_one (ps_expr (pe_bm PySem.F.plainAttrs_list PySem.F.slot_list_append PySem.F.type_list_append mt_append (pe_call GRe (hr.mono (by decide)) rfl gRe kRe bRe .nil pass0 (pa_cons (pv 11) pa_nil)) (pa_cons pe_int pa_nil)))))))))))) (pss_one (ps_ret pe_bl)))), ?_⟩
    have sm : ∀ {n : Nat}, n ≤ 1000 → n ≤ sizeLine := small
    refine ⟨_, rfl, sa, ns, 61, rfl, hs, hnl, by decide, by decide, fun m0 H0 om0 g0 => ?_⟩
    refine ⟨4, rfl, by decide, by decide, ?_⟩
    refine for_range (lo := 0) (n := (4 : Int).toNat) (fun i σ H1 => ∃ v2 v3 v4 v5 v6 v7 v8 v9 v10 v11 m, σ = [some (.ref sa), some (.ref m0.a), v2, v3, v4, v5, v6, v7, v8, v9, v10, v11, none] ∧ m.a = m0.a ∧ MixOk m ∧ Has H1 (mixCells m)) ⟨none, none, none, none, none, none, none, none, none, none, m0, rfl, rfl, om0, g0⟩ ?_ ?_
    · rintro turn σ H1 hturn ⟨v2, v3, v4, v5, v6, v7, v8, v9, v10, v11, m, rfl, e0, om, g⟩
      generalize hT0 : (0 : Int) + ((turn : Nat) : Int) = tv
      have g : Has H1 ([] ++ (mixCells m ++ [])) := by simpa using g
      refine ⟨_, rfl, [], [], m, 6, congrArg (fun x => [V.ref x, V.int 6]) e0.symm, g, om, by decide, by decide, fun r1 m1 H2 ra1 rb1 f1 om1 g1 k1 => ?_⟩
      have e1 := f1.trans e0
      refine ⟨r1, rfl, by omega, by omega, fun D hD => ?_⟩
      refine lc_range (lo := 0) (n := r1.toNat) (fun i H3 => ∃ m3 cs zss, m3.a = m0.a ∧ MixOk m3 ∧ Has H3 (mixCells m3 ++ bkCells D cs) ∧ Paired (fun (c : Addr × List Addr) (zs : List Lt) => RowAt H3 c.2 zs) cs zss ∧ zss.length = i ∧ ∀ zs ∈ zss, zs.length ≤ 900 ∧ ∀ z ∈ zs, z.ok)
        ⟨m1, [], [], e1, om1, Has.new (T := []) (by simpa using g1) hD _, .nil, rfl, fun _ h => (by cases h)⟩ ?_ ?_
      · rintro i H3 hi ⟨m3, cs, zss, e3, om3, g3, R3, hl3, hz3⟩
        refine ⟨rfl, _, rfl, sm (by show 3 ≤ 1000; decide), fun l hl => ?_⟩
        have g3 := Has.cons g3 hl (.lst [.int 0, .int 9, .int 40])
        have kl := KeepT.same (Same.new (HO.lst [V.int 0, .int 9, .int 40]) hl)
        refine ⟨_, rfl, [(l, _)], bkCells D cs, m3, 3, congrArg (fun x => [V.ref x, V.int 3]) e3.symm, g3, om3, by decide, by decide, fun r4 m4 H4 ra4 rb4 f4 om4 g4 k4 => ?_⟩
        have e4 := f4.trans e3
        obtain ⟨v, hv, va, vb⟩ := pick3 (a := 0) (b := 9) (c := 40) (lo := 0) (hi := 40) ra4 rb4 (by decide) (by decide) (by decide)
        refine ⟨l, _, _, V.int v, rfl, rfl, SqL.of (Has.get (A := []) g4 0 rfl), at_of (j := r4.toNat) (by omega) hv, ?_⟩
        refine ⟨[(l, _)], bkCells D cs, m4, v, congrArg (fun x => [V.ref x, V.int v]) e4.symm, g4, om4, va, by omega, fun fl ts zs m5 H5 f5 om5 g5 R5 hz5 hl5 k5 => ?_⟩
        have e5 := f5.trans e4
        have g5 : Has H5 (mixCells m5 ++ ((fl, HO.lst (ts.map V.ref)) :: bkCells D cs)) := Has.tail g5
        have hD5 : H5 D = some (.lst (cs.map fun c => V.ref c.1)) := g5.get 1 rfl
        have hcl := paired_len R3
        have g6 := g5.set 1 (o := .lst (cs.map fun c => V.ref c.1)) rfl (.lst (cs.map (fun c => V.ref c.1) ++ [V.ref fl]))
        have kD : KeepT H5 (upd H5 D (.lst (cs.map (fun c => V.ref c.1) ++ [V.ref fl]))) := upd_tup fun xs e => by rw [hD5] at e; cases e
        refine ⟨_, hD5, by rw [List.length_map, hcl, hl3]; exact small1000 (by omega), m5, cs ++ [(fl, ts)], zss ++ [zs], e5, om5, ?_, ?_, by rw [List.length_append, hl3]; rfl, ?_⟩
        · refine g6.perm (List.Perm.append_left _ ?_)
          show ((fl, HO.lst (ts.map V.ref)) :: (D, HO.lst (cs.map (fun c => V.ref c.1) ++ [V.ref fl])) :: cs.map fun c => (c.1, HO.lst (c.2.map V.ref))).Perm (bkCells D (cs ++ [(fl, ts)]))
          unfold bkCells
          rw [List.map_append, List.map_append]
          exact (List.Perm.swap _ _ _).trans ((List.perm_append_comm (l₁ := [(fl, HO.lst (ts.map V.ref))])).cons _)
        · exact paired_snoc (Paired.mapP R3 fun _ _ e => (((e.keep kl).keep k4).keep k5).keep kD) (R5.keep kD)
        · intro y hy
          rcases List.mem_append.mp hy with h | h
          · exact hz3 y h
          · rw [List.mem_singleton.mp h]; exact ⟨hl5, hz5⟩
      · rintro H3 ⟨m3, cs, zss, e3, om3, g3, R3, hl3, hz3⟩
        have bo : BooksOk zss := ⟨by omega, hz3⟩
        have hb := books_of g3 R3
        have gm : Has H3 (mixCells m3) := g3.sub (List.sublist_append_left _ _)
        have hcl := paired_len R3
        have hc5 : cs.length ≤ 5 := by rw [hcl]; exact bo.1
        clear g3 g1
        have hbat : ∀ {i : Nat}, i < cs.length → ∃ c zs, (cs.map fun c => V.ref c.1)[i]? = some (V.ref c.1) ∧ zss[i]? = some zs ∧ BookAt H3 c zs := fun {i} hi => by
          obtain ⟨c, zs, q1, q2, _, q4⟩ := hb.ix (i := i) (v := V.ref cs[i].1) (by rw [List.getElem?_map, List.getElem?_eq_getElem hi]; rfl)
          exact ⟨c, zs, by rw [List.getElem?_map, q1]; rfl, q2, q4⟩
        refine ⟨sm (by show 0 ≤ 1000; decide), fun rl hrl => ?_⟩
        refine ⟨_, rfl, D, _, rfl, .inl (SqL.of ((Same.new _ hrl) _ _ hb.1)), _, rfl, by omega, by rw [List.length_map]; omega, ?_⟩
        refine for_range (lo := 0) (n := (((cs.map fun c => V.ref c.1).length : Nat) : Int).toNat) (fun i σ H4 => ∃ v3 v6 v7 v8, σ = [some (.ref sa), some (.ref m0.a), some (.int tv), v3, some (.ref D), some (.ref rl), v6, v7, v8, v9, v10, v11, none] ∧ Same H3 H4 ∧ H4 rl = some (.lst ((rowsFrom 0 (zss.take i)).map V.str)))
          ⟨_, _, _, _, rfl, Same.new _ hrl, upd_same⟩ ?_ ?_
        · rintro i σ H4 hi ⟨v3, v6, v7, v8, rfl, s4, hr4⟩
          rw [Int.zero_add]
          have hi : i < cs.length := by simpa using hi
          obtain ⟨c, zs, ec, ez, bat⟩ := hbat hi
          have hzs := hz3 zs (List.mem_of_getElem? ez)
          have htk : zss.take (i + 1) = zss.take i ++ [zs] := by rw [List.take_add_one, ez]; rfl
          have hit : (zss.take i).length = i := by rw [List.length_take]; omega
          refine ⟨_, rfl, _, rfl, _, _, _, V.ref c.1, rfl, rfl, SqL.of (s4 _ _ hb.1), at_of (j := i) rfl ec, c.1, rfl, ⟨_, SqL.of (s4 _ _ bat.1)⟩, ?_⟩
          refine for_list (K := K) (a := c.1) (xs := c.2.map V.ref) (fun j σ H5 => ∃ v6 v7 v8, σ = [some (.ref sa), some (.ref m0.a), some (.int tv), some (.int (i : Nat)), some (.ref D), some (.ref rl), v6, v7, v8, v9, v10, v11, none] ∧ Same H3 H5 ∧ H5 rl = some (.lst ((rowsFrom 0 (zss.take i) ++ (zs.take j).map (rowS (i : Nat))).map V.str)))
            ⟨_, _, _, rfl, s4, by rw [List.take_zero, List.map_nil, List.append_nil]; exact hr4⟩ (fun j σ H5 _ ⟨_, _, _, _, s, _⟩ => SqL.of (s _ _ bat.1)) ?_ ?_
          · rintro j x σ H5 hx ⟨v6, v7, v8, rfl, s5, hr5⟩
            obtain ⟨t, z, et, ez2, rfl, ht3⟩ := bat.2.ix hx
            have hz := hzs.2 z (List.mem_of_getElem? ez2)
            have ht := s5 _ _ ht3
            have l0 := num_short (mem41 (n := (i : Nat)) (by omega) (by omega))
            have l1 := word_short z
            have lsp := sp_len
            refine ⟨_, rfl, .inl ⟨_, rfl, log41 (by omega) (by omega), _, _, rfl, rfl, sm (by show (nS (i : Nat)).length + (" " : Str).length ≤ 1000; omega), _, rfl, _, _, _, V.str z.word, rfl, rfl, SqT.of ht, at_of (j := 0) rfl rfl, _, _, rfl, rfl, sm (by show (nS (i : Nat) ++ " ").length + z.word.length ≤ 1000; rw [len_app]; omega), ?_⟩⟩
            refine ⟨_, rfl, _, rfl, ?_⟩
            refine slN_mk ht fun tp H6 s6 htp => ?_
            have htp : H6 tp = some (.tup (z.nums.map V.int)) := by rw [htp, show (1 : Int) = ((1 : Nat) : Int) from rfl, cut_drop]; rfl
            refine ⟨tp, rfl, ⟨_, SqT.of htp⟩, ?_⟩
            refine for_tup (K := K) (a := tp) (xs := z.nums.map V.int) (fun a σ H7 => ∃ v8, σ = [some (.ref sa), some (.ref m0.a), some (.int tv), some (.int (i : Nat)), some (.ref D), some (.ref rl), some (.ref t), some (.str (rowAcc i z a)), v8, v9, v10, v11, none] ∧ Same H6 H7)
              ⟨_, rfl, Same.refl H6⟩ (fun a σ H7 _ ⟨_, _, s⟩ => SqT.of (s _ _ htp)) ?_ ?_
            · rintro a y σ H7 hy ⟨v8, rfl, s7⟩
              rw [List.getElem?_map] at hy
              cases en : z.nums[a]? with
              | none => rw [en] at hy; cases hy
              | some n =>
                rw [en] at hy
                obtain rfl : V.int n = y := Option.some.inj hy
                have hn := Lt.num41 hz n (List.mem_of_getElem? en)
                have la := rowAcc_len (k := i) (by omega) hz a
                have lb := num_short (mem41 hn.1 hn.2)
                have hal := (List.getElem?_eq_some_iff.mp en).1
                have hz6 := z.nlen
                refine ⟨_, rfl, _, _, rfl, rfl, sm (by rw [lsp]; omega), _, rfl, .inl ⟨n, rfl, log41 hn.1 hn.2, _, _, rfl, rfl, sm (by show (rowAcc i z a ++ " ").length + (nS n).length ≤ 1000; rw [len_app]; omega), ?_⟩⟩
                refine ⟨some (.int n), ?_, s7⟩
                rw [rowAcc_succ en]; rfl
            · rintro σ H7 ⟨v8, rfl, s7⟩
              rw [List.length_map, rowAcc_eq]
              have s8 := s6.trans s7
              have hr7 := s8 _ _ hr5
              refine ⟨_, rfl, .inl ⟨rfl, _, SqL.of hr7⟩, _, rfl, rl, _, _, rfl, rfl, hr7, ?_, ?_⟩
              · rw [List.length_map, List.length_append, List.length_map]
                have h1 := rowsFrom_len (k := 0) (l := zss.take i) fun y hy => (hz3 y (List.mem_of_mem_take hy)).1
                have h2 : (zs.take j).length ≤ 900 := by rw [List.length_take]; omega
                have h4 := Nat.mul_le_mul_left 900 (show (zss.take i).length ≤ 5 by omega)
                rw [sizeLine_eq]; omega
              · refine ⟨_, _, _, rfl, Same.mut _ (s5.trans s8) hrl, ?_⟩
                rw [upd_same, List.take_add_one, ez2]
                simp
          · rintro σ H5 ⟨v6, v7, v8, rfl, s5, hr5⟩
            refine ⟨_, _, _, _, rfl, s5, ?_⟩
            rw [hr5, htk, rowsFrom_app, hit, Nat.zero_add, List.length_map, paired_len bat.2, List.take_length]
        · rintro σ H4 ⟨v3, v6, v7, v8, rfl, s4, hr4⟩
          have hn4 : (((cs.map fun c => V.ref c.1).length : Nat) : Int).toNat = zss.length := by rw [List.length_map, hcl]; omega
          rw [hn4, List.take_length] at hr4
          -- many
          have hb4 := hb.same s4
          refine ⟨_, rfl, D, _, rfl, .inl (SqL.of hb4.1), _, rfl, by omega, by rw [List.length_map]; omega, fun D2 hD2 => ?_⟩
          refine lc_range (lo := 0) (n := (((cs.map fun c => V.ref c.1).length : Nat) : Int).toNat) (fun j H5 => Same H4 H5 ∧ H5 D2 = some (.lst ((manyL zss j).map V.int))) ⟨Same.new _ hD2, upd_same⟩ ?_ ?_
          · rintro j H5 hj ⟨s5, hD5⟩
            rw [Int.zero_add]
            have hj : j < cs.length := by simpa using hj
            obtain ⟨c, zs, ec, ez, bat⟩ := hbat hj
            have s35 := s4.trans s5
            refine ⟨rfl, _, rfl, _, rfl, _, _, _, V.ref c.1, rfl, rfl, SqL.of (s35 _ _ hb.1), at_of (j := j) rfl ec, sm (by show 0 ≤ 1000; decide), fun q hq => ?_⟩
            have s6 := Same.new (HO.lst []) hq
            have bat6 := (bat.same s35).same s6
            refine ⟨bkD zs, .list [], .lst (SqL.of bat6.1) (dp_row bat6.2), .lst (SqL.of upd_same) .nil, bk_shaped zs, PySem.W.ke_shaped_ints [], _, rfl, ?_⟩
            rw [eqv_bkNil]
            have egd : zss.getD j [] = zs := by rw [List.getD_eq_getElem?_getD, ez]; rfl
            have esucc : manyL zss (j + 1) = manyL zss j ++ (if (!decide (zs = [])) = true then [((j : Nat) : Int) + 1] else []) := by
              unfold manyL
              rw [List.range_succ, List.filter_append, List.map_append]
              congr 1
              simp only [List.filter_cons, List.filter_nil, egd]
              split <;> rfl
            rw [esucc]
            cases c0 : (!decide (zs = [])) with
            | true =>
              refine iteT ?_
              refine ⟨_, rfl, _, _, rfl, rfl, _, s6 _ _ hD5, ?_, Same.mut _ (s5.trans s6) hD2, ?_⟩
              · rw [List.length_map]
                have : (manyL zss j).length ≤ j := by
                  unfold manyL
                  rw [List.length_map]
                  refine Nat.le_trans (List.length_filter_le _ _) ?_
                  rw [List.length_range]; exact Nat.le_refl _
                exact small1000 (by omega)
              · rw [upd_same, if_pos rfl, List.map_append]; rfl
            | false =>
              refine iteF ⟨s5.trans s6, ?_⟩
              rw [if_neg Bool.false_ne_true, List.append_nil]
              exact s6 _ _ hD5
          · rintro H5 ⟨s5, hD5⟩
            rw [hn4] at hD5
            have hml : (manyL zss zss.length).length ≤ 5 := by
              unfold manyL
              rw [List.length_map]
              refine Nat.le_trans (List.length_filter_le _ _) ?_
              rw [List.length_range]; exact bo.1
            refine ⟨sm (by show 1 ≤ 1000; decide), fun q hq => ?_⟩
            have s6 := Same.new (HO.lst [V.int 0]) hq
            refine ⟨D2, q, _, _, rfl, rfl, s6 _ _ hD5, upd_same, sm (by rw [List.length_map]; show _ + 1 ≤ 1000; omega), fun p hp => ?_⟩
            have s7 := Same.new (HO.lst ((manyL zss zss.length).map V.int ++ [V.int 0])) hp
            have hp7 : upd (upd H5 q (.lst [V.int 0])) p (.lst ((manyL zss zss.length).map V.int ++ [V.int 0])) p = some (.lst ((manyL zss zss.length ++ [0]).map V.int)) := by rw [upd_same, List.map_append]; rfl
            have s47 := s4.trans (s5.trans (s6.trans s7))
            have hr7 := (s5.trans (s6.trans s7)) _ _ hr4
            generalize upd (upd H5 q (.lst [V.int 0])) p (.lst ((manyL zss zss.length).map V.int ++ [V.int 0])) = H7 at hp7 s47 hr7
            refine ⟨p, manyL zss zss.length ++ [0], rfl, SqL.of hp7, by simp, fun mx hmx hle => ?_⟩
            obtain ⟨mx0, trim⟩ := many_trim hmx hle
            obtain ⟨mt, rfl⟩ := Int.eq_ofNat_of_zero_le mx0
            rw [Int.toNat_natCast] at trim
            have etrim := bk_trim trim
            -- handed
            have hb7 := hb.same s47
            refine ⟨_, rfl, D, rfl, ⟨_, SqL.of hb7.1⟩, fun D3 hD3 => ?_⟩
            refine lc_list (K := K) (a := D) (xs := cs.map fun c => V.ref c.1) (fun j H8 => Same H7 H8 ∧ ∃ cs3 : List (Addr × List Addr), H8 D3 = some (.lst (cs3.map fun c => V.ref c.1)) ∧ Paired (BookAt H8) cs3 (zss.take j) ∧ ∀ c ∈ cs3, c.1 ≠ D3) ⟨Same.new _ hD3, [], upd_same, .nil, fun _ h => (by cases h)⟩ (fun j H8 _ p => SqL.of (p.1 _ _ hb7.1)) ?_ ?_
            · rintro j x H8 hx ⟨s8, cs3, hD8, P8, ne8⟩
              obtain ⟨c, zs, ec, ez, rfl, bat⟩ := hb7.ix hx
              have bat8 := bat.same s8
              refine ⟨rfl, _, rfl, c.1, _, rfl, .inl (SqL.of bat8.1), fun l hl => ?_⟩
              have s9 := Same.new (HO.lst (c.2.map V.ref)) hl
              have hD9 := s9 _ _ hD8
              have hll := paired_len P8
              refine ⟨_, hD9, ?_, Same.mut _ (s8.trans s9) hD3, cs3 ++ [(l, c.2)], by rw [upd_same, List.map_append]; rfl, ?_, ?_⟩
              · rw [List.length_map, hll, List.length_take]
                have := bo.1
                exact small1000 (by omega)
              · have nl : l ≠ D3 := fun z => by rw [z] at hl; rw [hl] at hD8; cases hD8
                have kD : KeepT (upd H8 l (.lst (c.2.map V.ref))) (upd (upd H8 l (.lst (c.2.map V.ref))) D3 (.lst (cs3.map (fun c => V.ref c.1) ++ [V.ref l]))) := upd_tup fun xs e => by rw [hD9] at e; cases e
                rw [List.take_add_one, ez]
                refine paired_snoc ?_ ⟨by rw [upd_ne nl]; exact upd_same, ((bat8.same s9).2).keep kD⟩
                have gen : ∀ {as : List (Addr × List Addr)} {bs : List (List Lt)}, (∀ c ∈ as, c.1 ≠ D3) → Paired (BookAt H8) as bs → Paired (BookAt (upd (upd H8 l (.lst (c.2.map V.ref))) D3 (.lst (cs3.map (fun c => V.ref c.1) ++ [V.ref l])))) as bs := by
                  intro as bs hn p
                  induction p with
                  | nil => exact .nil
                  | cons r _ ih => exact .cons ⟨by rw [upd_ne (hn _ List.mem_cons_self)]; exact s9 _ _ r.1, ((r.same s9).2).keep kD⟩ (ih fun c h => hn c (List.mem_cons_of_mem _ h))
                exact gen ne8 P8
              · intro c' hc'
                rcases List.mem_append.mp hc' with h | h
                · exact ne8 c' h
                · rw [List.mem_singleton.mp h]
                  intro z
                  have z : l = D3 := z
                  rw [z] at hl; rw [hl] at hD8; cases hD8
            · rintro H8 ⟨s8, cs3, hD8, P8, ne8⟩
              rw [List.length_map, hcl, List.take_length] at P8
              have hb8 : BooksAt H8 D3 cs3 zss := ⟨hD8, P8⟩
              have s38 := s47.trans s8
              have hr8 := s8 _ _ hr7
              refine ⟨⟨_, rfl⟩, _, rfl, _, rl, _, rfl, rfl, .inl (SqL.of hr8), ?_, ?_⟩
              · have h0 := rows_short (k := 0) (l := zss) (by have := bo.1; omega) fun y hy => (bo.2 y hy).2
                have h1 := sum_short _ h0
                have h2 := rowsFrom_len (k := 0) (l := zss) fun y hy => (bo.2 y hy).1
                have h3 := Nat.mul_le_mul_left 900 bo.1
                have h4 : ("\n" : Str).length = 1 := by kernel_rfl
                rw [h4]; omega
              -- the tests
              refine ⟨_, rfl, D3, cs3, zss, rfl, hb8, bo, fun H9 s9 => ?_⟩
              refine ⟨_, rfl, V.str (textB zss), V.str (textB zss), rfl, .inl (.inr ⟨_, rfl, rfl⟩), fun H10 s10 => ⟨_, rfl, iteF ?_⟩⟩
              have sA := s9.trans s10
              have hb10 := hb8.same sA
              have hbo10 := hb.same (s38.trans sA)
              refine ⟨_, rfl, _, rfl, bsD zss, bsD zss, .lst (SqL.of hb10.1) (dp_books hb10.2), .lst (SqL.of hbo10.1) (dp_books hbo10.2), bs_shaped zss, bs_shaped zss, _, rfl, ?_⟩
              rw [show PyData.eqv (bsD zss) (bsD zss) = true from SeqAt.eqv_refl (bsD zss) (bs_can zss)]
              refine iteF ?_
              refine ⟨_, rfl, zss, rfl, bo, fun ba cs4 H11 s11 hba hb11 => ?_⟩
              rw [etrim] at hb11
              have s311 := s38.trans (sA.trans s11)
              have hbo11 := hb.same s311
              refine ⟨_, rfl, _, rfl, _, rfl, D, _, rfl, SqL.of hbo11.1, fun q2 hq2 => ?_⟩
              rw [cut_take]
              have s12 := Same.new (HO.lst ((cs.map fun c => V.ref c.1).take mt)) hq2
              have hq12 : upd H11 q2 (.lst ((cs.map fun c => V.ref c.1).take mt)) q2 = some (.lst (((cs.take mt).map fun c => V.ref c.1))) := by rw [upd_same, List.map_take]
              generalize upd H11 q2 (.lst ((cs.map fun c => V.ref c.1).take mt)) = H12 at s12 hq12
              have hb12 := hb11.same s12
              have hbo12 := hbo11.same s12
              have ptake : ∀ {as : List (Addr × List Addr)} {bs : List (List Lt)} (n : Nat), Paired (BookAt H12) as bs → Paired (BookAt H12) (as.take n) (bs.take n) := by
                intro as bs n p
                induction p generalizing n with
                | nil => simp; exact .nil
                | cons r _ ih =>
                  cases n with
                  | zero => exact .nil
                  | succ n => exact .cons r (ih n)
              have bot : BooksOk (zss.take mt) := ⟨by rw [List.length_take]; have := bo.1; omega, fun y hy => bo.2 y (List.mem_of_mem_take hy)⟩
              refine ⟨V.ref ba, V.ref q2, rfl, rd_books hb12 ⟨hq12, ptake mt hbo12.2⟩ bot, fun H13 s13 => ⟨_, rfl, iteF ?_⟩⟩
              have s313 := s311.trans (s12.trans s13)
              refine ⟨_, rfl, zss, rfl, bo, fun ba2 cs5 H14 s14 hba2 hb14 => ?_⟩
              refine ⟨.inl ⟨rfl, _, SqL.of hb14.1⟩, ba2, _, _, rfl, rfl, hb14.1, ?_, ?_⟩
              · rw [List.length_map, paired_len hb14.2, etrim]
                have := bot.1
                exact small1000 (by omega)
              · have sF := Same.mut (.lst (cs5.map (fun c => V.ref c.1) ++ [V.int 0])) s14 hba2
                exact ⟨_, _, _, _, _, _, _, _, _, _, m3, rfl, e3, om3, (gm.same s313).same sF⟩
    · rintro σ H1 _
      exact k H1
end
end SH
set_option Elab.async false
set_option linter.all false
set_option maxRecDepth 100000
namespace SH
open PySem PySem.Spec PyProof.Rows L2
/-! the written bounds -/
def pairB (K : PySem.W.Frag) (t : Addr) (p : Int × Int) : Bool := match K.lookup t with
  | some ⟨.type c, _, .seq its _, _⟩ => decide (c = "tuple") && (decide (its.size ≤ sizeLine) && He.relAll [.int p.1, .int p.2] its.toList)
  | _ => false
def pairsB (K : PySem.W.Frag) : List Value → List (Int × Int) → Bool
  | [], [] => true
  | .ref t :: us, p :: ps => pairB K t p && pairsB K us ps
  | _, _ => false
def bndB (K : PySem.W.Frag) (tb : Addr) (l : List (Int × Int)) : Bool := match K.lookup tb with
  | some ⟨.type c, _, .seq its _, _⟩ => decide (c = "tuple") && (decide (its.size ≤ sizeLine) && pairsB K its.toList l)
  | _ => false
theorem pairB_ok {K : PySem.W.Frag} {t : Addr} {p : Int × Int} (h : pairB K t p = true) : KTup K t [.int p.1, .int p.2] := by
  unfold pairB at h
  cases q : K.lookup t with
  | none => rw [q] at h; cases h
  | some o =>
    obtain ⟨oc, od, dt, osl⟩ := o
    rw [q] at h
    cases oc with
    | type c =>
      cases dt with
      | seq its n =>
        obtain ⟨h1, h2⟩ := He.ba (show (decide (c = "tuple") && (decide (its.size ≤ sizeLine) && He.relAll [.int p.1, .int p.2] its.toList)) = true from h)
        obtain ⟨h3, h4⟩ := He.ba h2
        exact ⟨_, its, n, q, congrArg Value.type (of_decide_eq_true h1), rfl, of_decide_eq_true h3, He.relAll_ok h4⟩
      | _ => cases h
    | _ => cases dt <;> cases h
theorem pairsB_ok {K : PySem.W.Frag} : ∀ {us : List Value} {l : List (Int × Int)}, pairsB K us l = true → ∃ ts : List Addr, Vals (ts.map V.ref) us ∧ Paired (fun (t : Addr) (p : Int × Int) => KTup K t [.int p.1, .int p.2]) ts l
  | [], [], _ => ⟨[], .nil, .nil⟩
  | [], _ :: _, h => by cases h
  | u :: _, [], h => by cases u <;> cases h
  | u :: us, p :: ps, h => by
    cases u with
    | ref t =>
      obtain ⟨h1, h2⟩ := He.ba (show (pairB K t p && pairsB K us ps) = true from h)
      obtain ⟨ts, v, pp⟩ := pairsB_ok h2
      exact ⟨t :: ts, .cons rfl v, .cons (pairB_ok h1) pp⟩
    | _ => cases h
theorem bndB_ok {K : PySem.W.Frag} {tb : Addr} {l : List (Int × Int)} (h : bndB K tb l = true) : KB K tb l := by
  unfold bndB at h
  cases q : K.lookup tb with
  | none => rw [q] at h; cases h
  | some o =>
    obtain ⟨oc, od, dt, osl⟩ := o
    rw [q] at h
    cases oc with
    | type c =>
      cases dt with
      | seq its n =>
        obtain ⟨h1, h2⟩ := He.ba (show (decide (c = "tuple") && (decide (its.size ≤ sizeLine) && pairsB K its.toList l)) = true from h)
        obtain ⟨h3, h4⟩ := He.ba h2
        obtain ⟨ts, v, pp⟩ := pairsB_ok h4
        exact ⟨ts, ⟨_, its, n, q, congrArg Value.type (of_decide_eq_true h1), rfl, of_decide_eq_true h3, v⟩, pp⟩
      | _ => cases h
    | _ => cases dt <;> cases h
def wordsL : List Str := ["make", "drop", "size", "paint", "place", "rank", "veil", "unveil", "tie", "show", "hold", "let"]
def sampL : List Lt := [.make 0, .drop 0, .size 0 0 0, .paint 0 0 0 0 0 0, .place 0 0 0, .rank 0 0, .veil 0, .unveil 0, .tie 0 0, .show 0, .hold 0, .let_]
def letB (K : PySem.W.Frag) (d : Addr) (z : Lt) : Bool := match PySem.W.nsIn K d z.word with
  | some (some (.ref tb)) => bndB K tb z.bnds
  | _ => false
def lettersB (K : PySem.W.Frag) : Bool := sampL.all fun z => letB K (He.ga K "LETTERS") z
theorem letB_ok {K : PySem.W.Frag} {d : Addr} {z : Lt} (h : letB K d z = true) : ∃ tb, PySem.W.nsIn K d z.word = some (some (.ref tb)) ∧ KB K tb z.bnds := by
  unfold letB at h
  cases q : PySem.W.nsIn K d z.word with
  | none => rw [q] at h; cases h
  | some r =>
    rw [q] at h
    cases r with
    | none => cases h
    | some u =>
      cases u with
      | ref tb => exact ⟨tb, rfl, bndB_ok h⟩
      | _ => cases h
theorem lettersB_ok {K : PySem.W.Frag} (h : lettersB K = true) (z : Lt) : ∃ tb, PySem.W.nsIn K (He.ga K "LETTERS") z.word = some (some (.ref tb)) ∧ KB K tb z.bnds := by
  have g : ∀ y ∈ sampL, letB K (He.ga K "LETTERS") y = true := List.all_eq_true.mp h
  cases z with
  | make n => exact letB_ok (g (.make 0) (by decide))
  | drop n => exact letB_ok (g (.drop 0) (by decide))
  | size n a b => exact letB_ok (g (.size 0 0 0) (by decide))
  | paint n a b c d e => exact letB_ok (g (.paint 0 0 0 0 0 0) (by decide))
  | place n a b => exact letB_ok (g (.place 0 0 0) (by decide))
  | rank n a => exact letB_ok (g (.rank 0 0) (by decide))
  | veil n => exact letB_ok (g (.veil 0) (by decide))
  | unveil n => exact letB_ok (g (.unveil 0) (by decide))
  | tie n a => exact letB_ok (g (.tie 0 0) (by decide))
  | «show» n => exact letB_ok (g (.show 0) (by decide))
  | hold n => exact letB_ok (g (.hold 0) (by decide))
  | let_ => exact letB_ok (g .let_ (by decide))

def faL0 : List He.Fa := [.glo "is_within", .keep "is_within", .glo "are_within", .keep "are_within", .glo "is_letter", .keep "is_letter", .glo "check_books", .keep "check_books", .glo "row_of", .keep "row_of", .glo "written", .keep "written", .glo "number_of", .keep "number_of", .glo "read", .keep "read", .glo "_law_mix", .keep "_law_mix", .glo "_law_next", .keep "_law_next", .glo "_law_alike", .keep "_law_alike", .glo "_law_letter", .keep "_law_letter", .glo "_law_odd", .keep "_law_odd", .glo "_law_sized", .keep "_law_sized", .glo "_law_pending", .keep "_law_pending", .glo "_law_under", .keep "_law_under", .glo "_law_is_tied", .keep "_law_is_tied", .glo "_law_does"]
def faL1 : List He.Fa := [.keep "_law_does", .glo "_law_book", .keep "_law_book", .glo "law", .keep "law", .free "range", .free "list", .free "sorted", .free "len", .free "isinstance", .free "bool", .free "int", .free "tuple", .free "all", .free "zip", .free "max", .free "min", .free "str", .free "enumerate", .glo "LETTERS", .int "MOST_CLIENTS" 5, .str "FIGURES" "0123456789"]
def faL : List He.Fa := faL0 ++ (faL1)
def fnL : List He.FnD := [⟨("is_within", none), "is_within", "is_within", defArgs sWithin, defBody sWithin, defScope sWithin⟩, ⟨("are_within", none), "are_within", "are_within", defArgs sAre, defBody sAre, defScope sAre⟩, ⟨("is_letter", none), "is_letter", "is_letter", defArgs sIsLet, defBody sIsLet, defScope sIsLet⟩, ⟨("check_books", none), "check_books", "check_books", defArgs sCheck, defBody sCheck, defScope sCheck⟩, ⟨("row_of", none), "row_of", "row_of", defArgs sRowOf, defBody sRowOf, defScope sRowOf⟩, ⟨("written", none), "written", "written", defArgs sWr, defBody sWr, defScope sWr⟩, ⟨("number_of", none), "number_of", "number_of", defArgs sNum, defBody sNum, defScope sNum⟩, ⟨("read", none), "read", "read", defArgs sRead, defBody sRead, defScope sRead⟩, ⟨("_law_mix", none), "_law_mix", "_law_mix", defArgs sMix, defBody sMix, defScope sMix⟩, ⟨("_law_next", none), "_law_next", "_law_next", defArgs sNext, defBody sNext, defScope sNext⟩, ⟨("_law_alike", none), "_law_alike", "_law_alike", defArgs sAlike, defBody sAlike, defScope sAlike⟩, ⟨("_law_letter", none), "_law_letter", "_law_letter", defArgs sLetter, defBody sLetter, defScope sLetter⟩, ⟨("_law_odd", none), "_law_odd", "_law_odd", defArgs sOdd, defBody sOdd, defScope sOdd⟩, ⟨("_law_sized", none), "_law_sized", "_law_sized", defArgs sSized, defBody sSized, defScope sSized⟩, ⟨("_law_pending", none), "_law_pending", "_law_pending", defArgs sPending, defBody sPending, defScope sPending⟩, ⟨("_law_under", none), "_law_under", "_law_under", defArgs sUnder, defBody sUnder, defScope sUnder⟩, ⟨("_law_is_tied", none), "_law_is_tied", "_law_is_tied", defArgs sTied, defBody sTied, defScope sTied⟩, ⟨("_law_does", none), "_law_does", "_law_does", defArgs sDoes, defBody sDoes, defScope sDoes⟩, ⟨("_law_book", none), "_law_book", "_law_book", defArgs sBook, defBody sBook, defScope sBook⟩, ⟨("law", none), "law", "law", defArgs sLaw, defBody sLaw, defScope sLaw⟩]
theorem fun_of {K : PySem.W.Frag} (c : He.SaysE faL fnL K) (i : Nat) {at_ : Str × Option Str} {x q : Str} {st : Stmt} (h : fnL[i]? = some ⟨at_, x, q, defArgs st, defBody st, defScope st⟩) (kp : PySem.W.keepIn K (.ref (He.fAd K at_)) = true) : ∃ fd, Fun K x q st (He.fAd K at_) fd := by
  obtain ⟨oc, od, osl, kV, doc, pm, an, cdv, ct, l, cc⟩ := c.def_ i h
  exact ⟨_, fun_mk l cc kp⟩

set_option maxHeartbeats 4000000 in
theorem law_all {P : Program} {w : World} {K : PySem.W.Frag} {h : Heap} {mg : Str → Option Value} {f : Addr} (X : K.In h) (G : h.Ns mainGlobals mg) (hfa : mg ("law" : Str) = some (.ref f))
    (c : He.SaysE faL fnL K) (dc : He.dicW K (He.ga K "LETTERS") = some (He.keysIn w.params wordsL)) (lb : lettersB K = true) :
    ∃ fd : FuncData, (∀ (s : Shared) (v : Value), BindsTo s fd ⟨[v], []⟩ [("_law_script", v)]) ∧ ∀ base : Heap, K.In base → base.Ns mainGlobals mg → FnOk P w K mg base CX0 7 f fd ["_law_script"] (spLaw (K := K)) := by
  have gW := He.glo_ok X G (c.fact 0 (f := .glo "is_within") rfl)
  have kW := He.keep_ok (c.fact 1 (f := .keep "is_within") rfl)
  have gAW := He.glo_ok X G (c.fact 2 (f := .glo "are_within") rfl)
  have kAW := He.keep_ok (c.fact 3 (f := .keep "are_within") rfl)
  have gI := He.glo_ok X G (c.fact 4 (f := .glo "is_letter") rfl)
  have kI := He.keep_ok (c.fact 5 (f := .keep "is_letter") rfl)
  have gC := He.glo_ok X G (c.fact 6 (f := .glo "check_books") rfl)
  have kC := He.keep_ok (c.fact 7 (f := .keep "check_books") rfl)
  have gR := He.glo_ok X G (c.fact 8 (f := .glo "row_of") rfl)
  have kR := He.keep_ok (c.fact 9 (f := .keep "row_of") rfl)
  have gWr := He.glo_ok X G (c.fact 10 (f := .glo "written") rfl)
  have kWr := He.keep_ok (c.fact 11 (f := .keep "written") rfl)
  have gNu := He.glo_ok X G (c.fact 12 (f := .glo "number_of") rfl)
  have kNu := He.keep_ok (c.fact 13 (f := .keep "number_of") rfl)
  have gRe := He.glo_ok X G (c.fact 14 (f := .glo "read") rfl)
  have kRe := He.keep_ok (c.fact 15 (f := .keep "read") rfl)
  have gM := He.glo_ok X G (c.fact 16 (f := .glo "_law_mix") rfl)
  have kM := He.keep_ok (c.fact 17 (f := .keep "_law_mix") rfl)
  have gN := He.glo_ok X G (c.fact 18 (f := .glo "_law_next") rfl)
  have kN := He.keep_ok (c.fact 19 (f := .keep "_law_next") rfl)
  have gA := He.glo_ok X G (c.fact 20 (f := .glo "_law_alike") rfl)
  have kA := He.keep_ok (c.fact 21 (f := .keep "_law_alike") rfl)
  have gL := He.glo_ok X G (c.fact 22 (f := .glo "_law_letter") rfl)
  have kL := He.keep_ok (c.fact 23 (f := .keep "_law_letter") rfl)
  have gO := He.glo_ok X G (c.fact 24 (f := .glo "_law_odd") rfl)
  have kO := He.keep_ok (c.fact 25 (f := .keep "_law_odd") rfl)
  have gS := He.glo_ok X G (c.fact 26 (f := .glo "_law_sized") rfl)
  have kS := He.keep_ok (c.fact 27 (f := .keep "_law_sized") rfl)
  have gP := He.glo_ok X G (c.fact 28 (f := .glo "_law_pending") rfl)
  have kP := He.keep_ok (c.fact 29 (f := .keep "_law_pending") rfl)
  have gU := He.glo_ok X G (c.fact 30 (f := .glo "_law_under") rfl)
  have kU := He.keep_ok (c.fact 31 (f := .keep "_law_under") rfl)
  have gT := He.glo_ok X G (c.fact 32 (f := .glo "_law_is_tied") rfl)
  have kT := He.keep_ok (c.fact 33 (f := .keep "_law_is_tied") rfl)
  have gD := He.glo_ok X G (c.fact 34 (f := .glo "_law_does") rfl)
  have kD := He.keep_ok (c.fact 35 (f := .keep "_law_does") rfl)
  have gB := He.glo_ok X G (c.fact 36 (f := .glo "_law_book") rfl)
  have kB := He.keep_ok (c.fact 37 (f := .keep "_law_book") rfl)
  have glaw := He.glo_ok X G (c.fact 38 (f := .glo "law") rfl)
  have klaw := He.keep_ok (c.fact 39 (f := .keep "law") rfl)
  obtain ⟨fdW, FW⟩ := fun_of c 0 (at_ := ("is_within", none)) (x := "is_within") (q := "is_within") (st := sWithin) rfl kW
  have bW := FW.binds (ps := ["value", "least", "greatest"]) fun _ _ _ _ _ _ us hl => match us, hl with | [_, _, _], _ => rfl
  obtain ⟨fdAW, FAW⟩ := fun_of c 1 (at_ := ("are_within", none)) (x := "are_within") (q := "are_within") (st := sAre) rfl kAW
  have bAW := FAW.binds (ps := ["numbers", "bounds"]) fun _ _ _ _ _ _ us hl => match us, hl with | [_, _], _ => rfl
  obtain ⟨fdI, FI⟩ := fun_of c 2 (at_ := ("is_letter", none)) (x := "is_letter") (q := "is_letter") (st := sIsLet) rfl kI
  have bI := FI.binds (ps := ["letter"]) fun _ _ _ _ _ _ us hl => match us, hl with | [_], _ => rfl
  obtain ⟨fdC, FC⟩ := fun_of c 3 (at_ := ("check_books", none)) (x := "check_books") (q := "check_books") (st := sCheck) rfl kC
  have bC := FC.binds (ps := ["books"]) fun _ _ _ _ _ _ us hl => match us, hl with | [_], _ => rfl
  obtain ⟨fdR, FR⟩ := fun_of c 4 (at_ := ("row_of", none)) (x := "row_of") (q := "row_of") (st := sRowOf) rfl kR
  have bR := FR.binds (ps := ["client", "letter"]) fun _ _ _ _ _ _ us hl => match us, hl with | [_, _], _ => rfl
  obtain ⟨fdWr, FWr⟩ := fun_of c 5 (at_ := ("written", none)) (x := "written") (q := "written") (st := sWr) rfl kWr
  have bWr := FWr.binds (ps := ["books"]) fun _ _ _ _ _ _ us hl => match us, hl with | [_], _ => rfl
  obtain ⟨fdNu, FNu⟩ := fun_of c 6 (at_ := ("number_of", none)) (x := "number_of") (q := "number_of") (st := sNum) rfl kNu
  have bNu := FNu.binds (ps := ["word"]) fun _ _ _ _ _ _ us hl => match us, hl with | [_], _ => rfl
  obtain ⟨fdRe, FRe⟩ := fun_of c 7 (at_ := ("read", none)) (x := "read") (q := "read") (st := sRead) rfl kRe
  have bRe := FRe.binds (ps := ["text"]) fun _ _ _ _ _ _ us hl => match us, hl with | [_], _ => rfl
  obtain ⟨fdM, FM⟩ := fun_of c 8 (at_ := ("_law_mix", none)) (x := "_law_mix") (q := "_law_mix") (st := sMix) rfl kM
  have bM := FM.binds (ps := ["_law_script", "_law_seed"]) fun _ _ _ _ _ _ us hl => match us, hl with | [_, _], _ => rfl
  obtain ⟨fdN, FN⟩ := fun_of c 9 (at_ := ("_law_next", none)) (x := "_law_next") (q := "_law_next") (st := sNext) rfl kN
  have bN := FN.binds (ps := ["_law_h", "_law_many"]) fun _ _ _ _ _ _ us hl => match us, hl with | [_, _], _ => rfl
  obtain ⟨fdA, FA⟩ := fun_of c 10 (at_ := ("_law_alike", none)) (x := "_law_alike") (q := "_law_alike") (st := sAlike) rfl kA
  have bA := FA.binds (ps := ["_law_found", "_law_due"]) fun _ _ _ _ _ _ us hl => match us, hl with | [_, _], _ => rfl
  obtain ⟨fdL, FL⟩ := fun_of c 11 (at_ := ("_law_letter", none)) (x := "_law_letter") (q := "_law_letter") (st := sLetter) rfl kL
  have bL := FL.binds (ps := ["_law_h", "_law_w"]) fun _ _ _ _ _ _ us hl => match us, hl with | [_, _], _ => rfl
  obtain ⟨fdO, FO⟩ := fun_of c 12 (at_ := ("_law_odd", none)) (x := "_law_odd") (q := "_law_odd") (st := sOdd) rfl kO
  have bO := FO.binds (ps := ["_law_h", "_law_w"]) fun _ _ _ _ _ _ us hl => match us, hl with | [_, _], _ => rfl
  obtain ⟨fdS, FS⟩ := fun_of c 13 (at_ := ("_law_sized", none)) (x := "_law_sized") (q := "_law_sized") (st := sSized) rfl kS
  have bS := FS.binds (ps := ["_law_marks", "_law_wide", "_law_high"]) fun _ _ _ _ _ _ us hl => match us, hl with | [_, _, _], _ => rfl
  obtain ⟨fdP, FP⟩ := fun_of c 14 (at_ := ("_law_pending", none)) (x := "_law_pending") (q := "_law_pending") (st := sPending) rfl kP
  have bP := FP.binds (ps := ["_law_look", "_law_letter_here"]) fun _ _ _ _ _ _ us hl => match us, hl with | [_, _], _ => rfl
  obtain ⟨fdU, FU⟩ := fun_of c 15 (at_ := ("_law_under", none)) (x := "_law_under") (q := "_law_under") (st := sUnder) rfl kU
  have bU := FU.binds (ps := ["_law_w", "_law_name"]) fun _ _ _ _ _ _ us hl => match us, hl with | [_, _], _ => rfl
  obtain ⟨fdT, FT⟩ := fun_of c 16 (at_ := ("_law_is_tied", none)) (x := "_law_is_tied") (q := "_law_is_tied") (st := sTied) rfl kT
  have bT := FT.binds (ps := ["_law_w", "_law_name", "_law_other"]) fun _ _ _ _ _ _ us hl => match us, hl with | [_, _, _], _ => rfl
  obtain ⟨fdD, FD⟩ := fun_of c 17 (at_ := ("_law_does", none)) (x := "_law_does") (q := "_law_does") (st := sDoes) rfl kD
  have bD := FD.binds (ps := ["_law_w", "_law_letter_here"]) fun _ _ _ _ _ _ us hl => match us, hl with | [_, _], _ => rfl
  obtain ⟨fdB, FB⟩ := fun_of c 18 (at_ := ("_law_book", none)) (x := "_law_book") (q := "_law_book") (st := sBook) rfl kB
  have bB := FB.binds (ps := ["_law_h", "_law_many"]) fun _ _ _ _ _ _ us hl => match us, hl with | [_, _], _ => rfl
  obtain ⟨fdlaw, Flaw⟩ := fun_of c 19 (at_ := ("law", none)) (x := "law") (q := "law") (st := sLaw) rfl klaw
  have blaw := Flaw.binds (ps := ["_law_script"]) fun _ _ _ _ _ _ us hl => match us, hl with | [_], _ => rfl
  have TM : TxtM mg := ⟨(He.free_ok X G (c.fact 41 (f := .free "list") rfl)), (He.free_ok X G (c.fact 50 (f := .free "max") rfl)), (He.free_ok X G (c.fact 43 (f := .free "len") rfl))⟩
  have TG : TxtG mg := ⟨(He.free_ok X G (c.fact 41 (f := .free "list") rfl)), (He.free_ok X G (c.fact 43 (f := .free "len") rfl)), (He.free_ok X G (c.fact 40 (f := .free "range") rfl)), (He.free_ok X G (c.fact 47 (f := .free "tuple") rfl)), (He.free_ok X G (c.fact 42 (f := .free "sorted") rfl)), (He.free_ok X G (c.fact 51 (f := .free "min") rfl))⟩
  have TP : TxtP mg := ⟨(He.free_ok X G (c.fact 52 (f := .free "str") rfl)), (He.free_ok X G (c.fact 46 (f := .free "int") rfl)), (He.free_ok X G (c.fact 43 (f := .free "len") rfl)), (He.free_ok X G (c.fact 48 (f := .free "all") rfl)), (He.free_ok X G (c.fact 47 (f := .free "tuple") rfl)), (He.free_ok X G (c.fact 50 (f := .free "max") rfl)), (He.free_ok X G (c.fact 53 (f := .free "enumerate") rfl)), (He.free_ok X G (c.fact 40 (f := .free "range") rfl)), (He.free_ok X G (c.fact 41 (f := .free "list") rfl)), (He.free_ok X G (c.fact 44 (f := .free "isinstance") rfl)), (He.free_ok X G (c.fact 45 (f := .free "bool") rfl)), He.str_ok X G (c.fact 56 (f := .str "FIGURES" "0123456789") rfl), He.int_ok X G (c.fact 55 (f := .int "MOST_CLIENTS" 5) rfl)⟩
  obtain ⟨es, en, KD⟩ := He.dicW_ok dc
  have TF : TxtF K w mg := ⟨(He.free_ok X G (c.fact 44 (f := .free "isinstance") rfl)), (He.free_ok X G (c.fact 45 (f := .free "bool") rfl)), (He.free_ok X G (c.fact 46 (f := .free "int") rfl)), (He.free_ok X G (c.fact 47 (f := .free "tuple") rfl)), (He.free_ok X G (c.fact 43 (f := .free "len") rfl)), (He.free_ok X G (c.fact 48 (f := .free "all") rfl)), (He.free_ok X G (c.fact 49 (f := .free "zip") rfl)), _, es, en, He.glo_ok X G (c.fact 54 (f := .glo "LETTERS") rfl), KD, lettersB_ok lb⟩
  have e := hfa.symm.trans glaw
  cases e
  refine ⟨fdlaw, fun s v => ?_, fun base hb hn => ?_⟩
  · obtain ⟨oc, od, kV, doc, pm, an, cdv, ct, osl, rfl, lk, hcd⟩ := Flaw.ex
    exact .of_eq rfl
  · have GW : FnOk P w K mg base CX0 1 _ _ _ _ := ok_within FW TF
    have GAW : FnOk P w K mg base CX0 2 _ _ _ _ := ok_are FAW TF FW bW gW
    have GI : FnOk P w K mg base CX0 3 _ _ _ _ := ok_isLet FI TF GAW bAW gAW kAW
    have GC : FnOk P w K mg base CX0 4 _ _ _ _ := ok_check FC TP GI bI gI kI
    have GR : FnOk P w K mg base CX0 1 _ _ _ _ := ok_rowOf FR TP
    have GWr : FnOk P w K mg base CX0 5 _ _ _ _ := ok_written FWr TP GC bC gC kC GR bR gR kR
    have GNu : FnOk P w K mg base CX0 1 _ _ _ _ := ok_num FNu TP
    have GRe : FnOk P w K mg base CX0 4 _ _ _ _ := ok_read FRe TP GNu bNu gNu kNu GW bW gW kW GI bI gI kI
    have GM : FnOk P w K mg base CX0 1 _ _ _ _ := ok_mix FM TM
    have GN : FnOk P w K mg base CX0 1 _ _ _ _ := ok_next FN TM
    have GA : FnOk P w K mg base CX0 4 _ _ _ _ := ok_alike FA bA gA TP 3
    have GS : FnOk P w K mg base CX0 1 _ _ _ _ := ok_sized FS TG
    have GP : FnOk P w K mg base CX0 2 _ _ _ _ := ok_pending FP TG GS bS gS kS
    have GU : FnOk P w K mg base CX0 3 _ _ _ _ := ok_under FU bU gU TG 2 (by decide)
    have GT : FnOk P w K mg base CX0 4 _ _ _ _ := ok_tied FT TG GU bU gU kU
    have GD : FnOk P w K mg base CX0 5 _ _ _ _ := ok_does FD TG GU bU gU kU GT bT gT kT GP bP gP kP
    have GO : FnOk P w K mg base CX0 2 _ _ _ _ := ok_odd FO GN bN gN kN
    have GL : FnOk P w K mg base CX0 2 _ _ _ _ := ok_letter FL TG GN bN gN kN
    have GB : FnOk P w K mg base CX0 6 _ _ _ _ := ok_book FB TG GN bN gN kN GO bO gO kO GL bL gL kL GD bD gD kD
    exact ok_law Flaw TP GM bM gM kM GN bN gN kN GB bB gB kB GWr bWr gWr kWr GRe bRe gRe kRe GA bA gA kA
end SH
set_option Elab.async false
set_option maxRecDepth 100000
namespace SH
open PySem PySem.Spec PyProof.Rows L2
theorem walk {l : PySem.W.OpenLaw} {q : Program} {loose : List Str} {XP : (Str → Option Value) → Heap → Prop} {YP : World → Heap → Prop} {d : DefRec} {K : Params → PySem.W.Frag} (hn : l.most = some 63) (hdf : d.params.defaults = [])
    (hY : ∀ (w : World) (h : Heap), YP w h → (K w.params).In h)
    (F : ∀ (w : World) (mg : Str → Option Value) (fa : Addr) (h : Heap), (K w.params).In h → h.Ns mainGlobals mg → mg d.name = some (.ref fa) →
      ∃ fd : FuncData, (∀ (s : Shared) (u : Value), BindsTo s fd ⟨[u], []⟩ [("_law_script", u)]) ∧ ∀ base : Heap, (K w.params).In base → base.Ns mainGlobals mg → FnOk l.prog w (K w.params) mg base CX0 7 fa fd ["_law_script"] (spLaw (K := K w.params))) :
    PySem.W.WalkO q loose XP YP l.row.toRowW d [] (fun f vs => PySem.call f vs) :=
  L2.walk_of (n := 63) (k := 7) (x := "_law_script") (CX := fun _ => CX0) (sp := fun w => spLaw (K := K w.params)) hn (by decide) hdf ⟨rfl, by decide, by decide⟩ hY F (fun _ _ a ns hl _ hS => ⟨a, ns, rfl, hS, hl, fun _ => rfl⟩) fun _ _ _ _ _ z => z
end SH
open PySem PySem.W PyProof.Rows
set_option maxRecDepth 100000 in
set_option maxHeartbeats 0 in
theorem PySem.Challenge.cw_surfacehall_k17_written_and_read_holds : PySem.Challenge.rw_surfacehall_k17_written_and_read.Holds := by
  w_on; o_law; k_head; (case hw => w_witness2)
  k_fill
  refine SH.walk (l := PySem.Challenge.rw_surfacehall_k17_written_and_read) rfl rfl (fun w h Y => PySem.W.kIn_of Y) ?F
  case F =>
    intro w mg fa h KX G hmg
    refine' SH.law_all KX G hmg ?c ?dc ?lb
    (case c => (show He.obsE SH.faL SH.fnL _ = He.valE SH.fnL; kernel_rfl))
    (case dc => kernel_rfl)
    (case lb => kernel_rfl)
#print axioms PySem.Challenge.cw_surfacehall_k17_written_and_read_holds
